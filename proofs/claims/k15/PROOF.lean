import PyProof.Rows.All
import Wide.All
import OpenK.AllK
import Wide.FinOn
import Lean
import PyProof.EqAt
import PyProof.EqKinds
import PyProof.TupleCall
import PyProof.ExcBaseAll.ValueError
import PyProof.NsDelKeeps
import PyProof.NeKinds
import PyProof.Rows.SortShell
import PyProof.Rows.FStr
import PyProof.FString
import PyProof.ExcAttrAll.ValueError
import PyProof.ExcArgsOwn
import PyProof.Rows.SortRuns
import PyProof.TupleIter
import PyProof.Dict
import KE.KDictSum
import PyProof.TupleOfSeq
import PyProof.EnumMake
import PyProof.SliceList
import PyProof.MinMaxWalk
import PyProof.Rows.EnumRows
import PyProof.WalkInts
import PyProof.WalksMore
import PyProof.Rows.SeqCalls
import KE.KRevIter
import PyProof.CollectIter
import PyProof.TupleOfGen
import PyProof.Rows.FactsT2
import PyProof.ListRange
import PyProof.Rows.CallKwBuiltin
import PyProof.Rows.SetFrom
import PyProof.SetRoads
import PyProof.Rows.Range3
import PyProof.ZipIter
import PyProof.Rows.ZipGen
import PyProof.Rows.RuleM_int
import PyProof.Rows.AssignMoreSeq
import PySem.Challenge.RW_guardround_k15_answers_by_all
set_option Elab.async false
set_option linter.all false
set_option maxRecDepth 100000
set_option maxHeartbeats 8000000
noncomputable section
open Array renaming append_assoc->XW,getD_eq_getD_getElem?->Eb,getElem?_eq_some_iff->Es,getElem?_setIfInBounds_ne->Nz,length_toList->Bd,mem_extract_iff_getElem->OY,mem_of_getElem?->Ci,mem_toList_iff->BN,perm_iff_toList_perm->Er,toList->fv,toList_append->BF,toList_map->JX,toList_modify->WJ,toList_push->Iv,toList_reverse->Ep,toList_setIfInBounds->QE
open Array.Perm renaming refl->M7
open Bool renaming and_eq_true->DR,eq_iff_iff->P3,false_eq_true->Cq,false_ne_true->AK,false_or->fu,not_eq_true'->Y0,not_true->Se,or_eq_true->bt,true_and->fq
open Classical renaming choose->Dm,choose_spec->ED,propDecidable->P2
open Eq renaming trans->OX
open False renaming elim->Dl
open ForInStep renaming yield->G3
open Int renaming emod_lt_of_pos->Yz,emod_nonneg->fC,fdiv_eq_ediv_of_nonneg->RF,toNat_natCast->CM,toNat_of_nonneg->D1
open List renaming Nodup->HD,all_cons->fo,all_eq_true->Cp,all_map->US,any_cons->HG,any_eq_true->HC,any_map->UR,any_toArray->Jy,append_assoc->BP,append_nil->A5,dropLast_concat_getLast->C6,drop_drop->Qb,drop_eq_getElem_cons->CH,drop_of_length_le->KJ,drop_sublist->Yw,eq_nil_of_length_eq_zero->Br,ext_getElem?->JB,extract->Nv,filterMap_cons->MQ,filter_cons_of_neg->Sm,filter_cons_of_pos->Sk,find?_cons->Bx,find?_eq_none->IS,find?_isSome->Yv,flatMap_append->MP,flatMap_cons->C3,flatMap_nil->bY,forIn_cons->KU,forIn_nil->Qa,getD_eq_getElem?_getD->QZ,getElem?_append_left->Ah,getElem?_append_right->A8,getElem?_cons_succ->Sj,getElem?_drop->IR,getElem?_eq_getElem->B0,getElem?_eq_none->CN,getElem?_eq_none_iff->CG,getElem?_eq_some_iff->AM,getElem?_map->Ap,getElem?_range->DB,getElem?_replicate->C2,getElem?_set->GU,getElem?_set_ne->Au,getElem?_set_self->BC,getElem?_take_of_lt->Sa,getElem?_zipIdx->WF,getElem?_zip_eq_some->RE,getElem_inj->bX,getElem_mem->HB,getElem_of_mem->D0,getElem_zip->Jx,length->HQ,length_append->AW,length_cons->As,length_drop->E6,length_dropLast->LX,length_filter_le->Ck,length_map->AH,length_nil->KS,length_pos_iff->MN,length_replicate->Ky,length_reverse->MM,length_set->KR,length_singleton->Av,length_take->DQ,length_zip->KQ,lookup->HP,lookup_cons->Bz,map->QY,mapM_toArray->Yu,map_append->Ch,map_congr_left->Cd,map_cons->A3,map_id->Ov,map_id'->jp,map_map->BX,map_nil->Nu,map_reverse->OW,map_take->fm,mem_append->BB,mem_append_left->Bq,mem_append_right->A6,mem_cons->Ay,mem_cons_of_mem->Aa,mem_cons_self->Ax,mem_filter->BA,mem_filterMap->Ym,mem_flatMap->Jw,mem_iff_getElem->WE,mem_map->A9,mem_map_of_mem->XU,mem_of_getElem?->CT,mem_range->QX,mem_reverse->bW,mem_singleton->Ag,mergeSort_perm->XT,nil_append->bq,nodup_append->Ee,nodup_cons->Bw,nodup_nil->IQ,not_mem_nil->E5,of_mem_zip->KP,pairwise_append->BG,pairwise_cons->M6,pairwise_map->Bk,pairwise_mergeSort->Si,pairwise_reverse->Kx,perm_append_comm->Uh,range->Cc,range_succ->P1,replicate->BL,reverse_cons->JA,singleton_append->G2,size_toArray->Ak,take_add_one->Nt,take_append_drop->DW,take_length->bV,take_of_length_le->DI,take_sublist->Yt,zipIdx_nil->bp,zip_append->KO,zip_cons_cons->IP,zip_nil_right->IN
open List.Pairwise renaming and->kA,filter->j9,nil->Qd
open List.Perm renaming append_left->JW,append_right->QC,of_eq->WG
open List.Sublist renaming filter->mH
open List.cons renaming inj->Yn
open Nat renaming add_le_add_left->DE,add_zero->j8,le_of_eq->Ug,le_of_lt->Uf,le_of_not_lt->Ou,le_refl->AU,le_succ->P0,le_trans->Al,lt_irrefl->EZ,lt_of_le_of_lt->BW,lt_of_lt_of_le->Ad,lt_succ_of_lt->OF,lt_succ_self->E8,lt_trans->j7,min_le_right->bo,ne_of_gt->OE,ne_of_lt->A0,not_lt->Ik,pow_le_pow_right->HV,pow_succ->j6,sub_self->Ue,zero_add->Ge,zero_le->C0
open Nat.succ renaming inj->MK
open Ne renaming symm->B5
open Option renaming bind_eq_some_iff->RD,bind_some->AG,getD_some->Yl,isSome_iff_exists->Iu,isSome_map->GN,map->jo
open Option.some renaming inj->Cr
open Or renaming inl->MH,inr->Kw
open Prod renaming ext->QW
open Prod.mk renaming inj->fB
open PyProof.Rows renaming AllBare->II,IntsAre->Fc,IsTup->br,Keyed->Aj,SortKind->FK,SortSt->BI,Subscript_->fj,args_tuple_getitem->fh,arrOf->AV,boot_all->mG,boot_any->mF,boot_bool->mE,boot_int->Ot,boot_isinstance->mD,boot_list->OV,boot_max->lz,boot_min->ly,boot_sorted->lw,boot_tuple->OD,bubble->fg,callWith_builtin1->lv,callWith_type1->D3,elem'_eq->bj,entry_tuple_getitem->eu,envOfC->Lf,failedOf->IJ,firstOfTuple'->XQ,general'->UY,listUpdate_at->XO,ltAt'->ji,mirror->JT,mirror_perm->SZ,pairsOf->KH,pendingOf->AX,reverseSlice'->OU,reverseSlice'_eq->LO,seqEpoch_at->bi,seqObj->Ih,slot_tuple_getitem->B1,sortedHeap->fZ,subscriptTail->XM,subscriptTail_builtinR->Yp,tuples'->jg,wpS_bind->AQ,wpS_forRange->By,wpS_get->HE,wpS_modify->DJ,wpS_mono->C7,wpS_pure->AR
open PyProof.Rows.IsTup renaming new->Yx
open PyProof.Rows.SortSt renaming mk'->Gs
open PySem renaming Addr->AI,Around->BD,BindsTo->UU,CmpOp->Sd,DictEntry->Ny,FuncData->DU,GenState->Ui,Heap->Bl,IsEnum->Yy,IsPart->NC,Keyword->Nx,Model->QB,NameKind->QA,Operator->P9,Paired->HF,PassesOwn->Yk,Program->An,Scope->IK,Shared->AE,Stmt->Cn,Value->AC,Within->Sh,World->BH,again->jk,assign->Ua,assignEach->Gb,atKey->UZ,attributeBase->E1,backTo->DM,backToKw->JU,behindInMarks->Bt,binaryOp->Cb,bindC->Yg,bindL->Yf,bootBuiltins->Ec,builtinsNs->ff,cLine->EC,call->XR,call_meets->fc,callerA->P7,cellsFrom->jx,checkBuiltinCall->RA,codeAny->Lg,codeAny_call_builtin->NA,codeAny_mono->Ix,compareOp->CJ,concat_meets->Yq,eval->CC,firstArgMember->M9,foldedSetIterable->E4,getItem->KI,holding->jj,isTrue->UX,keywordEach->FJ,letOwnedTupleGo->MF,mainGlobals->Ac,mem_of_lookup->Dz,model->AY,noFill_tuple_add->Q9,noteFrame->Ye,pyIter->fb,pyNext->Q8,rawInt->EN,relabel->Iw,seq_tuple_add->XN,setField->bh,sizeLine_eq->bg,standAt->jh,starEach->AZ,storeName->jw,subscripted->SY,swapsWith->Fa,sysModules->Dd,truthy->fY,tupleKind->Q7,tupleKind_room_in1->JS,typeLookup->fX,valueAt->P6,wpAny->Af,wpAny_Call_Name_kw->Ga,wpAny_Dict_empty->jv,wpAny_Name->fW,wpAny_assign_Name->jf,wpAny_attempt->IH,wpAny_bind->AA,wpAny_call->On,wpAny_callSpecial?_slot->Ca,wpAny_call_entry->Cz,wpAny_comprehension_free->XJ,wpAny_dictEntries->P5,wpAny_dictEpoch->Sg,wpAny_eqBool_int->ju,wpAny_execs_cons->jt,wpAny_execs_nil->MD,wpAny_field->C8,wpAny_fieldsOf->M8,wpAny_holding->DY,wpAny_isInstance->jr,wpAny_isOneOf_keyiter->MR,wpAny_isTrue_Compare1->bT,wpAny_loadName_cell->en,wpAny_loadName_local->bf,wpAny_loadPart->UW,wpAny_loadPart'->MC,wpAny_mono->DK,wpAny_newObj_type->B8,wpAny_of_eq->SX,wpAny_passesOwn->Ig,wpAny_pure->AJ,wpAny_pyIter_enum->je,wpAny_pyIter_list->jd,wpAny_pyIter_revIter->bd,wpAny_pyIter_tuple->GZ,wpAny_rule->UV,wpAny_sequenceKey->jc,wpAny_setField->FI,wpAny_standAt->XI,wpAny_truthy_bool->B7,wpAny_typeNameOfWhole_keyiter->EY,wpAny_typeNameOf_keyiter->GP,wpAny_typeOf->P4
open PySem.Around renaming under->Sf
open PySem.Builtin renaming bitAnd->Fg,bitOr->LY,bitXor->DN
open PySem.Builtin.Dict renaming dictSlotNone->mJ,showsAll->Ow
open PySem.Builtin.Dict_items renaming ownsTuple->KL
open PySem.Builtin.List renaming listItems->IU,listTooLong->Hg
open PySem.Builtin.ObjectAttr renaming bindTo->bZ
open PySem.Builtin.Range renaming rangeSize->kG
open PySem.Builtin.Slice renaming sliceAdjust->HH,sliceApplied->MY,sliceFields->kF,slicePartIndex->kE,slicePlaces->ES
open PySem.Builtin.SmallTypes renaming nextOf->D4
open PySem.Builtin.Tuple renaming tupleExact->Ef,tupleIsExact->kD,tupleItemsOf->MX
open PySem.Calls renaming Name_function_global->QD,callWith_builtin->Sn,evalArgs_plain->Uj
open PySem.Challenge renaming pw_guardround_k15_answers_by_all->fk,rw_guardround_k15_answers_by_all->C9
open PySem.Code renaming frames->kC,isFrame->UT
open PySem.Data renaming fields->kB
open PySem.EntryCells renaming newEntry->RH
open PySem.F renaming args_dict_keyiterator_next_1->LP,args_tuple_add_2->Ii,args_tuple_iterator_next_1->RG,entry_dict_keyiterator_next->LW,entry_tuple_add->Iz,entry_tuple_iterator_next->Sb,excAttr_ValueError->Os,plainAttrs_list->Iy,slot_dict_iter->RC,slot_dict_keyiterator_next->CO,slot_enumerate_next->Yo,slot_tuple_add->JV,slot_tuple_iterator_next->E9
open PySem.Heap renaming ExtBut->WI,SameBut->EK,get?_none_of_le->WH,get?_push_of_some->AO,get?_push_size->Aq,get?_update_ne->XV,get?_update_other->EJ,get?_update_self->Ea,lt_size->Ae,size_push->IT
open PySem.Heap.IsSliceOf renaming new->jq
open PySem.Heap.SameBut renaming refl->mI,update->Gf
open PySem.NameKind renaming free->IM
open PySem.Obj renaming cls_mapFields->JR,data_mapFields->B9,isFreed_of_fields->Ed,mapFields->Cv,mapSeq->Ij
open PySem.Paired renaming length->EO,snoc->UQ
open PySem.SeqAt.RcAt renaming tuples->jy
open PySem.Str renaming empty->UM,ofString->Gc
open PySem.Value renaming bool->MU,builtin->fA,bytes->jn,float->Ub,int->OA,isInt->jm,isStrOf->e8,none->BQ,ref->Az,str->N9,type->Fb
open PySem.W renaming Frag->AB,InstAt->Ys,Looks->Gu,callWith_K->Ud,cellsFrom_some->RB,clsIn->Gt,codeIn->Oq,emptyDict->CW,excIn->bU,findIn->CV,findObj->Yj,fnOf->HU,handedIn->XS,hasDictIn->MW,hideAll->Jv,hideAll_get->UP,hideAll_none->KN,instObj->DZ,kdu_collect->UO,keepIn->Ff,kia_one->B6,kitOne->CU,kitx_dict->WD,kitx_list->WC,lookIn->Op,looks_findIn->KM,looks_subIn->UN,makesIn->Yi,methodObj->MV,mg_none_of->DL,mg_of->Do,mroIn->LV,nsOkIn->Oo,of_hideAll->Lh,plainGet->NB,plainOver->WB,specialIn->WA,subIn->P8,tail_of_in->Uc,takerIn->OC,takesIn->Yh,typeIn->Yr
open PySem.W.Looks renaming here->j4,ld->jz
open PySem.W.WData renaming int->ls
open PySem.W.WShape renaming has->jl
open PySem.Within renaming cons->lu
open Sum renaming inl->E7,inr->OB
open True renaming intro->EI
namespace L2
open PySem PySem.Spec PyProof.Rows
abbrev Key:=Sum Int Str
def Qu:Key->AC->Bool
 | .inl k,v=>jm k v
 | .inr x,v=>e8 x v
def keyH (w:BH):Key->Int
 | .inl k=>hashInt k
 | .inr x=>hashStr w x
theorem DD:∀ {k:Key} {v:AC},Qu k v=true->(∃i t,k=E7 i/\v=OA i t)∨(∃x t,k=OB x/\v=N9 x t)
 | .inl i,v,h=>by
  obtain ⟨t,e⟩:=AC.isInt_shape (k:=i) (v:=v) h;exact .inl ⟨i,t,rfl,e⟩
 | .inr x,v,h=>by
  obtain ⟨t,e⟩:=AC.isStrOf_shape (x:=x) (v:=v) h;exact .inr ⟨x,t,rfl,e⟩
theorem X7 (i:Int) (t:Tok):Qu (.inl i) (.int i t)=true:=by simp [Qu,jm]
theorem X6 (x:Str) (t:Tok):Qu (.inr x) (.str x t)=true:=by simp [Qu,e8]
theorem iy (a b:Int):decide ((E7 a:Key)=E7 b)=(a==b):=by
 by_cases e:a=b
 ·subst e;simp
 ·have h:¬(E7 a:Key)=E7 b:=λq=>e (E7.inj q)
  rw [decide_eq_false h];exact (beq_eq_false_iff_ne.mpr e).symm
theorem ir (a b:Str):decide ((OB a:Key)=OB b)=decide (a=b):=by
 by_cases e:a=b
 ·subst e;simp
 ·have h:¬(OB a:Key)=OB b:=λq=>e (OB.inj q)
  rw [decide_eq_false h,decide_eq_false e]
theorem iw (a:Int) (b:Str):decide ((E7 a:Key)=OB b)=false:=decide_eq_false (λq=>nomatch q)
theorem iu (a:Str) (b:Int):decide ((OB a:Key)=E7 b)=false:=decide_eq_false (λq=>nomatch q)
def D8 (prog:An) (w:BH):PySem.KeyKind prog w Key where
 is:=Qu
 hash:=keyH w
 inj:=λv a b ha hb=>by
  rcases DD ha with ⟨i,t,rfl,rfl⟩ | ⟨x,t,rfl,rfl⟩
  ·rcases DD hb with ⟨j,u,rfl,e⟩ | ⟨y,u,rfl,e⟩
   ·injection e with e1 _;rw [e1]
   ·exact nomatch e
  ·rcases DD hb with ⟨j,u,rfl,e⟩ | ⟨y,u,rfl,e⟩
   ·exact nomatch e
   ·injection e with e1 _;rw [e1]
 byValue:=λk v h=>by
  rcases DD h with ⟨i,t,rfl,rfl⟩ | ⟨x,t,rfl,rfl⟩ <;> rfl
 pyHash:=λhv h=>by
  rcases DD hv with ⟨i,t,rfl,rfl⟩ | ⟨x,t,rfl,rfl⟩
  ·exact wpAny_pyHash_int h
  ·exact wpAny_pyHash_str h
 eqBool:=λhu hv h=>by
  rcases DD hu with ⟨i,t,rfl,rfl⟩ | ⟨x,t,rfl,rfl⟩
  ·rcases DD hv with ⟨j,u,rfl,rfl⟩ | ⟨y,u,rfl,rfl⟩
   ·rw [iy] at h;exact ju h
   ·rw [iw] at h;exact SeqAt.EqAt.int_str i t y u _ _ _ _ h
  ·rcases DD hv with ⟨j,u,rfl,rfl⟩ | ⟨y,u,rfl,rfl⟩
   ·rw [iu] at h;exact SeqAt.EqAt.str_int x t j u _ _ _ _ h
   ·rw [ir] at h;exact wpAny_eqBool_str h
 «strs»:=λk x t v h=>by
  rcases DD h with ⟨i,u,rfl,e⟩ | ⟨y,u,rfl,e⟩
  ·exact nomatch e
  ·injection e with e1 _
   subst e1
   cases v <;> rfl
theorem Tn (prog:An) (w:BH) (i:Int) (t:Tok):(D8 prog w).is (.inl i) (.int i t)=true:=X7 i t
theorem Tl (prog:An) (w:BH) (x:Str) (t:Tok):(D8 prog w).is (.inr x) (.str x t)=true:=X6 x t
end L2
namespace L2
open PySem PySem.Spec PyProof.Rows
inductive V where
 | non | bl (b:Bool) | int (i:Int) | str (x:Str) | byt (b:Array UInt8) | flt (b:UInt64) | ref (a:AI) | ty (n:String)
 deriving DecidableEq
def RelV:V->AC->Prop
 | .non,u=>u=BQ
 | .bl b,u=>u=MU b
 | .int i,u=>∃t,u=OA i t
 | .str x,u=>∃t,u=N9 x t
 | .byt b,u=>∃t,u=jn b t
 | .flt b,u=>∃t,u=Ub b t
 | .ref a,u=>u=Az a
 | .ty n,u=>u=Fb n
abbrev Bh:List V->List AC->Prop:=HF RelV
theorem Bh.length {xs:List V} {us:List AC} (r:Bh xs us):xs.length=us.length:=EO r
theorem Bh.get:∀ {xs:List V} {us:List AC} {i:Nat} {x:V},Bh xs us->xs[i]?=some x->∃u,us[i]?=some u/\RelV x u
 | _,_,_,_,.nil,e=>by simp at e
 | _,_,0,_,.cons r _,e=>by simp at e;subst e;exact ⟨_,rfl,r⟩
 | _,_,i+1,x,.cons _ t,e=>by
  obtain ⟨u,h1,h2⟩:=Bh.get (i:=i) (x:=x) t (by simpa using e);exact ⟨u,by simpa using h1,h2⟩
theorem Bh.append:∀ {xs ys:List V} {us ws:List AC},Bh xs us->Bh ys ws->Bh (xs++ys) (us++ws)
 | _,_,_,_,.nil,s=>s
 | _,_,_,_,.cons r t,s=>.cons r (Bh.append t s)
theorem Bh.take:∀ {xs:List V} {us:List AC} (n:Nat),Bh xs us->Bh (xs.take n) (us.take n)
 | _,_,0,_=>.nil
 | _,_,_+1,.nil=>.nil
 | _,_,n+1,.cons r t=>.cons r (Bh.take n t)
theorem Bh.drop:∀ {xs:List V} {us:List AC} (n:Nat),Bh xs us->Bh (xs.drop n) (us.drop n)
 | _,_,0,r=>r
 | _,_,_+1,.nil=>.nil
 | _,_,n+1,.cons _ t=>Bh.drop n t
def Nr:Option V->Option AC->Prop
 | some v,some u=>RelV v u
 | none,none=>True
 | _,_=>False
def KV {κ:Type}:List (κ×V)->List (κ×AC)->Prop:=HF λ(p:κ×V) (q:κ×AC)=>p.1=q.1/\RelV p.2 q.2
def kV:Key->V
 | .inl i=>.int i
 | .inr x=>.str x
inductive HO where
 /-- a list -/
 | lst (xs:List V)
 /-- a tuple (never changes) -/
 | tup (xs:List V)
 /-- a dict whose keys are ints and texts;one whose keys are tuples of ints and texts (the empty one is both) -/
 | dK (kvs:List (Key×V)) | dT (kvs:List (List Key×V))
 /-- a set of ints: its members,its size -/
 | set (S:Int->Bool) (n:Nat)
 /-- an instance of the class at C,its dict at dx,its attributes -/
 | ins (C dx:AI) (fs:List (Str×V))
 /-- the dict of the instance at x -/
 | own (x:AI)
 /-- the dict of an exception -/
 | xd (fs:List (Str×V))
 /-- a bound method,f of x -/
 | met (f x:AI)
 /-- a range object lo,lo+1,.. below hi -/
 | rng (lo hi:Int)
 /-- a thing that is known to the object (the script;a dict while a loop walks it): read,never written while it is so -/
 | frz (o:Obj) (u:HO)
 /-- a code object's table -/
 | tbl (ps:Array AC)
 /-- any other thing,by what is true of its one object (a def of one's own: SetO a S n:=HO.ext λh=>..) -/
 | ext (φ:Bl->Prop)
abbrev Hp:=AI->Option HO
def upd (H:Hp) (a:AI) (o:HO):Hp:=λb=>if b=a then some o else H b
theorem B2 {H:Hp} {a:AI} {o:HO}:upd H a o a=some o:=by unfold upd;rw [if_pos rfl]
theorem BR {H:Hp} {a b:AI} {o:HO} (h:b≠a):upd H a o b=H b:=by unfold upd;rw [if_neg h]
theorem lF {H:Hp} {a b:AI} {o u:HO} (h:H a=some o) (h':H b=some u) (d:o≠u):a≠b:=by
 intro e;subst e;rw [h] at h';exact d (Cr h')
theorem Bc {H:Hp} {a b:AI} {o:HO} (h:H a=some o) (h':H b=none):a≠b:=by
 intro e;subst e;rw [h] at h';cases h'
section
variable (P:An) (w:BH)
def Cm (H:Hp) (h:Bl) (a:AI):HO->Prop
 | .lst xs=>xs.length<=sizeLine/\∃(its:List AC) (n:Nat),Bh xs its/\h.get? a=some { cls:=.type "list",data:=.seq its.toArray n }
 | .tup xs=>xs.length<=sizeLine/\∃its:List AC,Bh xs its/\br h a its.toArray
 | .dK kvs=>kvs.length<=sizeLine/\(a==Dd)=false/\∃vs,KV kvs vs/\h.DictOf (D8 P w) a vs
 | .dT kvs=>kvs.length<=sizeLine/\(a==Dd)=false/\∃xs:List (List Key×AI×AC),
   HF (λ(p:List Key×V) (q:List Key×AI×AC)=>p.1=q.1/\H q.2.1=some (.tup (p.1.map kV))/\RelV p.2 q.2.2) kvs xs /\
   ∃o es ep,h.get? a=some o/\o.ExactDict/\o.data=.dict es ep/\es.toList=xs.map (entryOfKey (Q7 (D8 P w)))/\(xs.map (·.1)).Nodup
 | .set S n=>h.SetOf (intKind P w) a S n
 | .ins C dx fs=>H dx=some (.own a)/\fs.length<=1000/\dx≠a/\h.get? a=some (DZ C dx) /\
   ∃mA,h.Ns1 dx mA/\(∀f,Nr (fs.lookup f) (mA f))/\Sh mA (fs.map (·.1))
 | .own _=>∃o,h.get? a=some o
 | .xd fs=>∃mA,h.Ns1 a mA/\∀f,Nr (fs.lookup f) (mA f)
 | .rng lo hi=>∃t u v,h.get? a=some { cls:=.type "range",data:=.fields #[.int lo t,.int hi u,.int 1 v] }
 | .frz o u=>h.get? a=some o/\Cm H h a u
 | .tbl ps=>h.get? a=some { cls:=.none,data:=.fields ps }
 | .met f x=>h.get? a=some (MV (.ref f) (.ref x))
 | .ext φ=>φ h/\(∃o,h.get? a=some o)/\∀h1 h2:Bl,φ h1->(∀o,h1.get? a=some o->h2.get? a=some o)->φ h2
def HOk (H:Hp) (h:Bl):Prop:=∀a o,H a=some o->Cm P w H h a o
end
section
variable {P:An} {w:BH} {H H':Hp} {h h':Bl} {a:AI} {o:HO}
theorem Cm.lt (x:Cm P w H h a o):a < h.objs.size:=by
 cases o with
 | lst xs=>obtain ⟨_,_,_,_,e⟩:=x;exact Ae e
 | tup xs=>obtain ⟨_,_,_,p⟩:=x;exact p.lt
 | dK kvs=>obtain ⟨_,_,_,_,o,_,_,e,_⟩:=x;exact Ae e
 | dT kvs=>obtain ⟨_,_,_,_,o,_,_,e,_⟩:=x;exact Ae e
 | set S n=>obtain ⟨o,_,_,_,e,_⟩:=x;exact Ae e
 | ins C dx fs=>obtain ⟨_,_,_,e,_⟩:=x;exact Ae e
 | own y=>obtain ⟨_,e⟩:=x;exact Ae e
 | xd fs=>obtain ⟨_,⟨_,_,_,e,_⟩,_⟩:=x;exact Ae e
 | rng lo hi=>obtain ⟨_,_,_,e⟩:=x;exact Ae e
 | frz ob u=>obtain ⟨e,_⟩:=x;exact Ae e
 | tbl ps=>exact Ae (show h.get? a=some _ from x)
 | met f y=>exact Ae (show h.get? a=some _ from x)
 | ext φ=>obtain ⟨_,⟨_,e⟩,_⟩:=x;exact Ae e
theorem HF.mapP {α β:Type} {F G:α->β->Prop}:∀ {l₁:List α} {l₂:List β},HF F l₁ l₂->(∀a b,F a b->G a b)->HF G l₁ l₂
 | _,_,.nil,_=>.nil
 | _,_,.cons r t,f=>.cons (f _ _ r) (HF.mapP t f)
theorem Cm.stay (x:Cm P w H h a o) (k:∀b u,(b=a∨H b=some (.own a))->h.get? b=some u->h'.get? b=some u)
  (ho:∀b,H b=some (.own a)->H' b=some (.own a)) (ht:∀b xs,H b=some (.tup xs)->H' b=some (.tup xs)):Cm P w H' h' a o:=by
 induction o with
 | lst xs=>obtain ⟨z,its,n,r,e⟩:=x;exact ⟨z,its,n,r,k _ _ (.inl rfl) e⟩
 | tup xs=>obtain ⟨z,its,r,ob,e,c⟩:=x;exact ⟨z,its,r,ob,k _ _ (.inl rfl) e,c⟩
 | dK kvs=>obtain ⟨z,y,vs,r,ob,es,ep,e,c⟩:=x;exact ⟨z,y,vs,r,ob,es,ep,k _ _ (.inl rfl) e,c⟩
 | dT kvs=>
  obtain ⟨z,y,xs,r,ob,es,ep,e,c⟩:=x;exact ⟨z,y,xs,HF.mapP r λp q z=>⟨z.1,ht _ _ z.2.1,z.2.2⟩,ob,es,ep,k _ _ (.inl rfl) e,c⟩
 | set S n=>obtain ⟨ob,es,ep,t,e,c⟩:=x;exact ⟨ob,es,ep,t,k _ _ (.inl rfl) e,c⟩
 | ins C dx fs=>
  obtain ⟨d,z,ne,e,mA,⟨od,es,ep,e2,c⟩,r⟩:=x;exact ⟨ho _ d,z,ne,k _ _ (.inl rfl) e,mA,⟨od,es,ep,k _ _ (.inr d) e2,c⟩,r⟩
 | own y=>obtain ⟨ob,e⟩:=x;exact ⟨ob,k _ _ (.inl rfl) e⟩
 | xd fs=>obtain ⟨mA,⟨od,es,ep,e,c⟩,r⟩:=x;exact ⟨mA,⟨od,es,ep,k _ _ (.inl rfl) e,c⟩,r⟩
 | rng lo hi=>obtain ⟨t,u,v,e⟩:=x;exact ⟨t,u,v,k _ _ (.inl rfl) e⟩
 | frz ob u ih=>obtain ⟨e,q⟩:=x;exact ⟨k _ _ (.inl rfl) e,ih q⟩
 | tbl ps=>
  have e:h.get? a=some { cls:=.none,data:=.fields ps }:=x;show h'.get? a=some { cls:=.none,data:=.fields ps };exact k a _ (.inl rfl) e
 | met f y=>
  have e:h.get? a=some (MV (.ref f) (.ref y)):=x;show h'.get? a=some (MV (.ref f) (.ref y));exact k a _ (.inl rfl) e
 | ext φ=>obtain ⟨p,⟨o,e⟩,st⟩:=x;exact ⟨st _ _ p λo q=>k _ _ (.inl rfl) q,⟨o,k _ _ (.inl rfl) e⟩,st⟩
theorem HOk.lt (x:HOk P w H h) (e:H a=some o):a < h.objs.size:=(x a o e).lt
theorem HOk.fresh (x:HOk P w H h) (e:h.objs.size<=a):H a=none:=by
 cases q:H a with
 | none=>rfl
 | some u=>exact absurd (Ad (x.lt q) e) (EZ _)
theorem HOk.kept (x:HOk P w H h) (k:∀b u,h.get? b=some u->h'.get? b=some u):HOk P w H h':=λa o e=>
 (x a o e).stay (λb u _ q=>k b u q) (λ_ q=>q) λ_ _ q=>q
theorem HOk.laid (x:HOk P w H h) (k:∀b u,h.get? b=some u->h'.get? b=some u) (hp:h.objs.size<=a) (new:Cm P w (upd H a o) h' a o):HOk P w (upd H a o) h':=λb u e=>by
 have hn:=x.fresh hp
 by_cases hb:b=a
 ·subst hb;rw [B2] at e;cases e;exact new
 ·rw [BR hb] at e
  exact (x b u e).stay (λc v _ q=>k c v q) (λc q=>by rw [BR (Bc q hn)];exact q) λc xs q=>by rw [BR (Bc q hn)];exact q
end
def Rd (H:Hp) (a:AI) (u:HO):Prop:=H a=some u∨∃o,H a=some (.frz o u)
theorem Rd.ok {P:An} {w:BH} {H:Hp} {h:Bl} {a:AI} {u:HO} (r:Rd H a u) (x:HOk P w H h):Cm P w H h a u:=by
 rcases r with r | ⟨o,r⟩
 ·exact x a u r
 ·obtain ⟨_,q⟩:=x a _ r
  exact q
def Mut:Option HO->Prop
 | some (.lst _)=>True
 | some (.dK _)=>True
 | some (.dT _)=>True
 | some (.set _ _)=>True
 | some (.ins _ _ _)=>True
 | some (.ext _)=>True
 | _=>False
section
variable {P:An} {w:BH} {H:Hp} {h h':Bl} {x e:AI} {o':HO}
theorem HOk.write (ok:HOk P w H h) (mu:Mut (H x)) (he:e=x∨H e=some (.own x)) (k:∀b u,b≠e->h.get? b=some u->h'.get? b=some u) (heo:∃u,h'.get? e=some u)
  (new:Cm P w (upd H x o') h' x o'):HOk P w (upd H x o') h':=λb u q=>by
 have nown:∀c y,H c=some (.own y)->c≠x:=λc y r z=>by subst z;rw [r] at mu;exact mu
 have ntup:∀c xs,H c=some (.tup xs)->c≠x:=λc xs r z=>by subst z;rw [r] at mu;exact mu
 by_cases hb:b=x
 ·subst hb;rw [B2] at q;cases q;exact new
 ·rw [BR hb] at q
  by_cases hbe:b=e
  ·have q':H b=some (.own x):=by
    rcases he with z | z
    ·exact absurd (hbe.trans z) hb
    ·rw [hbe];exact z
   rw [q] at q';cases q';obtain ⟨v,hv⟩:=heo;exact ⟨v,by rw [hbe];exact hv⟩
  ·refine (ok b u q).stay (λc v hc r=>k c v ?_ r) (λc r=>by rw [BR (nown c b r)];exact r) λc xs r=>by rw [BR (ntup c xs r)];exact r
   rcases hc with rfl | hc
   ·exact hbe
   ·rintro rfl
    rcases he with z | z
    ·exact nown c b hc z
    ·rw [hc] at z;cases z;exact hb rfl
end
structure Un (fs ex:List AI) (H H':Hp) (h h':Bl):Prop where
 keep:∀b o,h.get? b=some o->H b=none->b∉fs->b∉ex->h'.get? b=some o
 slot:∀b o,h.get? b=some o->H b=none->b∈fs->b∉ex->∃sl,h'.get? b=some { o with slots:=sl }
 free:∀b o,h.get? b=some o->H b=none->b∉ex->H' b=none
 there:∀b o,h.get? b=some o->b∉ex->∃o',h'.get? b=some o'
 tups:∀b xs,H b=some (.tup xs)->H' b=some (.tup xs)
 frzs:∀b o u,H b=some (.frz o u)->H' b=some (.frz o u)
 tbls:∀b ps,H b=some (.tbl ps)->∃more,H' b=some (.tbl (ps++more))
section
variable {fs fs' ex ex':List AI} {H H1 H2:Hp} {h h1 h2 h':Bl} {a x e:AI} {o:HO}
theorem Un.any (u:Un fs ex H H1 h h1) {b:AI} {ob:Obj} (q:h.get? b=some ob) (n:H b=none) (hx:b∉ex):∃sl,h1.get? b=some { ob with slots:=sl }:=by
 by_cases hb:b∈fs
 ·exact u.slot b ob q n hb hx
 ·exact ⟨ob.slots,u.keep b ob q n hb hx⟩
theorem Un.kept (k:∀b u,h.get? b=some u->h'.get? b=some u):Un fs ex H H h h':=
 ⟨λb ob q _ _ _=>k b ob q,λb ob q _ _ _=>⟨ob.slots,k b ob q⟩,λ_ _ _ n _=>n,λb ob q _=>⟨ob,k b ob q⟩,λ_ _ q=>q,λ_ _ _ q=>q,λ_ ps q=>⟨#[],by rw [q];simp⟩⟩
theorem Un.refl:Un fs ex H H h h:=Un.kept λ_ _ q=>q
theorem Un.laid (k:∀b u,h.get? b=some u->h'.get? b=some u) (hp:h.objs.size<=a) (hn:H a=none):Un fs ex H (upd H a o) h h' where
 keep:=λb u q _ _ _=>k b u q
 slot:=λb u q _ _ _=>⟨u.slots,k b u q⟩
 free:=λb u q n _=>by rw [BR (A0 (Ad (Ae q) hp))];exact n
 there:=λb u q _=>⟨u,k b u q⟩
 tups:=λb xs q=>by rw [BR (Bc q hn)];exact q
 frzs:=λb u xs q=>by rw [BR (Bc q hn)];exact q
 tbls:=λb ps q=>⟨#[],by rw [BR (Bc q hn),q];simp⟩
theorem Un.write (mu:Mut (H x)) (he:e=x∨H e=some (.own x)) (k:∀b u,b≠e->h.get? b=some u->h'.get? b=some u) (heo:∃u,h'.get? e=some u):Un fs ex H (upd H x o) h h':=by
 have hx:∀b,H b=none->b≠x:=λb n z=>by subst z;rw [n] at mu;exact mu
 have hb:∀b,H b=none->b≠e:=λb n z=>by
  subst z
  rcases he with r | r
  ·exact hx b n r
  ·rw [n] at r;cases r
 have hm:∀b u,H b=some u->¬Mut (some u)->b≠x:=λb u q nm z=>by subst z;rw [q] at mu;exact nm mu
 refine ⟨λb u q n _ _=>k b u (hb b n) q,λb u q n _ _=>⟨u.slots,k b u (hb b n) q⟩,λb u q n _=>by rw [BR (hx b n)];exact n,λb u q _=>?_,
  λb xs q=>by rw [BR (hm b _ q λz=>z)];exact q,λb u xs q=>by rw [BR (hm b _ q λz=>z)];exact q,λb ps q=>⟨#[],by rw [BR (hm b _ q λz=>z),q];simp⟩⟩
 by_cases hbe:b=e
 ·subst hbe;exact heo
 ·exact ⟨u,k b u hbe q⟩
end
def trk (h:Bl) (H:Hp):List AI:=(Cc h.objs.size).filter λa=>(H a).isSome
def Rz (h:Bl) (H:Hp):Bl:=Jv h (trk h H)
theorem YD (h:Bl) (H:Hp):(Rz h H).objs.size=h.objs.size:=PySem.W.hideAll_size _ _
theorem ah {h:Bl} {H:Hp} {b:AI} {o:Obj} (e:h.get? b=some o) (n:H b=none):(Rz h H).get? b=some o:=
 UP _ e λhm=>by
  have q:(H b).isSome=true:=(BA.mp hm).2;rw [n] at q;simp at q
theorem dX {h:Bl} {H:Hp} {b:AI} {o:Obj} (e:(Rz h H).get? b=some o):h.get? b=some o/\H b=none:=by
 have e':h.get? b=some o:=Lh (trk h H) e;refine ⟨e',?_⟩
 cases q:H b with
 | none=>rfl
 | some x=>
  have hm:b∈trk h H:=BA.mpr ⟨QX.mpr (Ae e'),by simp [q]⟩;have z:(Rz h H).get? b=none:=KN (trk h H) hm;rw [z] at e;cases e
end L2
namespace L2
open PySem PySem.Spec PyProof.Rows
structure Mod (K:AB) (mg:Str->Option AC) (base:Bl):Prop where
 kin:K.In base
 glob:base.Ns Ac mg
 blt:∃mb,base.Ns ff mb/\∀x:Str,x≠"__name__"->mb x=Ec x
 nolimit:base.NoLimit
structure Cx where
 prog:An
 w:BH
 K:AB
 mg:Str->Option AC
 base:Bl
 A:BD
 N:List Str
 s₀:AE
 H₀:Hp
 env:Env
 outer:List Env
 stack:List Env
 ex:List AI
 fn:Str->Bool
 calm:Bool
 pn:List (AI×Obj)
 xe:AC->AE->Prop
def frs (l:List Env):List AI:=l.filterMap (·.frame)
abbrev Cx.fs (X:Cx):List AI:=frs X.outer
def Vis (sc:IK) (x:Str):Prop:=sc.names.lookup x=some .local∨sc.names.lookup x=some .cell∨sc.names.lookup x=some .free
def Loc (sc:IK) (x:Str):Prop:=sc.names.lookup x=some .local∨sc.names.lookup x=some .cell
def Look (env:Env) (h:Bl) (m:Str->Option AC) (x:Str) (u:AC):Prop:=
 (env.kindOf x=some .local/\m x=some u)∨((env.kindOf x=some .cell∨env.kindOf x=some .free)/\∃c,env.cells.lookup x=some c/\h.IsCell c (some u))
structure Cx.Ok (X:Cx):Prop where
 mod:Mod X.K X.mg X.base
 kind:X.env.scope.kind=.function
 glob:X.env.globals=Ac
 blt:X.env.builtins=ff
 above:X.s₀.heap.objs.size<=X.env.locals
 inj:∀x y c,X.env.cells.lookup x=some c->X.env.cells.lookup y=some c->x=y
 has:∀x,(X.env.kindOf x=some .cell∨X.env.kindOf x=some .free)->∃c,X.env.cells.lookup x=some c
 cab:∀x c,X.fn x=true->X.env.cells.lookup x=some c->X.s₀.heap.objs.size<=c
 hd:X.calm=true->X.A.handled=none
 frames:X.A.frames=some X.stack
 stk:X.stack=X.outer∨(X.stack=X.env :: X.outer/\X.env.frame=some X.env.locals)
 exf:∀b∈X.ex,b≠X.env.locals/\∀x c,X.env.cells.lookup x=some c->c≠b
 bs:∀b o,X.base.get? b=some o->X.s₀.heap.get? b=some o/\X.H₀ b=none
 bsz:X.base.objs.size<=X.s₀.heap.objs.size
 noex:∀b o,X.base.get? b=some o->b∉X.ex
 exfs:∀b∈X.ex,b∉X.fs
 funs:X.s₀.heap.FunFrames X.base X.outer
 frf:∀b∈X.fs,X.H₀ b=none
structure Inv (X:Cx) (pins:List (AI×Obj)) (σ:List (Option V)) (H:Hp) (s:AE):Prop where
 ok:X.Ok
 os:s.os=X.s₀.os
 bare:II s.gens
 base:Un X.fs X.ex X.H₀ H X.s₀.heap s.heap
 loc:∃m,s.heap.Ns X.env.locals m/\∀(i:Nat) (x:Str) (v:V),X.N[i]?=some x->σ[i]?=some (some v)->Vis X.env.scope x->∃u,RelV v u/\Look X.env s.heap m x u
 cell:∀x c,X.env.cells.lookup x=some c->∃v,s.heap.IsCell c v
 free:H X.env.locals=none
 freeC:∀x c,X.env.cells.lookup x=some c->H c=none
 pin:∀p∈X.pn++pins,s.heap.get? p.1=some p.2/\H p.1=none/\p.1≠X.env.locals/\p.1∉X.fs/\∀v,p.2.data≠.cell v
 hok:HOk X.prog X.w H s.heap
 len:σ.length=X.N.length
section
variable {X:Cx} {pins:List (AI×Obj)} {σ:List (Option V)} {H H':Hp} {s:AE} {h':Bl}
theorem Cx.Ok.nofr (ok:X.Ok) {b:AI} {o:Obj} (e:X.base.get? b=some o):b∉X.fs:=λhb=>by
 have:=(ok.funs.mem hb).1;rw [e] at this;cases this
theorem Inv.bs (I:Inv X pins σ H s):∀b o,X.base.get? b=some o->s.heap.get? b=some o/\H b=none:=λb o e=>
 ⟨I.base.keep b o (I.ok.bs b o e).1 (I.ok.bs b o e).2 (I.ok.nofr e) (I.ok.noex b o e),I.base.free b o (I.ok.bs b o e).1 (I.ok.bs b o e).2 (I.ok.noex b o e)⟩
theorem Inv.bk (I:Inv X pins σ H s):∀b o,X.base.get? b=some o->s.heap.get? b=some o:=λb o e=>(I.bs b o e).1
theorem Inv.mod (I:Inv X pins σ H s):Mod X.K X.mg X.base:=I.ok.mod
theorem Inv.kIn (I:Inv X pins σ H s):X.K.In s.heap:=I.ok.mod.kin.keeps I.bk
theorem Inv.lt (I:Inv X pins σ H s):X.env.locals < s.heap.objs.size:=let ⟨_,hn,_⟩:=I.loc;hn.lt
theorem Inv.sz (I:Inv X pins σ H s):X.s₀.heap.objs.size<=s.heap.objs.size:=Al I.ok.above (Uf I.lt)
theorem Inv.nofs (I:Inv X pins σ H s) {a:AI} (h:s.heap.objs.size<=a):a∉X.fs:=λhb=>by
 obtain ⟨_,o,ho,_⟩:=I.ok.funs.mem hb;exact absurd (Ad (Ae ho) (Al I.sz h)) (EZ _)
theorem Inv.cne (I:Inv X pins σ H s):∀x c,X.env.cells.lookup x=some c->c≠X.env.locals:=λx c e z=>by
 obtain ⟨v,o,ho,hd⟩:=I.cell x c e;obtain ⟨m,⟨o',es,ep,ho',hd',_⟩,_⟩:=I.loc;rw [z,ho'] at ho;cases ho;rw [hd'] at hd;cases hd
theorem Inv.funs (I:Inv X pins σ H s):s.heap.FunFrames X.base X.outer:=by
 have all:∀(l:List Env),(∀b∈frs l,b∈X.fs)->X.s₀.heap.FunFrames X.base l->s.heap.FunFrames X.base l:=by
  intro l
  induction l with
  | nil=>intro _ _;trivial
  | cons env r ih=>
   intro hs hl;obtain ⟨hk,⟨L,o,hf,hn,ho,hd⟩,hr⟩:=hl;have hL:L∈X.fs:=hs L (by unfold frs;rw [MQ,hf];exact Ax)
   obtain ⟨sl,e⟩:=I.base.slot L o ho (I.ok.frf L hL) hL λz=>I.ok.exfs L z hL
   exact ⟨hk,⟨L,_,hf,hn,e,hd⟩,ih (λb hb=>hs b (by unfold frs;rw [MQ,hf];exact Aa _ hb)) hr⟩
 exact all X.outer (λ_ hb=>hb) I.ok.funs
theorem Inv.stack (I:Inv X pins σ H s):s.heap.FunFrames X.base X.stack:=by
 rcases I.ok.stk with e | ⟨e,hf⟩
 ·rw [e];exact I.funs
 ·rw [e]
  obtain ⟨m,hn,_⟩:=I.loc;refine .cons (by rw [I.ok.kind];decide) hf hn ?_ I.funs;exact WH (Al I.ok.bsz I.ok.above)
theorem Inv.stkSub (I:Inv X pins σ H s):∀b∈frs X.stack,b∈X.env.locals :: X.fs:=λb hb=>by
 rcases I.ok.stk with e | ⟨e,hf⟩
 ·rw [e] at hb;exact Aa _ hb
 ·rw [e] at hb
  unfold frs at hb;rw [MQ,hf] at hb;exact hb
theorem Inv.stkFree (I:Inv X pins σ H s):∀b∈frs X.stack,H b=none:=λb hb=>by
 rcases Ay.mp (I.stkSub b hb) with e | hb
 ·rw [e];exact I.free
 ·obtain ⟨_,o,ho,_⟩:=I.ok.funs.mem hb
  exact I.base.free b o ho (I.ok.frf b hb) λz=>I.ok.exfs b z hb
theorem Inv.step {g':Array Ui} {t':Nat} {d':Drawn} {ch:List AI} (I:Inv X pins σ H s)
  (hch:∀b∈ch,(b∈X.ex∨X.s₀.heap.objs.size<=b)/\b≠X.env.locals/\(∀x c,X.env.cells.lookup x=some c->c≠b)/\∀p∈X.pn++pins,p.1≠b)
  (keep:∀b o,b≠X.env.locals->b∉X.fs->b∉ch->s.heap.get? b=some o->H b=none->h'.get? b=some o)
  (slot:∀b o,b≠X.env.locals->b∈X.fs->b∉ch->s.heap.get? b=some o->H b=none->∃sl,h'.get? b=some { o with slots:=sl }) (free:∀b o,b∉ch->s.heap.get? b=some o->H b=none->H' b=none)
  (there:∀b o,b∉ch->s.heap.get? b=some o->∃o',h'.get? b=some o')
  (tups:∀b xs,H b=some (.tup xs)->H' b=some (.tup xs)) (frzs:∀b o u,H b=some (.frz o u)->H' b=some (.frz o u)) (tbls:∀b ps,H b=some (.tbl ps)->∃more,H' b=some (.tbl (ps++more)))
  (ns:∀m,s.heap.Ns X.env.locals m->h'.Ns X.env.locals m) (hok:HOk X.prog X.w H' h') (hg:II g') :
  Inv X pins σ H' { s with heap:=h',gens:=g',drawn:=d',toks:=t' }:=by
 have neL:∀b o,X.s₀.heap.get? b=some o->b≠X.env.locals:=λb o e=>A0 (Ad (Ae e) I.ok.above)
 have neC:∀b o,X.s₀.heap.get? b=some o->b∉X.ex->b∉ch:=λb o e hx hb=>by
  rcases (hch b hb).1 with z | z
  ·exact hx z
  ·exact absurd (Ad (Ae e) z) (EZ _)
 have cellK:∀x c,X.env.cells.lookup x=some c->∀v,s.heap.IsCell c v->h'.IsCell c v:=λx c e v ⟨o,ho,hd⟩=>by
  have nch:c∉ch:=λz=>(hch c z).2.2.1 x c e rfl
  by_cases hc:c∈X.fs
  ·obtain ⟨sl,q⟩:=slot c o (I.cne x c e) hc nch ho (I.freeC x c e)
   exact ⟨_,q,hd⟩
  ·exact ⟨o,keep c o (I.cne x c e) hc nch ho (I.freeC x c e),hd⟩
 refine ⟨I.ok,I.os,hg,⟨λb o e n hb hx=>?_,λb o e n hb hx=>?_,λb o e n hx=>?_,λb o e hx=>?_,λb xs e=>tups b xs (I.base.tups b xs e),λb o xs e=>frzs b o xs (I.base.frzs b o xs e),λb ps e=>?_⟩,?_,λx c e=>?_,?_,λx c e=>?_,λp hp=>?_,hok,I.len⟩
 ·exact keep b o (neL b o e) hb (neC b o e hx) (I.base.keep b o e n hb hx) (I.base.free b o e n hx)
 ·obtain ⟨sl,e1⟩:=I.base.slot b o e n hb hx
  obtain ⟨sl',e2⟩:=slot b _ (neL b o e) hb (neC b o e hx) e1 (I.base.free b o e n hx);exact ⟨sl',e2⟩
 ·obtain ⟨o',e1⟩:=I.base.there b o e hx
  exact free b o' (neC b o e hx) e1 (I.base.free b o e n hx)
 ·obtain ⟨o',e1⟩:=I.base.there b o e hx
  exact there b o' (neC b o e hx) e1
 ·obtain ⟨m1,e1⟩:=I.base.tbls b ps e
  obtain ⟨m2,e2⟩:=tbls b _ e1;exact ⟨m1++m2,by rw [e2,XW]⟩
 ·obtain ⟨m,hn,hl⟩:=I.loc
  refine ⟨m,ns m hn,λi x v e1 e2 e3=>?_⟩;obtain ⟨u,r,l⟩:=hl i x v e1 e2 e3;refine ⟨u,r,?_⟩
  rcases l with l | ⟨k,c,e,z⟩
  ·exact .inl l
  ·exact .inr ⟨k,c,e,cellK x c e _ z⟩
 ·obtain ⟨v,z⟩:=I.cell x c e
  exact ⟨v,cellK x c e v z⟩
 ·obtain ⟨m,⟨o,_,_,ho,_⟩,_⟩:=I.loc
  exact free _ o (λz=>(hch _ z).2.1 rfl) ho I.free
 ·obtain ⟨v,o,ho,hd⟩:=I.cell x c e
  exact free c o (λz=>(hch c z).2.2.1 x c e rfl) ho (I.freeC x c e)
 ·obtain ⟨e,n,ne,nf,d⟩:=I.pin p hp
  have nch:p.1∉ch:=λz=>(hch p.1 z).2.2.2 p hp rfl
  exact ⟨keep p.1 p.2 ne nf nch e n,free p.1 p.2 nch e n,ne,nf,d⟩
theorem Inv.stepN {g':Array Ui} {t':Nat} {d':Drawn} {ch:List AI} (I:Inv X pins σ H s)
  (hch:∀b∈ch,(b∈X.ex∨X.s₀.heap.get? b=none)/\b≠X.env.locals/\(∀x c,X.env.cells.lookup x=some c->c≠b)/\∀p∈X.pn++pins,p.1≠b)
  (keep:∀b o,b≠X.env.locals->b∉X.fs->b∉ch->s.heap.get? b=some o->H b=none->h'.get? b=some o)
  (slot:∀b o,b≠X.env.locals->b∈X.fs->b∉ch->s.heap.get? b=some o->H b=none->∃sl,h'.get? b=some { o with slots:=sl }) (free:∀b o,b∉ch->s.heap.get? b=some o->H b=none->H' b=none)
  (there:∀b o,b∉ch->s.heap.get? b=some o->∃o',h'.get? b=some o')
  (tups:∀b xs,H b=some (.tup xs)->H' b=some (.tup xs)) (frzs:∀b o u,H b=some (.frz o u)->H' b=some (.frz o u)) (tbls:∀b ps,H b=some (.tbl ps)->∃more,H' b=some (.tbl (ps++more)))
  (ns:∀m,s.heap.Ns X.env.locals m->h'.Ns X.env.locals m) (hok:HOk X.prog X.w H' h') (hg:II g') :
  Inv X pins σ H' { s with heap:=h',gens:=g',drawn:=d',toks:=t' }:=by
 have neL:∀b o,X.s₀.heap.get? b=some o->b≠X.env.locals:=λb o e=>A0 (Ad (Ae e) I.ok.above)
 have neC:∀b o,X.s₀.heap.get? b=some o->b∉X.ex->b∉ch:=λb o e hx hb=>by
  rcases (hch b hb).1 with z | z
  ·exact hx z
  ·rw [z] at e;cases e
 have cellK:∀x c,X.env.cells.lookup x=some c->∀v,s.heap.IsCell c v->h'.IsCell c v:=λx c e v ⟨o,ho,hd⟩=>by
  have nch:c∉ch:=λz=>(hch c z).2.2.1 x c e rfl
  by_cases hc:c∈X.fs
  ·obtain ⟨sl,q⟩:=slot c o (I.cne x c e) hc nch ho (I.freeC x c e)
   exact ⟨_,q,hd⟩
  ·exact ⟨o,keep c o (I.cne x c e) hc nch ho (I.freeC x c e),hd⟩
 refine ⟨I.ok,I.os,hg,⟨λb o e n hb hx=>?_,λb o e n hb hx=>?_,λb o e n hx=>?_,λb o e hx=>?_,λb xs e=>tups b xs (I.base.tups b xs e),λb o xs e=>frzs b o xs (I.base.frzs b o xs e),λb ps e=>?_⟩,?_,λx c e=>?_,?_,λx c e=>?_,λp hp=>?_,hok,I.len⟩
 ·exact keep b o (neL b o e) hb (neC b o e hx) (I.base.keep b o e n hb hx) (I.base.free b o e n hx)
 ·obtain ⟨sl,e1⟩:=I.base.slot b o e n hb hx
  obtain ⟨sl',e2⟩:=slot b _ (neL b o e) hb (neC b o e hx) e1 (I.base.free b o e n hx);exact ⟨sl',e2⟩
 ·obtain ⟨o',e1⟩:=I.base.there b o e hx
  exact free b o' (neC b o e hx) e1 (I.base.free b o e n hx)
 ·obtain ⟨o',e1⟩:=I.base.there b o e hx
  exact there b o' (neC b o e hx) e1
 ·obtain ⟨m1,e1⟩:=I.base.tbls b ps e
  obtain ⟨m2,e2⟩:=tbls b _ e1;exact ⟨m1++m2,by rw [e2,XW]⟩
 ·obtain ⟨m,hn,hl⟩:=I.loc
  refine ⟨m,ns m hn,λi x v e1 e2 e3=>?_⟩;obtain ⟨u,r,l⟩:=hl i x v e1 e2 e3;refine ⟨u,r,?_⟩
  rcases l with l | ⟨k,c,e,z⟩
  ·exact .inl l
  ·exact .inr ⟨k,c,e,cellK x c e _ z⟩
 ·obtain ⟨v,z⟩:=I.cell x c e
  exact ⟨v,cellK x c e v z⟩
 ·obtain ⟨m,⟨o,_,_,ho,_⟩,_⟩:=I.loc
  exact free _ o (λz=>(hch _ z).2.1 rfl) ho I.free
 ·obtain ⟨v,o,ho,hd⟩:=I.cell x c e
  exact free c o (λz=>(hch c z).2.2.1 x c e rfl) ho (I.freeC x c e)
 ·obtain ⟨e,n,ne,nf,d⟩:=I.pin p hp
  have nch:p.1∉ch:=λz=>(hch p.1 z).2.2.2 p hp rfl
  exact ⟨keep p.1 p.2 ne nf nch e n,free p.1 p.2 nch e n,ne,nf,d⟩
theorem Inv.un {t':Nat} (I:Inv X pins σ H s) (u:Un X.fs [] H H' s.heap h') (hok:HOk X.prog X.w H' h'):Inv X pins σ H' { s with heap:=h',toks:=t' }:=by
 obtain ⟨m,⟨o,es,ep,ho,r⟩,_⟩:=id I.loc;obtain ⟨sl,hL⟩:=u.any ho I.free (by simp)
 exact I.step (g':=s.gens) (d':=s.drawn) (ch:=[]) (λ_ z=>nomatch z) (λb o _ hb _ e n=>u.keep b o e n hb (by simp)) (λb o _ hb _ e n=>u.slot b o e n hb (by simp)) (λb o _ e n=>u.free b o e n (by simp)) (λb o _ e=>u.there b o e (by simp)) u.tups u.frzs u.tbls (λm' hm=>by
  obtain ⟨o',es',ep',ho',r'⟩:=hm;rw [ho] at ho';cases ho'
  exact ⟨_,es',ep',hL,r'⟩) hok I.bare
theorem Inv.call {g':Array Ui} {t':Nat} {d':Drawn} {ch:List AI} (I:Inv X pins σ H s) (u:Un (frs X.stack) ch H H' s.heap h') (hok:HOk X.prog X.w H' h') (hg:II g')
  (hch:∀b∈ch,(b∈X.ex∨X.s₀.heap.objs.size<=b)/\b≠X.env.locals/\(∀x c,X.env.cells.lookup x=some c->c≠b)/\∀p∈X.pn++pins,p.1≠b) :
  Inv X pins σ H' { s with heap:=h',gens:=g',drawn:=d',toks:=t' }:=by
 obtain ⟨m,⟨o,es,ep,ho,r⟩,_⟩:=id I.loc
 obtain ⟨sl,hL⟩:=u.any ho I.free λz=>(hch _ z).2.1 rfl
 exact I.step (ch:=ch) hch (λb o hL hb hc e n=>u.keep b o e n (λz=>(Ay.mp (I.stkSub b z)).elim hL hb) hc) (λb o _ _ hc e n=>u.any e n hc) (λb o hc e n=>u.free b o e n hc) (λb o hc e=>u.there b o e hc) u.tups u.frzs u.tbls (λm' hm=>by
  obtain ⟨o',es',ep',ho',r'⟩:=hm;rw [ho] at ho';cases ho'
  exact ⟨_,es',ep',hL,r'⟩) hok hg
theorem Inv.turned {t':Nat} {it:AI} (I:Inv X pins σ H s) (k:∀b o,b≠it->s.heap.get? b=some o->h'.get? b=some o) (hn:H it=none) (hL:it≠X.env.locals)
  (h1:it∈X.ex∨X.s₀.heap.objs.size<=it) (h2:∀x c,X.env.cells.lookup x=some c->c≠it) (h3:∀p∈X.pn++pins,p.1≠it):Inv X pins σ H { s with heap:=h',toks:=t' }:=by
 have nit:∀b u,H b=some u->b≠it:=λb u e z=>by rw [z,hn] at e;cases e
 refine I.step (g':=s.gens) (d':=s.drawn) (ch:=[it]) (λb hb=>?_) (λb o _ _ hc e _=>k b o (λz=>hc (by simp [z])) e) (λb o _ _ hc e _=>⟨o.slots,k b o (λz=>hc (by simp [z])) e⟩) (λ_ _ _ _ n=>n)
  (λb o hc e=>⟨o,k b o (λz=>hc (by simp [z])) e⟩) (λ_ _ e=>e) (λ_ _ _ e=>e) (λb ps e=>⟨#[],by rw [e];simp⟩) (λm hm=>?_) (λb u e=>?_) I.bare
 ·have e:b=it:=by simpa using hb
  subst e;exact ⟨h1,hL,h2,h3⟩
 ·obtain ⟨o,es,ep,ho,r⟩:=hm
  exact ⟨o,es,ep,k _ o (B5 hL) ho,r⟩
 ·refine (I.hok b u e).stay (λc v hc q=>k c v ?_ q) (λ_ q=>q) λ_ _ q=>q
  rcases hc with z | z
  ·rw [z];exact nit b u e
  ·exact nit c _ z
theorem Inv.tok (I:Inv X pins σ H s) (t:Nat):Inv X pins σ H { s with toks:=t }:=I.un (h':=s.heap) (t':=t) Un.refl I.hok
theorem Inv.kept {t':Nat} (I:Inv X pins σ H s) (k:∀b u,s.heap.get? b=some u->h'.get? b=some u):Inv X pins σ H { s with heap:=h',toks:=t' }:=I.un (Un.kept k) (I.hok.kept k)
theorem Inv.laid {a:AI} {o:HO} {t':Nat} (I:Inv X pins σ H s) (k:∀b u,s.heap.get? b=some u->h'.get? b=some u) (hp:s.heap.objs.size<=a) (new:Cm X.prog X.w (upd H a o) h' a o) :
  Inv X pins σ (upd H a o) { s with heap:=h',toks:=t' }:=I.un (Un.laid k hp (I.hok.fresh hp)) (I.hok.laid k hp new)
theorem Inv.write {x e:AI} {o:HO} {t':Nat} (I:Inv X pins σ H s) (mu:Mut (H x)) (he:e=x∨H e=some (.own x)) (k:∀b u,b≠e->s.heap.get? b=some u->h'.get? b=some u) (heo:∃u,h'.get? e=some u)
  (new:Cm X.prog X.w (upd H x o) h' x o):Inv X pins σ (upd H x o) { s with heap:=h',toks:=t' }:=I.un (Un.write mu he k heo) (I.hok.write mu he k heo new)
theorem Inv.pins_of {pins':List (AI×Obj)} (I:Inv X pins σ H s) (h:∀p∈pins',s.heap.get? p.1=some p.2/\H p.1=none/\p.1≠X.env.locals/\p.1∉X.fs/\∀v,p.2.data≠.cell v):Inv X pins' σ H s:=
 ⟨I.ok,I.os,I.bare,I.base,I.loc,I.cell,I.free,I.freeC,λp hp=>(BB.mp hp).elim (λz=>I.pin p (Bq _ z)) (h p),I.hok,I.len⟩
theorem Ti {N:List Str} (hN:N.Nodup) {i j:Nat} {x:Str} (a:N[i]?=some x) (b:N[j]?=some x):i=j:=by
 obtain ⟨h1,e1⟩:=AM.mp a;obtain ⟨h2,e2⟩:=AM.mp b;exact (bX hN).mp (e1.trans e2.symm)
theorem Qh {M:QB} {A:BD} {E:AC->AE->Prop} {i:Nat} {x:Str} {v:V} {u:AC} {Q:Unit->AE->Prop} (I:Inv X pins σ H s) (hN:X.N.Nodup) (hi:X.N[i]?=some x) (hx:Loc X.env.scope x) (r:RelV v u)
  (h:∀s',Inv X pins (σ.set i (some v)) H s'->(∃a,EK a s.heap s'.heap/\(a=X.env.locals∨X.env.cells.lookup x=some a))->Q () s') (hf:X.fn x=true∨X.env.scope.names.lookup x=some .local:=by first | exact .inl rfl | exact .inr rfl | assumption):Af M A (jw X.env x u) Q E s:=by
 obtain ⟨m,hn,hl⟩:=id I.loc
 have hcls:(X.env.scope.kind==.class||(X.env.scope.kind==.module&&X.env.locals != X.env.globals))=false:=by rw [I.ok.kind];rfl
 have hiσ:i < σ.length:=by rw [I.len];exact (AM.mp hi).1
 have cne:=I.cne
 have tracked:∀ {a:AI} {h':Bl},(∃o,s.heap.get? a=some o/\H a=none)->EK a s.heap h'->HOk X.prog X.w H h':=λ{a h'} ha hs b ob e=>by
  obtain ⟨_,_,hfree⟩:=ha
  refine (I.hok b ob e).stay (λc w' hc q=>(hs.2 c ?_).trans q) (λ_ q=>q) λ_ _ q=>q
  rintro rfl
  rcases hc with rfl | hc
  ·rw [hfree] at e;cases e
  ·rw [hfree] at hc;cases hc
 rcases hx with hk | hk
 ·refine wpAny_storeName_local hk hn (λh' hn' hs=>?_) hcls
  obtain ⟨oL,_,_,hoL,_⟩:=id hn;refine h _ ⟨I.ok,I.os,I.bare,⟨λb o e n hb hx=>?_,λb o e n hb hx=>?_,I.base.free,λb o e hx=>?_,I.base.tups,I.base.frzs,I.base.tbls⟩,⟨_,hn',λj y v' e1 e2 e3=>?_⟩,λy c e=>?_,I.free,I.freeC,λp hp=>?_,tracked ⟨oL,hoL,I.free⟩ hs,by simpa using I.len⟩ ⟨_,hs,.inl rfl⟩
  ·exact (hs.2 b (A0 (Ad (Ae e) I.ok.above))).trans (I.base.keep b o e n hb hx)
  ·obtain ⟨sl,e1⟩:=I.base.slot b o e n hb hx
   exact ⟨sl,(hs.2 b (A0 (Ad (Ae e) I.ok.above))).trans e1⟩
  ·obtain ⟨o',e1⟩:=I.base.there b o e hx
   exact ⟨o',(hs.2 b (A0 (Ad (Ae e) I.ok.above))).trans e1⟩
  ·by_cases hj:j=i
   ·subst hj
    rw [hi] at e1;cases e1;rw [BC hiσ] at e2;cases e2;exact ⟨u,r,.inl ⟨hk,by simp⟩⟩
   ·rw [Au (B5 hj)] at e2
    obtain ⟨u',r',q⟩:=hl j y v' e1 e2 e3;refine ⟨u',r',?_⟩
    rcases q with ⟨k,e⟩ | ⟨k,c,e,z⟩
    ·refine .inl ⟨k,?_⟩
     have:y≠x:=λe=>hj (Ti hN e1 (e▸hi))
     simp [this,e]
    ·exact .inr ⟨k,c,e,z.sameBut hs (cne y c e)⟩
  ·obtain ⟨w',z⟩:=I.cell y c e
   exact ⟨w',z.sameBut hs (cne y c e)⟩
  ·obtain ⟨e,n,ne,nf,d⟩:=I.pin p hp
   exact ⟨(hs.2 p.1 ne).trans e,n,ne,nf,d⟩
 ·have hfn:X.fn x=true:=by
   rcases hf with z | z
   ·exact z
   ·rw [z] at hk;cases hk
  obtain ⟨c,hc⟩:=I.ok.has x (.inl hk);obtain ⟨w',z⟩:=I.cell x c hc;refine wpAny_storeName_cell I.ok.kind hk hc z (λh' hc' hs=>?_);obtain ⟨oc,hoc,hocd⟩:=id z;refine h { s with heap:=h' } ⟨I.ok,I.os,I.bare,⟨λb o e n hb hx=>?_,λb o e n hb hx=>?_,I.base.free,λb o e hx=>?_,I.base.tups,I.base.frzs,I.base.tbls⟩,⟨m,hn.sameBut hs (B5 (cne x c hc)),λj y v' e1 e2 e3=>?_⟩,λy c' e=>?_,I.free,I.freeC,λp hp=>?_,tracked ⟨oc,hoc,I.freeC x c hc⟩ hs,by simpa using I.len⟩ ⟨c,hs,.inr hc⟩
  ·exact (hs.2 b (A0 (Ad (Ae e) (I.ok.cab x c hfn hc)))).trans (I.base.keep b o e n hb hx)
  ·obtain ⟨sl,e1⟩:=I.base.slot b o e n hb hx
   exact ⟨sl,(hs.2 b (A0 (Ad (Ae e) (I.ok.cab x c hfn hc)))).trans e1⟩
  ·obtain ⟨o',e1⟩:=I.base.there b o e hx
   exact ⟨o',(hs.2 b (A0 (Ad (Ae e) (I.ok.cab x c hfn hc)))).trans e1⟩
  ·by_cases hj:j=i
   ·subst hj
    rw [hi] at e1;cases e1;rw [BC hiσ] at e2;cases e2;exact ⟨u,r,.inr ⟨.inl hk,c,hc,hc'⟩⟩
   ·rw [Au (B5 hj)] at e2
    obtain ⟨u',r',q⟩:=hl j y v' e1 e2 e3;refine ⟨u',r',?_⟩
    rcases q with q | ⟨k,c',e,z'⟩
    ·exact .inl q
    ·refine .inr ⟨k,c',e,z'.sameBut hs ?_⟩
     rintro rfl;exact hj (Ti hN e1 (I.ok.inj _ _ _ e hc▸hi))
  ·by_cases hcc:c'=c
   ·subst hcc;exact ⟨_,hc'⟩
   ·obtain ⟨w2,z2⟩:=I.cell y c' e
    exact ⟨w2,z2.sameBut hs hcc⟩
  ·obtain ⟨e,n,ne,nf,d⟩:=I.pin p hp
   refine ⟨(hs.2 p.1 ?_).trans e,n,ne,nf,d⟩;intro q;rw [q,hoc] at e;have q':oc=p.2:=Cr e;exact d w' (by rw [<-q'];exact hocd)
theorem PF {M:QB} {A:BD} {E:AC->AE->Prop} {i:Nat} {x:Str} {v:V} {u:AC} {Q:Unit->AE->Prop} (I:Inv X pins σ H s) (hN:X.N.Nodup) (hi:X.N[i]?=some x) (hx:Loc X.env.scope x) (r:RelV v u)
  (h:∀s',Inv X pins (σ.set i (some v)) H s'->Q () s') (hf:X.fn x=true∨X.env.scope.names.lookup x=some .local:=by first | exact .inl rfl | exact .inr rfl | assumption):Af M A (jw X.env x u) Q E s:=
 Qh I hN hi hx r (λs' I' _=>h s' I') hf
theorem Inv.call' {s':AE} {ch:List AI} (I:Inv X pins σ H s) (ho:s'.os=s.os) (u:Un (frs X.stack) ch H H' s.heap s'.heap) (hok:HOk X.prog X.w H' s'.heap) (hg:II s'.gens)
  (hch:∀b∈ch,(b∈X.ex∨X.s₀.heap.objs.size<=b)/\b≠X.env.locals/\(∀x c,X.env.cells.lookup x=some c->c≠b)/\∀p∈X.pn++pins,p.1≠b):Inv X pins σ H' s':=by
 obtain ⟨h',g',d',t',o'⟩:=s';have e:o'=s.os:=ho;subst e;exact I.call (g':=g') (t':=t') (d':=d') u hok hg hch
end
abbrev XK:=AC->Option AI->Hp->Prop
abbrev St:=List (Option V)
abbrev VK:=V->Hp->Prop
abbrev TE:=St->Hp->VK->Prop
abbrev TT:=St->Hp->(Bool->Hp->Prop)->Prop
abbrev TA:=St->Hp->(List V->Hp->Prop)->Prop
structure V8 where
 nx:St->Hp->Prop
 rt:VK
 bk:St->Hp->Prop:=λ_ _=>False
 ct:St->Hp->Prop:=λ_ _=>False
abbrev TS:=V8->St->Hp->Prop
def EP (X:Cx) (pins:List (AI×Obj)) (σ:St) (Q:VK) (u:AC) (s':AE):Prop:=∃v H',Inv X pins σ H' s'/\RelV v u/\Q v H'
def TP (X:Cx) (pins:List (AI×Obj)) (σ:St) (Q:Bool->Hp->Prop) (b:Bool) (s':AE):Prop:=∃H',Inv X pins σ H' s'/\Q b H'
def AP (X:Cx) (pins:List (AI×Obj)) (σ:St) (Q:List V->Hp->Prop) (us:List AC) (s':AE):Prop:=∃vs H',Inv X pins σ H' s'/\Bh vs us/\Q vs H'
def SP (X:Cx) (pins:List (AI×Obj)) (D:V8) (f:Flow) (s':AE):Prop:=
 match f with
 | .next=>∃σ' H',Inv X pins σ' H' s'/\D.nx σ' H'
 | .brk=>∃σ' H',Inv X pins σ' H' s'/\D.bk σ' H'
 | .cont=>∃σ' H',Inv X pins σ' H' s'/\D.ct σ' H'
 | .ret u=>∃v σ' H',Inv X pins σ' H' s'/\RelV v u/\D.rt v H'
def PE (X:Cx) (e:Expr) (t:TE):Prop:=
 ∀(pins:List (AI×Obj)) (s:AE) (σ:St) (H:Hp) (Q:VK),Inv X pins σ H s->t σ H Q->Af (AY X.prog X.w) X.A (CC e X.env) (EP X pins σ Q) X.xe s
def PT (X:Cx) (e:Expr) (t:TT):Prop:=
 ∀(pins:List (AI×Obj)) (s:AE) (σ:St) (H:Hp) (Q:Bool->Hp->Prop),Inv X pins σ H s->t σ H Q->Af (AY X.prog X.w) X.A (UX e X.env (CC e X.env)) (TP X pins σ Q) X.xe s
def PW (X:Cx) (e:Expr) (t:TT):Prop:=
 ∀(whole:Sem AC) (pins:List (AI×Obj)) (s:AE) (σ:St) (H:Hp) (Q:Bool->Hp->Prop),Inv X pins σ H s->t σ H Q->Af (AY X.prog X.w) X.A (UX e X.env whole) (TP X pins σ Q) X.xe s
theorem PW.pt {X:Cx} {e:Expr} {t:TT} (h:PW X e t):PT X e t:=h _
def PA (X:Cx) (es:List Expr) (t:TA):Prop:=
 ∀(pos:Pos) (pins:List (AI×Obj)) (s:AE) (σ:St) (H:Hp) (Q:List V->Hp->Prop),Inv X pins σ H s->t σ H Q->Af (AY X.prog X.w) X.A (spliced (DM pos (AZ es X.env))) (AP X pins σ Q) X.xe s
def PS (X:Cx) (st:Cn) (t:TS):Prop:=
 ∀(pins:List (AI×Obj)) (s:AE) (σ:St) (H:Hp) (D:V8),Inv X pins σ H s->t D σ H->Af (AY X.prog X.w) X.A (exec st X.env) (SP X pins D) X.xe s
def PSs (X:Cx) (st:List Cn) (t:TS):Prop:=
 ∀(pins:List (AI×Obj)) (s:AE) (σ:St) (H:Hp) (D:V8),Inv X pins σ H s->t D σ H->Af (AY X.prog X.w) X.A (execs st X.env) (SP X pins D) X.xe s
theorem thn {α:Type} {t:Sem α} {Q Q':α->AE->Prop} {M:QB} {A:BD} {E:AC->AE->Prop} {s:AE} (h:Af M A t Q E s) (hQ:∀a s,Q a s->Q' a s):Af M A t Q' E s:=DK h hQ λ_ _ x=>x
end L2
namespace L2
open PySem PySem.Spec PyProof.Rows
section
variable {X:Cx}
def gm (i:Nat):TE:=λσ H Q=>∃v,σ[i]?=some (some v)/\Q v H
def tC (v:V):TE:=λ_ H Q=>Q v H
theorem iJ {i:Nat} {x:Str} {pos:Pos} (hN:X.N[i]?=some x) (hv:Vis X.env.scope x) (hd:(x==("__debug__" : Str))=false:=by decide) (hcd:(x==("__classdict__" : Str))=false:=by decide):PE X (.Name x pos) (gm i):=by
 intro pins s σ H Q I h;obtain ⟨v,e,h⟩:=h;obtain ⟨m,hn,hl⟩:=I.loc;obtain ⟨u,r,l⟩:=hl i x v hN e hv;have fin:EP X pins σ Q u s:=⟨v,H,I,r,h⟩
 rcases l with ⟨hk,hm⟩ | ⟨hk,c,hc,hcell⟩
 ·exact fW (bf I.ok.kind hk hn hm fin) hd
 ·rcases hk with hk | hk
  ·exact fW (en I.ok.kind hk hc hcell fin) hd
  ·exact fW (wpAny_loadName_free I.ok.kind hk hc hcell fin hcd) hd
theorem Zu {i j pos}:PE X (.Constant (.int i) j pos) (tC (.int i)):=λ_ _ _ H _ I h=>wpAny_Constant_int ⟨.int i,H,I.tok _,⟨_,rfl⟩,h⟩
theorem kr {b j pos}:PE X (.Constant (.bool b) j pos) (tC (.bl b)):=λ_ _ _ H _ I h=>Constant_bool ⟨.bl b,H,I,rfl,h⟩
theorem iL {x j pos}:PE X (.Constant (.str x) j pos) (tC (.str x)):=λ_ _ _ H _ I h=>Calls.Constant_str ⟨.str x,H,I.tok _,⟨_,rfl⟩,h⟩
def Gl (X:Cx) (x:Str):Prop:=X.env.kindOf x=some .globalImplicit
theorem Mu {E:AC->AE->Prop} {pins:List (AI×Obj)} {s:AE} {σ:St} {H:Hp} {x:Str} {u:AC} {pos:Pos} {Q:AC->AE->Prop} (I:Inv X pins σ H s) (hg:Gl X x) (hm:X.mg x=some u) (h:Q u s)
  (hd:(x==("__debug__" : Str))=false:=by decide):Af (AY X.prog X.w) X.A (CC (.Name x pos) X.env) Q E s:=
 QD I.ok.kind hg (Calls.loadGlobal_global (by rw [I.ok.glob];exact I.mod.glob.keeps I.bk) hm h) hd
theorem Lw {E:AC->AE->Prop} {pins:List (AI×Obj)} {s:AE} {σ:St} {H:Hp} {x:Str} {u:AC} {pos:Pos} {Q:AC->AE->Prop} (I:Inv X pins σ H s) (hg:Gl X x) (hm:X.mg x=none) (hv:Ec x=some u) (h:Q u s)
  (hn:x≠"__name__":=by decide) (hd:(x==("__debug__" : Str))=false:=by decide):Af (AY X.prog X.w) X.A (CC (.Name x pos) X.env) Q E s:=by
 obtain ⟨mb,h1,h2⟩:=I.mod.blt;exact QD I.ok.kind hg (Calls.loadGlobal_builtin (by rw [I.ok.glob];exact I.mod.glob.keeps I.bk) hm (by rw [I.ok.blt];exact h1.keeps I.bk) ((h2 x hn).trans hv) h) hd
theorem dI {x:Str} {v:V} {u:AC} {pos:Pos} (hg:Gl X x) (hm:X.mg x=some u) (r:RelV v u) (hd:(x==("__debug__" : Str))=false:=by decide):PE X (.Name x pos) (tC v):=
 λ_ _ _ H _ I h=>Mu I hg hm ⟨v,H,I,r,h⟩ hd
theorem Od {x:Str} {v:V} {u:AC} {pos:Pos} (hg:Gl X x) (hm:X.mg x=none) (hv:Ec x=some u) (r:RelV v u) (hn:x≠"__name__":=by decide) (hd:(x==("__debug__" : Str))=false:=by decide):PE X (.Name x pos) (tC v):=
 λ_ _ _ H _ I h=>Lw I hg hm hv ⟨v,H,I,r,h⟩ hn hd
variable {a b:Expr} {ta tb:TE} {pos:Pos}
def PC (X:Cx) (op:Sd) (a b:Expr) (t:TE):Prop:=
 ∀(pins:List (AI×Obj)) (s:AE) (σ:St) (H:Hp) (Q:VK),Inv X pins σ H s->t σ H Q ->
  Af (AY X.prog X.w) X.A (CC a X.env) (λv s₁=>Af (AY X.prog X.w) X.A (CC b X.env) (λu s₂=>Af (AY X.prog X.w) X.A (CJ op v u) (EP X pins σ Q) X.xe s₂) X.xe s₁) X.xe s
def tB (t:TE):TT:=λσ H Q=>t σ H λx H1=>∃c,x=.bl c/\Q c H1
theorem Zy {op:Sd} {t:TE} (h:PC X op a b t) (h1:Bt op b=false:=by first | exact nobehind _ (by decide) (by decide) | rfl):PE X (.Compare a [op] [b] pos) t:=λpins s σ H Q I hw=>wpAny_Compare1 (h pins s σ H Q I hw) h1
theorem Zl {op:Sd} {t:TE} (h:PC X op a b t) (h1:Bt op b=false:=by first | exact nobehind _ (by decide) (by decide) | rfl):PT X (.Compare a [op] [b] pos) (tB t):=by
 intro pins s σ H Q I hw;refine bT (thn (h pins s σ H _ I hw) λv s1 h1=>thn h1 λu s2 h2=>thn h2 λc s3 ⟨x,H1,I1,r1,q1⟩=>?_) h1;obtain ⟨d,rfl,q⟩:=q1;cases r1;exact B7 ⟨H1,I1,q⟩
theorem hX {e:Expr} {t:TE} (h:PE X e t) (he:∀whole,UX e X.env whole=(do let v <-whole;jh e.pos;jj [v] (fY v)):=by intro _;rfl):PT X e (tB t):=by
 intro pins s σ H Q I hw;refine isTrue_plain (thn (h pins s σ H _ I hw) λv s1 ⟨x,H1,I1,r1,q1⟩=>?_) (he _);obtain ⟨d,rfl,q⟩:=q1;cases r1;exact B7 ⟨H1,I1,q⟩
variable {tA tB':TT} {rest:List Expr}
def ka (t u:TT):TT:=λσ H Q=>t σ H λc H1=>if c=true then u σ H1 Q else Q false H1
def tOr (t u:TT):TT:=λσ H Q=>t σ H λc H1=>if c=true then Q true H1 else u σ H1 Q
def tNot (t:TT):TT:=λσ H Q=>t σ H λc H1=>Q (!c) H1
theorem cz (ha:PT X a tA):PW X (.BoolOp .And [a] pos) tA:=by
 intro wh pins s σ H Q I h;refine isTrue_and (thn (ha pins s σ H Q I h) λc s1 e=>?_)
 cases c with
 | true=>exact isTrue_and_nil e
 | false=>exact e
theorem hV (ha:PT X a tA):PW X (.BoolOp .Or [a] pos) tA:=by
 intro wh pins s σ H Q I h;refine isTrue_or (thn (ha pins s σ H Q I h) λc s1 e=>?_)
 cases c with
 | false=>exact isTrue_or_nil e
 | true=>exact e
theorem hW (ha:PT X a tA) (hb:PW X (.BoolOp .And (b :: rest) pos) tB'):PW X (.BoolOp .And (a :: b :: rest) pos) (ka tA tB'):=by
 intro wh pins s σ H Q I h;refine isTrue_and (thn (ha pins s σ H _ I h) λc s1 ⟨H1,I1,q1⟩=>?_)
 cases c with
 | true=>exact hb wh pins s1 σ H1 Q I1 q1
 | false=>exact ⟨H1,I1,q1⟩
theorem kh (ha:PT X a tA) (hb:PW X (.BoolOp .Or (b :: rest) pos) tB'):PW X (.BoolOp .Or (a :: b :: rest) pos) (tOr tA tB'):=by
 intro wh pins s σ H Q I h;refine isTrue_or (thn (ha pins s σ H _ I h) λc s1 ⟨H1,I1,q1⟩=>?_)
 cases c with
 | true=>exact ⟨H1,I1,q1⟩
 | false=>exact hb wh pins s1 σ H1 Q I1 q1
theorem hZ (ha:PT X a tA):PT X (.UnaryOp .Not a pos) (tNot tA):=by
 intro pins s σ H Q I h;exact isTrue_not (ha pins s σ H (λc H1=>Q (!c) H1) I h)
def kZ (ta tb:TE):TE:=λσ H Q=>ta σ H λx H1=>∃c,x=.bl c/\if c=true then tb σ H1 Q else Q (.bl false) H1
def tOrV (ta tb:TE):TE:=λσ H Q=>ta σ H λx H1=>∃c,x=.bl c/\if c=true then Q (.bl true) H1 else tb σ H1 Q
def kN (ta:TE):TE:=λσ H Q=>ta σ H λx H1=>∃c,x=.bl c/\Q (.bl (!c)) H1
theorem iM {op} {t:TE} (h:PE X a t):PE X (.BoolOp op [a] pos) t:=λpins s σ H Q I hw=>BoolOp_one (h pins s σ H Q I hw)
theorem iR (ha:PE X a ta) (hb:PE X (.BoolOp .And (b :: rest) pos) tb):PE X (.BoolOp .And (a :: b :: rest) pos) (kZ ta tb):=by
 intro pins s σ H Q I h;refine BoolOp_and (thn (ha pins s σ H _ I h) λv s1 ⟨x,H1,I1,r1,q1⟩=>?_);obtain ⟨c,rfl,q1⟩:=q1;cases r1;refine B7 ?_
 cases c with
 | true=>exact hb pins s1 σ H1 Q I1 q1
 | false=>exact ⟨.bl false,H1,I1,rfl,q1⟩
theorem km (ha:PE X a ta) (hb:PE X (.BoolOp .Or (b :: rest) pos) tb):PE X (.BoolOp .Or (a :: b :: rest) pos) (tOrV ta tb):=by
 intro pins s σ H Q I h;refine BoolOp_or (thn (ha pins s σ H _ I h) λv s1 ⟨x,H1,I1,r1,q1⟩=>?_);obtain ⟨c,rfl,q1⟩:=q1;cases r1;refine B7 ?_
 cases c with
 | false=>exact hb pins s1 σ H1 Q I1 q1
 | true=>exact ⟨.bl true,H1,I1,rfl,q1⟩
theorem iN (ha:PE X a ta):PE X (.UnaryOp .Not a pos) (kN ta):=by
 intro pins s σ H Q I h;refine UnaryOp_ (thn (ha pins s σ H _ I h) λv s1 ⟨x,H1,I1,r1,q1⟩=>?_);obtain ⟨c,rfl,q1⟩:=q1;cases r1;exact not_of (B7 ⟨.bl (!c),H1,I1,rfl,q1⟩)
def tIf (t:TT) (ta tb:TE):TE:=λσ H Q=>t σ H λc H1=>if c=true then ta σ H1 Q else tb σ H1 Q
theorem Zv {c:Expr} (hc:PT X c tA) (ha:PE X a ta) (hb:PE X b tb):PE X (.IfExp c a b pos) (tIf tA ta tb):=by
 intro pins s σ H Q I h;refine wpAny_IfExp (thn (hc pins s σ H _ I h) λd s1 ⟨H1,I1,q1⟩=>?_)
 cases d with
 | true=>exact ha pins s1 σ H1 Q I1 q1
 | false=>exact hb pins s1 σ H1 Q I1 q1
end
end L2
namespace L2
open PySem PySem.Spec PyProof.Rows
def SqL (K:AB) (H:Hp) (a:AI) (xs:List V):Prop:=
 Rd H a (.lst xs) ∨
  ∃(o:Obj) (its:Array AC) (n:Nat),K.lookup a=some o/\o.cls=.type "list"/\o.dict=none/\o.data=.seq its n/\its.size<=sizeLine/\Bh xs its.toList
def SqT (K:AB) (H:Hp) (a:AI) (xs:List V):Prop:=
 Rd H a (.tup xs) ∨
  ∃(o:Obj) (its:Array AC) (n:Nat),K.lookup a=some o/\o.cls=.type "tuple"/\o.data=.seq its n/\its.size<=sizeLine/\Bh xs its.toList
def absV:AC->Option V
 | .none=>some .non
 | .bool b=>some (.bl b)
 | .int i _=>some (.int i)
 | .str x _=>some (.str x)
 | .bytes b _=>some (.byt b)
 | .float b _=>some (.flt b)
 | .ref a=>some (.ref a)
 | .type n=>some (.ty n)
 | _=>none
theorem RelV.abs {x:V} {u:AC} (r:RelV x u):absV u=some x:=by
 cases x with
 | non=>cases r;rfl
 | bl _=>cases r;rfl
 | int _=>obtain ⟨t,rfl⟩:=r;rfl
 | str _=>obtain ⟨t,rfl⟩:=r;rfl
 | byt _=>obtain ⟨t,rfl⟩:=r;rfl
 | flt _=>obtain ⟨t,rfl⟩:=r;rfl
 | ref _=>cases r;rfl
 | ty _=>cases r;rfl
theorem RelV.inj {x y:V} {u:AC} (r:RelV x u) (q:RelV y u):x=y:=Cr (r.abs.symm.trans q.abs)
theorem Bh.inj:∀ {xs ys:List V} {us:List AC},Bh xs us->Bh ys us->xs=ys
 | _,_,_,.nil,.nil=>rfl
 | _,_,_,.cons r t,.cons r' t'=>by rw [r.inj r',Bh.inj t t']
section
variable {X:Cx} {pins:List (AI×Obj)} {σ:St} {H:Hp} {s:AE} {a:AI} {xs ys:List V}
theorem Inv.list (I:Inv X pins σ H s) (h:SqL X.K H a xs):∃its:List AC,Bh xs its/\PlainL s.heap a its.toArray/\xs.length<=sizeLine:=by
 rcases h with h | ⟨o,its,n,hk,hc,hd,hs,hz,r⟩
 ·obtain ⟨z,its,n,r,e⟩:=h.ok I.hok
  exact ⟨its,r,⟨_,n,e,rfl,rfl,rfl⟩,z⟩
 ·refine ⟨its.toList,r,⟨o,n,I.kIn a o hk,hc,hd,by simpa using hs⟩,?_⟩
  have e:=r.length;simp only [Bd] at e;omega
theorem Inv.tuple (I:Inv X pins σ H s) (h:SqT X.K H a xs):∃its:List AC,Bh xs its/\br s.heap a its.toArray/\xs.length<=sizeLine:=by
 rcases h with h | ⟨o,its,n,hk,hc,hs,hz,r⟩
 ·obtain ⟨z,its,r,p⟩:=h.ok I.hok
  exact ⟨its,r,p,z⟩
 ·refine ⟨its.toList,r,⟨o,I.kIn a o hk,hc,n,by simpa using hs⟩,?_⟩
  have e:=r.length;simp only [Bd] at e;omega
theorem Inv.list_inj (I:Inv X pins σ H s) (h:SqL X.K H a xs) (h':SqL X.K H a ys):xs=ys:=by
 obtain ⟨its,r,⟨o,n,e,_,_,d⟩,_⟩:=I.list h;obtain ⟨its',r',⟨o',n',e',_,_,d'⟩,_⟩:=I.list h';rw [e] at e';cases e';rw [d] at d'
 injection d' with d1 _
 have:its=its':=by simpa using congrArg fv d1
 subst this;exact r.inj r'
theorem Inv.tuple_inj (I:Inv X pins σ H s) (h:SqT X.K H a xs) (h':SqT X.K H a ys):xs=ys:=by
 obtain ⟨its,r,⟨o,e,_,n,d⟩,_⟩:=I.tuple h;obtain ⟨its',r',⟨o',e',_,n',d'⟩,_⟩:=I.tuple h';rw [e] at e';cases e';rw [d] at d'
 injection d' with d1 _
 have:its=its':=by simpa using congrArg fv d1
 subst this;exact r.inj r'
end
section
variable {X:Cx} {pins:List (AI×Obj)} {σ:St} {H:Hp} {s:AE} {E:AC->AE->Prop}
end
section
variable {X:Cx} {st:Cn} {rest:List Cn} {t u:TS} {e:Expr} {te:TE} {pos:Pos}
def kO:TS:=λD σ H=>D.nx σ H
def tSeq (t u:TS):TS:=λD σ H=>t { D with nx:=u D } σ H
theorem c7:PSs X [] kO:=λ_ _ σ H _ I h=>MD ⟨σ,H,I,h⟩
theorem Zn (h1:PS X st t) (h2:PSs X rest u):PSs X (st :: rest) (tSeq t u):=by
 intro pins s σ H D I h;refine jt (thn (h1 pins s σ H { D with nx:=u D } I h) λf s1 q=>?_)
 cases f with
 | next=>
  obtain ⟨σ',H',I',q⟩:=q;exact h2 pins s1 σ' H' D I' q
 | ret v=>exact q
 | brk=>exact q
 | cont=>exact q
theorem c6 (h1:PS X st t):PSs X [st] t:=by
 intro pins s σ H D I h;refine jt (thn (h1 pins s σ H D I h) λf s1 q=>?_)
 cases f with
 | next=>exact MD q
 | ret v=>exact q
 | brk=>exact q
 | cont=>exact q
theorem Inv.quiet {pins:List (AI×Obj)} {σ:St} {H:Hp} {s:AE} (I:Inv X pins σ H s):interactive X.env=false:=by simp [interactive,I.ok.kind]
def kR (te:TE):TS:=λD σ H=>te σ H λ_ H1=>D.nx σ H1
theorem c8 (he:PE X e te) (hs:Fa e none pos.line X.env=pure false:=by rfl):PS X (.Expr e pos) (kR te):=by
 intro pins s σ H D I h;exact wpAny_Expr_any (thn (he pins s σ H _ I h) λv s1 ⟨x,H1,I1,r1,q1⟩=>⟨σ,H1,I1,q1⟩) I.quiet hs
def tRet (te:TE):TS:=λD σ H=>te σ H D.rt
theorem iB (he:PE X e te):PS X (.Return (some e) pos) (tRet te):=by
 intro pins s σ H D I h;exact wpAny_Return_some (thn (he pins s σ H _ I h) λv s1 ⟨x,H1,I1,r1,q1⟩=>⟨x,σ,H1,I1,r1,q1⟩)
def tIfS (c:TT) (t u:TS):TS:=λD σ H=>c σ H λb H1=>if b=true then t D σ H1 else u D σ H1
theorem kj {c:Expr} {a b:List Cn} {tc:TT} (hc:PT X c tc) (ha:PSs X a t) (hb:PSs X b u):PS X (.If c a b pos) (tIfS tc t u):=by
 intro pins s σ H D I h;refine wpAny_If (thn (hc pins s σ H _ I h) λd s1 ⟨H1,I1,q1⟩=>?_)
 cases d with
 | true=>exact ha pins s1 σ H1 D I1 q1
 | false=>exact hb pins s1 σ H1 D I1 q1
end
abbrev TG:=V->St->Hp->(St->Hp->Prop)->Prop
abbrev TGs:=List V->St->Hp->(St->Hp->Prop)->Prop
def PG (X:Cx) (target:Expr) (t:TG):Prop:=
 ∀(pins:List (AI×Obj)) (s:AE) (σ:St) (H:Hp) (v:V) (u:AC) (Q:St->Hp->Prop),Inv X pins σ H s->RelV v u->t v σ H Q ->
  Af (AY X.prog X.w) X.A (Ua target X.env u) (λ_ s'=>∃σ' H',Inv X pins σ' H' s'/\Q σ' H') X.xe s
def PGs (X:Cx) (ts:List Expr) (t:TGs):Prop:=
 ∀(pins:List (AI×Obj)) (s:AE) (σ:St) (H:Hp) (vs:List V) (us:List AC) (Q:St->Hp->Prop),Inv X pins σ H s->Bh vs us->t vs σ H Q ->
  Af (AY X.prog X.w) X.A (assignInOrder ((Gb ts X.env).map (·.2)) us) (λ_ s'=>∃σ' H',Inv X pins σ' H' s'/\Q σ' H') X.xe s
abbrev TIp:=V->V->Hp->VK->Prop
def PIp (X:Cx) (op:P9) (t:TIp):Prop:=
 ∀(pins:List (AI×Obj)) (s:AE) (σ:St) (H:Hp) (x y:V) (v u:AC) (Q:VK),Inv X pins σ H s->RelV x v->RelV y u->t x y H Q ->
  Af (AY X.prog X.w) X.A (inplaceOp op v u) (EP X pins σ Q) X.xe s
section
variable {X:Cx} {pos:Pos}
def Wz (i:Nat):TG:=λv σ H Q=>Q (σ.set i (some v)) H
theorem dF {i:Nat} {x:Str} (hN:X.N.Nodup) (hi:X.N[i]?=some x) (hx:Loc X.env.scope x) (hf:X.fn x=true∨X.env.scope.names.lookup x=some .local:=by first | exact .inl rfl | exact .inr rfl | assumption):PG X (.Name x pos) (Wz i):=by
 intro pins s σ H v u Q I r h;exact jf (PF I hN hi hx r (λs' I'=>⟨_,H,I',h⟩) hf)
def gNil:TGs:=λvs σ H Q=>vs=[]/\Q σ H
def lZ (t:TG) (u:TGs):TGs:=λvs σ H Q=>∃v r,vs=v :: r/\t v σ H λσ' H'=>u r σ' H' Q
theorem dE:PGs X [] gNil:=by
 intro pins s σ H vs us Q I r h;obtain ⟨e,h⟩:=h;subst e;cases r;exact assignInOrder_nil ⟨σ,H,I,h⟩
theorem Zs {e:Expr} {es:List Expr} {t:TG} {u:TGs} (h1:PG X e t) (h2:PGs X es u)
  (hs:(Gb (e :: es) X.env).map (·.2)=Ua e X.env :: (Gb es X.env).map (·.2):=by rfl):PGs X (e :: es) (lZ t u):=by
 intro pins s σ H vs us Q I r h;obtain ⟨v,vr,e1,h⟩:=h;subst e1
 cases r with
 | cons r rr=>
  rw [hs];refine assignInOrder_cons (thn (h1 pins s σ H _ _ _ I r h) λ_ s1 ⟨σ1,H1,I1,q1⟩=>?_);exact h2 pins s1 σ1 H1 _ _ Q I1 rr q1
def gTup (K:AB) (n:Nat) (t:TGs):TG:=λv σ H Q=>∃a xs,v=.ref a/\SqT K H a xs/\xs.length=n/\t xs σ H Q
theorem iI {es:List Expr} {k:Nat} {t:TGs} {n:Nat} (hc:X.calm=true) (h:PGs X es t)
  (hn:(Gb es X.env).length=n:=by rfl) (hst:(Gb es X.env).findIdx? (·.1)=none:=by rfl):PG X (.Tuple es k pos) (gTup X.K n t):=by
 intro pins s σ H v u Q I r hw;obtain ⟨a,xs,e1,hq,hl,hw⟩:=hw;subst e1;cases r;obtain ⟨its,rv,ht,hz⟩:=I.tuple hq
 refine assign_Tuple_tuple (I.ok.hd hc) ht (by simp [hn,<-hl,rv.length]) hst λh' hx=>?_
 have I1:Inv X pins σ H { s with heap:=h' }:=I.kept (t':=s.toks) λb o e=>hx b o (A0 (Ae e)) e
 exact h pins _ σ H xs _ Q I1 (by simpa using rv) hw
def kY (te:TE) (g:TG):TS:=λD σ H=>te σ H λx H1=>g x σ H1 D.nx
theorem iA {i:Nat} {x:Str} {e:Expr} {te:TE} {pos':Pos} (hN:X.N.Nodup) (hi:X.N[i]?=some x) (hx:Loc X.env.scope x) (he:PE X e te) (hs:Fa e (some (.Name x pos')) pos.line X.env=pure false:=by rfl) (hf:X.fn x=true∨X.env.scope.names.lookup x=some .local:=by first | exact .inl rfl | exact .inr rfl | assumption) :
  PS X (.Assign [.Name x pos'] e pos) (kY te (Wz i)):=by
 intro pins s σ H D I h;refine wpAny_Assign_Name (thn (he pins s σ H _ I h) λv s1 ⟨y,H1,I1,r1,q1⟩=>?_) hs;exact PF I1 hN hi hx r1 (λs2 I2=>⟨_,H1,I2,q1⟩) hf
def tAug (i:Nat) (te:TE) (ti:TIp):TS:=λD σ H=>∃x,σ[i]?=some (some x)/\te σ H λy H1=>ti x y H1 λz H2=>D.nx (σ.set i (some z)) H2
theorem iE {i:Nat} {x:Str} {e:Expr} {te:TE} {op:P9} {ti:TIp} {pos':Pos} (hN:X.N.Nodup) (hi:X.N[i]?=some x) (hx:Loc X.env.scope x) (he:PE X e te) (ho:PIp X op ti) (hf:X.fn x=true∨X.env.scope.names.lookup x=some .local:=by first | exact .inl rfl | exact .inr rfl | assumption) :
  PS X (.AugAssign (.Name x pos') op e pos) (tAug i te ti):=by
 intro pins s σ H D I h;obtain ⟨v,e1,h⟩:=h;obtain ⟨m,hn,hl⟩:=I.loc
 have vis:Vis X.env.scope x:=by rcases hx with k | k;exact .inl k;exact .inr (.inl k)
 obtain ⟨u,r,l⟩:=hl i x v hi e1 vis;refine wpAny_AugAssign_Name ?_
 have go:Af (AY X.prog X.w) X.A (CC e X.env) (λw s₂=>Af (AY X.prog X.w) X.A (inplaceOp op u w) (λr s₃=>Af (AY X.prog X.w) X.A (jw X.env x r) (λ_=>SP X pins D .next) X.xe s₃) X.xe s₂) X.xe s:=by
  refine thn (he pins s σ H _ I h) λw s1 ⟨y,H1,I1,r1,q1⟩=>?_
  refine thn (ho pins s1 σ H1 v y u w _ I1 r r1 q1) λz s2 ⟨zv,H2,I2,r2,q2⟩=>?_
  exact PF I2 hN hi hx r2 (λs3 I3=>⟨_,H2,I3,q2⟩) hf
 rcases l with ⟨hk,hm⟩ | ⟨hk,c,hc,hcell⟩
 ·exact bf I.ok.kind hk hn hm go
 ·rcases hk with hk | hk
  ·exact en I.ok.kind hk hc hcell go
  ·rcases hx with k | k
   ·have:X.env.scope.names.lookup x=some .free:=hk
    rw [k] at this;cases this
   ·have:X.env.scope.names.lookup x=some .free:=hk
    rw [k] at this;cases this
def ipI (f:Int->Int->Int):TIp:=λx y H Q=>∃i j,x=.int i/\y=.int j/\Q (.int (f i j)) H
end
section
variable {X:Cx} {pos:Pos}
end
structure It where
 go:Nat->Hp->Prop
 yld:Nat->Hp->V->Hp->Prop
 stop:Nat->Hp->Prop
def M4 (X:Cx) (pins:List (AI×Obj)) (H:Hp) (b:AI):Prop:=
 H b=none/\b≠X.env.locals/\b∉X.fs/\(b∈X.ex∨X.s₀.heap.objs.size<=b)/\(∀x c,X.env.cells.lookup x=some c->c≠b)/\∀p∈X.pn++pins,p.1≠b
theorem Inv.fpOk {X:Cx} {pins:List (AI×Obj)} {σ:St} {H H':Hp} {s:AE} {b:AI} (I:Inv X pins σ H s) (hb:s.heap.objs.size<=b) (hn:H' b=none):M4 X pins H' b:=by
 refine ⟨hn,OE (Ad I.lt hb),I.nofs hb,.inr (Al I.sz hb),λx c e z=>?_,λp hp z=>?_⟩
 ·obtain ⟨v,q⟩:=I.cell x c e
  exact absurd (Ad q.lt (by rw [z];exact hb)) (EZ _)
 ·exact absurd (Ad (Ae (I.pin p hp).1) (by rw [z];exact hb)) (EZ _)
structure UK (P:An) (w:BH) (K:AB) (tg:Expr) (J:It) (fp:List AI) (it:AI) (tn:Nat->Bl->Prop):Prop where
 mem:it∈fp
 obj:∀i h,tn i h->∀b∈fp,∃o,h.get? b=some o/\∀v,o.data≠.cell v
 keep:∀i h h',tn i h->(∀b∈fp,∀o,h.get? b=some o->h'.get? b=some o)->tn i h'
 item:∀(X:Cx),X.prog=P->X.w=w->X.K=K->X.calm=true->∀(i:Nat) (pins:List (AI×Obj)) (s:AE) (σ:St) (H:Hp) (E:AC->AE->Prop),Inv X pins σ H s->(∀b∈fp,M4 X pins H b)->tn i s.heap->J.go i H ->
  Af (AY P w) X.A (Q8 (.ref it)) (λr s1=>∃u,r=some u /\
   Af (AY P w) X.A (MF tg (.ref it) u) (λ_ s2=>∃x H',Inv X pins σ H' s2/\RelV x u/\J.yld i H x H'/\tn (i+1) s2.heap/\∀b∈fp,H' b=none) E s1) E s
 done:∀(X:Cx),X.prog=P->X.w=w->X.K=K->X.calm=true->∀(i:Nat) (pins:List (AI×Obj)) (s:AE) (σ:St) (H:Hp) (E:AC->AE->Prop),Inv X pins σ H s->(∀b∈fp,M4 X pins H b)->tn i s.heap->J.stop i H ->
  Af (AY P w) X.A (Q8 (.ref it)) (λr s1=>r=none/\Inv X pins σ H s1) E s
 self:∀(A:BD) (i:Nat) (s:AE) (Q:AC->AE->Prop) (E:AC->AE->Prop),tn i s.heap->Q (.ref it) s->Af (AY P w) A (fb (.ref it)) Q E s
abbrev TI:=St->Hp->(It->Hp->Prop)->Prop
def PIE (X:Cx) (pins:List (AI×Obj)) (σ:St) (tg:Expr) (R:It->Hp->Prop) (itv:AC) (s2:AE):Prop:=
 ∃(it:AI) (fp:List AI) (tn:Nat->Bl->Prop) (J:It) (H':Hp),itv=.ref it/\Inv X pins σ H' s2/\UK X.prog X.w X.K tg J fp it tn/\tn 0 s2.heap/\(∀b∈fp,M4 X pins H' b)/\R J H'
def PI (X:Cx) (tg iter:Expr) (wi:TI):Prop:=
 ∀(pins:List (AI×Obj)) (s:AE) (σ:St) (H:Hp) (R:It->Hp->Prop),Inv X pins σ H s->wi σ H R ->
  Af (AY X.prog X.w) X.A (CC iter X.env) (λv s1=>Af (AY X.prog X.w) X.A (fb v) (PIE X pins σ tg R) X.xe s1) X.xe s
theorem Wu {M:QB} {A:BD} {E:AC->AE->Prop} {s:AE} {tg:Expr} {it:AI} {u:AC} {o:Obj} {n:String} {vs:Array AC} {Q:Unit->AE->Prop} (ho:s.heap.get? it=some o) (hc:o.cls=.type n) (hd:o.data=.fields vs)
  (hn:["enumerate", "zip", "dict_itemiterator", "dict_reverseitemiterator", "odict_iterator", "itertools.zip_longest", "itertools.pairwise"].contains n=false) (hQ:Q () s):Af M A (MF tg (.ref it) u) Q E s:=by
 unfold MF
 cases tg <;> first
  | exact AJ hQ
  | (cases u <;> first
    | exact AJ hQ
    | (refine AA (wpAny_load ho ?_)
       rw [hc,hd];show Af M A (if (["enumerate", "zip", "dict_itemiterator", "dict_reverseitemiterator", "odict_iterator", "itertools.zip_longest", "itertools.pairwise"].contains n&&vs[0]?==some (EN _))=true then _ else _) Q E s;rw [if_neg (by intro h;rw [hn,Bool.false_and] at h;cases h)]
       exact AJ hQ))
def Itl (K:AB) (a:AI):It:=
 ⟨λi H=>∃xs x,SqL K H a xs/\xs[i]?=some x,λi H x H'=>H'=H/\∀xs,SqL K H a xs->xs[i]?=some x,λi H=>∃xs,SqL K H a xs/\xs.length<=i⟩
def Itt (K:AB) (a:AI):It:=
 ⟨λi H=>∃xs x,SqT K H a xs/\xs[i]?=some x,λi H x H'=>H'=H/\∀xs,SqT K H a xs->xs[i]?=some x,λi H=>∃xs,SqT K H a xs/\xs.length<=i⟩
def Itr (lo:Int) (n:Nat):It:=⟨λi _=>i < n,λi H x H'=>H'=H/\x=.int (lo+i),λi _=>n<=i⟩
theorem Xd {P:An} {w:BH} {K:AB} {tg:Expr} (a it:AI):UK P w K tg (Itl K a) [it] it (λi h=>h.IsListIter it a i) where
 mem:=by simp
 obj:=λi h st b hb=>by
  have e:b=it:=by simpa using hb
  subst e;obtain ⟨o,e,c,d⟩:=st;exact ⟨o,e,λv z=>by rw [d] at z;cases z⟩
 keep:=λi h h' st k=>st.at λo e=>k it (by simp) o e
 item:=by
  intro X hP hw hK hc i pins s σ H E I hf st hg;subst hP hw hK;obtain ⟨xs,x,hq,hx⟩:=hg;obtain ⟨its,rv,p,hz⟩:=I.list hq;obtain ⟨u,hu,ru⟩:=rv.get hx;obtain ⟨f0,f1,f2,f3,f4,f5⟩:=hf it (by simp)
  refine wpAny_pyNext_list_item st p.isList (x:=u) (by simpa using hu) λh' st' sb=>?_
  have I1:Inv X pins σ H { s with heap:=h' }:=I.turned (t':=s.toks) (λb o hb e=>(sb.2 b hb).trans e) f0 f1 f3 f4 f5;obtain ⟨o,e,c,d⟩:=id st';exact ⟨u,rfl,Wu (s:={ s with heap:=h' }) e c d (by decide) ⟨x,H,I1,ru,⟨rfl,λys hy=>by rw [I.list_inj hy hq];exact hx⟩,st',λb hb=>(hf b hb).1⟩⟩
 done:=by
  intro X hP hw hK hc i pins s σ H E I hf st hg;subst hP hw hK;obtain ⟨xs,hq,hx⟩:=hg;obtain ⟨its,rv,p,hz⟩:=I.list hq;obtain ⟨f0,f1,f2,f3,f4,f5⟩:=hf it (by simp);have hl:=rv.length
  exact wpAny_pyNext_list_end (I.ok.hd hc) st p.isList (by simp;omega) λh' eb=>⟨rfl,I.turned (t':=s.toks) (λb o hb e=>eb b o hb e) f0 f1 f3 f4 f5⟩
 self:=λ_ _ _ _ _ st h=>wpAny_pyIter_listiter st h
theorem Uy {P:An} {w:BH} {K:AB} {tg:Expr} (a it:AI):UK P w K tg (Itt K a) [it] it (λi h=>h.IsTupleIter it a i) where
 mem:=by simp
 obj:=λi h st b hb=>by
  have e:b=it:=by simpa using hb
  subst e;obtain ⟨o,e,c,d⟩:=st;exact ⟨o,e,λv z=>by rw [d] at z;cases z⟩
 keep:=λi h h' st k=>st.at λo e=>k it (by simp) o e
 item:=by
  intro X hP hw hK hc i pins s σ H E I hf st hg;subst hP hw hK;obtain ⟨xs,x,hq,hx⟩:=hg;obtain ⟨its,rv,p,hz⟩:=I.tuple hq;obtain ⟨u,hu,ru⟩:=rv.get hx;obtain ⟨f0,f1,f2,f3,f4,f5⟩:=hf it (by simp)
  refine wpAny_pyNext_tuple_item st (show s.heap.IsTuple a its.toArray from p) (x:=u) (by simpa using hu) λh' st' sb=>?_
  have I1:Inv X pins σ H { s with heap:=h' }:=I.turned (t':=s.toks) (λb o hb e=>(sb.2 b hb).trans e) f0 f1 f3 f4 f5;obtain ⟨o,e,c,d⟩:=id st';exact ⟨u,rfl,Wu (s:={ s with heap:=h' }) e c d (by decide) ⟨x,H,I1,ru,⟨rfl,λys hy=>by rw [I.tuple_inj hy hq];exact hx⟩,st',λb hb=>(hf b hb).1⟩⟩
 done:=by
  intro X hP hw hK hc i pins s σ H E I hf st hg;subst hP hw hK;obtain ⟨xs,hq,hx⟩:=hg;obtain ⟨its,rv,p,hz⟩:=I.tuple hq;obtain ⟨f0,f1,f2,f3,f4,f5⟩:=hf it (by simp);have hl:=rv.length
  exact wpAny_pyNext_tuple_end (I.ok.hd hc) st (show s.heap.IsTuple a its.toArray from p) (by simp;omega) λh' eb=>⟨rfl,I.turned (t':=s.toks) (λb o hb e=>eb b o hb e) f0 f1 f3 f4 f5⟩
 self:=λ_ _ _ _ _ st h=>wpAny_pyIter_tupleiter st h
theorem Uz {P:An} {w:BH} {K:AB} {tg:Expr} (it:AI) (lo:Int) (n:Nat):UK P w K tg (Itr lo n) [it] it (λi h=>IsRangeIter h it (lo+(i:Nat) * 1) ((n:Int) - (i:Nat)) 1) where
 mem:=by simp
 obj:=λi h st b hb=>by
  have e:b=it:=by simpa using hb
  subst e
  exact ⟨_,st,λv z=>by
   have z':kB _=Data.cell v:=z
   cases z'⟩
 keep:=λi h h' st k=>k it (by simp) _ st
 item:=by
  intro X hP hw hK hc i pins s σ H E I hf st hg;subst hP hw hK;obtain ⟨f0,f1,f2,f3,f4,f5⟩:=hf it (by simp);have W:=Walks.range (prog:=X.prog) (w:=X.w) (I.ok.hd hc) it lo 1 n
  refine W.item i s _ _ hg st λv h' tk hv st' kk=>?_
  obtain ⟨t,rfl⟩:=hv;have I1:Inv X pins σ H { s with heap:=h',toks:=tk }:=I.turned (λb o hb e=>kk b o (by simpa using hb) e) f0 f1 f3 f4 f5;refine ⟨_,rfl,Wu (s:={ s with heap:=h',toks:=tk }) (n:="range_iterator") st' rfl rfl (by decide) ⟨.int (lo+i),H,I1,⟨t,?_⟩,⟨rfl,rfl⟩,st',λb hb=>(hf b hb).1⟩⟩;rw [Int.mul_one]
 done:=by
  intro X hP hw hK hc i pins s σ H E I hf st hg;subst hP hw hK;obtain ⟨f0,f1,f2,f3,f4,f5⟩:=hf it (by simp)
  exact wpAny_pyNext_range_end (I.ok.hd hc) st (by have:n<=i:=hg;omega) λh' eb=>⟨rfl,I.turned (t':=s.toks) (λb o hb e=>eb b o hb e) f0 f1 f3 f4 f5⟩
 self:=λ_ _ _ _ _ st h=>wpAny_pyIter_rangeiter st h
end L2
namespace L2
open PySem PySem.Spec PyProof.Rows
section
variable {X:Cx} {tg:Expr}
def lU (K:AB) (tl:TE):TI:=λσ H R=>tl σ H λx H1=>∃a,x=.ref a/\(∃xs,SqL K H1 a xs)/\R (Itl K a) H1
def iTup (K:AB) (tl:TE):TI:=λσ H R=>tl σ H λx H1=>∃a,x=.ref a/\(∃xs,SqT K H1 a xs)/\R (Itt K a) H1
theorem dD {l:Expr} {tl:TE} (hl:PE X l tl):PI X tg l (lU X.K tl):=by
 intro pins s σ H R I h
 refine thn (hl pins s σ H _ I h) λv s1 ⟨x,H1,I1,r1,q1⟩=>?_
 obtain ⟨a,e,⟨xs,hq⟩,q⟩:=q1;subst e;cases r1;obtain ⟨its,rv,p,hz⟩:=I1.list hq;refine jd p.isList ?_;refine ⟨s1.heap.objs.size,[s1.heap.objs.size],_,_,H1,rfl,I1.kept (t':=s1.toks) λb o e=>AO _ e,Xd a _,⟨_,Aq _ rfl,rfl,rfl⟩,λb hb=>?_,q⟩
 have e:b=s1.heap.objs.size:=by simpa using hb
 subst e;exact I1.fpOk (AU _) (I1.hok.fresh (AU _))
theorem iG {l:Expr} {tl:TE} (hl:PE X l tl):PI X tg l (iTup X.K tl):=by
 intro pins s σ H R I h
 refine thn (hl pins s σ H _ I h) λv s1 ⟨x,H1,I1,r1,q1⟩=>?_
 obtain ⟨a,e,⟨xs,hq⟩,q⟩:=q1;subst e;cases r1;obtain ⟨its,rv,p,hz⟩:=I1.tuple hq;refine GZ (show s1.heap.IsTuple a its.toArray from p) ?_;refine ⟨s1.heap.objs.size,[s1.heap.objs.size],_,_,H1,rfl,I1.kept (t':=s1.toks) λb o e=>AO _ e,Uy a _,⟨_,Aq _ rfl,rfl,rfl⟩,λb hb=>?_,q⟩
 have e:b=s1.heap.objs.size:=by simpa using hb
 subst e;exact I1.fpOk (AU _) (I1.hok.fresh (AU _))
theorem TY {pins:List (AI×Obj)} {σ:St} {H:Hp} {s:AE} {R:It->Hp->Prop} {E:AC->AE->Prop} {lo hi:Int} {t u v:Tok} {tk:Nat} (I:Inv X pins σ H s) (h1:-(2 ^ 62)<=lo) (h2:lo < 2 ^ 62) (h3:-(2 ^ 62)<=hi) (h4:hi < 2 ^ 62)
  (q:R (Itr lo (hi - lo).toNat) H):Af (AY X.prog X.w) X.A (fb (.ref s.heap.objs.size)) (PIE X pins σ tg R) E { s with heap:=s.heap.push { cls:=.type "range",data:=.fields #[.int lo t,.int hi u,.int 1 v] },toks:=tk }:=by
 refine wpAny_pyIter_range (IsRange.new ..) (small_one h1 h2 h3 h4) ?_
 have I1:Inv X pins σ H { s with heap:=s.heap.push { cls:=.type "range",data:=.fields #[.int lo t,.int hi u,.int 1 v] },toks:=tk }:=I.kept λb o e=>AO _ e
 refine ⟨(s.heap.push { cls:=.type "range",data:=.fields #[.int lo t,.int hi u,.int 1 v] }).objs.size,[(s.heap.push { cls:=.type "range",data:=.fields #[.int lo t,.int hi u,.int 1 v] }).objs.size],_,_,H,rfl,
  I1.kept (t':=tk) λb o e=>AO _ e,Uz _ lo (hi - lo).toNat,?_,λb hb=>?_,q⟩
 ·have e1:lo+((0:Nat):Int) * 1=lo:=by simp
  have e2:(((hi - lo).toNat:Nat):Int) - ((0:Nat):Int)=kG lo hi 1:=by rw [rangeSize_one];split <;> omega
  show IsRangeIter _ _ (lo+((0:Nat):Int) * 1) ((((hi - lo).toNat:Nat):Int) - ((0:Nat):Int)) 1;rw [e1,e2];exact Aq _ rfl
 ·have e:b=(s.heap.push { cls:=.type "range",data:=.fields #[.int lo t,.int hi u,.int 1 v] }).objs.size:=by simpa using hb
  subst e;exact I1.fpOk (AU _) (I1.hok.fresh (AU _))
def lR (ta:TA):TI:=λσ H R=>ta σ H λvs H1=>∃j:Int,vs=[.int j]/\-(2 ^ 62)<=j/\j < 2 ^ 62/\R (Itr 0 j.toNat) H1
def lQ (ta:TA):TI:=λσ H R=>ta σ H λvs H1=>∃i j:Int,vs=[.int i,.int j]/\(-(2 ^ 62)<=i/\i < 2 ^ 62/\-(2 ^ 62)<=j/\j < 2 ^ 62)/\R (Itr i (j - i).toNat) H1
theorem Xz {a:Expr} {ta:TA} {p pos:Pos} (hg:Gl X "range") (hm:X.mg "range" = none) (ha:PA X [a] ta) (hs:AZ [a] X.env=[(false,CC a X.env)]:=by rfl):PI X tg (.Call (.Name "range" p) [a] [] pos) (lR ta):=by
 intro pins s σ H R I h;refine Call_ (Lw I hg hm boot_range (D3 (thn (ha pos pins s σ H _ I h) λus s1 ⟨vs,H1,I1,r1,q1⟩=>?_) hs rfl));obtain ⟨j,e,q1,q2,q⟩:=q1;subst e
 cases r1 with
 | cons r rr=>
  cases rr;obtain ⟨t,rfl⟩:=r;exact call_range_1 (TY I1 (by omega) (by omega) q1 q2 (by simpa using q))
theorem Xy {a b:Expr} {ta:TA} {p pos:Pos} (hg:Gl X "range") (hm:X.mg "range" = none) (ha:PA X [a,b] ta) (hs:AZ [a,b] X.env=[(false,CC a X.env),(false,CC b X.env)]:=by rfl) (hs2:AZ [b] X.env=[(false,CC b X.env)]:=by rfl) :
  PI X tg (.Call (.Name "range" p) [a,b] [] pos) (lQ ta):=by
 intro pins s σ H R I h;refine Call_ (Lw I hg hm boot_range (D3 (thn (ha pos pins s σ H _ I h) λus s1 ⟨vs,H1,I1,r1,q1⟩=>?_) (by rw [hs,hs2]) (by rw [hs2];rfl)));obtain ⟨i,j,e,⟨q1,q2,q3,q4⟩,q⟩:=q1;subst e
 cases r1 with
 | cons r rr=>
  cases rr with
  | cons r' rr=>
   cases rr;obtain ⟨t,rfl⟩:=r;obtain ⟨t',rfl⟩:=r';exact call_range_2 (TY I1 q1 q2 q3 q4 q)
def tFor (wi:TI) (g:TG) (tb:TS):TS:=λD σ H=>wi σ H λJ H1=>∃W:Nat->Nat->St->Hp->Prop,(∃m,W 0 m σ H1)/\∀i m σ H,W i m σ H ->
 (J.stop i H/\D.nx σ H)∨(J.go i H/\∃N:St->Hp->Prop,(∀σ' H',N σ' H'->∃m',m' < m/\W (i+1) m' σ' H')/\∀x H',J.yld i H x H'->g x σ H' λσ2 H2=>tb { D with nx:=N,ct:=N,bk:=D.nx } σ2 H2)
def PP (fp:List AI) (h:Bl):List (AI×Obj):=fp.filterMap λb=>(h.get? b).map λo=>(b,o)
theorem Ji {fp:List AI} {h:Bl} {b:AI} {o:Obj} (hb:b∈fp) (e:h.get? b=some o):(b,o)∈PP fp h:=Ym.mpr ⟨b,hb,by rw [e];rfl⟩
theorem X3 {fp:List AI} {h:Bl} {p:AI×Obj} (hp:p∈PP fp h):p.1∈fp/\h.get? p.1=some p.2:=by
 obtain ⟨b,hb,e⟩:=Ym.mp hp
 cases q:h.get? b with
 | none=>rw [q] at e;cases e
 | some o=>
  rw [q] at e;have e':(b,o)=p:=Cr e;subst e';exact ⟨hb,q⟩
theorem Inv.pinned {pins:List (AI×Obj)} {σ:St} {H:Hp} {s:AE} {fp:List AI} (I:Inv X pins σ H s) (hf:∀b∈fp,M4 X pins H b) (ho:∀b∈fp,∃o,s.heap.get? b=some o/\∀v,o.data≠.cell v):Inv X (pins++PP fp s.heap) σ H s:=
 I.pins_of λp hp=>(BB.mp hp).elim (λz=>I.pin p (A6 _ z)) λz=>by
  obtain ⟨hb,e⟩:=X3 z;obtain ⟨f0,f1,f2,_⟩:=hf p.1 hb;obtain ⟨o,e',d⟩:=ho p.1 hb;rw [e] at e';cases e';exact ⟨e,f0,f1,f2,d⟩
theorem Inv.unpinned {pins pl:List (AI×Obj)} {σ:St} {H:Hp} {s:AE} (I:Inv X (pins++pl) σ H s):Inv X pins σ H s:=I.pins_of λp hp=>I.pin p (A6 _ (Bq _ hp))
theorem iC {iter:Expr} {body:List Cn} {wi:TI} {g:TG} {tb:TS} {pos:Pos} (hp:Yk (AY X.prog X.w) X.A X.env X.xe) (hc:X.calm=true) (hi:PI X tg iter wi) (hg:PG X tg g) (hb:PSs X body tb)
  (hs:∀x,E4 iter X.env x=pure x:=by intro _;rfl):PS X (.For tg iter body [] pos) (tFor wi g tb):=by
 intro pins s σ H D I h;refine wpAny_For (thn (hi pins s σ H _ I h) λv s1 h1=>thn h1 λitv s2 h2=>?_) hs;obtain ⟨it,fp,tn,J,H2,e,I2,T,st2,f2,W,⟨m0,w0⟩,turn⟩:=h2;subst e
 have stat:∀ {H':Hp},(∀b∈fp,H' b=none)->∀b∈fp,M4 X pins H' b:=λhn b hb=>⟨hn b hb,(f2 b hb).2⟩
 refine codeAny_forLoop_any (λn s'=>∃i σ' H',Inv X pins σ' H' s'/\tn i s'.heap/\(∀b∈fp,H' b=none)/\W i n σ' H') ?_ m0 ⟨0,σ,H2,I2,st2,λb hb=>(f2 b hb).1,w0⟩;rintro n s3 ⟨i,σ3,H3,I3,st3,fr3,w3⟩
 rcases turn i n σ3 H3 w3 with ⟨stop,qn⟩ | ⟨go,N,hN,step⟩
 ·refine Ig hp (thn (T.done X rfl rfl rfl hc i pins s3 σ3 H3 X.xe I3 (stat fr3) st3 stop) λr s4 ⟨hr,I4⟩=>?_)
  subst hr;exact MD ⟨σ3,H3,I4,qn⟩
 ·refine Ig hp (thn (T.item X rfl rfl rfl hc i pins s3 σ3 H3 X.xe I3 (stat fr3) st3 go) λr s4 ⟨u,hr,h4⟩=>?_)
  subst hr;refine Ig hp (thn h4 λ_ s5 ⟨x,H5,I5,r5,y5,st5,fr5⟩=>?_);have I5':=I5.pinned (stat fr5) (T.obj _ _ st5);refine Ig hp (thn (hg _ s5 σ3 H5 x u _ I5' r5 (step x H5 y5)) λ_ s6 ⟨σ6,H6,I6,q6⟩=>?_);refine Ig hp (thn (hb _ s6 σ6 H6 _ I6 q6) λf s7 q7=>?_)
  have jk:∀ {σ7:St} {H7:Hp},Inv X (pins++PP fp s5.heap) σ7 H7 s7->N σ7 H7->∃m,m < n/\∃i σ' H',Inv X pins σ' H' s7/\tn i s7.heap/\(∀b∈fp,H' b=none)/\W i m σ' H':=λ{σ7 H7} I7 n7=>by
   obtain ⟨m',hm,w7⟩:=hN σ7 H7 n7;refine ⟨m',hm,i+1,σ7,H7,I7.unpinned,T.keep _ _ _ st5 λb hb o e=>(I7.pin (b,o) (A6 _ (A6 _ (Ji hb e)))).1,λb hb=>?_,w7⟩;obtain ⟨o,e,d⟩:=T.obj _ _ st5 b hb;exact (I7.pin (b,o) (A6 _ (A6 _ (Ji hb e)))).2.1
  cases f with
  | next=>obtain ⟨σ7,H7,I7,n7⟩:=q7;exact jk I7 n7
  | cont=>obtain ⟨σ7,H7,I7,n7⟩:=q7;exact jk I7 n7
  | brk=>obtain ⟨σ7,H7,I7,q7⟩:=q7;exact ⟨σ7,H7,I7.unpinned,q7⟩
  | ret v=>obtain ⟨x7,σ7,H7,I7,r7,q7⟩:=q7;exact ⟨x7,σ7,H7,I7.unpinned,r7,q7⟩
end
end L2
namespace L2
open PySem PySem.Spec PyProof.Rows
abbrev R2:=V->V->Hp->VK->Prop
def OpR (X:Cx) (f:AC->AC->Sem AC) (r:R2):Prop:=
 ∀(pins:List (AI×Obj)) (s:AE) (σ:St) (H:Hp) (x y:V) (v u:AC) (Q:VK),Inv X pins σ H s->RelV x v->RelV y u->r x y H Q ->
  Af (AY X.prog X.w) X.A (f v u) (EP X pins σ Q) X.xe s
def UnR (X:Cx) (f:AC->Sem AC) (r:V->Hp->VK->Prop):Prop:=
 ∀(pins:List (AI×Obj)) (s:AE) (σ:St) (H:Hp) (x:V) (v:AC) (Q:VK),Inv X pins σ H s->RelV x v->r x H Q ->
  Af (AY X.prog X.w) X.A (f v) (EP X pins σ Q) X.xe s
def IG (X:Cx) (f:AC) (r:List V->Hp->VK->Prop):Prop:=
 ∀(pins:List (AI×Obj)) (s:AE) (σ:St) (H:Hp) (xs:List V) (us:List AC) (Q:VK),Inv X pins σ H s->Bh xs us->r xs H Q ->
  Af (AY X.prog X.w) X.A (call f us) (EP X pins σ Q) X.xe s
def TruR (X:Cx) (r:V->Hp->(Bool->Hp->Prop)->Prop):Prop:=
 ∀(pins:List (AI×Obj)) (s:AE) (σ:St) (H:Hp) (x:V) (v:AC) (Q:Bool->Hp->Prop),Inv X pins σ H s->RelV x v->r x H Q ->
  Af (AY X.prog X.w) X.A (fY v) (TP X pins σ Q) X.xe s
def tOp (r:R2) (ta tb:TE):TE:=λσ H Q=>ta σ H λx H1=>tb σ H1 λy H2=>r x y H2 Q
def tUn (r:V->Hp->VK->Prop) (ta:TE):TE:=λσ H Q=>ta σ H λx H1=>r x H1 Q
def rI (C:Int->Int->Prop) (g:Int->Int->V):R2:=λx y H Q=>∃i j,x=.int i/\y=.int j/\C i j/\Q (g i j) H
def rI0 (g:Int->Int->V):R2:=λx y H Q=>∃i j,x=.int i/\y=.int j/\Q (g i j) H
def rU (g:Int->V):V->Hp->VK->Prop:=λx H Q=>∃i,x=.int i/\Q (g i) H
section
variable {X:Cx} {a b c:Expr} {ta tb tc:TE} {pos:Pos}
theorem jU (ha:PE X a ta) (hb:PE X b tb) {pins:List (AI×Obj)} {s:AE} {σ:St} {H:Hp} {R:V->V->Hp->Prop} (I:Inv X pins σ H s)
  (h:ta σ H λx H1=>tb σ H1 λy H2=>R x y H2) {Q:AC->AE->Prop} {f:AC->AC->Sem AC}
  (hf:∀v u s2 x y H2,Inv X pins σ H2 s2->RelV x v->RelV y u->R x y H2->Af (AY X.prog X.w) X.A (f v u) Q X.xe s2) :
  Af (AY X.prog X.w) X.A (CC a X.env) (λv s₁=>Af (AY X.prog X.w) X.A (CC b X.env) (λu s₂=>Af (AY X.prog X.w) X.A (f v u) Q X.xe s₂) X.xe s₁) X.xe s:=by
 refine thn (ha pins s σ H _ I h) λv s1 ⟨x,H1,I1,r1,q1⟩=>?_
 refine thn (hb pins s1 σ H1 _ I1 q1) λu s2 ⟨y,H2,I2,r2,q2⟩=>?_
 exact hf v u s2 x y H2 I2 r1 r2 q2
theorem kn {op:P9} {r:R2} (ho:OpR X (Cb op) r) (ha:PE X a ta) (hb:PE X b tb):PE X (.BinOp a op b pos) (tOp r ta tb):=by
 intro pins s σ H Q I h;exact wpAny_BinOp (jU ha hb I h λv u s2 x y H2 I2 rx ry q=>ho pins s2 σ H2 x y v u Q I2 rx ry q)
theorem kl {op:UnaryOp} {r:V->Hp->VK->Prop} (ho:UnR X (unaryOp op) r) (ha:PE X a ta):PE X (.UnaryOp op a pos) (tUn r ta):=by
 intro pins s σ H Q I h;exact UnaryOp_ (thn (ha pins s σ H _ I h) λv s1 ⟨x,H1,I1,r1,q1⟩=>ho pins s1 σ H1 x v Q I1 r1 q1)
theorem opI {f:AC->AC->Sem AC} {C:Int->Int->Prop} {g:Int->Int->Int}
  (rule:∀(i j:Int) (t u:Tok) (s:AE) (Q:AC->AE->Prop) (E:AC->AE->Prop),C i j->Q (.int (g i j) s.toks) { s with toks:=s.toks+1 }->Af (AY X.prog X.w) X.A (f (.int i t) (.int j u)) Q E s) :
  OpR X f (rI C λi j=>.int (g i j)):=by
 intro pins s σ H x y v u Q I rx ry h;obtain ⟨i,j,rfl,rfl,hc,q⟩:=h;obtain ⟨t,rfl⟩:=rx;obtain ⟨t',rfl⟩:=ry;exact rule i j t t' s _ _ hc ⟨.int (g i j),H,I.tok _,⟨_,rfl⟩,q⟩
theorem dU {f:AC->AC->Sem AC} {g:Int->Int->Int}
  (rule:∀(i j:Int) (t u:Tok) (s:AE) (Q:AC->AE->Prop) (E:AC->AE->Prop),Q (.int (g i j) s.toks) { s with toks:=s.toks+1 }->Af (AY X.prog X.w) X.A (f (.int i t) (.int j u)) Q E s) :
  OpR X f (rI0 λi j=>.int (g i j)):=by
 intro pins s σ H x y v u Q I rx ry h;obtain ⟨i,j,rfl,rfl,q⟩:=h;obtain ⟨t,rfl⟩:=rx;obtain ⟨t',rfl⟩:=ry;exact rule i j t t' s _ _ ⟨.int (g i j),H,I.tok _,⟨_,rfl⟩,q⟩
theorem ie {f:AC->AC->Sem AC} {g:Int->Int->Bool}
  (rule:∀(i j:Int) (t u:Tok) (s:AE) (Q:AC->AE->Prop) (E:AC->AE->Prop),Q (.bool (g i j)) s->Af (AY X.prog X.w) X.A (f (.int i t) (.int j u)) Q E s) :
  OpR X f (rI0 λi j=>.bl (g i j)):=by
 intro pins s σ H x y v u Q I rx ry h;obtain ⟨i,j,rfl,rfl,q⟩:=h;obtain ⟨t,rfl⟩:=rx;obtain ⟨t',rfl⟩:=ry;exact rule i j t t' s _ _ ⟨.bl (g i j),H,I,rfl,q⟩
def em (i j:Int):Prop:=0 < j/\j < 1073741824
def ej (i j:Int):Prop:=0<=j/\j<=1000000/\i.natAbs < 2 ^ 64
theorem Ux (k:Nat):(0:Int)<=2 ^ k:=by
 rw [two_pow_cast];exact Int.natCast_nonneg _
theorem ic:OpR X (Cb .Add) (rI0 λi j=>.int (i+j)):=dU λ_ _ _ _ _ _ _ q=>add_int q
theorem iU:OpR X (Cb .Sub) (rI0 λi j=>.int (i - j)):=dU λ_ _ _ _ _ _ _ q=>sub_int q
theorem dQ:OpR X (Cb .FloorDiv) (rI em λi j=>.int (i / j)):=opI λi j _ _ _ _ _ hc q=>by
 have h1:(0:Int) < j:=hc.1;have h2:j < 1073741824:=hc.2;exact floordiv_int (by omega) (by rw [RF i (by omega)];exact q) (.inl (PyProof.noPylong_small (by omega)))
theorem iX:OpR X (Cb .Mod) (rI (λ_ j=>0 < j) λi j=>.int (i % j)):=opI λi j _ _ _ _ _ hc q=>by
 have h1:(0:Int) < j:=hc;exact mod_int' (by omega) (by rw [Int.fmod_eq_emod_of_nonneg i (by omega)];exact q)
theorem iW:OpR X (Cb .LShift) (rI ej λi j=>.int (i * 2 ^ j.toNat)):=opI λ_ _ _ _ _ _ _ hc q=>lshift_int_small hc.1 hc.2.1 hc.2.2 q
theorem iV:OpR X (Cb .RShift) (rI (λ_ j=>0<=j) λi j=>.int (i / 2 ^ j.toNat)):=opI λi j _ _ _ _ _ hc q=>
 rshift_int hc (by rw [RF i (Ux _)];exact q)
theorem iZ:OpR X (Cb .BitAnd) (rI0 λi j=>.int (Fg i j)):=dU λ_ _ _ _ _ _ _ q=>and_int q
theorem iT:OpR X (Cb .BitXor) (rI0 λi j=>.int (DN i j)):=dU λ_ _ _ _ _ _ _ q=>xor_int q
theorem unI {f:AC->Sem AC} {g:Int->Int}
  (rule:∀(i:Int) (t:Tok) (s:AE) (Q:AC->AE->Prop) (E:AC->AE->Prop),Q (.int (g i) s.toks) { s with toks:=s.toks+1 }->Af (AY X.prog X.w) X.A (f (.int i t)) Q E s) :
  UnR X f (rU λi=>.int (g i)):=by
 intro pins s σ H x v Q I rx h;obtain ⟨i,rfl,q⟩:=h;obtain ⟨t,rfl⟩:=rx;exact rule i t s _ _ ⟨.int (g i),H,I.tok _,⟨_,rfl⟩,q⟩
theorem gh:UnR X (unaryOp .USub) (rU λi=>.int (-i)):=unI λ_ _ _ _ _ q=>neg_int q
end
section
variable {X:Cx} {a b c:Expr} {ta tb tc:TE} {pos:Pos}
theorem kt:OpR X (CJ .Lt) (rI0 λi j=>.bl (decide (i < j))):=ie λ_ _ _ _ _ _ _ q=>lt_int q
theorem ku:OpR X (CJ .LtE) (rI0 λi j=>.bl (decide (i<=j))):=ie λ_ _ _ _ _ _ _ q=>le_int q
theorem kx:OpR X (CJ .GtE) (rI0 λi j=>.bl (decide (j<=i))):=ie λ_ _ _ _ _ _ _ q=>ge_int q
theorem OpR.or {f:AC->AC->Sem AC} {r r':R2} (h:OpR X f r) (h':OpR X f r'):OpR X f (λx y H Q=>r x y H Q∨r' x y H Q):=by
 intro pins s σ H x y v u Q I rx ry q
 rcases q with q | q
 ·exact h pins s σ H x y v u Q I rx ry q
 ·exact h' pins s σ H x y v u Q I rx ry q
theorem El (b:Expr) {op:Sd} (h:op≠.In:=by decide) (h2:op≠.NotIn:=by decide):Bt op b=false:=by
 have e1:(op==Sd.In)=false:=by cases op <;> first | rfl | exact absurd rfl h
 have e2:(op==Sd.NotIn)=false:=by cases op <;> first | rfl | exact absurd rfl h2
 cases b <;> simp [Bt,e1,e2]
theorem dM {op:Sd} {r:R2} (ho:OpR X (CJ op) r) (ha:PE X a ta) (hb:PE X b tb) (hm:Bt op b=false):PE X (.Compare a [op] [b] pos) (tOp r ta tb):=by
 intro pins s σ H Q I h;exact wpAny_Compare1 (jU ha hb I h λv u s2 x y H2 I2 rx ry q=>ho pins s2 σ H2 x y v u Q I2 rx ry q) hm
def fE (t:TE):TT:=λσ H Q=>t σ H λx H'=>∃k,x=.bl k/\Q k H'
theorem c0 {op:Sd} {r:R2} (ho:OpR X (CJ op) r) (ha:PE X a ta) (hb:PE X b tb) (hm:Bt op b=false):PT X (.Compare a [op] [b] pos) (fE (tOp r ta tb)):=by
 intro pins s σ H Q I h
 refine bT (thn (ha pins s σ H _ I h) λv s1 ⟨x,H1,I1,r1,q1⟩=>thn (hb pins s1 σ H1 _ I1 q1) λu s2 ⟨y,H2,I2,r2,q2⟩=>
  thn (ho pins s2 σ H2 x y v u _ I2 r1 r2 q2) λc s3 ⟨z,H3,I3,r3,k,e,q3⟩=>?_) hm
 subst e;cases r3;exact B7 ⟨H3,I3,q3⟩
def ZU (r r':R2) (ta tb tc:TE):TE:=λσ H Q=>ta σ H λx H1=>tb σ H1 λy H2=>r x y H2 λz H3=>∃k,z=.bl k /\
 (if k=true then tc σ H3 λw' H4=>r' y w' H4 Q else Q (.bl false) H3)
theorem Zm {op op':Sd} {r r':R2} (ho:OpR X (CJ op) r) (ho':OpR X (CJ op') r') (ha:PE X a ta) (hb:PE X b tb) (hc:PE X c tc)
  (hm:lastMarks [op,op'] [b,c]=false:=by with_unfolding_all rfl):PT X (.Compare a [op,op'] [b,c] pos) (fE (ZU r r' ta tb tc)):=by
 intro pins s σ H Q I h
 refine isTrue_chain (thn (ha pins s σ H _ I h) λv s1 ⟨x,H1,I1,r1,q1⟩=>test_link (thn (hb pins s1 σ H1 _ I1 q1) λu s2 ⟨y,H2,I2,r2,q2⟩=>
  thn (ho pins s2 σ H2 x y v u _ I2 r1 r2 q2) λd s3 ⟨z,H3,I3,r3,k,e,q3⟩=>?_)) hm
 subst e;cases r3;refine B7 ?_
 cases k with
 | false=>
  obtain ⟨k',e',q'⟩:=q3;cases e';exact ite_ff ⟨H3,I3,q'⟩
 | true=>
  refine ite_tt (test_last (thn (hc pins s3 σ H3 _ I3 q3) λw' s4 ⟨z',H4,I4,r4,q4⟩=>thn (ho' pins s4 σ H4 y z' u w' _ I4 r2 r4 q4) λd' s5 ⟨z2,H5,I5,r5,k2,e2,q5⟩=>?_));subst e2;cases r5;exact B7 ⟨H5,I5,q5⟩
def jW (K:AB) (x:V) (H:Hp) (k:Bool):Prop:=
 match x with
 | .non=>k=false
 | .bl b=>k=b
 | .int i=>k=(i != 0)
 | .str y=>y.length<=sizeLine/\k=((y.length:Int) != 0)
 | .byt y=>y.size<=sizeLine/\k=((y.size:Int) != 0)
 | .ref p=>(∃xs,SqL K H p xs/\k = !xs.isEmpty)∨(∃xs,SqT K H p xs/\k = !xs.isEmpty)∨∃kvs,H p=some (.dK kvs)/\k = !kvs.isEmpty
 | _=>False
theorem Vi {κ:Type} {kvs:List (κ×V)} {vs:List (κ×AC)} (r:KV kvs vs):(!vs.isEmpty) = !kvs.isEmpty:=by
 cases r <;> rfl
theorem Pj {xs:List V} {its:List AC} (r:Bh xs its):(!its.toArray.isEmpty) = !xs.isEmpty:=by
 cases r <;> simp
theorem Rt:(sizeLine:Nat) < 2 ^ 63:=by rw [bg];decide
theorem gj:TruR X (λx H Q=>∃k,jW X.K x H k/\Q k H):=by
 intro pins s σ H x v Q I rx h;obtain ⟨k,e,q⟩:=h;have hl:=Rt;have hs:sizeLine=16777216:=bg
 cases x with
 | non=>
  cases rx;have e':k=false:=e;subst e';exact truthy_none ⟨H,I,q⟩
 | bl b=>
  cases rx;have e':k=b:=e;subst e';exact B7 ⟨H,I,q⟩
 | int i=>
  obtain ⟨t,rfl⟩:=rx;have e':k=(i != 0):=e;subst e';exact PySem.P.truthy_int ⟨H,I,q⟩
 | str y=>
  obtain ⟨t,rfl⟩:=rx;obtain ⟨hy,e'⟩:y.length<=sizeLine/\k=((y.length:Int) != 0):=e;subst e';exact PySem.P.truthy_str (by omega) ⟨H,I.tok _,q⟩
 | byt y=>
  obtain ⟨t,rfl⟩:=rx;obtain ⟨hy,e'⟩:y.size<=sizeLine/\k=((y.size:Int) != 0):=e;subst e';exact PySem.W.truthy_bytes (by omega) ⟨H,I.tok _,q⟩
 | ref p=>
  cases rx
  have e':(∃xs,SqL X.K H p xs/\k = !xs.isEmpty)∨(∃xs,SqT X.K H p xs/\k = !xs.isEmpty)∨∃kvs,H p=some (.dK kvs)/\k = !kvs.isEmpty:=e
  rcases e' with ⟨xs,hx,e'⟩ | ⟨xs,hx,e'⟩ | ⟨kvs,hx,e'⟩
  ·subst e'
   obtain ⟨its,r,pl,hz⟩:=I.list hx;have hlen:=r.length;exact wpAny_truthy_list pl.isList (by simp only [Ak];omega) ⟨H,I.tok _,by rw [Pj r];exact q⟩
  ·subst e'
   obtain ⟨its,r,pl,hz⟩:=I.tuple hx;have hlen:=r.length;exact truthy_tuple pl (by simp only [Ak];omega) ⟨H,I.tok _,by rw [Pj r];exact q⟩
  ·subst e'
   obtain ⟨hz,hS,vs,r,m⟩:kvs.length<=sizeLine/\(p==Dd)=false/\∃vs,KV kvs vs/\s.heap.DictOf (D8 X.prog X.w) p vs:=I.hok p _ hx
   have hlen:kvs.length=vs.length:=EO r;exact wpAny_truthy_dict hS m (by omega) ⟨H,I.tok _,by rw [Vi r];exact q⟩
 | _=>exact (show False from e).elim
theorem Zk (ha:PE X a ta) (he:∀whole,UX a X.env whole=(do let v <-whole;jh a.pos;jj [v] (fY v))) :
  PT X a (λσ H Q=>ta σ H λx H'=>∃k,jW X.K x H' k/\Q k H'):=by
 intro pins s σ H Q I h;exact isTrue_plain (thn (ha pins s σ H _ I h) λv s1 ⟨x,H1,I1,r1,q1⟩=>gj pins s1 σ H1 x v Q I1 r1 q1) (he _)
theorem vals1 {x:V} {us:List AC} (r:Bh [x] us):∃u,us=[u]/\RelV x u:=by
 cases r with
 | cons r1 r2=>cases r2;exact ⟨_,rfl,r1⟩
theorem vals2 {x y:V} {us:List AC} (r:Bh [x,y] us):∃u w',us=[u,w']/\RelV x u/\RelV y w':=by
 cases r with
 | cons r1 r2=>
  cases r2 with
  | cons r3 r4=>cases r4;exact ⟨_,_,rfl,r1,r3⟩
theorem YW (hc:X.calm=true):IG X (.builtin "max") (λxs H Q=>∃i j,xs=[.int i,.int j]/\Q (.int (if j > i then j else i)) H):=by
 intro pins s σ H xs us Q I r h;obtain ⟨i,j,rfl,q⟩:=h;obtain ⟨u,w',rfl,⟨t,rfl⟩,⟨t',rfl⟩⟩:=vals2 r
 refine max_two_ints (I.ok.hd hc) λh' tk k=>⟨_,H,I.kept k,?_,q⟩
 by_cases hj:j > i
 ·rw [if_pos hj,if_pos hj];exact ⟨_,rfl⟩
 ·rw [if_neg hj,if_neg hj];exact ⟨_,rfl⟩
theorem YV (hc:X.calm=true):IG X (.builtin "min") (λxs H Q=>∃i j,xs=[.int i,.int j]/\Q (.int (if j < i then j else i)) H):=by
 intro pins s σ H xs us Q I r h;obtain ⟨i,j,rfl,q⟩:=h;obtain ⟨u,w',rfl,⟨t,rfl⟩,⟨t',rfl⟩⟩:=vals2 r
 refine min_two_ints (I.ok.hd hc) λh' tk k=>⟨_,H,I.kept k,?_,q⟩
 by_cases hj:j < i
 ·rw [if_pos hj,if_pos hj];exact ⟨_,rfl⟩
 ·rw [if_neg hj,if_neg hj];exact ⟨_,rfl⟩
theorem YX:IG X (.type "int") (λxs H Q=>(∃i,xs=[.int i]/\Q (.int i) H)∨∃k,xs=[.bl k]/\Q (.int (if k then 1 else 0)) H):=by
 intro pins s σ H xs us Q I r h
 rcases h with ⟨i,rfl,q⟩ | ⟨k,rfl,q⟩
 ·obtain ⟨u,rfl,t,rfl⟩:=vals1 r
  exact call_int_int ⟨.int i,H,I,⟨_,rfl⟩,q⟩
 ·obtain ⟨u,rfl,r1⟩:=vals1 r
  cases r1;exact call_int_bool ⟨.int (if k then 1 else 0),H,I.tok _,⟨_,rfl⟩,q⟩
end
end L2
namespace L2
open PySem PySem.Spec PyProof.Rows
structure Yd (h:Bl) (x dx C:AI) (mA:Str->Option AC):Prop where
 obj:h.get? x=some (DZ C dx)
 ns:h.Ns1 dx mA
 ne:dx≠x
theorem X5 {h:Bl} {dx:AI} {mA:Str->Option AC} (n:h.Ns1 dx mA):∃od,h.get? dx=some od/\∀name,Op name od=some (mA name):=by
 obtain ⟨o,es,ep,ho,hd,hk,_,hm⟩:=n;refine ⟨o,ho,λname=>?_⟩;have e:=hm name;unfold nsFind findBy at e;rw [<-Array.find?_toList] at e;unfold Op;rw [hd];dsimp only;split
 ·rename_i y q
  rw [q] at e;exact congrArg some e
 ·rename_i q
  rw [q] at e
  have a:es.toList.any (·.refKey)=false:=by
   rw [List.any_eq_false];intro y hy;obtain ⟨z,t,hkey⟩:=hk y (BN.mp hy);simp [Ny.refKey,hkey]
  have a':¬es.toList.any (·.refKey)=true:=by rw [a];exact AK
  rw [if_neg a'];exact congrArg some e
theorem Yd.look {h:Bl} {x dx C:AI} {mA:Str->Option AC} (I:Yd h x dx C mA):∃od,Ys h x (DZ C dx) C (some od)/\∀name,Op name od=some (mA name):=
 let ⟨od,ho,hl⟩:=X5 I.ns
 ⟨od,⟨I.obj,rfl,rfl,ho⟩,hl⟩
section
variable {prog:An} {w:BH} {A:BD} {E:AC->AE->Prop} {s:AE} {K:AB} {x dx C f:AI} {mA:Str->Option AC} {name:Str} {v:AC}
theorem dv {expr:Bool} {Q:AC->AE->Prop} (X:K.In s.heap) (I:Yd s.heap x dx C mA) (hg:NB K C name=true) (hh:MW K C=true)
  (ha:CV K (.ref C) name=some none) (hv:mA name=some v) (hv':XS v=true) (h:Q v { s with toks:=s.toks+1 }) :
  Af (AY prog w) A (getAttr (.ref x) name expr) Q E s:=by
 obtain ⟨od,J,hl⟩:=I.look;exact PySem.W.get_value X J (PySem.W.plainGet_of hg).1 (PySem.W.findObj_own hh ha rfl (by rw [hl,hv])) hv' h
theorem ck {ns:List Str} {Q:Unit->AE->Prop} (X:K.In s.heap) (I:Yd s.heap x dx C mA)
  (hs:CV K (.ref C) "__setattr__" = some (some (.builtin "object.__setattr__"))) (hp:WB K C=true) (ht:OC K C name=some none) (hh:MW K C=true)
  (hw:Sh mA ns) (hsz:ns.length<=sizeLine)
  (h:∀h',Yd h' x dx C (λy=>if y=name then some v else mA y)->EK dx s.heap h'->Q () { s with heap:=h',toks:=s.toks+2 }) :
  Af (AY prog w) A (setAttr (.ref x) name v) Q E s:=by
 obtain ⟨od,J,hl⟩:=I.look;refine PySem.W.set_plain X J hs (PySem.W.osa_open (s:={ s with toks:=s.toks+1 }) (r:=none) X J hp ht λb=>?_);obtain ⟨cd,hc,hd'⟩:=PySem.W.any_some hh;have hx:s.heap.get? x=some ⟨.ref C,some dx,.plain,#[]⟩:=I.obj;refine AA (AJ (AA (AA (UW hx (AA (j4 (s:={ s with toks:=s.toks+1 }) (PySem.W.looks_clsIn X hc) ?_))))));rw [hd'];refine AJ (a:=some dx) (AA (AJ (AA ?_)))
 refine wpAny_nsSet1 (s:={ s with toks:=s.toks+1 }) I.ns λh' hn2 hs2=>?_
 obtain ⟨oD,esD,epD,hoD,hdD,hcD⟩:=hn2.count (lu name v hw);refine AA (wpAny_lookBehind hoD (by rw [hdD];exact pastItsLine_dict (Al hcD (by rw [As];omega))) ?_);exact AJ (h _ ⟨(hs2.2 _ (B5 I.ne)).trans I.obj,hn2,I.ne⟩ hs2)
theorem aI {R:Result->AE->Prop} {vs:List AC} {kw:List (Str×AC)} (X:K.In s.heap) (hm:Yi K C=true)
  (hi:CV K (.ref C) "__init__" = some (some (.ref f))) (hf:Yr K (.ref f)=some (.type "function"))
  (h:Lg (AY prog w) (A.under (.builtin "type.__call__" ⟨.ref C :: vs,kw⟩)) (.call (.ref f) ⟨.ref (s.heap.objs.size+1) :: vs,kw⟩) (PySem.W.InitBack (s.heap.objs.size+1) R)
   { s with heap:=(s.heap.push CW).push (DZ C s.heap.objs.size) }) :
  Lg (AY prog w) A (.call (.ref C) ⟨vs,kw⟩) R s:=by
 obtain ⟨hh,g,d,t,os⟩:=s;exact PySem.W.make_core (PySem.W.makes_of X hm) (KM X hi) (λself=>PySem.W.bind_fn X self hf) (.inl rfl) h
end
def putF (f:Str) (v:V):List (Str×V)->List (Str×V)
 | []=>[(f,v)]
 | (g,x) :: r=>if g=f then (g,v) :: r else (g,x) :: putF f v r
theorem N4 (f g:Str) (v:V):∀fs:List (Str×V),(putF f v fs).lookup g=if g=f then some v else fs.lookup g
 | []=>by
  show HP g [(f,v)]=_
  by_cases h:g=f
  ·have hb:(g==f)=true:=beq_iff_eq.mpr h
   simp only [HP,hb,if_pos h]
  ·have hb:(g==f)=false:=beq_eq_false_iff_ne.mpr h
   simp only [HP,hb,if_neg h]
 | (k,x) :: r=>by
  have ih:=N4 f g v r;rw [show putF f v ((k,x) :: r)=(if k=f then (k,v) :: r else (k,x) :: putF f v r) from rfl]
  by_cases hk:k=f
  ·rw [if_pos hk]
   by_cases h:g=k
   ·have hb:(g==k)=true:=beq_iff_eq.mpr h
    simp only [HP,hb,if_pos (h.trans hk)]
   ·have hb:(g==k)=false:=beq_eq_false_iff_ne.mpr h
    simp only [HP,hb,if_neg (λe:g=f=>h (e.trans hk.symm))]
  ·rw [if_neg hk]
   by_cases h:g=k
   ·have hb:(g==k)=true:=beq_iff_eq.mpr h
    simp only [HP,hb,if_neg (λe:g=f=>hk (h.symm.trans e))]
   ·have hb:(g==k)=false:=beq_eq_false_iff_ne.mpr h
    simp only [HP,hb];exact ih
theorem Nb (f:Str) (v:V):∀fs:List (Str×V),f∈(putF f v fs).map (·.1)/\∀g,g∈fs.map (·.1)->g∈(putF f v fs).map (·.1)
 | []=>⟨by simp [putF],λg h=>by simp at h⟩
 | (k,x) :: r=>by
  obtain ⟨i1,i2⟩:=Nb f v r;rw [show putF f v ((k,x) :: r)=(if k=f then (k,v) :: r else (k,x) :: putF f v r) from rfl]
  by_cases hk:k=f
  ·rw [if_pos hk]
   subst hk;exact ⟨by simp,λg h=>by simpa using h⟩
  ·rw [if_neg hk]
   refine ⟨?_,λg h=>?_⟩
   ·rw [A3]
    exact Aa _ i1
   ·rw [A3] at h ⊢
    rcases Ay.mp h with e | e
    ·exact Ay.mpr (.inl e)
    ·exact Aa _ (i2 g e)
theorem N6 (f:Str) (v:V):∀fs:List (Str×V),(putF f v fs).length<=fs.length+1
 | []=>by simp [putF]
 | (k,x) :: r=>by
  have ih:=N6 f v r;rw [show putF f v ((k,x) :: r)=(if k=f then (k,v) :: r else (k,x) :: putF f v r) from rfl]
  by_cases hk:k=f
  ·rw [if_pos hk,As,As];omega
  ·rw [if_neg hk,As,As];omega
theorem Nr.some_of {v:V} {o:Option AC} (r:Nr (some v) o):∃u,o=some u/\RelV v u:=by
 cases o with
 | none=>exact (show False from r).elim
 | some u=>exact ⟨u,rfl,r⟩
theorem YE {v:V} {u:AC} (r:RelV v u):XS u=true:=by
 cases v with
 | non=>cases (show u=BQ from r);rfl
 | bl b=>cases (show u=MU b from r);rfl
 | int i=>obtain ⟨t,e⟩:=(show ∃t,u=OA i t from r);cases e;rfl
 | str x=>obtain ⟨t,e⟩:=(show ∃t,u=N9 x t from r);cases e;rfl
 | byt b=>obtain ⟨t,e⟩:=(show ∃t,u=jn b t from r);cases e;rfl
 | flt b=>obtain ⟨t,e⟩:=(show ∃t,u=Ub b t from r);cases e;rfl
 | ref a=>cases (show u=Az a from r);rfl
 | ty n=>cases (show u=Fb n from r);rfl
section
variable {P:An} {w:BH} {H H':Hp} {h h':Bl} {a C dx:AI} {fs fs':List (Str×V)}
theorem Ry (hok:HOk P w H h) (e:H a=some (.ins C dx fs)):∃mA,Yd h a dx C mA/\(∀f,Nr (fs.lookup f) (mA f))/\Sh mA (fs.map (·.1))/\fs.length<=1000/\H dx=some (.own a):=by
 obtain ⟨d,z,ne,ob,mA,n,r,q⟩:=(show Cm P w H h a (.ins C dx fs) from hok a _ e);exact ⟨mA,⟨ob,n,ne⟩,r,q,z,d⟩
end
structure Cls (K:AB) (C:AI):Prop where
 pg:NB K C UM=true
 hd:MW K C=true
 po:WB K C=true
 sa:CV K (.ref C) "__setattr__" = some (some (.builtin "object.__setattr__"))
theorem Cls.get {K:AB} {C:AI} (c:Cls K C) (f:Str):NB K C f=true:=c.pg
def IF (K:AB) (C:AI) (f:Str):Prop:=CV K (.ref C) f=some none
theorem IF.taker {K:AB} {C:AI} {f:Str} (n:IF K C f):OC K C f=some none:=by
 unfold OC;rw [show CV K (.ref C) f=some none from n];rfl
section
variable {X:Cx} {pins:List (AI×Obj)} {σ:St} {H:Hp} {s:AE} {a C dx:AI} {fs:List (Str×V)} {f:Str} {v:V} {A:BD} {E:AC->AE->Prop}
theorem Vn {b:Bool} {Q:AC->AE->Prop} (I:Inv X pins σ H s) (e:H a=some (.ins C dx fs)) (c:Cls X.K C) (n:IF X.K C f) (l:fs.lookup f=some v)
  (h:∀u s',Inv X pins σ H s'->RelV v u->Q u s'):Af (AY X.prog X.w) A (getAttr (.ref a) f b) Q E s:=by
 obtain ⟨mA,O,r,_,_,_⟩:=Ry I.hok e;obtain ⟨u,hu,ru⟩:=Nr.some_of (v:=v) (o:=mA f) (by rw [<-l];exact r f);exact dv I.kIn O (c.get f) c.hd n hu (YE ru) (h u _ (I.tok _) ru)
theorem U5 {y:V} {u:AC} {Q:Unit->AE->Prop} (I:Inv X pins σ H s) (e:H a=some (.ins C dx fs)) (c:Cls X.K C) (n:IF X.K C f) (hl:fs.length < 1000) (ry:RelV y u)
  (h:∀s',Inv X pins σ (upd H a (.ins C dx (putF f y fs))) s'->Q () s'):Af (AY X.prog X.w) A (setAttr (.ref a) f u) Q E s:=by
 obtain ⟨mA,O,r,wi,_,ho⟩:=Ry I.hok e
 have hz:(fs.map (·.1)).length<=sizeLine:=by rw [AH,bg];omega
 refine ck I.kIn O c.sa c.po n.taker c.hd wi hz λh' O' sb=>h _ ?_
 have hd:∃o,h'.get? dx=some o:=let ⟨o,_,_,e',_⟩:=O'.ns;⟨o,e'⟩
 refine I.write (x:=a) (e:=dx) (by rw [e];exact EI) (.inr ho) (λb q hb z=>(sb.2 b hb).trans z) hd ?_;refine ⟨by rw [BR O.ne];exact ho,?_,O.ne,O'.obj,_,O'.ns,λg=>?_,λg hg=>?_⟩
 ·have:=N6 f y fs;omega
 ·show Nr ((putF f y fs).lookup g) (if g=f then some u else mA g)
  rw [N4]
  by_cases q:g=f
  ·rw [if_pos q,if_pos q];exact ry
  ·rw [if_neg q,if_neg q];exact r g
 ·by_cases q:g=f
  ·rw [q];exact (Nb f y fs).1
  ·refine (Nb f y fs).2 g (wi g λz=>hg ?_)
   show (if g=f then some u else mA g)=none;rw [if_neg q];exact z
theorem Inv.made (I:Inv X pins σ H s):Inv X pins σ (upd (upd H s.heap.objs.size (.own (s.heap.objs.size+1))) (s.heap.objs.size+1) (.ins C s.heap.objs.size []))
  { s with heap:=(s.heap.push CW).push (DZ C s.heap.objs.size) }:=by
 have e1:(s.heap.push CW).get? s.heap.objs.size=some CW:=Aq s.heap rfl
 have e2:((s.heap.push CW).push (DZ C s.heap.objs.size)).get? (s.heap.objs.size+1)=some (DZ C s.heap.objs.size):=by
  have:=Aq (s.heap.push CW) (o:=DZ C s.heap.objs.size) rfl;rwa [IT] at this
 have e3:(s.heap.push CW).Ns s.heap.objs.size (λ_=>none):=⟨CW,#[],_,e1,rfl,(λe he=>absurd he (by simp)),λ_=>rfl⟩;have I1:=I.laid (a:=s.heap.objs.size) (o:=.own (s.heap.objs.size+1)) (h':=s.heap.push CW) (t':=s.toks) (λb u q=>AO _ q) (AU _) ⟨_,e1⟩;refine I1.laid (a:=s.heap.objs.size+1) (o:=.ins C s.heap.objs.size []) (t':=s.toks) (λb u q=>AO _ q) (Ug (IT _ _)) ?_;have ne:s.heap.objs.size≠s.heap.objs.size+1:=A0 (E8 _);refine ⟨by rw [BR ne,B2],C0 _,ne,e2,λ_=>none,(Bl.Ns1.of_empty e3).at λo q=>AO _ q,λ_=>EI,λy hy=>absurd rfl hy⟩
theorem eV {prog:An} {w:BH} {env:Env} {e:Expr} {f:Str} {pos:Pos} {s:AE} {Q:AC->AE->Prop} (hb:E1 e f env (CC e env)=CC e env)
  (h:Af (AY prog w) A (CC e env) (λo s₁=>Af (AY prog w) A (getAttr o f true) Q E s₁) E s):Af (AY prog w) A (CC (.Attribute e f pos) env) Q E s:=
 Attribute_any_ h (by rw [arm_eval_Attribute,hb])
end
def tFld (K:AB) (ta:TE) (f:Str):TE:=λσ H Q=>ta σ H λx H1=>∃a C dx fs v,x=.ref a/\H1 a=some (.ins C dx fs)/\Cls K C/\IF K C f/\fs.lookup f=some v/\Q v H1
def sFld (K:AB) (ta tv:TE) (f:Str):TS:=λD σ H=>tv σ H λy H1=>ta σ H1 λx H2=>∃a C dx fs,x=.ref a/\H2 a=some (.ins C dx fs)/\Cls K C/\IF K C f/\fs.length < 1000 /\
 D.nx σ (upd H2 a (.ins C dx (putF f y fs)))
section
variable {X:Cx} {o e value:Expr} {f:Str} {pos pos' tpos:Pos} {ta tv:TE}
theorem iP (he:PE X e ta) (hb:E1 e f X.env (CC e X.env)=CC e X.env):PE X (.Attribute e f pos) (tFld X.K ta f):=by
 intro pins s σ H Q I h;refine eV hb (thn (he pins s σ H _ I h) λu s1 ⟨x,H1,I1,rx,a,C,dx,fs,v,ex,ea,c,n,l,q⟩=>?_);subst ex;obtain rfl:u=Az a:=rx
 exact Vn I1 ea c n l λu' s2 I2 ru=>⟨v,H1,I2,ru,q⟩
theorem iD (ha:PE X o ta) (hv:PE X value tv) (hs:Fa value (some (.Attribute o f pos')) pos.line X.env=pure false):PS X (.Assign [.Attribute o f pos'] value pos) (sFld X.K ta tv f):=by
 intro pins s σ H D I h;refine plainObj_wpAny_Assign_Attribute (thn (hv pins s σ H _ I h) λu s1 ⟨y,H1,I1,ry,q⟩=>thn (ha pins s1 σ H1 _ I1 q) λov s2 ⟨x,H2,I2,rx,a,C,dx,fs,ex,ea,c,n,l,q2⟩=>?_) hs;subst ex;obtain rfl:ov=Az a:=rx
 exact U5 I2 ea c n l ry λs3 I3=>⟨σ,_,I3,q2⟩
end
section
variable {X:Cx} {pins:List (AI×Obj)} {σ:St} {H:Hp} {s:AE} {A:BD} {E:AC->AE->Prop} {Q:AC->AE->Prop} {c:AC} {b:Bool}
inductive M3 (K:AB) (H:Hp):V->AC->Prop where
 | non:M3 K H .non (.type "NoneType")
 | bl (x:Bool):M3 K H (.bl x) (.type "bool")
 | int (i:Int):M3 K H (.int i) (.type "int")
 | str (x:Str):M3 K H (.str x) (.type "str")
 | flt (x:UInt64):M3 K H (.flt x) (.type "float")
 | lst {a:AI} {xs:List V} (e:H a=some (.lst xs)):M3 K H (.ref a) (.type "list")
 | frz {a:AI} {o:Obj} {xs:List V} (e:H a=some (.frz o (.lst xs))):M3 K H (.ref a) (.type "list")
 | tup {a:AI} {xs:List V} (e:H a=some (.tup xs)):M3 K H (.ref a) (.type "tuple")
 | dK {a:AI} {kvs:List (Key×V)} (e:H a=some (.dK kvs)):M3 K H (.ref a) (.type "dict")
 | dT {a:AI} {kvs:List (List Key×V)} (e:H a=some (.dT kvs)):M3 K H (.ref a) (.type "dict")
 | ins {a C dx:AI} {fs:List (Str×V)} (e:H a=some (.ins C dx fs)) (cl:Cls K C) (ha:CV K (.ref C) "__class__" = some (some (.builtin "object.__class__")))
   (hn:WA K (.builtin "object.__class__") "__get__" = some (some (.builtin "getset_descriptor.__get__"))) (htk:Yh K (.builtin "object.__class__")=some true)
   (hm:LV K C (.type "object")=some true):M3 K H (.ref a) (.ref C)
theorem X9 {x:V} {u t:AC} (I:Inv X pins σ H s) (rx:RelV x u) (ty:M3 X.K H x t) (e:CU X.K t c=some b) (h:∀tk,Q (.bool b) { s with toks:=tk }) :
  Af (AY X.prog X.w) A (call (.builtin "isinstance") [u,c]) Q E s:=by
 cases ty with
 | non=>cases (show u=BQ from rx);exact B6 PySem.W.kitx_none I.kIn EI e (λz=>nomatch z) h
 | bl y=>cases (show u=MU y from rx);exact B6 PySem.W.kitx_bool I.kIn EI e (λz=>nomatch z) h
 | int i=>obtain ⟨t,q⟩:=(show ∃t,u=OA i t from rx);cases q;exact B6 PySem.W.kitx_int I.kIn EI e (λz=>nomatch z) h
 | str y=>obtain ⟨t,q⟩:=(show ∃t,u=N9 y t from rx);cases q;exact B6 PySem.W.kitx_str I.kIn EI e (λz=>nomatch z) h
 | flt y=>obtain ⟨t,q⟩:=(show ∃t,u=Ub y t from rx);cases q;exact B6 PySem.W.kitx_float I.kIn EI e (λz=>nomatch z) h
 | @lst a xs ea=>
  cases (show u=Az a from rx);obtain ⟨_,_,n,_,h1⟩:=(show Cm X.prog X.w H s.heap a (.lst xs) from I.hok a _ ea);exact B6 WC I.kIn ⟨_,h1,rfl⟩ e (λz=>nomatch z) h
 | @frz a ob xs ea=>
  cases (show u=Az a from rx);obtain ⟨_,_,_,n,_,h1⟩:=(show Cm X.prog X.w H s.heap a (.frz ob (.lst xs)) from I.hok a _ ea);exact B6 WC I.kIn ⟨_,h1,rfl⟩ e (λz=>nomatch z) h
 | @tup a xs ea=>
  cases (show u=Az a from rx);obtain ⟨_,_,_,p⟩:=(show Cm X.prog X.w H s.heap a (.tup xs) from I.hok a _ ea);obtain ⟨o,h1,h2,_⟩:=p;exact B6 PySem.W.kitx_tuple I.kIn ⟨o,h1,h2⟩ e (λz=>nomatch z) h
 | @dK a kvs ea=>
  cases (show u=Az a from rx);obtain ⟨_,_,vs,_,p⟩:=(show Cm X.prog X.w H s.heap a (.dK kvs) from I.hok a _ ea);obtain ⟨o,es,ep,h1,h2,_⟩:=p;exact B6 WD I.kIn ⟨o,h1,h2.1⟩ e (λz=>nomatch z) h
 | @dT a kvs ea=>
  cases (show u=Az a from rx);obtain ⟨_,_,xs,_,o,es,ep,h1,h2,_⟩:=(show Cm X.prog X.w H s.heap a (.dT kvs) from I.hok a _ ea);exact B6 WD I.kIn ⟨o,h1,h2.1⟩ e (λz=>nomatch z) h
 | @ins a C dx fs ea cl ha hn htk hm=>
  cases (show u=Az a from rx);obtain ⟨mA,O,_⟩:=Ry I.hok ea;obtain ⟨od,J,_⟩:=O.look;exact B6 (PySem.W.kitx_own (cl.get _) cl.hd ha hn htk hm) I.kIn J e (λz=>nomatch z) h
end
end L2
namespace L2
open PySem PySem.Spec PyProof.Rows
structure HN (k:Nat) (A:BD):Prop where
 hd:A.handled=none
 dp:A.depth+3 * k+5 < recursionLimit
 un:A.units+16 * k+200 < EC
theorem HN.mono {j k:Nat} {A:BD} (r:HN k A) (h:j<=k):HN j A:=⟨r.hd,by have:=r.dp;omega,by have:=r.un;omega⟩
theorem HN.deeper {k:Nat} {A:BD} (r:HN (k+1) A) (env:Env):HN k (A.deeper env):=
 ⟨r.hd,by have:=r.dp;show A.depth+1+3 * k+5 < _;omega,by have:=r.un;show A.units+3+16 * k+200 < _;omega⟩
theorem Vb {A:BD} {C:AI} {us:List AC} {kw:List (Str×AC)}:(A.under (.builtin "type.__call__" ⟨.ref C :: us,kw⟩)).depth=A.depth+1:=by
 first | rfl | simp [Sf,Code.weight,Code.isCreation,Code.isGuard,Code.isCaller,kC,UT,guardIds]
theorem Va {A:BD} {C:AI} {us:List AC} {kw:List (Str×AC)}:(A.under (.builtin "type.__call__" ⟨.ref C :: us,kw⟩)).units=A.units+1:=by
 first | rfl | simp [Sf,Code.cUnits,kC,UT]
theorem HN.make {k:Nat} {A:BD} (r:HN (k+1) A) (C:AI) (us:List AC) (kw:List (Str×AC)):HN k (A.under (.builtin "type.__call__" ⟨.ref C :: us,kw⟩)):=
 ⟨r.hd,by have:=r.dp;rw [Vb];omega,by have:=r.un;rw [Va];omega⟩
theorem HN.depth {k:Nat} {A:BD} (r:HN k A):A.depth < recursionLimit:=by have:=r.dp;omega
theorem HN.units {k:Nat} {A:BD} (r:HN k A):A.units+64 < EC:=by have:=r.un;omega
def tNil:TA:=λ_ H Q=>Q [] H
def kW (ta:TE) (tr:TA):TA:=λσ H Q=>ta σ H λx H1=>tr σ H1 λxs H2=>Q (x :: xs) H2
section
variable {X:Cx} {e:Expr} {es:List Expr} {te:TE} {t:TA} {pos:Pos}
theorem Hr:PA X [] tNil:=λ_ _ _ _ H Q I h=>Calls.spliced_nil ⟨[],H,I,.nil,h⟩
theorem FG (ha:PE X e te) (hr:PA X es t) (hs:AZ (e :: es) X.env=(false,CC e X.env) :: AZ es X.env:=by rfl):PA X (e :: es) (kW te t):=by
 intro pos pins s σ H Q I h;rw [hs];show Af _ _ (spliced ((false,CC e X.env) :: DM pos (AZ es X.env))) _ _ s;refine Calls.spliced_cons (thn (ha pins s σ H _ I h) λu s1 ⟨x,H1,I1,r1,q1⟩=>?_)
 exact thn (hr pos pins s1 σ H1 _ I1 q1) λus s2 ⟨xs,H2,I2,r2,q2⟩=>⟨x :: xs,H2,I2,.cons r1 r2,q2⟩
def tTup (t:TA):TE:=λσ H Q=>t σ H λxs H1=>xs.length<=sizeLine/\∀p,H1 p=none->Q (.ref p) (upd H1 p (.tup xs))
def tLst (t:TA):TE:=λσ H Q=>t σ H λxs H1=>xs.length<=sizeLine/\∀p,H1 p=none->Q (.ref p) (upd H1 p (.lst xs))
theorem iK {x1} (h:PA X es t):PE X (.Tuple es x1 pos) (tTup t):=by
 intro pins s σ H Q I hq;refine wpAny_Tuple_spliced (thn (h pos pins s σ H _ I hq) λus s1 ⟨xs,H1,I1,r,z,q⟩=>⟨by rw [<-r.length];exact z,?_⟩);have hf:H1 s1.heap.objs.size=none:=I1.hok.fresh (AU _);refine ⟨.ref s1.heap.objs.size,upd H1 s1.heap.objs.size (.tup xs),I1.laid (t':=s1.toks) (λb u e=>AO _ e) (AU _) ?_,rfl,q _ hf⟩;exact ⟨z,us,r,⟨_,Aq _ rfl,rfl,_,rfl⟩⟩
theorem iO (h:PA X es t):PE X (.List es pos) (tLst t):=by
 intro pins s σ H Q I hq;refine wpAny_List_spliced (thn (h pos pins s σ H _ I hq) λus s1 ⟨xs,H1,I1,r,z,q⟩=>⟨by rw [<-r.length];exact z,?_⟩);have hf:H1 s1.heap.objs.size=none:=I1.hok.fresh (AU _);refine ⟨.ref s1.heap.objs.size,upd H1 s1.heap.objs.size (.lst xs),I1.laid (t':=s1.toks) (λb u e=>AO _ e) (AU _) ?_,rfl,q _ hf⟩;exact ⟨z,us,0,r,Aq _ rfl⟩
end
abbrev Sp:=List V->Hp->VK->XK->Prop
abbrev CXT:=List Env->Hp->AE->XK->AC->AE->Prop
structure V7 (P:An) (w:BH) (K:AB) (mg:Str->Option AC) (base:Bl) (A:BD) (outer:List Env) (s:AE) (H:Hp):Prop where
 frames:A.frames=some outer
 mod:Mod K mg base
 bs:∀b o,base.get? b=some o->s.heap.get? b=some o/\H b=none
 bsz:base.objs.size<=s.heap.objs.size
 funs:s.heap.FunFrames base outer
 frf:∀b∈frs outer,H b=none
 hok:HOk P w H s.heap
 bare:II s.gens
def CE (outer:List Env) (P:An) (w:BH) (H:Hp) (s:AE) (Q:VK) (u:AC) (s':AE):Prop:=
 ∃v H',s'.os=s.os/\II s'.gens/\Un (frs outer) [] H H' s.heap s'.heap/\HOk P w H' s'.heap/\RelV v u/\Q v H'
def CR (CX:CXT) (outer:List Env) (P:An) (w:BH) (H:Hp) (s:AE) (Q:VK) (E:XK) (r:Result) (s':AE):Prop:=
 match r with
 | .ok (.ret u)=>CE outer P w H s Q u s'
 | .ok _=>False
 | .error e=>CX outer H s E e s'
structure Dh (P:An) (w:BH) (K:AB) (mg:Str->Option AC) (base:Bl) (CX:CXT) (k:Nat) (f:AI) (fd:DU) (ps:List Str) (sp:Sp):Prop where
 len:∀vs H Q E,sp vs H Q E->vs.length=ps.length
 run:∀(A:BD) (outer:List Env) (s:AE) (H:Hp) (args:Args) (us:List AC) (vs:List V) (Q:VK) (E:XK),HN k A->V7 P w K mg base A outer s H->UU s fd args (ps.zip us)->Bh vs us->sp vs H Q E ->
  Lg (AY P w) A (.call (.ref f) args) (CR CX outer P w H s Q E) s
theorem Dh.imp {P:An} {w:BH} {K:AB} {mg:Str->Option AC} {base:Bl} {CX:CXT} {k:Nat} {f:AI} {fd:DU} {ps:List Str} {sp sp':Sp} (F:Dh P w K mg base CX k f fd ps sp)
  (h:∀vs H Q E,sp' vs H Q E->sp vs H Q E):Dh P w K mg base CX k f fd ps sp':=
 ⟨λvs H Q E q=>F.len vs H Q E (h _ _ _ _ q),λA outer s H args us vs Q E hr he hb hv hs=>F.run A outer s H args us vs Q E hr he hb hv (h _ _ _ _ hs)⟩
theorem V7.make {P:An} {w:BH} {K:AB} {mg:Str->Option AC} {base:Bl} {A:BD} {outer:List Env} {s:AE} {H:Hp} (e:V7 P w K mg base A outer s H) (C:AI) (us:List AC) (kw:List (Str×AC)) :
  V7 P w K mg base (A.under (.builtin "type.__call__" ⟨.ref C :: us,kw⟩)) outer s H:=⟨by first | exact e.frames | (simpa [Sf,Code.envs,UT,pushEnvs] using e.frames),e.mod,e.bs,e.bsz,e.funs,e.frf,e.hok,e.bare⟩
section
variable {X:Cx} {pins:List (AI×Obj)} {σ:St} {H:Hp} {s s':AE}
theorem Inv.env0 (I:Inv X pins σ H s):V7 X.prog X.w X.K X.mg X.base X.A X.stack s H:=
 ⟨I.ok.frames,I.ok.mod,I.bs,Al I.ok.bsz I.sz,I.stack,I.stkFree,I.hok,I.bare⟩
theorem Inv.after {Q:VK} {u:AC} (I:Inv X pins σ H s) (h:CE X.stack X.prog X.w H s Q u s'):EP X pins σ Q u s':=by
 obtain ⟨v,H',os,bare,un,hok,r,q⟩:=h;obtain ⟨hh,g,d,t,os'⟩:=s';obtain rfl:os'=s.os:=os;exact ⟨v,H',I.call (h':=hh) (g':=g) (d':=d) (t':=t) (ch:=[]) un hok bare (λb z=>absurd z (by simp)),r,q⟩
end
def kX (sp:Sp) (dvs:List V) (E:St->XK) (t:TA):TE:=λσ H Q=>t σ H λvs H1=>sp (vs++dvs) H1 Q (E σ)
def kQ (C:AI) (sp:Sp) (dvs:List V) (E:St->XK) (t:TA):TE:=λσ H Q=>t σ H λvs H1=>∀x dx,H1 x=none->H1 dx=none->dx≠x ->
 sp (.ref x :: (vs++dvs)) (upd (upd H1 dx (.own x)) x (.ins C dx [])) (λv H2=>v=.non/\Q (.ref x) H2) (E σ)
def Binds (K:AB) (fd:DU) (ps:List Str) (ds:List AC):Prop:=
 ∀(s:AE) (us:List AC),K.In s.heap->(us++ds).length=ps.length->UU s fd ⟨us,[]⟩ (ps.zip (us++ds))
theorem Binds.all {K:AB} {fd:DU} {ps:List Str} (h:∀us:List AC,us.length=ps.length->bindArgs fd ⟨us,[]⟩=pure (ps.zip us)):Binds K fd ps []:=λs us _ hl=>by
 rw [A5] at hl ⊢;exact .of_eq (h us hl)
def L9 (CX:CXT) (X:Cx) (E:St->XK):Prop:=∀(pins:List (AI×Obj)) (σ:St) (H:Hp) (s:AE) (e:AC) (s':AE),Inv X pins σ H s->CX X.stack H s (E σ) e s'->X.xe e s'
section
variable {X:Cx} {CX:CXT} {k:Nat} {f C:AI} {fd:DU} {ps:List Str} {sp:Sp} {dvs:List V} {ds:List AC} {E:St->XK} {x m:Str} {p pos apos:Pos} {e o:Expr} {es:List Expr} {ta:TE} {t:TA}
theorem hJ {pins:List (AI×Obj)} {σ:St} {H:Hp} {s:AE} {Q:VK} {us:List AC} {vs:List V} (F:Dh X.prog X.w X.K X.mg X.base CX k f fd ps sp) (hr:HN k X.A) (hb:Binds X.K fd ps ds) (hd:Bh dvs ds) (hx:L9 CX X E)
  (I:Inv X pins σ H s) (r:Bh vs us) (h:sp (vs++dvs) H Q (E σ)):Af (AY X.prog X.w) X.A (call (.ref f) us) (EP X pins σ Q) X.xe s:=by
 have r2:Bh (vs++dvs) (us++ds):=r.append hd
 have hl:(us++ds).length=ps.length:=by rw [<-r2.length];exact F.len _ _ _ _ h
 refine On (Ix (F.run X.A X.stack s H ⟨us,[]⟩ (us++ds) (vs++dvs) Q (E σ) hr I.env0 (hb s us I.kIn hl) r2 h) λr s' hq=>?_)
 cases r with
 | error e=>exact hx pins σ H s e s' I hq
 | ok fl=>
  cases fl with
  | ret u=>exact I.after hq
  | next=>exact Dl hq
  | brk=>exact Dl hq
  | cont=>exact Dl hq
theorem dN (F:Dh X.prog X.w X.K X.mg X.base CX k f fd ps sp) (hr:HN k X.A) (hg:Gl X x) (hm:X.mg x=some (.ref f)) (hk:Ff X.K (.ref f)=true) (hb:Binds X.K fd ps ds) (hd:Bh dvs ds) (hx:L9 CX X E)
  (ha:PA X (e :: es) t) (hdb:(x==("__debug__" : Str))=false:=by decide) (he:AZ (e :: es) X.env=(false,CC e X.env) :: AZ es X.env:=by rfl) (hpl:(DM pos (AZ es X.env)).any (·.1)=false:=by rfl) :
  PE X (.Call (.Name x p) (e :: es) [] pos) (kX sp dvs E t):=by
 intro pins s σ H Q I h;refine Ga (Mu I hg hm ?_ hdb);refine Ud (h₀:=X.base) I.ok.mod.kin hk (thn (ha pos pins s σ H _ I h) λus s1 ⟨vs,H1,I1,r,q⟩=>⟨I1.kIn,?_⟩) he hpl;exact hJ F hr hb hd hx I1 r q
structure Mk (K:AB) (C f:AI):Prop where
 makes:Yi K C=true
 init:CV K (.ref C) "__init__" = some (some (.ref f))
 fn:PySem.W.isFn K (.ref f)=true
 kp:Ff K (.ref C)=true
theorem Zc {pins:List (AI×Obj)} {σ:St} {H:Hp} {s:AE} {Q:VK} {us:List AC} {vs:List V} (M:Mk X.K C f) (F:Dh X.prog X.w X.K X.mg X.base CX k f fd ps sp) (hr:HN (k+1) X.A) (hb:Binds X.K fd ps ds) (hd:Bh dvs ds)
  (hx:L9 CX X E) (I:Inv X pins σ H s) (r:Bh vs us)
  (h:∀x dx,H x=none->H dx=none->dx≠x->sp (.ref x :: (vs++dvs)) (upd (upd H dx (.own x)) x (.ins C dx [])) (λv H2=>v=.non/\Q (.ref x) H2) (E σ)) :
  Af (AY X.prog X.w) X.A (call (.ref C) us) (EP X pins σ Q) X.xe s:=by
 have hq:=h (s.heap.objs.size+1) s.heap.objs.size (I.hok.fresh (P0 _)) (I.hok.fresh (AU _)) (A0 (E8 _));have I2:=Inv.made (C:=C) I;have r2:Bh (V.ref (s.heap.objs.size+1) :: (vs++dvs)) (Az (s.heap.objs.size+1) :: (us++ds)):=.cons rfl (r.append hd)
 have hl:(Az (s.heap.objs.size+1) :: us++ds).length=ps.length:=by
  have e:=r2.length;rw [F.len _ _ _ _ hq] at e;exact e.symm
 refine On (aI (f:=f) I.kIn M.makes M.init (beq_iff_eq.mp M.fn) (Ix (F.run _ X.stack _ _ ⟨Az (s.heap.objs.size+1) :: us,[]⟩ (Az (s.heap.objs.size+1) :: (us++ds)) _ _ (E σ) (hr.make C us [])
  (I2.env0.make C us []) (hb _ (Az (s.heap.objs.size+1) :: us) I2.kIn hl) r2 hq) λr s' hq'=>?_))
 cases r with
 | error e=>exact hx pins σ _ _ e s' I2 hq'
 | ok fl=>
  cases fl with
  | ret u=>
   obtain ⟨v,H',I3,rv,ev,q3⟩:=I2.after hq';subst ev;exact ⟨rv,⟨V.ref (s.heap.objs.size+1),H',I3,rfl,q3⟩⟩
  | next=>exact Dl hq'
  | brk=>exact Dl hq'
  | cont=>exact Dl hq'
theorem dH (M:Mk X.K C f) (F:Dh X.prog X.w X.K X.mg X.base CX k f fd ps sp) (hr:HN (k+1) X.A) (hg:Gl X x) (hm:X.mg x=some (.ref C)) (hb:Binds X.K fd ps ds) (hd:Bh dvs ds) (hx:L9 CX X E)
  (ha:PA X (e :: es) t) (hdb:(x==("__debug__" : Str))=false:=by decide) (he:AZ (e :: es) X.env=(false,CC e X.env) :: AZ es X.env:=by rfl) (hpl:(DM pos (AZ es X.env)).any (·.1)=false:=by rfl) :
  PE X (.Call (.Name x p) (e :: es) [] pos) (kQ C sp dvs E t):=by
 intro pins s σ H Q I h;refine Ga (Mu I hg hm ?_ hdb);refine Ud (h₀:=X.base) I.ok.mod.kin M.kp (thn (ha pos pins s σ H _ I h) λus s1 ⟨vs,H1,I1,r,q⟩=>⟨I1.kIn,?_⟩) he hpl;exact Zc M F hr hb hd hx I1 r q
end
section
variable {X:Cx} {CX:CXT} {k:Nat} {f C:AI} {fd:DU} {ps ks:List Str} {sp:Sp} {E:St->XK} {x m:Str} {p pos apos kpos:Pos} {e o:Expr} {es:List Expr} {kws:List Nx} {te ta:TE} {t tk:TA} {nm:Option Str}
variable {g:List AC->List AC->List AC} {gV:List V->List V->List V}
end
structure Bp (N P:List Str) (sc:IK):Prop where
 kind:sc.kind=.function
 co:sc.isCoroutine=false
 gen:sc.isGenerator=false
 nd:N.Nodup
 pre:N.take P.length=P
 par:∀x∈P,sc.names.lookup x=some .local∨sc.names.lookup x=some .cell
 nofree:∀y∈sc.names,y.2≠.free
theorem Q2 {kindOf:Str->Option QA} {x:Str}:∀ {binds:List (Str×AC)} {m:Str->Option AC},(∀v,(x,v)∉binds)->Yf kindOf binds m x=m x
 | [],_,_=>rfl
 | (n,v) :: r,m,h=>by
  unfold Yf;rw [Q2 λw hw=>h w (Aa _ hw)];split
  ·have:x≠n:=by rintro rfl;exact h v Ax
   simp [this]
  ·rfl
theorem Q4 {kindOf:Str->Option QA} {x:Str}:∀ {binds:List (Str×AC)} {m:Str->Option AC},(∀v,(x,v)∉binds)->Yg kindOf binds m x=m x
 | [],_,_=>rfl
 | (n,v) :: r,m,h=>by
  unfold Yg;rw [Q4 λw hw=>h w (Aa _ hw)];split
  ·rfl
  ·have:x≠n:=by rintro rfl;exact h v Ax
   simp [this]
theorem Q3 {kindOf:Str->Option QA} {x:Str} {v:AC}:∀ {P:List Str} {vs:List AC} {i:Nat} {m:Str->Option AC},P.Nodup->P[i]?=some x->vs[i]?=some v->kindOf x=some .local ->
  Yf kindOf (P.zip vs) m x=some v
 | [],_,_,_,_,h,_,_=>by simp at h
 | _ :: _,[],_,_,_,_,h,_=>by simp at h
 | p :: P,w :: vs,0,m,nd,h1,h2,hk=>by
  simp at h1 h2;subst h1;subst h2;show Yf kindOf ((p,w) :: P.zip vs) m p=_;unfold Yf;rw [Q2 λv hv=>(Bw.mp nd).1 (KP hv).1,if_pos hk];simp
 | p :: P,w :: vs,i+1,m,nd,h1,h2,hk=>by
  show Yf kindOf ((p,w) :: P.zip vs) m x=_;unfold Yf;exact Q3 (i:=i) (Bw.mp nd).2 (by simpa using h1) (by simpa using h2) hk
theorem Q5 {kindOf:Str->Option QA} {x:Str} {v:AC}:∀ {P:List Str} {vs:List AC} {i:Nat} {m:Str->Option AC},P.Nodup->P[i]?=some x->vs[i]?=some v->kindOf x≠some .local ->
  Yg kindOf (P.zip vs) m x=some v
 | [],_,_,_,_,h,_,_=>by simp at h
 | _ :: _,[],_,_,_,_,h,_=>by simp at h
 | p :: P,w :: vs,0,m,nd,h1,h2,hk=>by
  simp at h1 h2;subst h1;subst h2;show Yg kindOf ((p,w) :: P.zip vs) m p=_;unfold Yg;rw [Q4 λv hv=>(Bw.mp nd).1 (KP hv).1,if_neg hk];simp
 | p :: P,w :: vs,i+1,m,nd,h1,h2,hk=>by
  show Yg kindOf ((p,w) :: P.zip vs) m x=_;unfold Yg;exact Q5 (i:=i) (Bw.mp nd).2 (by simpa using h1) (by simpa using h2) hk
def start (N:List Str) (vs:List V):St:=vs.map some++BL (N.length - vs.length) none
def SH (CX:CXT) (P:An) (w:BH) (K:AB) (mg:Str->Option AC) (base:Bl) (N:List Str) (qual:Str) (scope:IK) (f:AI) (cd:AC) (A:BD) (outer:List Env) (s:AE) (H:Hp) (E:XK):Cx where
 prog:=P
 w:=w
 K:=K
 mg:=mg
 base:=base
 A:=A.deeper (Lf qual scope s.heap.objs.size f cd)
 N:=N
 s₀:=s
 H₀:=H
 env:=Lf qual scope s.heap.objs.size f cd
 outer:=outer
 stack:=Lf qual scope s.heap.objs.size f cd :: outer
 ex:=[]
 calm:=true
 fn:=λ_=>true
 pn:=[]
 xe:=λe s'=>Af (AY P w) (A.deeper (Lf qual scope s.heap.objs.size f cd)) (leaving (Lf qual scope s.heap.objs.size f cd) e) (λ_ s''=>CX outer H s E e s'') (λe' s''=>CX outer H s E e' s'') s'
theorem UD {sc:IK} {n:Nat} {x:Str} (h:sc.names.lookup x=some .cell):∃c,(jx n sc.names []).lookup x=some c:=by
 have q:=RB sc.names n [] (.inl h);exact Iu.mp q
theorem YB {CX:CXT} {P:An} {w:BH} {K:AB} {mg:Str->Option AC} {base:Bl} {N ps:List Str} {qual:Str} {scope:IK} {f:AI} {cd:AC} {A:BD} {outer:List Env} {s s1:AE} {H:Hp} {E:XK} {us:List AC} {vs:List V}
  (S:Bp N ps scope) (hd:A.handled=none) (e0:V7 P w K mg base A outer s H) (hl:vs.length=ps.length) (r:Bh vs us)
  (x:InCallC s s.heap.objs.size (Yf (Lf qual scope s.heap.objs.size f cd).kindOf (ps.zip us) λ_=>none) (jx (s.heap.objs.size+1) scope.names []) (Yg (Lf qual scope s.heap.objs.size f cd).kindOf (ps.zip us) λ_=>none) s1) :
  Inv (SH CX P w K mg base N qual scope f cd A outer s H E) [] (start N vs) H s1:=by
 have hpl:ps.length<=N.length:=by have:=congrArg HQ S.pre;rw [DQ] at this;omega
 obtain ⟨h1,tk,rfl,hk⟩:=x.done
 have noA:∀b:AI,b∉(SH CX P w K mg base N qual scope f cd A outer s H E).ex:=λb z=>absurd (show b∈([]:List AI) from z) (by simp)
 refine ⟨⟨e0.mod,S.kind,rfl,rfl,AU _,λy z c h1 h2=>?_,λy hy=>?_,λy c _ h=>?_,λ_=>hd,BD.frames_deeper e0.frames,.inr ⟨rfl,rfl⟩,λb z=>absurd z (noA b),e0.bs,e0.bsz,λb _ _=>noA b,λb z=>absurd z (noA b),e0.funs,e0.frf⟩,
  rfl,e0.bare,Un.kept hk,⟨_,x.toInCall.ns,λi y v h1 h2 h3=>?_⟩,λy c h=>⟨_,x.cell y c h⟩,e0.hok.fresh (AU _),λy c h=>?_,λp hp=>absurd (show p∈([]:List (AI×Obj)) from hp) (by simp),e0.hok.kept hk,?_⟩
 ·exact name_of_addr x.apart (Dz h1) (Dz h2)
 ·have hy:scope.names.lookup y=some .cell∨scope.names.lookup y=some .free:=hy
  rcases hy with hy | hy
  ·exact UD hy
  ·exact absurd rfl (S.nofree _ (Dz hy))
 ·exact Uf (x.above y c (Dz h))
 ·have hi:i < vs.length:=by
   unfold start at h2
   by_cases hi:i < vs.length
   ·exact hi
   ·rw [A8 (by simpa using hi)] at h2
    rw [C2] at h2
    split at h2 <;> cases h2
  have ha:vs[i]?=some v:=by
   unfold start at h2;rw [Ah (by simpa using hi),Ap] at h2
   cases e:vs[i]? with
   | none=>rw [e] at h2;cases h2
   | some a=>rw [e] at h2;cases h2;rfl
  obtain ⟨u,hu,rv⟩:=r.get ha
  have hp:ps[i]?=some y:=by
   rw [<-S.pre,Sa (by omega)];exact h1
  have ndP:ps.Nodup:=by rw [<-S.pre];exact S.nd.sublist (Yt _ _)
  refine ⟨u,rv,?_⟩
  rcases S.par y (CT hp) with k | k
  ·exact .inl ⟨k,Q3 ndP hp hu k⟩
  ·obtain ⟨c,e⟩:=UD (n:=s.heap.objs.size+1) k
   refine .inr ⟨.inl k,c,e,?_⟩;have q:=x.cell y c e;rw [Q5 ndP hp hu (by show scope.names.lookup y≠_;rw [k];decide)] at q;exact q
 ·exact e0.hok.fresh (Uf (x.above y c (Dz h)))
 ·unfold start
  show _=N.length;rw [AW,AH,Ky];omega
theorem lb {CX:CXT} {P:An} {w:BH} {K:AB} {mg:Str->Option AC} {base:Bl} {k:Nat} {f:AI} {name qual:Str} {params:Arguments} {body:List Cn} {scope:IK} {dV kV doc pm cdv ct oc:AC} {an od:Option AI}
  {osl:Array (Option AC)} {N ps:List Str} {sp:Sp} (lk:K.lookup f=some ⟨oc,od,.func (HU name qual params body scope dV kV doc pm an cdv ct),osl⟩) (hcd:Oq K cdv qual=true) (S:Bp N ps scope)
  (len:∀vs H Q E,sp vs H Q E->vs.length=ps.length)
  (hbody:∀(A:BD) (outer:List Env) (s:AE) (H:Hp) (vs:List V) (Q:VK) (E:XK),HN k (A.deeper (Lf qual scope s.heap.objs.size f cdv))->sp vs H Q E ->
   ∃t,PSs (SH CX P w K mg base N qual scope f cdv A outer s H E) body t/\t { nx:=λ_ H'=>Q .non H',rt:=Q } (start N vs) H) :
  Dh P w K mg base CX (k+1) f (HU name qual params body scope dV kV doc pm an cdv ct) ps sp:=by
 refine ⟨len,λA outer s H args us vs Q E hr e0 hb r hsp=>?_⟩;have hl:=len _ _ _ _ hsp
 have KX:K.In s.heap:=e0.mod.kin.keeps λb o e=>(e0.bs b o e).1
 have lim:s.heap.NoLimit:=e0.mod.nolimit.keeps λb o e=>(e0.bs b o e).1
 have hkind:∀y∈ps.zip us,scope.names.lookup y.1=some .local∨(scope.names.lookup y.1=some .cell/\((jx (s.heap.objs.size+1) scope.names []).lookup y.1).isSome=true):=λ⟨n,v⟩ hy=>by
  rcases S.par n (KP hy).1 with q | q
  ·exact .inl q
  ·exact .inr ⟨q,RB _ _ _ (.inl q)⟩
 refine codeAny_call_function hr.depth (KX _ _ lk) rfl S.co S.gen rfl (PySem.W.codeRec_of KX hcd) (hb _ _ _ _ ?_)
 refine wpAny_newFunctionEnv_cells S.kind hkind λenv he s1 x=>?_
 subst he;refine ⟨lim.keeps x.toInCall.keep,codeAny_func ?_⟩;obtain ⟨t,ht,hq⟩:=hbody A outer s H vs Q E (hr.deeper _) hsp;have I:Inv (SH CX P w K mg base N qual scope f cdv A outer s H E) [] (start N vs) H s1:=YB S hr.hd e0 hl r x
 refine DK (ht [] s1 (start N vs) H _ I hq) (λfl s' hs=>?_) λe s' hs=>hs
 have fin:∀ {σ':St} {H':Hp} {v:V} {u:AC},Inv (SH CX P w K mg base N qual scope f cdv A outer s H E) [] σ' H' s'->RelV v u->Q v H'->CE outer P w H s Q u s':=
  λ{σ' H' v u} J rv q=>⟨v,H',J.os,J.bare,J.base,J.hok,rv,q⟩
 cases fl with
 | ret u=>
  obtain ⟨v,σ',H',J,rv,q⟩:=hs;exact fin J rv q
 | next=>
  obtain ⟨σ',H',J,q⟩:=hs;exact fin (v:=V.non) (u:=BQ) J rfl q
 | brk=>
  obtain ⟨_,_,_,q⟩:=hs;exact Dl q
 | cont=>
  obtain ⟨_,_,_,q⟩:=hs;exact Dl q
end L2
namespace L2
open PySem PySem.Spec PyProof.Rows
section
variable {X:Cx} {x:Str} {p pos:Pos} {e:Expr} {es:List Expr} {t:TA} {id T:String} {r:List V->Hp->VK->Prop}
def tCB (r:List V->Hp->VK->Prop) (t:TA):TE:=λσ H Q=>t σ H λvs H1=>r vs H1 Q
theorem Mj (hc:IG X (.builtin id) r) (hg:Gl X x) (hm:X.mg x=none) (hv:Ec x=some (.builtin id)) (ha:PA X (e :: es) t) (hn:x≠"__name__":=by decide) (hdb:(x==("__debug__" : Str))=false:=by decide)
  (he:AZ (e :: es) X.env=(false,CC e X.env) :: AZ es X.env:=by rfl) (hpl:(DM pos (AZ es X.env)).any (·.1)=false:=by rfl):PE X (.Call (.Name x p) (e :: es) [] pos) (tCB r t):=by
 intro pins s σ H Q I h;refine Ga (Lw I hg hm hv ?_ hn hdb);exact lv (thn (ha pos pins s σ H _ I h) λus s1 ⟨vs,H1,I1,r1,q1⟩=>hc pins s1 σ H1 vs us Q I1 r1 q1) he hpl
theorem NT (hc:IG X (.type T) r) (hg:Gl X x) (hm:X.mg x=none) (hv:Ec x=some (.type T)) (ha:PA X (e :: es) t) (hn:x≠"__name__":=by decide) (hdb:(x==("__debug__" : Str))=false:=by decide)
  (he:AZ (e :: es) X.env=(false,CC e X.env) :: AZ es X.env:=by rfl) (hpl:(DM pos (AZ es X.env)).any (·.1)=false:=by rfl):PE X (.Call (.Name x p) (e :: es) [] pos) (tCB r t):=by
 intro pins s σ H Q I h;refine Ga (Lw I hg hm hv ?_ hn hdb);exact D3 (thn (ha pos pins s σ H _ I h) λus s1 ⟨vs,H1,I1,r1,q1⟩=>hc pins s1 σ H1 vs us Q I1 r1 q1) he hpl
end
end L2
namespace HT
open PySem PyProof.Rows
section
open PySem.SeqAt
open PySem.AutoSeq1 (wpAny_loadPart')
open PySem.MeetsSeq PySem.MeetsSeq2 PySem.MeetsSeq3
end
section
variable {prog:An} {w:BH} {A:BD} {E:AC->AE->Prop} {s:AE}
theorem eO {t b:AI} {vs ws:List AC} {Q:AC->AE->Prop} (ht:br s.heap t vs.toArray) (hb:br s.heap b ws.toArray) (hv:vs≠[])
  (h1:ws=[]->Q (.ref t) s) (h2:ws≠[]->Q (.ref s.heap.objs.size) { s with heap:=s.heap.push { cls:=.type "tuple",data:=.seq (vs++ws).toArray } })
  (hsz:vs.length+ws.length<=sizeLine):Af (AY prog w) A (Cb .Add (.ref t) (.ref b)) Q E s:=by
 obtain ⟨⟨cls,dd,data,sl⟩,ho,hc,n,hd⟩:=id ht;obtain ⟨⟨cls2,dd2,data2,sl2⟩,ho2,hc2,n2,hd2⟩:=id hb;simp only at hc hd hc2 hd2;subst hc hd hc2 hd2
 have e:vs.toArray++ws.toArray=(vs++ws).toArray:=by simp
 by_cases hw:ws=[]
 ·exact Yq ⟨_,ho,rfl⟩ ⟨_,ho2,rfl⟩ Q9 XN JV Iz (Ii _ _)
   (tuple_addW1 t b vs.toArray ws.toArray n n2 dd dd2 sl sl2 (by simpa using hv) (by simp [hw])) ⟨ho,ho2,h1 hw⟩
 ·refine Yq ⟨_,ho,rfl⟩ ⟨_,ho2,rfl⟩ Q9 XN JV Iz (Ii _ _)
   (tuple_addW2 t b vs.toArray ws.toArray n n2 dd dd2 sl sl2 (by simpa using hv) (by simpa using hw) (by rw [Ak,Ak];exact hsz)) ⟨ho,ho2,?_⟩
  rw [e];exact h2 hw
def sIx (n d:Nat):Option Int->Nat
 | none=>d
 | some v=>if v < 0 then (v+(n:Int)).toNat else min v.toNat n
theorem Za (n d:Nat):sIx n d none=d:=rfl
theorem cq (n d k:Nat):sIx n d (some (k:Int))=min k n:=by
 show (if (k:Int) < 0 then ((k:Int)+(n:Int)).toNat else min (k:Int).toNat n)=min k n;rw [if_neg (by omega),CM]
theorem g9 (n d:Nat) (hd:d<=n) (o:Option Int):sIx n d o<=n:=by
 cases o with
 | none=>exact hd
 | some v=>
  show (if v < 0 then (v+(n:Int)).toNat else min v.toNat n)<=n
  by_cases hv:v < 0
  ·rw [if_pos hv];omega
  ·rw [if_neg hv];exact bo _ _
theorem XA (v:Int) (n d:Nat):(if v < 0 then max (v+(n:Int)) 0 else min v (n:Int))=((sIx n d (some v):Nat):Int):=by
 show (if v < 0 then max (v+(n:Int)) 0 else min v (n:Int))=(((if v < 0 then (v+(n:Int)).toNat else min v.toNat n):Nat):Int)
 by_cases hv:v < 0
 ·simp only [if_pos hv];omega
 ·simp only [if_neg hv];omega
theorem V4 (lo hi:Option Int) (n:Nat):HH lo hi 1 (n:Int)=(((sIx n 0 lo:Nat):Int),((sIx n n hi:Nat):Int)):=by
 have h1:¬((1:Int) < 0):=by omega
 unfold HH;simp only [h1,if_false];refine QW ?_ ?_
 ·cases lo with
  | none=>rfl
  | some v=>exact XA v n 0
 ·cases hi with
  | none=>rfl
  | some v=>exact XA v n n
theorem VH (i j:Nat):ES (i:Int) (j:Int) 1=j - i:=by
 unfold ES
 have h1:(1:Int) > 0:=by omega
 simp only [h1,if_true,Int.ediv_one]
 split <;> omega
theorem PK {v:AC} {o:Option Int} {Q:Option Int->AE->Prop} (p:NC v o) (h:Q o s):Af (AY prog w) A (kE v) Q E s:=by
 cases p with
 | none=>exact slicePart_none h
 | int i t=>exact slicePart_int h
theorem JF {sl:AI} {vl vu:AC} {lo hi:Option Int} {n:Nat} {Q:Int×Int×Nat->AE->Prop} (hs:s.heap.IsSliceOf sl vl vu .none) (pl:NC vl lo) (pu:NC vu hi)
  (h:Q (((sIx n 0 lo:Nat):Int),1,sIx n n hi - sIx n 0 lo) s):Af (AY prog w) A (MY (.ref sl) (pure (n:Int))) Q E s:=by
 obtain ⟨os,hos,hcs,hds⟩:=id hs;unfold MY kF;refine AA (AA (C8 hos hds (x:=vl) rfl (AA (C8 hos hds (x:=vu) rfl (AA (C8 hos hds (x:=.none) rfl (AJ ?_)))))));refine AA (slicePart_none ?_);show Af _ _ (if ((1:Int)==0)=true then _ else _) _ _ s;rw [if_neg (by decide)];refine AA (PK pl (AA (PK pu (AA (AJ ?_)))));show Af _ _ (match HH lo hi 1 (n:Int) with | (lo,hi)=>pure (lo,(1:Int),ES lo hi 1)) _ _ s;rw [V4 lo hi n];show Af _ _ (pure (((sIx n 0 lo:Nat):Int),(1:Int),ES ((sIx n 0 lo:Nat):Int) ((sIx n n hi:Nat):Int) 1)) _ _ s;rw [VH];exact AJ h
theorem Zq (xs:Array AC) (i k:Nat):((Cc k).filterMap λ(m:Nat)=>xs[((i:Int)+(m:Int) * 1).toNat]?).toArray=((xs.toList.drop i).take k).toArray:=by
 have e:(λ(m:Nat)=>xs[((i:Int)+(m:Int) * 1).toNat]?)=λm=>xs[i+m]?:=by
  funext m
  have:((i:Int)+(m:Int) * 1).toNat=i+m:=by omega
  rw [this]
 rw [e];have:=pick_run xs i k;rw [List.filterMap_map] at this
 have e2:((λx=>xs[x]?)∘λx=>i+x)=λm=>xs[i+m]?:=rfl
 rw [e2] at this;rw [this]
theorem Mz {t sl:AI} {items:Array AC} {vl vu:AC} {lo hi:Option Int} {Q:AC->AE->Prop} (ht:br s.heap t items) (hs:s.heap.IsSliceOf sl vl vu .none) (pl:NC vl lo) (pu:NC vu hi)
  (hw:¬(sIx items.size 0 lo=0/\sIx items.size items.size hi=items.size))
  (h:Q (.ref s.heap.objs.size) { s with heap:=s.heap.push { cls:=.type "tuple",data:=.seq ((items.toList.drop (sIx items.size 0 lo)).take (sIx items.size items.size hi - sIx items.size 0 lo)).toArray } })
  (hsz:items.size<=sizeLine):Af (AY prog w) A (KI (.ref t) (.ref sl)) Q E s:=by
 have htake:sizeOk (.seq ((items.toList.drop (sIx items.size 0 lo)).take (sIx items.size items.size hi - sIx items.size 0 lo)).toArray):=by
  show ((items.toList.drop (sIx items.size 0 lo)).take (sIx items.size items.size hi - sIx items.size 0 lo)).toArray.size<=sizeLine;rw [Ak,DQ,E6,Bd];omega
 have hj:sIx items.size items.size hi<=items.size:=g9 _ _ (AU _) hi;obtain ⟨os,hos,hcs,hds⟩:=id hs;have hTs:s.TypeIs (.ref sl) "slice":=⟨os,hos,hcs⟩;unfold KI
 try with_reducible refine DY ?_
 first | refine AA (AJ ?_) | skip
 refine AA (jc ht.typeIs (by decide) ?_)
 refine AA (Ca (name:=Gc "__getitem__") ht.typeIs B1
  (Cz B1 ht.typeIs eu ?_ (fh _ _)))
 show Af _ _ (MX (.ref t) >>= _) _ _ s;refine AA (tupleItemsOf_ ht ?_);refine AA (P4 hTs ?_);rw [if_pos (by decide)];refine AA (JF hs pl pu ?_)
 have hno:¬((((sIx items.size 0 lo:Nat):Int)==0&&(1:Int)==1&&(sIx items.size items.size hi - sIx items.size 0 lo)==items.size)=true):=by
  intro q;rw [DR,DR] at q;have q1:((sIx items.size 0 lo:Nat):Int)=0:=eq_of_beq q.1.1;have q2:sIx items.size items.size hi - sIx items.size 0 lo=items.size:=eq_of_beq q.2;exact hw ⟨by omega,by omega⟩
 show Af _ _ (if (((sIx items.size 0 lo:Nat):Int)==0&&(1:Int)==1&&(sIx items.size items.size hi - sIx items.size 0 lo)==items.size)=true then _ else _) _ _ s;rw [if_neg hno,Zq]
 first
  | exact AA (m:=Ef _) (B8 (AJ ⟨_,rfl,AJ h⟩) htake)
  | exact AA (m:=Ef _) (B8 (AA (AJ (AJ ⟨_,rfl,AJ h⟩))) htake)
  | exact AA (AA (m:=Ef _) (B8 (AJ (AJ ⟨_,rfl,AJ h⟩)) htake))
  | exact AA (AA (m:=Ef _) (B8 (AJ ⟨_,rfl,AJ h⟩) htake))
end
end HT
namespace L2
open PySem PySem.Spec PyProof.Rows
abbrev TO:=St->Hp->(Option Int->Hp->Prop)->Prop
def PO (X:Cx) (e:Option Expr) (t:TO):Prop:=
 ∀(pins:List (AI×Obj)) (s:AE) (σ:St) (H:Hp) (Q:Option Int->Hp->Prop),Inv X pins σ H s->t σ H Q ->
  Af (AY X.prog X.w) X.A (evalPart e X.env) (λu s'=>∃o H',Inv X pins σ H' s'/\NC u o/\Q o H') X.xe s
def cZ:TO:=λ_ H Q=>Q none H
def kM (t:TE):TO:=λσ H Q=>t σ H λx H1=>∃i,x=.int i/\Q (some i) H1
theorem intsAre_of {ns:List Int}:∀ {us:List AC},Bh (ns.map V.int) us->Fc us ns:=by
 induction ns with
 | nil=>intro us r;rw [Nu] at r;cases r;exact .nil
 | cons n ns ih=>
  intro us r;rw [A3] at r
  cases r with
  | cons r1 r2=>
   obtain ⟨t,e⟩:=r1;subst e;exact .cons n t (ih r2)
section
variable {κ:Type} [DecidableEq κ]
def KZ (kvs:List (κ×V)) (k:κ):Option V:=(kvs.find? λkv=>decide (kv.1=k)).map (·.2)
def J8 (kvs:List (κ×V)) (k:κ) (v:V):List (κ×V):=
 if (kvs.any λkv=>decide (kv.1=k))=true then kvs.map (λkv=>if kv.1=k then (kv.1,v) else kv) else kvs++[(k,v)]
theorem O6 {p:κ×V} {r:List (κ×V)} {k:κ} (e:p.1=k):KZ (p :: r) k=some p.2:=by simp [KZ,Bx,e]
theorem O7 {p:κ×V} {r:List (κ×V)} {k:κ} (e:¬p.1=k):KZ (p :: r) k=KZ r k:=by simp [KZ,Bx,e]
theorem Sx (k:κ):∀kvs:List (κ×V),(kvs.any λkv=>decide (kv.1=k))=(KZ kvs k).isSome
 | []=>rfl
 | p :: r=>by
  rw [HG]
  by_cases e:p.1=k
  ·simp only [O6 e,decide_eq_true e,Bool.true_or,Option.isSome_some]
  ·rw [O7 e,decide_eq_false e,fu];exact Sx k r
theorem N5 (kvs:List (κ×V)) (k:κ) (v:V):(J8 kvs k v).length<=kvs.length+1:=by
 unfold J8;split
 ·rw [AH];omega
 ·rw [AW,As,KS];omega
theorem Nr.isSome_eq {o:Option V} {u:Option AC} (r:Nr o u):o.isSome=u.isSome:=by
 cases o with
 | none=>cases u with
  | none=>rfl
  | some _=>exact (show False from r).elim
 | some _=>cases u with
  | none=>exact (show False from r).elim
  | some _=>rfl
theorem KV.val {kvs:List (κ×V)} {vs:List (κ×AC)} (r:KV kvs vs) (k:κ):Nr (KZ kvs k) (P6 vs k):=by
 unfold KV at r
 induction r with
 | nil=>exact EI
 | @cons p q ps qs h t ih=>
  obtain ⟨h1,h2⟩:=h
  by_cases e:p.1=k
  ·have e':q.1=k:=h1.symm.trans e
   have b:P6 (q :: qs) k=some q.2:=by simp [P6,Bx,e']
   rw [O6 e,b];exact h2
  ·have e':¬q.1=k:=λz=>e (h1.trans z)
   have b:P6 (q :: qs) k=P6 qs k:=by simp [P6,Bx,e']
   rw [O7 e,b];exact ih
theorem KV.any {kvs:List (κ×V)} {vs:List (κ×AC)} (r:KV kvs vs) (k:κ):(kvs.any λkv=>decide (kv.1=k))=vs.any λkv=>decide (kv.1=k):=by
 unfold KV at r
 induction r with
 | nil=>rfl
 | cons h t ih=>rw [HG,HG,ih,h.1]
theorem KV.repl {kvs:List (κ×V)} {vs:List (κ×AC)} (r:KV kvs vs) (k:κ) {y:V} {u:AC} (ry:RelV y u) :
  KV (kvs.map λkv=>if kv.1=k then (kv.1,y) else kv) (vs.map λkv=>if kv.1=k then (kv.1,u) else kv):=by
 unfold KV at r ⊢
 induction r with
 | nil=>exact .nil
 | @cons p q ps qs h t ih=>
  rw [A3,A3];refine .cons ?_ ih;obtain ⟨h1,h2⟩:=h
  by_cases e:p.1=k
  ·rw [if_pos e,if_pos (h1.symm.trans e)];exact ⟨h1,ry⟩
  ·rw [if_neg e,if_neg (λz=>e (h1.trans z))];exact ⟨h1,h2⟩
theorem KV.put {kvs:List (κ×V)} {vs:List (κ×AC)} (r:KV kvs vs) (k:κ) {y:V} {u:AC} (ry:RelV y u):KV (J8 kvs k y) (stored vs k u):=by
 unfold J8 stored;rw [r.any k]
 by_cases e:(vs.any λkv=>decide (kv.1=k))=true
 ·rw [if_pos e,if_pos e];exact r.repl k ry
 ·rw [if_neg e,if_neg e];exact UQ r ⟨rfl,ry⟩
theorem KV.length {kvs:List (κ×V)} {vs:List (κ×AC)} (r:KV kvs vs):kvs.length=vs.length:=EO r
end
theorem Tz {P:An} {w:BH} {k:Key} {u:AC} (r:RelV (kV k) u):(D8 P w).is k u=true:=by
 cases k with
 | inl i=>obtain ⟨t,e⟩:=(show ∃t,u=OA i t from r);subst e;exact Tn P w i t
 | inr x=>obtain ⟨t,e⟩:=(show ∃t,u=N9 x t from r);subst e;exact Tl P w x t
theorem Qv {P:An} {w:BH}:∀ {ks:List Key} {us:List AC},Bh (ks.map kV) us->ItemsAre (D8 P w) ks us
 | [],_,r=>by rw [Nu] at r;cases r;exact .nil
 | k :: ks,_,r=>by
  rw [A3] at r
  cases r with
  | cons h t=>exact .cons (Tz h) (Qv t)
abbrev KT (H:Hp):List (List Key×V)->List (List Key×AI×AC)->Prop:=HF λp q=>p.1=q.1/\H q.2.1=some (.tup (p.1.map kV))/\RelV p.2 q.2.2
theorem KT.val {H:Hp} {kvs:List (List Key×V)} {xs:List (List Key×AI×AC)} (r:KT H kvs xs) (k:List Key):Nr (KZ kvs k) ((UZ xs k).map (·.2)):=by
 induction r with
 | nil=>exact EI
 | @cons p q ps qs h t ih=>
  obtain ⟨h1,_,h2⟩:=h
  by_cases e:p.1=k
  ·have e':q.1=k:=h1.symm.trans e
   have b:UZ (q :: qs) k=some q.2:=by simp [UZ,Bx,e']
   rw [O6 e,b];exact h2
  ·have e':¬q.1=k:=λz=>e (h1.trans z)
   have b:UZ (q :: qs) k=UZ qs k:=by simp [UZ,Bx,e']
   rw [O7 e,b];exact ih
theorem KT.repl {H:Hp} {kvs:List (List Key×V)} {xs:List (List Key×AI×AC)} (r:KT H kvs xs) (k:List Key) {y:V} {u:AC} (ry:RelV y u) :
  KT H (kvs.map λkv=>if kv.1=k then (kv.1,y) else kv) (xs.map (putAt k u)):=by
 induction r with
 | nil=>exact .nil
 | @cons p q ps qs h t ih=>
  rw [A3,A3];refine .cons ?_ ih;obtain ⟨h1,h2,h3⟩:=h;unfold putAt
  by_cases e:p.1=k
  ·rw [if_pos e,if_pos (h1.symm.trans e)];exact ⟨h1,h2,ry⟩
  ·rw [if_neg e,if_neg (λz=>e (h1.trans z))];exact ⟨h1,h2,h3⟩
theorem KT.put {H:Hp} {kvs:List (List Key×V)} {xs:List (List Key×AI×AC)} (r:KT H kvs xs) (k:List Key) {b:AI} {y:V} {u:AC} (hb:H b=some (.tup (k.map kV))) (ry:RelV y u) :
  KT H (J8 kvs k y) (storedH xs k b u):=by
 have e:(kvs.any λkv=>decide (kv.1=k))=(UZ xs k).isSome:=by
  rw [Sx,(r.val k).isSome_eq,GN]
 unfold J8 storedH;rw [e]
 by_cases q:(UZ xs k).isSome=true
 ·rw [if_pos q,if_pos q];exact r.repl k ry
 ·rw [if_neg q,if_neg q];exact UQ r ⟨rfl,hb,ry⟩
theorem KT.keeps {H H':Hp} {kvs:List (List Key×V)} {xs:List (List Key×AI×AC)} (r:KT H kvs xs) (ht:∀b ys,H b=some (.tup ys)->H' b=some (.tup ys)):KT H' kvs xs:=
 HF.mapP r λ_ _ z=>⟨z.1,ht _ _ z.2.1,z.2.2⟩
variable {X:Cx} {e:Expr} {te:TE} {lo hi:Option Expr} {tl th:TO} {pos p2:Pos}
theorem dC:PO X none cZ:=by
 intro pins s σ H Q I h;rw [evalPart_none];exact AJ ⟨none,H,I,.none,h⟩
theorem dB (h:PE X e te):PO X (some e) (kM te):=by
 intro pins s σ H Q I hw;rw [evalPart_some]
 refine thn (h pins s σ H _ I hw) λu s1 ⟨x,H1,I1,r1,q1⟩=>?_
 obtain ⟨i,rfl,q⟩:=q1;obtain ⟨t,rfl⟩:=r1;exact ⟨some i,H1,I1,.int i t,q⟩
def SlR (X:Cx) (r:V->Option Int->Option Int->Hp->VK->Prop):Prop:=
 ∀(pins:List (AI×Obj)) (s:AE) (σ:St) (H:Hp) (x:V) (v vl vu:AC) (lo hi:Option Int) (sl:AI) (Q:VK),Inv X pins σ H s->RelV x v->s.heap.IsSliceOf sl vl vu .none->NC vl lo->NC vu hi->r x lo hi H Q ->
  ∃T id,fX (.type T) "__getitem__" = pure (some (.builtin id))/\s.TypeIs v T/\Af (AY X.prog X.w) X.A (KI v (.ref sl)) (EP X pins σ Q) X.xe s
theorem SlR.or {r r':V->Option Int->Option Int->Hp->VK->Prop} (h:SlR X r) (h':SlR X r'):SlR X (λx lo hi H Q=>r x lo hi H Q∨r' x lo hi H Q):=by
 intro pins s σ H x v vl vu lo hi sl Q I rx hs pl pu q
 rcases q with q | q
 ·exact h pins s σ H x v vl vu lo hi sl Q I rx hs pl pu q
 ·exact h' pins s σ H x v vl vu lo hi sl Q I rx hs pl pu q
def tSl (r:V->Option Int->Option Int->Hp->VK->Prop) (te:TE) (tl th:TO):TE:=λσ H Q=>te σ H λx H1=>tl σ H1 λl H2=>th σ H2 λu H3=>r x l u H3 Q
theorem Zt {r:V->Option Int->Option Int->Hp->VK->Prop} (hr:SlR X r) (he:PE X e te) (hl:PO X lo tl) (hu:PO X hi th):PE X (.Subscript e (.Slice lo hi none p2) pos) (tSl r te tl th):=by
 intro pins s σ H Q I h;refine fj (thn (he pins s σ H _ I h) λv s1 ⟨x,H1,I1,r1,q1⟩=>?_);refine wpAny_Slice (thn (hl pins s1 σ H1 _ I1 q1) λvl s2 ⟨l,H2,I2,pl,q2⟩=>thn (hu pins s2 σ H2 _ I2 q2) λvu s3 ⟨u,H3,I3,pu,q3⟩=>?_);rw [evalPart_none];refine AJ ?_
 have I4:Inv X pins σ H3 { s3 with heap:=s3.heap.push { cls:=.type "slice",data:=.fields #[vl,vu,.none] } }:=I3.kept (t':=s3.toks) λb ob q=>AO _ q
 obtain ⟨T,id,hT,ht,hg⟩:=hr pins { s3 with heap:=s3.heap.push { cls:=.type "slice",data:=.fields #[vl,vu,.none] } } σ H3 x v vl vu l u s3.heap.objs.size Q I4 r1 (jq ..) pl pu q3;show Af (AY X.prog X.w) X.A (XM e (.Slice lo hi none p2) v (.ref s3.heap.objs.size)) (EP X pins σ Q) X.xe { s3 with heap:=s3.heap.push { cls:=.type "slice",data:=.fields #[vl,vu,.none] } };exact tail_any (ops:=[.ref s3.heap.objs.size,v]) ht hT hg (by with_unfolding_all rfl)
def Vv (xs:List V) (lo hi:Option Int):List V:=(xs.drop (HT.sIx xs.length 0 lo)).take (HT.sIx xs.length xs.length hi - HT.sIx xs.length 0 lo)
theorem UB (xs:List V) (lo hi:Option Int):(Vv xs lo hi).length<=xs.length:=by
 unfold Vv;rw [DQ,E6];omega
def rSlT (K:AB):V->Option Int->Option Int->Hp->VK->Prop:=λx lo hi H Q=>∃a xs,x=.ref a/\SqT K H a xs /\
 ¬(HT.sIx xs.length 0 lo=0/\HT.sIx xs.length xs.length hi=xs.length)/\∀p,H p=none->Q (.ref p) (upd H p (.tup (Vv xs lo hi)))
theorem gw:SlR X (rSlT X.K):=by
 intro pins s σ H x v vl vu lo hi sl Q I rx hs pl pu h;obtain ⟨a,xs,rfl,hx,hw,q⟩:=h;cases rx;obtain ⟨its,r,ht,hz⟩:=I.tuple hx
 have hlen:its.toArray.size=xs.length:=by rw [Ak];exact r.length.symm
 refine ⟨"tuple",_,B1.lookup,ht.typeIs,?_⟩;refine HT.Mz ht hs pl pu (by rw [hlen];exact hw) ?_ (by rw [hlen];exact hz);rw [hlen];refine ⟨.ref s.heap.objs.size,_,I.laid (t':=s.toks) (o:=.tup (Vv xs lo hi)) (λb ob q=>AO _ q) (AU _) ?_,rfl,q _ (I.hok.fresh (AU _))⟩;exact ⟨Al (UB xs lo hi) hz,_,(r.drop (HT.sIx xs.length 0 lo)).take (HT.sIx xs.length xs.length hi - HT.sIx xs.length 0 lo),Yx _ _⟩
def kf (K:AB):R2:=λx y H Q=>∃a b xs ys,x=.ref a/\y=.ref b/\SqT K H a xs/\SqT K H b ys/\xs≠[]/\xs.length+ys.length<=sizeLine /\
 (ys=[]->Q (.ref a) H)/\(ys≠[]->∀p,H p=none->Q (.ref p) (upd H p (.tup (xs++ys))))
theorem Bh.nil_iff {xs:List V} {us:List AC} (r:Bh xs us):us=[]↔xs=[]:=by
 cases r with
 | nil=>simp
 | cons _ _=>simp
theorem dR:OpR X (Cb .Add) (kf X.K):=by
 intro pins s σ H x y v u Q I rx ry h;obtain ⟨a,b,xs,ys,rfl,rfl,ha,hb,hx,hz,q1,q2⟩:=h;cases rx;cases ry;obtain ⟨its,r1,p1,_⟩:=I.tuple ha;obtain ⟨its2,r2,p2,_⟩:=I.tuple hb;refine HT.eO p1 p2 (λz=>hx (r1.nil_iff.mp z)) (λz=>⟨.ref a,H,I,rfl,q1 (r2.nil_iff.mp z)⟩) (λz=>?_) (by rw [<-r1.length,<-r2.length];exact hz);refine ⟨.ref s.heap.objs.size,_,I.laid (t':=s.toks) (o:=.tup (xs++ys)) (λb ob q=>AO _ q) (AU _) ?_,rfl,q2 (λw=>z (r2.nil_iff.mpr w)) _ (I.hok.fresh (AU _))⟩;exact ⟨by rw [AW];exact hz,_,r1.append r2,Yx _ _⟩
end L2
namespace L2
open PySem PySem.Spec PyProof.Rows
def ixN (n:Nat) (i:Int):Option Nat:=if 0<=i then (if i < n then some i.toNat else none) else if -(n:Int)<=i then some (i+n).toNat else none
def atI {α:Type} (xs:List α) (i:Int):Option α:=(ixN xs.length i).bind λj=>xs[j]?
theorem dj {n:Nat} {i:Int} {j:Nat} (h:ixN n i=some j):seqIndex? i n=some j/\j < n/\-(n:Int)<=i/\i < n:=by
 unfold ixN at h
 by_cases h0:0<=i
 ·rw [if_pos h0] at h
  by_cases h1:i < n
  ·rw [if_pos h1] at h
   have e:i.toNat=j:=Cr h;exact ⟨by rw [seqIndex_of h0 h1,e],by omega,by omega,h1⟩
  ·rw [if_neg h1] at h;cases h
 ·rw [if_neg h0] at h
  by_cases h1:-(n:Int)<=i
  ·rw [if_pos h1] at h
   have e:(i+n).toNat=j:=Cr h;exact ⟨by rw [seqIndex_neg (by omega) h1,e],by omega,h1,by omega⟩
  ·rw [if_neg h1] at h;cases h
theorem XG {α:Type} {xs:List α} {i:Int} {v:α} (h:atI xs i=some v):∃j,seqIndex? i xs.length=some j/\xs[j]?=some v/\j < xs.length/\-(xs.length:Int)<=i/\i < xs.length:=by
 unfold atI at h
 cases e:ixN xs.length i with
 | none=>rw [e] at h;cases h
 | some j=>
  rw [e] at h;obtain ⟨h1,h2,h3,h4⟩:=dj e;exact ⟨j,h1,h,h2,h3,h4⟩
def SU (b:Expr):Prop:=∀o i,SY b false o i=operate [o,i] (KI o i)
def IxR (X:Cx) (r:R2):Prop:=
 ∀(value slice:Expr) (pins:List (AI×Obj)) (s:AE) (σ:St) (H:Hp) (x y:V) (v u:AC) (Q:VK),Inv X pins σ H s->RelV x v->RelV y u->r x y H Q ->
  SY slice false v u=operate [v,u] (KI v u)->Af (AY X.prog X.w) X.A (XM value slice v u) (EP X pins σ Q) X.xe s
def MtR (X:Cx) (id:String) (r:V->List V->Hp->VK->Prop):Prop:=
 ∀(pins:List (AI×Obj)) (s:AE) (σ:St) (H:Hp) (x:V) (xs:List V) (v:AC) (us:List AC) (Q:VK),Inv X pins σ H s->RelV x v->Bh xs us->r x xs H Q ->
  Af (AY X.prog X.w) X.A (call (.builtin id) (v :: us)) (EP X pins σ Q) X.xe s
section
variable {P:An} {w:BH} {H:Hp} {h:Bl} {a:AI}
theorem fG {u:HO} (ok:HOk P w H h) (e:Rd H a u):Cm P w H h a u:=e.ok ok
theorem T8 {kvs:List (Key×V)} (ok:HOk P w H h) (e:Rd H a (.dK kvs)):kvs.length<=sizeLine/\(a==Dd)=false/\∃vs,KV kvs vs/\h.DictOf (D8 P w) a vs:=
 show Cm P w H h a (.dK kvs) from fG ok e
theorem lg {kvs:List (Key×V)} (ok:HOk P w H h) (e:H a=some (.dK kvs)):kvs.length<=sizeLine/\(a==Dd)=false/\∃vs,KV kvs vs/\h.DictOf (D8 P w) a vs:=T8 ok (.inl e)
theorem Pi {ks:List Key} (ok:HOk P w H h) (e:H a=some (.tup (ks.map kV))):(Q7 (D8 P w)).is h ks a:=by
 obtain ⟨_,its,r,o,h1,h2,n,h3⟩:=(show Cm P w H h a (.tup (ks.map kV)) from ok a _ e);exact ⟨o,its.toArray,n,h1,h2,h3,by simpa using Qv r⟩
theorem T7 {kvs:List (List Key×V)} (ok:HOk P w H h) (e:Rd H a (.dT kvs)):kvs.length<=sizeLine/\(a==Dd)=false /\
  ∃xs,KT H kvs xs/\h.DictOfH (Q7 (D8 P w)) a xs:=by
 obtain ⟨z,y,xs,r,o,es,ep,h1,h2,h3,h4,h5⟩:=(show Cm P w H h a (.dT kvs) from fG ok e);refine ⟨z,y,xs,r,o,es,ep,h1,h2,h3,h4,λx hx=>?_,h5⟩
 have all:∀ {l:List (List Key×V)} {m:List (List Key×AI×AC)},KT H l m->∀x∈m,(Q7 (D8 P w)).is h x.1 x.2.1:=by
  intro l m q
  induction q with
  | nil=>intro x hx;exact nomatch hx
  | @cons p q ps qs hq t ih=>
   intro x hx
   rcases Ay.mp hx with e | hx
   ·subst e
    exact Pi ok (by rw [<-hq.1];exact hq.2.1)
   ·exact ih x hx
 exact all r x hx
theorem lf {kvs:List (List Key×V)} (ok:HOk P w H h) (e:H a=some (.dT kvs)):kvs.length<=sizeLine/\(a==Dd)=false /\
  ∃xs,KT H kvs xs/\h.DictOfH (Q7 (D8 P w)) a xs:=T7 ok (.inl e)
end
def M5 (H:Hp) (a:AI) (y:V) (r:Option V):Prop:=
 (∃kvs k,Rd H a (.dK kvs)/\y=kV k/\r=KZ kvs k)∨∃kvs k b,Rd H a (.dT kvs)/\y=.ref b/\H b=some (.tup (k.map kV))/\r=KZ kvs k
def UL (H:Hp) (a:AI) (y v:V) (H':Hp):Prop:=
 (∃kvs k,H a=some (.dK kvs)/\y=kV k/\kvs.length < sizeLine/\H'=upd H a (.dK (J8 kvs k v))) ∨
 ∃kvs k b,H a=some (.dT kvs)/\y=.ref b/\H b=some (.tup (k.map kV))/\kvs.length < sizeLine/\H'=upd H a (.dT (J8 kvs k v))
theorem M5.k {H:Hp} {a:AI} {kvs:List (Key×V)} {k:Key} (e:H a=some (.dK kvs)):M5 H a (kV k) (KZ kvs k):=.inl ⟨kvs,k,.inl e,rfl,rfl⟩
theorem M5.t {H:Hp} {a b:AI} {kvs:List (List Key×V)} {k:List Key} (e:H a=some (.dT kvs)) (eb:H b=some (.tup (k.map kV))):M5 H a (.ref b) (KZ kvs k):=.inr ⟨kvs,k,b,.inl e,rfl,eb,rfl⟩
theorem UL.k {H:Hp} {a:AI} {kvs:List (Key×V)} {k:Key} {v:V} (e:H a=some (.dK kvs)) (hl:kvs.length < sizeLine):UL H a (kV k) v (upd H a (.dK (J8 kvs k v))):=.inl ⟨kvs,k,e,rfl,hl,rfl⟩
theorem UL.t {H:Hp} {a b:AI} {kvs:List (List Key×V)} {k:List Key} {v:V} (e:H a=some (.dT kvs)) (eb:H b=some (.tup (k.map kV))) (hl:kvs.length < sizeLine) :
  UL H a (.ref b) v (upd H a (.dT (J8 kvs k v))):=.inr ⟨kvs,k,b,e,rfl,eb,hl,rfl⟩
variable {X:Cx} {a b:Expr} {ta tb:TE} {pos:Pos}
theorem IxR.or {r r':R2} (h:IxR X r) (h':IxR X r'):IxR X (λx y H Q=>r x y H Q∨r' x y H Q):=by
 intro value slice pins s σ H x y v u Q I rx ry q hs
 rcases q with q | q
 ·exact h value slice pins s σ H x y v u Q I rx ry q hs
 ·exact h' value slice pins s σ H x y v u Q I rx ry q hs
theorem ko {r:R2} (hr:IxR X r) (ha:PE X a ta) (hb:PE X b tb) (hs:SU b):PE X (.Subscript a b pos) (tOp r ta tb):=by
 intro pins s σ H Q I h;exact fj (jU ha hb I h λv u s2 x y H2 I2 rx ry q=>hr a b pins s2 σ H2 x y v u Q I2 rx ry q (hs _ _))
def rIxL (K:AB):R2:=λx y H Q=>∃p xs i v,x=.ref p/\y=.int i/\SqL K H p xs/\atI xs i=some v/\Q v H
def rIxT (K:AB):R2:=λx y H Q=>∃p xs i v,x=.ref p/\y=.int i/\SqT K H p xs/\atI xs i=some v/\Q v H
theorem ix_list:IxR X (rIxL X.K):=by
 intro value slice pins s σ H x y v u Q I rx ry h hs;obtain ⟨p,xs,i,z,rfl,rfl,hq,he,q⟩:=h;cases rx;obtain ⟨t,rfl⟩:=ry;obtain ⟨its,r,pl,hz⟩:=I.list hq;obtain ⟨j,h1,h2,h3,h4,h5⟩:=XG he;obtain ⟨w,ew,rw'⟩:=r.get h2;have hl:=r.length;have hn:=Rt;have fin:EP X pins σ Q w s:=⟨z,H,I,rw',q⟩
 by_cases h0:0<=i
 ·have hj:i.toNat=j:=by
   rw [seqIndex_of h0 h5] at h1;exact Cr h1
  exact item_listR pl.isList h0 (by omega) (by rw [hj];simpa using ew) fin hs
 ·have hj:(i+(its.toArray.size:Int)).toNat=j:=by
   rw [seqIndex_neg (by omega) h4] at h1;rw [Ak,<-hl];exact Cr h1
  exact Yp (x:=w) pl.isList.typeIs slot_list_getitem.lookup
   (wpAny_getItem_list_neg (Q:=λr s'=>r=w/\EP X pins σ Q r s') pl.isList (by omega) (by rw [Ak] <;> omega) (by omega) (by rw [hj];simpa using ew) ⟨rfl,fin⟩) hs
theorem i0:IxR X (rIxT X.K):=by
 intro value slice pins s σ H x y v u Q I rx ry h hs;obtain ⟨p,xs,i,z,rfl,rfl,hq,he,q⟩:=h;cases rx;obtain ⟨t,rfl⟩:=ry;obtain ⟨its,r,pl,hz⟩:=I.tuple hq;obtain ⟨j,h1,h2,h3,h4,h5⟩:=XG he;obtain ⟨w,ew,rw'⟩:=r.get h2;have hl:=r.length;have hn:=Rt;have fin:EP X pins σ Q w s:=⟨z,H,I,rw',q⟩
 exact Yp (x:=w) pl.typeIs slot_tuple_getitem.lookup
  (getItem_tuple (j:=j) (Q:=λr s'=>r=w/\EP X pins σ Q r s') pl (by omega) (by omega) (by rw [Ak,<-hl];exact h1) (by simpa using ew) ⟨rfl,fin⟩) hs
theorem SN:IG X (.builtin "len") (λxs H Q=>∃p ys,xs=[.ref p]/\(SqL X.K H p ys∨SqT X.K H p ys)/\Q (.int ys.length) H):=by
 intro pins s σ H xs us Q I r h;obtain ⟨p,ys,rfl,hq,q⟩:=h;obtain ⟨u,rfl,rx⟩:=vals1 r;cases rx;have hn:=Rt
 rcases hq with hq | hq
 ·obtain ⟨its,r',pl,hz⟩:=I.list hq
  have hlen:=r'.length;exact Calls.call_len_list pl.isList (by simp only [Ak] <;> omega) ⟨.int ys.length,H,I.tok _,⟨s.toks+1,by rw [Ak,hlen]⟩,q⟩
 ·obtain ⟨its,r',pl,hz⟩:=I.tuple hq
  have hlen:=r'.length;exact len_tuple pl (by simp only [Ak] <;> omega) ⟨.int ys.length,H,I.tok _,⟨s.toks+1,by rw [Ak,hlen]⟩,q⟩
theorem SM:IG X (.type "list") (λxs H Q=>∃p ys,xs=[.ref p]/\(SqL X.K H p ys∨SqT X.K H p ys)/\∀l,H l=none->Q (.ref l) (upd H l (.lst ys))):=by
 intro pins s σ H xs us Q I r h;obtain ⟨p,ys,rfl,hq,q⟩:=h;obtain ⟨u,rfl,rx⟩:=vals1 r;cases rx
 have fin:∀(its:List AC),Bh ys its->ys.length<=sizeLine->∀(h':Bl) (c':Nat),(∀b o',s.heap.get? b=some o'->h'.get? b=some o') ->
   h'.get? s.heap.objs.size=some { cls:=.type "list",dict:=none,data:=.seq its.toArray c',slots:=#[] }->EP X pins σ Q (.ref s.heap.objs.size) { s with heap:=h' }:=λits r' hz h' c' kp e=>
  ⟨.ref s.heap.objs.size,_,I.laid (t':=s.toks) kp (AU _) (show Cm X.prog X.w _ h' _ (.lst ys) from ⟨hz,its,c',r',e⟩),rfl,q _ (I.hok.fresh (AU _))⟩
 rcases hq with hq | hq
 ·obtain ⟨its,r',pl,hz⟩:=I.list hq
  have hlen:=r'.length;obtain ⟨o,ho,hc,n,hd⟩:=pl.isList;exact call_list_seq p (.inl rfl) ho hc hd (λh' c' kp e=>fin its r' hz h' c' kp e) (by simp only [Ak] <;> omega)
 ·obtain ⟨its,r',pl,hz⟩:=I.tuple hq
  have hlen:=r'.length;obtain ⟨o,ho,hc,n,hd⟩:=pl;exact call_list_seq p (.inr rfl) ho hc hd (λh' c' kp e=>fin its r' hz h' c' kp e) (by simp only [Ak] <;> omega)
theorem QR:IG X (.type "tuple") (λxs H Q=>∃p ys,xs=[.ref p]/\((SqL X.K H p ys/\∀l,H l=none->Q (.ref l) (upd H l (.tup ys)))∨(SqT X.K H p ys/\Q (.ref p) H))):=by
 intro pins s σ H xs us Q I r h;obtain ⟨p,ys,rfl,h⟩:=h;obtain ⟨u,rfl,rx⟩:=vals1 r;cases rx
 rcases h with ⟨hq,q⟩ | ⟨hq,q⟩
 ·obtain ⟨its,r',pl,hz⟩:=I.list hq
  have hlen:=r'.length;refine call_tuple_list pl.isList (λh' kp=>?_) (by simp only [Ak] <;> omega);have I1:Inv X pins σ H { s with heap:=h' }:=I.kept (t':=s.toks) kp
  have I2:Inv X pins σ (upd H h'.objs.size (.tup ys)) { s with heap:=h'.push { cls:=.type "tuple",data:=.seq its.toArray } }:=
   I1.laid (t':=s.toks) (λb o e=>AO _ e) (AU _) (show Cm X.prog X.w _ _ _ (.tup ys) from ⟨hz,its,r',Yx _ _⟩)
  exact ⟨.ref h'.objs.size,_,I2,rfl,q _ (I1.hok.fresh (AU _))⟩
 ·obtain ⟨its,r',pl,hz⟩:=I.tuple hq
  exact call_tuple_same pl ⟨.ref p,H,I,rfl,q⟩
def tyV (K:AB) (T:String) (x:V) (H:Hp):Prop:=match x with
 | .str _=>T = "str"
 | .int _=>T = "int"
 | .ref p=>(T = "list"/\∃xs,SqL K H p xs)∨(T = "tuple"/\∃o,K.lookup p=some o/\o.cls=.type "tuple"/\o.dict=none) ∨
   (T = "dict"/\((∃kvs,H p=some (.dK kvs))∨∃kvs,H p=some (.dT kvs)))∨(T = "set"/\∃S n,H p=some (.set S n))
 | _=>False
theorem ZM {pins:List (AI×Obj)} {σ:St} {H:Hp} {s:AE} {T:String} {x:V} {v:AC} (I:Inv X pins σ H s) (r:RelV x v) (ty:tyV X.K T x H) :
  s.TypeIs v T/\∀a,v=.ref a->∃ob,s.heap.get? a=some ob/\ob.dict=none:=by
 cases x with
 | str z=>
  obtain ⟨t,rfl⟩:=r;cases (show T = "str" from ty);exact ⟨typeIs_str s z t,λ_ e=>nomatch e⟩
 | int i=>
  obtain ⟨t,rfl⟩:=r;cases (show T = "int" from ty);exact ⟨typeIs_int s i t,λ_ e=>nomatch e⟩
 | ref p=>
  cases r
  rcases ty with ⟨rfl,xs,hq⟩ | ⟨rfl,o,hk,hc,hd⟩ | ⟨rfl,hk⟩ | ⟨rfl,S,n,hk⟩
  ·obtain ⟨its,_,pl,_⟩:=I.list hq
   refine ⟨pl.isList.typeIs,λa e=>?_⟩;cases e;obtain ⟨o,n,e,c,hd,_⟩:=pl;exact ⟨o,e,hd⟩
  ·refine ⟨⟨o,I.kIn p o hk,hc⟩,λa e=>?_⟩
   cases e;exact ⟨o,I.kIn _ o hk,hd⟩
  ·have z:∃o,s.heap.get? p=some o/\o.ExactDict:=by
    rcases hk with ⟨kvs,hk⟩ | ⟨kvs,hk⟩
    ·obtain ⟨_,_,_,_,o,_,_,e,ex,_⟩:=I.hok p _ hk
     exact ⟨o,e,ex⟩
    ·obtain ⟨_,_,_,_,o,_,_,e,ex,_⟩:=I.hok p _ hk
     exact ⟨o,e,ex⟩
   obtain ⟨o,e,ex⟩:=z;refine ⟨⟨o,e,ex.1⟩,λa e2=>?_⟩;cases e2;exact ⟨o,e,ex.2.1⟩
  ·obtain ⟨o,_,_,_,e,ex,_⟩:=I.hok p _ hk
   refine ⟨⟨o,e,ex.1⟩,λa e2=>?_⟩;cases e2;exact ⟨o,e,ex.2.1⟩
 | _=>exact Dl ty
def tBM0 (K:AB) (T:String) (r:V->List V->Hp->VK->Prop) (to:TE):TE:=λσ H Q=>to σ H λx H1=>tyV K T x H1/\r x [] H1 Q
def tBM (K:AB) (T:String) (r:V->List V->Hp->VK->Prop) (to:TE) (t:TA):TE:=λσ H Q=>to σ H λx H1=>tyV K T x H1/\t σ H1 λxs H2=>r x xs H2 Q
variable {o e:Expr} {es:List Expr} {to:TE} {t:TA} {name:Str} {apos cpos:Pos} {T id:String} {r:V->List V->Hp->VK->Prop}
theorem iQ (pa:PlainAttrs T) (slot:Slot T name id) (hty:typeOf (.builtin id)=pure (.type "method_descriptor")) (hm:MtR X id r) (ho:PE X o to)
  (hbase:E1 o name X.env (CC o X.env)=CC o X.env:=by rfl) (hline:(apos.endLine==cpos.line)=true:=by rfl):PE X (.Call (.Attribute o name apos) [] [] cpos) (tBM0 X.K T r to):=by
 intro pins s σ H Q I h;refine wpAny_Call_method0_late hbase hline (thn (ho pins s σ H _ I h) λv s1 ⟨x,H1,I1,r1,ty,q1⟩=>?_);obtain ⟨h1,h2⟩:=ZM I1 r1 ty;exact ⟨T,id,pa,slot,hty,h1,h2,Sn rfl (PySem.evalArgs_none (hm pins s1 σ H1 x [] v [] Q I1 r1 .nil q1))⟩
theorem fH (pa:PlainAttrs T) (slot:Slot T name id) (hty:typeOf (.builtin id)=pure (.type "method_descriptor")) (hm:MtR X id r) (ho:PE X o to) (ha:PA X (e :: es) t)
  (hbase:E1 o name X.env (CC o X.env)=CC o X.env:=by rfl)
  (hfew:((DM cpos (AZ (e :: es) X.env)).all (λx=>!x.1)&&(JU cpos (FJ [] X.env)).all (λx=>x.1.isSome)
    &&decide ((e :: es).length+([]:List Nx).length+(if ([]:List Nx).isEmpty then 0 else 1) < 30))=true:=by rfl)
  (hline:(apos.endLine==cpos.line)=true:=by rfl) (hs:AZ (e :: es) X.env=(false,CC e X.env) :: AZ es X.env:=by rfl) (hplain:(DM cpos (AZ es X.env)).any (·.1)=false:=by rfl) :
  PE X (.Call (.Attribute o name apos) (e :: es) [] cpos) (tBM X.K T r to t):=by
 intro pins s σ H Q I h;refine wpAny_Call_method_late hbase hfew hline rfl (thn (ho pins s σ H _ I h) λv s1 ⟨x,H1,I1,r1,ty,q1⟩=>?_);obtain ⟨h1,h2⟩:=ZM I1 r1 ty;refine ⟨T,id,pa,slot,hty,h1,h2,?_⟩;have hA:=ha cpos pins s1 σ H1 _ I1 q1;rw [hs] at hA ⊢;refine Sn (by show (false||(DM cpos (AZ es X.env)).any (·.1))=false;rw [hplain] <;> rfl) (Uj ?_)
 exact thn hA λus s2 ⟨vs,H2,I2,r2,q2⟩=>hm pins s2 σ H2 x vs v us Q I2 r1 r2 q2
/- xs.append(e),list.index on a module's tuple .. are MtR facts of 06m -/
end L2
namespace L2
open PySem PySem.Spec PyProof.Rows
def MtM (X:Cx) (id:String) (r:V->List V->Hp->VK->Prop):Prop:=
 ∀(pins:List (AI×Obj)) (s:AE) (σ:St) (H:Hp) (x:V) (xs:List V) (v:AC) (us:List AC) (Q:VK),Inv X pins σ H s->RelV x v->Bh xs us->r x xs H Q ->
  Af (AY X.prog X.w) X.A (call (.builtin id) (v :: us)) (EP X pins σ Q) X.xe s
theorem Bh.one:∀ {x:V} {us:List AC},Bh [x] us->∃u,us=[u]/\RelV x u
 | _,_,.cons r .nil=>⟨_,rfl,r⟩
theorem Bh.zero:∀ {us:List AC},Bh [] us->us=[]
 | _,.nil=>rfl
theorem Bh.reverse {xs:List V} {us:List AC} (h:Bh xs us):Bh xs.reverse us.reverse:=by
 induction h with
 | nil=>exact .nil
 | cons r t ih=>rw [JA,JA];exact Bh.append ih (.cons r .nil)
section
variable {X:Cx} {pins:List (AI×Obj)} {σ:St} {H:Hp} {s:AE} {a:AI} {y v:V} {u r:AC} {o:Option V} {A:BD} {E:AC->AE->Prop}
theorem Inv.big (I:Inv X pins σ H s):Dd < s.heap.objs.size:=by
 have h:Ac < s.heap.objs.size:=(I.mod.glob.keeps I.bk).lt;exact j7 (by decide) h
theorem YS {Q:AC->AE->Prop} (hu:A.units+1 < EC) (I:Inv X pins σ H s) (g:M5 H a y (some v)) (ry:RelV y u) (h:∀w' s',Inv X pins σ H s'->RelV v w'->Q w' s') :
  Af (AY X.prog X.w) A (KI (.ref a) u) Q E s:=by
 rcases g with ⟨kvs,k,e,ey,l⟩ | ⟨kvs,k,b,e,ey,eb,l⟩
 ·subst ey
  obtain ⟨z,hd,vs,rel,dd⟩:=T8 I.hok e;obtain ⟨w',hw,rw'⟩:=Nr.some_of (v:=v) (o:=P6 vs k) (by rw [l];exact rel.val k);exact wpAny_getItem_of (Tz ry) dd.mapOf hw (h w' _ (I.tok _) rw')
 ·subst ey
  cases (show u=Az b from ry);obtain ⟨z,hd,xs,rel,dd⟩:=T7 I.hok e;obtain ⟨w',hw,rw'⟩:=Nr.some_of (v:=v) (o:=(UZ xs k).map (·.2)) (by rw [l];exact rel.val k);obtain ⟨p,hp,hp2⟩:=Option.map_eq_some_iff.mp hw;refine wpAny_getItem_heap (JS hu) (Pi I.hok eb) dd hp ?_;rw [hp2];exact h w' _ (I.tok _) rw'
theorem d_in {Q:AC->AE->Prop} (hu:A.units+1 < EC) (I:Inv X pins σ H s) (g:M5 H a y o) (ry:RelV y u) (h:∀s',Inv X pins σ H s'->Q (.bool o.isSome) s') :
  Af (AY X.prog X.w) A (CJ .In u (.ref a)) Q E s:=by
 rcases g with ⟨kvs,k,e,ey,l⟩ | ⟨kvs,k,b,e,ey,eb,l⟩
 ·subst ey
  obtain ⟨z,hd,vs,rel,dd⟩:=T8 I.hok e;refine wpAny_in_of (Tz ry) hd dd.mapOf ?_;rw [<-(rel.val k).isSome_eq,<-l];exact h _ (I.tok _)
 ·subst ey
  cases (show u=Az b from ry);obtain ⟨z,hd,xs,rel,dd⟩:=T7 I.hok e;refine wpAny_in_heap (JS hu) (Pi I.hok eb) hd dd ?_;have q:=(rel.val k).isSome_eq;rw [GN] at q;rw [<-q,<-l];exact h _ (I.tok _)
theorem eK {Q:AC->AE->Prop} (hu:A.units+1 < EC) (I:Inv X pins σ H s) (g:M5 H a y o) (ry:RelV y u) (h:∀s',Inv X pins σ H s'->Q (.bool (!o.isSome)) s') :
  Af (AY X.prog X.w) A (CJ .NotIn u (.ref a)) Q E s:=by
 rcases g with ⟨kvs,k,e,ey,l⟩ | ⟨kvs,k,b,e,ey,eb,l⟩
 ·subst ey
  obtain ⟨z,hd,vs,rel,dd⟩:=T8 I.hok e;refine wpAny_notIn_of (Tz ry) hd dd.mapOf ?_;rw [<-(rel.val k).isSome_eq,<-l];exact h _ (I.tok _)
 ·subst ey
  cases (show u=Az b from ry);obtain ⟨z,hd,xs,rel,dd⟩:=T7 I.hok e;refine wpAny_notIn_heap (JS hu) (Pi I.hok eb) hd dd ?_;have q:=(rel.val k).isSome_eq;rw [GN] at q;rw [<-q,<-l];exact h _ (I.tok _)
theorem W7 {h':Bl} {t':Nat} {ob:HO} (I:Inv X pins σ H s) (mu:Mut (H a)) (hs:EK a s.heap h') (he:∃q,h'.get? a=some q) (new:Cm X.prog X.w (upd H a ob) h' a ob) :
  Inv X pins σ (upd H a ob) { s with heap:=h',toks:=t' }:=
 I.write (x:=a) (e:=a) mu (.inl rfl) (λb q hb z=>(hs.2 b hb).trans z) he new
theorem jR {P:An} {w:BH} {H':Hp} {h':Bl} {kvs:List (Key×V)} {vs:List (Key×AC)} (z:kvs.length<=sizeLine) (hd:(a==Dd)=false) (rel:KV kvs vs) (dd:h'.DictOf (D8 P w) a vs) :
  Cm P w H' h' a (.dK kvs):=⟨z,hd,vs,rel,dd⟩
theorem YR {H':Hp} {Q:Unit->AE->Prop} (hu:A.units+1 < EC) (I:Inv X pins σ H s) (g:UL H a y v H') (ry:RelV y u) (rv:RelV v r) (h:∀s',Inv X pins σ H' s'->Q () s') :
  Af (AY X.prog X.w) A (setItem (.ref a) u r) Q E s:=by
 rcases g with ⟨kvs,k,e,ey,l,eH⟩ | ⟨kvs,k,b,e,ey,eb,l,eH⟩
 ·subst ey eH
  obtain ⟨z,hd,vs,rel,dd⟩:=lg I.hok e
  have hz:vs.length<=sizeLine:=by rw [<-rel.length];exact z
  have hl:(J8 kvs k v).length<=sizeLine:=by have:=N5 kvs k v;omega
  refine wpAny_setItem_pairs (hsz:=hz) (Tz ry) dd λh' dd' hs=>h _ ?_
  have he:∃q,h'.get? a=some q:=let ⟨q,_,_,hq,_⟩:=dd';⟨q,hq⟩
  exact W7 I (by rw [e];exact EI) hs he (jR hl hd (rel.put k rv) dd')
 ·subst ey eH
  cases (show u=Az b from ry);obtain ⟨z,hd,xs,rel,dd⟩:=lf I.hok e
  have hz:xs.length<=sizeLine:=by rw [<-EO rel];exact z
  have hl:(J8 kvs k v).length<=sizeLine:=by have:=N5 kvs k v;omega
  refine wpAny_setItem_heap (hsz:=hz) (JS hu) (Pi I.hok eb) dd λh' dd' hs=>h _ ?_
  obtain ⟨q,es,ep,hq,h2,h3,h4,_,h5⟩:=dd';refine W7 I (by rw [e];exact EI) hs ⟨q,hq⟩ ⟨hl,hd,_,(rel.put k eb rv).keeps λc ys ec=>?_,q,es,ep,hq,h2,h3,h4,h5⟩;rw [BR (lF ec e (λz=>nomatch z))];exact ec
variable {X:Cx} {pins:List (AI×Obj)} {σ:St} {H:Hp} {s:AE} {l b:AI} {xs ys zs:List V}
theorem Inv.lset {its its':List AC} {n:Nat} {f:Array AC->Array AC} {t':Nat} (I:Inv X pins σ H s) (hH:H l=some (.lst xs))
  (e:s.heap.get? l=some { cls:=.type "list",data:=.seq its.toArray n }) (hf:f its.toArray=its'.toArray) (hv:Bh ys its') (hz:ys.length<=sizeLine) :
  Inv X pins σ (upd H l (.lst ys)) { s with heap:=s.heap.update l (Ij f),toks:=t' }:=by
 have q:=PySem.IsL.update e f;rw [hf] at q;refine I.write (x:=l) (e:=l) (by rw [hH];exact trivial) (.inl rfl) (λb' u hb hu=>(EJ s.heap (Ij f) (B5 hb)).trans hu) ⟨_,q⟩ ?_;exact ⟨hz,its',_,hv,q⟩
theorem Inv.lnew {its:List AC} {t':Nat} (I:Inv X pins σ H s) (hv:Bh ys its) (hz:ys.length<=sizeLine) :
  Inv X pins σ (upd H s.heap.objs.size (.lst ys)) { s with heap:=s.heap.push { cls:=.type "list",data:=.seq its.toArray },toks:=t' }:=
 I.laid (λ_ _ q=>AO _ q) (AU _) ⟨hz,its,0,hv,Aq _ rfl⟩
theorem Inv.fresh (I:Inv X pins σ H s):H s.heap.objs.size=none:=I.hok.fresh (AU _)
theorem Inv.lstM (I:Inv X pins σ H s) (hH:H l=some (.lst xs)):xs.length<=sizeLine/\∃(its:List AC) (n:Nat),Bh xs its/\xs.length=its.length/\s.heap.get? l=some { cls:=.type "list",data:=.seq its.toArray n }:=by
 obtain ⟨z,its,n,r,e⟩:=I.hok l _ hH;exact ⟨z,its,n,r,r.length,e⟩
theorem Z9 {n:Nat} (h:n<=sizeLine):Hg n=false:=by
 unfold Hg;exact decide_eq_false (by omega)
end
section
variable {X:Cx} {pins:List (AI×Obj)} {σ:St} {H:Hp} {s:AE} {a:AI} {kvs:List (Key×V)} {k:Key} {u:AC} {A:BD} {E:AC->AE->Prop}
end
def jY (i:Expr):Prop:=∀ov iv,SY i false ov iv=operate [ov,iv] (KI ov iv)
theorem cc {prog:An} {w:BH} {A:BD} {E:AC->AE->Prop} {s:AE} {env:Env} {value slice:Expr} {pos:Pos} {T id:String} {Q:AC->AE->Prop}
  (hl:fX (.type T) "__getitem__" = pure (some (.builtin id))) (hs:jY slice)
  (h:Af (AY prog w) A (CC value env) (λo s₁=>Af (AY prog w) A (CC slice env) (λi s₂=>s₂.TypeIs o T/\Af (AY prog w) A (KI o i) Q E s₂) E s₁) E s) :
  Af (AY prog w) A (CC (.Subscript value slice pos) env) Q E s:=by
 refine fj (DK h (λo s₁ h₁=>DK h₁ (λi s₂ h₂=>?_) λ_ _ x=>x) λ_ _ x=>x);obtain ⟨hT,h₂⟩:=h₂;unfold XM;refine AA ?_;rw [getitemInPython_of_ne hT.not_modules];refine AA (wpAny_specialOf hT hl ?_)
 have fin:Af (AY prog w) A (SY slice false o i) (λr s₃=>Af (AY prog w) A (letTemporaryGo value o r >>= λ_=>pure r) Q E s₃) E s₂:=by
  rw [hs o i];exact wpAny_operating (DK h₂ (λr s₃ h₃=>AA (wpAny_letTemporaryGo (AJ h₃))) λ_ _ x=>x)
 first
  | exact AJ (AA fin)
  | exact AA (AJ (AA fin))
  | exact AA fin
theorem T9 {X:Cx} {pins:List (AI×Obj)} {σ:St} {H:Hp} {s:AE} {a:AI} {y:V} {o:Option V} (I:Inv X pins σ H s) (g:M5 H a y o):s.TypeIs (.ref a) "dict":=by
 rcases g with ⟨kvs,k,e,_,_⟩ | ⟨kvs,k,b,e,_,_,_⟩
 ·obtain ⟨_,_,vs,_,dd⟩:=T8 I.hok e
  exact dd.typeIs
 ·obtain ⟨_,_,xs,_,dd⟩:=T7 I.hok e
  exact dd.typeIs
def kU (td ty:TE):TE:=λσ H Q=>td σ H λx H1=>ty σ H1 λy H2=>∃a v,x=.ref a/\M5 H2 a y (some v)/\Q v H2
def kT (ty td:TE):TE:=λσ H Q=>ty σ H λy H1=>td σ H1 λx H2=>∃a o,x=.ref a/\M5 H2 a y o/\Q (.bl o.isSome) H2
def WT (ty td:TE):TE:=λσ H Q=>ty σ H λy H1=>td σ H1 λx H2=>∃a o,x=.ref a/\M5 H2 a y o/\Q (.bl (!o.isSome)) H2
def kb (td ty tv:TE):TS:=λD σ H=>tv σ H λv H1=>td σ H1 λx H2=>ty σ H2 λy H3=>∃a H4,x=.ref a/\UL H3 a y v H4/\D.nx σ H4
variable {X:Cx}
def cy:V->List V->Hp->VK->Prop:=λx vs H Q=>∃l xs y,x=.ref l/\vs=[y]/\H l=some (.lst xs)/\xs.length < sizeLine/\Q .non (upd H l (.lst (xs++[y])))
theorem Qr:MtM X "list.append" cy:=by
 intro pins s σ H x vs v us Q I rx rv h;obtain ⟨l,xs,y,rfl,rfl,hH,hz,q⟩:=h;cases rx;obtain ⟨u,rfl,ru⟩:=rv.one;obtain ⟨z,its,n,r,hl,e⟩:=I.lstM hH;refine fc F.slot_list_append ⟨_,e,rfl⟩ F.entry_list_append (F.args_list_append_2 _ _) (PySem.list_append l its.toArray n u (by rw [Ak];omega)) ⟨e,?_⟩;refine ⟨.non,_,I.lset (its':=its++[u]) hH e (by simp) (r.append (.cons ru .nil)) ?_,rfl,q⟩;rw [AW,Av];omega
def cx:V->List V->Hp->VK->Prop:=λx vs H Q=>∃l b xs zs,x=.ref l/\vs=[.ref b]/\H l=some (.lst xs)/\H b=some (.lst zs)/\xs.length+zs.length<=sizeLine/\Q .non (upd H l (.lst (xs++zs)))
theorem X4:MtM X "list.extend" cx:=by
 intro pins s σ H x vs v us Q I rx rv h;obtain ⟨l,b,xs,zs,rfl,rfl,hH,hB,hz,q⟩:=h;cases rx;obtain ⟨u,rfl,ru⟩:=rv.one;cases ru;obtain ⟨z,its,n,r,hl,e⟩:=I.lstM hH;obtain ⟨z2,its2,n2,r2,hl2,e2⟩:=I.lstM hB
 have hsz:its.toArray.size+its2.toArray.size<=sizeLine:=by rw [Ak,Ak];omega
 have hlong:¬(!its.toArray.isEmpty&&Hg (its.toArray.size+its2.toArray.size))=true:=by
  rw [Z9 hsz,Bool.and_false];exact AK
 refine fc F.slot_list_extend ⟨_,e,rfl⟩ F.entry_list_extend (F.args_list_extend_2 _ _)
  (AutoSeq1.list_extend_list_list_0 l its.toArray n b its2.toArray n2 hlong (by rw [Ak];omega) (by omega)) ⟨e,e2,?_⟩
 refine ⟨.non,_,I.lset (its':=its++its2) hH e (by simp) (r.append r2) ?_,rfl,q⟩;rw [AW];omega
def Zi:V->List V->Hp->VK->Prop:=λx vs H Q=>∃l xs,x=.ref l/\vs=[]/\H l=some (.lst xs)/\Q .non (upd H l (.lst xs.reverse))
theorem VX:MtM X "list.reverse" Zi:=by
 intro pins s σ H x vs v us Q I rx rv h;obtain ⟨l,xs,rfl,rfl,hH,q⟩:=h;cases rx;have hus:=rv.zero;subst hus;obtain ⟨z,its,n,r,hl,e⟩:=I.lstM hH;refine fc F.slot_list_reverse ⟨_,e,rfl⟩ F.entry_list_reverse (F.args_list_reverse_1 _) (AutoSeq1.list_reverse_list_0 l its.toArray n (by rw [Ak];omega)) ⟨e,?_⟩;refine ⟨.non,_,I.lset (its':=its.reverse) hH e (by simp) r.reverse ?_,rfl,q⟩;rw [MM];omega
def rCat:R2:=λx y H Q=>∃l b xs zs,x=.ref l/\y=.ref b/\H l=some (.lst xs)/\H b=some (.lst zs)/\xs.length+zs.length<=sizeLine/\∀p,H p=none->Q (.ref p) (upd H p (.lst (xs++zs)))
theorem iY:OpR X (Cb .Add) rCat:=by
 intro pins s σ H x y v u Q I rx ry h;obtain ⟨l,b,xs,zs,rfl,rfl,hH,hB,hz,q⟩:=h;cases rx;cases ry;obtain ⟨z,its,n,r,hl,e⟩:=I.lstM hH;obtain ⟨z2,its2,n2,r2,hl2,e2⟩:=I.lstM hB;refine PySem.P.add_list e e2 ?_ (by rw [Ak,Ak];omega)
 have ea:its.toArray++its2.toArray=(its++its2).toArray:=by simp
 rw [ea];exact ⟨.ref _,_,I.lnew (t':=s.toks) (r.append r2) (by rw [AW];omega),rfl,q _ I.fresh⟩
section
variable {X:Cx} {o i e value:Expr} {pos pos' tpos:Pos} {td ty tv:TE}
theorem dJ (hu:X.A.units+1 < EC) (ho:PE X o td) (hi:PE X i ty) (hs:jY i):PE X (.Subscript o i pos) (kU td ty):=by
 intro pins s σ H Q I h;refine cc PySem.F.slot_dict_getitem.lookup hs (thn (ho pins s σ H _ I h) λu s1 ⟨x,H1,I1,rx,q1⟩=>thn (hi pins s1 σ H1 _ I1 q1) λiv s2 ⟨y,H2,I2,ry,a,v,ex,g,q2⟩=>?_);subst ex;obtain rfl:u=Az a:=rx;exact ⟨T9 I2 g,YS hu I2 g ry λw' s3 I3 rw'=>⟨v,H2,I3,rw',q2⟩⟩
theorem Zz (hu:X.A.units+1 < EC) (hi:PE X i ty) (ho:PE X o td):PC X .In i o (kT ty td):=by
 intro pins s σ H Q I h
 refine thn (hi pins s σ H _ I h) λiv s1 ⟨y,H1,I1,ry,q1⟩=>thn (ho pins s1 σ H1 _ I1 q1) λu s2 ⟨x,H2,I2,rx,a,ov,ex,g,q2⟩=>?_
 subst ex;obtain rfl:u=Az a:=rx
 exact d_in hu I2 g ry λs3 I3=>⟨.bl ov.isSome,H2,I3,rfl,q2⟩
theorem Qm (hu:X.A.units+1 < EC) (hi:PE X i ty) (ho:PE X o td):PC X .NotIn i o (WT ty td):=by
 intro pins s σ H Q I h
 refine thn (hi pins s σ H _ I h) λiv s1 ⟨y,H1,I1,ry,q1⟩=>thn (ho pins s1 σ H1 _ I1 q1) λu s2 ⟨x,H2,I2,rx,a,ov,ex,g,q2⟩=>?_
 subst ex;obtain rfl:u=Az a:=rx
 exact eK hu I2 g ry λs3 I3=>⟨.bl (!ov.isSome),H2,I3,rfl,q2⟩
theorem c9 (hu:X.A.units+1 < EC) (ho:PE X o td) (hi:PE X i ty) (hv:PE X value tv) (hs:Fa value (some (.Subscript o i pos')) pos.line X.env=pure false) :
  PS X (.Assign [.Subscript o i pos'] value pos) (kb td ty tv):=by
 intro pins s σ H D I h;refine wpAny_Assign_Subscript (thn (hv pins s σ H _ I h) λr s1 ⟨v,H1,I1,rv,q1⟩=>thn (ho pins s1 σ H1 _ I1 q1) λu s2 ⟨x,H2,I2,rx,q2⟩=>thn (hi pins s2 σ H2 _ I2 q2) λiv s3 ⟨y,H3,I3,ry,a,H4,ex,g,q3⟩=>?_) hs;subst ex;obtain rfl:u=Az a:=rx
 exact YR hu I3 g ry rv λs4 I4=>⟨σ,H4,I4,q3⟩
end
theorem bE {P:An} {w:BH} {H:Hp} (h:Bl) (hb:Dd < h.objs.size):Cm P w H (h.push { cls:=.type "dict",data:=.dict #[] }) h.objs.size (.dK []):=
 ⟨C0 _,beq_eq_false_iff_ne.mpr (B5 (A0 hb)),[],.nil,Bl.DictOf.new h⟩
theorem bC {P:An} {w:BH} {H:Hp} (h:Bl) (hb:Dd < h.objs.size):Cm P w H (h.push { cls:=.type "dict",data:=.dict #[] }) h.objs.size (.dT []):=
 ⟨C0 _,beq_eq_false_iff_ne.mpr (B5 (A0 hb)),[],.nil,_,#[],0,Aq _ rfl,⟨rfl,rfl,rfl⟩,rfl,rfl,IQ⟩
def gt:TE:=λ_ H Q=>∀p,H p=none->Q (.ref p) (upd H p (.dK []))
def gr:TE:=λ_ H Q=>∀p,H p=none->Q (.ref p) (upd H p (.dT []))
variable {prog:An} {w:BH} {A:BD} {E:AC->AE->Prop} {s:AE}
section
variable {X:Cx} {pos:Pos}
theorem Zx:PE X (.Dict [] [] pos) gt:=λpins s σ H Q I h=>
 jv ⟨.ref s.heap.objs.size,_,I.laid (a:=s.heap.objs.size) (o:=.dK []) (t':=s.toks) (λ_ _ q=>AO _ q) (AU _) (bE s.heap I.big),rfl,h _ (I.hok.fresh (AU _))⟩
theorem Zw:PE X (.Dict [] [] pos) gr:=λpins s σ H Q I h=>
 jv ⟨.ref s.heap.objs.size,_,I.laid (a:=s.heap.objs.size) (o:=.dT []) (t':=s.toks) (λ_ _ q=>AO _ q) (AU _) (bC s.heap I.big),rfl,h _ (I.hok.fresh (AU _))⟩
end
section
variable {X:Cx} {pins:List (AI×Obj)} {σ:St} {H:Hp} {s:AE} {a:AI} {y d:V} {u r:AC} {o:Option V} {A:BD} {E:AC->AE->Prop}
end
section
variable {X:Cx} {o e f:Expr} {apos cpos:Pos} {td ty tx:TE}
end
section
variable {X:Cx} {pins:List (AI×Obj)} {σ:St} {H:Hp} {s:AE} {a:AI} {kvs:List (Key×V)} {A:BD} {E:AC->AE->Prop}
end
section
variable {X:Cx} {pins:List (AI×Obj)} {σ:St} {H:Hp} {s:AE} {a:AI} {y:V} {u:AC} {A:BD} {E:AC->AE->Prop}
variable {X:Cx}
end
end L2
namespace Att
open PySem PySem.W PySem.Calls PyProof.Rows
theorem OR {P:Params} {h:Bl}:∀(ns:List Int) (vs:List AC),WellAll P h vs (ns.map ls)->Fc vs ns:=by
 intro ns
 induction ns with
 | nil=>
  intro vs w;rw [Nu] at w;cases w;exact .nil
 | cons n ns ih=>
  intro vs w;rw [A3] at w
  cases w with
  | cons a b=>
   cases a;exact .cons _ _ (ih _ b)
theorem Xo {l:OpenLaw} {n:Nat} (hn:l.most=some n) {P:Params} {h:Bl} {args:List WData} {vals:List AC}
  (hpre:l.row.toRowW.claim.pre args=true) (hwl:WellAll P h vals args) :
  ∃a vs ns,vals=[Az a]/\args=[WData.list (ns.map ls)]/\h.get? a=some { cls:=.type "list",data:=.seq vs.toArray }/\Fc vs ns/\ns.length<=n:=by
 have hsh:WShape.hasAll [] args [.list .int]=true:=(pre_splitW hpre).1;have hc:l.pre.holds [] { args:=args }=true:=(pre_splitW hpre).2;obtain ⟨d,r,rfl,h1,h2⟩:=hasAllW_cons hsh;obtain rfl:=hasAllW_nil h2;obtain ⟨xs,rfl,h3⟩:=hasW_list h1;obtain ⟨ns,rfl⟩:=items_int h3
 have hlen:ns.length<=n:=by
  unfold OpenLaw.pre at hc
  have h4:(WTm.not (.lt (.lit (.int (n:Int))) (.len (.arg 0)))).holds [] { args:=[.list (ns.map .int)] }=true:=by
   have h4:=(holds_andW hc).1;rw [hn] at h4;exact h4
  have h5:=condW_of h4 (w_not (w_lt w_lit (w_len_list (w_arg rfl))));rw [AH] at h5
  refine Ou λq=>?_
  have q':(n:Int) < ((ns.length:Nat):Int):=by omega
  first
   | (rw [decide_eq_true q'] at h5;exact absurd h5 (by decide))
   | (simp at h5;omega)
 cases hwl with
 | cons w1 w2=>
  cases w2
  cases w1 with
  | list ho hall=>exact ⟨_,_,ns,rfl,rfl,ho,OR ns _ hall,hlen⟩
theorem Xx (l:OpenLaw) (args:List WData):l.row.toRowW.claim.post args (.bool true) args=true:=
 postW_of (r:=l.row.toRowW) (X:=(true==true))
  (show jl [] (.bool true) .bool=true by first | rfl | decide | simp [jl,WShape.arms,WShape.armsAll])
  (show (WTm.eq .res (.lit (.bool true))).value [] { args:=args,res:=some (.bool true),after:=args }=some (.bool (true==true)) from w_eq_bool (w_res rfl) w_lit) rfl
theorem UF {l:OpenLaw} {n:Nat} {q:An} {loose:List Str} {XP:(Str->Option AC)->Bl->Prop} {YP:BH->Bl->Prop} {d:DefRec}
  (hn:l.most=some n) (hdf:d.params.defaults=[])
  (call:∀(w:BH) (s₀ s₁:AE) (mg mb:Str->Option AC) (fa:AI) (o:Obj) (pm cd doc:AC) (a:AI) (vs:List AC) (ns:List Int),
   Ground q loose [] XP w s₀ mg mb s₁.heap->YP w s₁.heap ->
   s₁.heap.get? fa=some o->o.data=.func (docDef d.name d.params d.body d.scope pm cd doc)->s₁.heap.CodeRec cd d.name->mg d.name=some (.ref fa) ->
   s₁.heap.get? a=some { cls:=.type "list",data:=.seq vs.toArray }->Fc vs ns->ns.length<=n->s₁.gens = #[] ->
   Lg (AY l.prog w) P7 (.call (.ref fa) ⟨[.ref a],[]⟩) (λr s'=>r=.ok (.ret (.bool true))/\OldK s₁.heap s'.heap/\s'.os=s₁.os/\II s'.gens) s₁) :
  WalkO q loose XP YP l.row.toRowW d [] (λf vs=>XR f vs):=by
 intro w s₀ s₁ mg mb G Y fa o pm cd doc dV kV ho hd hcd hD hmg hg args vals as hpre hlay hrd hwl hlo;obtain rfl:dV=.none:=Dflts.none hD hdf;obtain rfl:kV=.none:=Dflts.noKw hD;obtain ⟨a,vs,ns,rfl,rfl,hobj,hints,hlen⟩:=Xo hn hpre hwl;refine enter_call (Ix (call w s₀ s₁ mg mb fa o pm cd doc a vs ns G Y ho (fd_plain hd) hcd hmg hobj hints hlen hg) λr s' hq=>?_);obtain ⟨rfl,h2,h3,h4⟩:=hq;exact ⟨.inl ⟨.bool true,.bool true,[],rfl,λ_=>rfl,.bool true,Xx l _,λ_=>⟨Qd,λ_ hm=>(nomatch hm)⟩⟩,h2,h3,h4⟩
section
variable {prog:An} {w:BH} {A:BD} {E:AC->AE->Prop} {s:AE} {K:Frag}
end
end Att
namespace L2
open PySem PySem.Spec PyProof.Rows
theorem Qg:∀ {vs:List AC} {ns:List Int},Fc vs ns->Bh (ns.map V.int) vs
 | _,_,.nil=>.nil
 | _,_,.cons n t h=>.cons ⟨t,rfl⟩ (Qg h)
def eh (H:Hp):Prop:=∀b,H b=none∨∃o xs,H b=some (.frz o (.lst xs))
theorem aR {P:An} {w:BH} {K:AB} {mg mb:Str->Option AC} {CX:CXT} {k:Nat} {fa a:AI} {fd:DU} {x:Str} {sp:Sp} {s₁:AE} {vs:List AC} {ns:List Int}
  (KX:K.In s₁.heap) (hns:s₁.heap.Ns Ac mg) (hb:s₁.heap.Ns ff mb) (hbb:∀x:Str,x≠"__name__"->mb x=Ec x) (hlim:s₁.heap.NoLimit) (hg:s₁.gens = #[])
  (ha:s₁.heap.get? a=some { cls:=.type "list",data:=.seq vs.toArray }) (hi:Fc vs ns) (hl:ns.length<=sizeLine) (hr:HN k P7)
  (F:∀base:Bl,K.In base->base.Ns Ac mg->Dh P w K mg base CX k fa fd [x] sp) (hbind:∀(s:AE) (u:AC),UU s fd ⟨[u],[]⟩ [(x,u)])
  (hsp:∀H:Hp,eh H->SqL K H a (ns.map V.int)->sp [.ref a] H (λv _=>v=.bl true) λ_ _ _=>False)
  (hCX:∀H e s',CX [] H s₁ (λ_ _ _=>False) e s'->False) :
  Lg (AY P w) P7 (.call (.ref fa) ⟨[.ref a],[]⟩) (λr s'=>r=.ok (.ret (.bool true))/\OldK s₁.heap s'.heap/\s'.os=s₁.os/\II s'.gens) s₁:=by
 have rv:=Qg hi;have lenV:=hi.length
 have core:∀H:Hp,eh H->SqL K H a (ns.map V.int)->HOk P w H s₁.heap->(∀b,H b≠none->b=a)->(H a≠none->K.lookup a=none) ->
   Lg (AY P w) P7 (.call (.ref fa) ⟨[.ref a],[]⟩) (λr s'=>r=.ok (.ret (.bool true))/\OldK s₁.heap s'.heap/\s'.os=s₁.os/\II s'.gens) s₁:=by
  intro H hO hS hok hA hK
  have base_of:∀ {b:AI} {o:Obj},s₁.heap.get? b=some o->H b=none->(Rz s₁.heap H).get? b=some o:=λe n=>ah e n
  have noA:∀ {b:AI} {o:Obj} {es:Array Ny} {ep:Nat},s₁.heap.get? b=some o->o.data=.dict es ep->H b=none:=λ{b o es ep} e d=>by
   cases q:H b with
   | none=>rfl
   | some u=>
    have e':b=a:=hA b (by rw [q];simp);subst e';rw [ha] at e;cases e;have d':Data.seq vs.toArray _=Data.dict es ep:=d;cases d'
  have nsK:∀ {b:AI} {m:Str->Option AC},s₁.heap.Ns b m->(Rz s₁.heap H).Ns b m:=λ{b m} ⟨o,es,ep,e,d,r⟩=>⟨o,es,ep,base_of e (noA e d),d,r⟩
  have hKb:K.In (Rz s₁.heap H):=λb o e=>base_of (KX b o e) (by
   cases q:H b with
   | none=>rfl
   | some u=>
    have e':b=a:=hA b (by rw [q];simp);subst e'
    rw [hK (by rw [q];simp)] at e;cases e)
  have hM:Mod K mg (Rz s₁.heap H):=⟨hKb,nsK hns,⟨mb,nsK hb,hbb⟩,let ⟨mc,h1,h2⟩:=hlim;⟨mc,nsK h1,h2⟩⟩;have e0:V7 P w K mg (Rz s₁.heap H) P7 [] s₁ H:=⟨rfl,hM,λb o e=>dX e,Ug (YD _ _),trivial,λb hb=>absurd (show b∈([]:List AI) from hb) (by simp),hok,.of_eq hg⟩
  refine Ix ((F _ hKb (nsK hns)).run P7 [] s₁ H ⟨[.ref a],[]⟩ [.ref a] [.ref a] _ _ hr e0 (hbind s₁ (.ref a)) (.cons rfl .nil) (hsp H hO hS)) λr s' h=>?_
  cases r with
  | error e=>exact (hCX H e s' h).elim
  | ok fl=>
   cases fl with
   | next=>exact Dl h
   | brk=>exact Dl h
   | cont=>exact Dl h
   | ret u=>
    obtain ⟨v,H',os,bare,un,hok',r',q⟩:=h;have q':v=.bl true:=q;subst q';obtain rfl:u=MU true:=r';refine ⟨rfl,OldK.of_keep λb o e=>?_,os,bare⟩
    cases q:H b with
    | none=>exact un.keep b o e q (by intro z;exact absurd (show b∈([]:List AI) from z) (by simp)) (by simp)
    | some u=>
     rcases hO b with z | ⟨ob,xs,z⟩
     ·rw [q] at z;cases z
     ·have z2:=un.frzs b ob _ z
      obtain ⟨e1,_⟩:=hok b _ z;obtain ⟨e2,_⟩:=hok' b _ z2;rw [e] at e1;cases e1;exact e2
 cases hk:K.lookup a with
 | some o=>
  have e:=KX a o hk;rw [ha] at e;cases e
  refine core (λ_=>none) (λ_=>.inl rfl) (.inr ⟨_,vs.toArray,_,hk,rfl,rfl,rfl,by rw [Ak,lenV];exact hl,by simpa using rv⟩) (λb u z=>by have z':(none:Option HO)=some u:=z;cases z') (λb z=>absurd rfl z) λz=>absurd rfl z
 | none=>
  refine core (λb=>if b=a then some (.frz { cls:=.type "list",data:=.seq vs.toArray } (.lst (ns.map V.int))) else none) (λb=>?_) (.inl (.inr ⟨{ cls:=.type "list",data:=.seq vs.toArray },if_pos rfl⟩)) (λb u z=>?_) (λb z=>?_) λ_=>hk
  ·by_cases hb:b=a
   ·exact .inr ⟨_,_,if_pos hb⟩
   ·exact .inl (if_neg hb)
  ·by_cases hb:b=a
   ·have z':=(if_pos hb).symm.trans z
    cases z';subst hb;exact ⟨ha,by rw [AH];exact hl,vs,_,rv,ha⟩
   ·have z':=(if_neg hb).symm.trans z
    cases z'
  ·by_cases hb:b=a
   ·exact hb
   ·exact absurd (if_neg hb) z
end L2
namespace L2
open PySem PySem.Spec PyProof.Rows
theorem cC {l:PySem.W.OpenLaw} {n k:Nat} {q:An} {loose:List Str} {XP:(Str->Option AC)->Bl->Prop} {YP:BH->Bl->Prop} {d:DefRec} {K:Params->AB} {CX:BH->CXT} {sp:BH->Sp} {x:Str}
  (hn:l.most=some n) (hn2:n<=sizeLine) (hdf:d.params.defaults=[]) (hr:HN k P7)
  (hY:∀(w:BH) (h:Bl),YP w h->(K w.params).In h)
  (F:∀(w:BH) (mg:Str->Option AC) (fa:AI) (h:Bl),(K w.params).In h->h.Ns Ac mg->mg d.name=some (.ref fa) ->
   ∃fd:DU,(∀(s:AE) (u:AC),UU s fd ⟨[u],[]⟩ [(x,u)]) /\
    ∀base:Bl,(K w.params).In base->base.Ns Ac mg->Dh l.prog w (K w.params) mg base (CX w) k fa fd [x] (sp w))
  (hsp:∀(w:BH) (H:Hp) (a:AI) (ns:List Int),ns.length<=n->eh H->SqL (K w.params) H a (ns.map V.int)->sp w [.ref a] H (λv _=>v=.bl true) λ_ _ _=>False)
  (hCX:∀(w:BH) (H:Hp) (s:AE) (e:AC) (s':AE),CX w [] H s (λ_ _ _=>False) e s'->False) :
  PySem.W.WalkO q loose XP YP l.row.toRowW d [] (λf vs=>XR f vs):=by
 refine Att.UF hn hdf λw s₀ s₁ mg mb fa o pm cd doc a vs ns G Y ho hd hcd hmg hobj hints hlen hg=>?_
 have KX:=hY w _ Y;obtain ⟨fd,hb,hF⟩:=F w mg fa _ KX G.T.g hmg
 exact aR KX G.T.g G.T.b G.T.builtins G.T.nolimit hg hobj hints (Al hlen hn2) hr hF hb (λH hO hS=>hsp w H a ns hlen hO hS) λH e s'=>hCX w H s₁ e s'
end L2
/- THE LAST THEOREM (shape;LID,My.* are yours):
   My.Adr: a structure of the addresses that your layer names (classes,functions);My.Txt K t: a structure (Prop) of the equations over K;
   My.txt_mk:{K} {implicit addresses ..} (e1:nsIn K Ac "law" = some (some (.ref f))) (e2:K.lookup f=some ⟨oc,od,.func (fnOf "law" "law" params body scope dV kV doc pm an cdv ct),sl⟩) (e3:codeIn K cdv "law" = true) ..:∃t,My.Txt K t
(the tactic k_is has no namespace: write k_is) -/
namespace L2
open PySem PySem.Spec PyProof.Rows
def dn (s:Cn) (j:Nat):Cn:=match s with
 | .ClassDef _ _ _ body _ _ _ _ _ _ _=>body.getD j (.Pass ⟨0,0,0,0⟩)
 | _=>.Pass ⟨0,0,0,0⟩
def Bv (s:Cn):Arguments:=match s with
 | .FunctionDef _ a _ _ _ _ _ _ _ _=>a
 | _=>{ posonlyargs:=[],args:=[],vararg:=none,kwonlyargs:=[],kw_defaults:=[],kwarg:=none,defaults:=[] }
def Bi (s:Cn):List Cn:=match s with
 | .FunctionDef _ _ b _ _ _ _ _ _ _=>b
 | _=>[]
def Ai (s:Cn):IK:=match s with
 | .FunctionDef _ _ _ _ _ _ sc _ _ _=>sc
 | _=>{ kind:=.function,names:=[],isGenerator:=false,isCoroutine:=false }
structure Fun (K:AB) (x qual:Str) (st:Cn) (f:AI) (fd:DU):Prop where
 ex:∃(oc:AC) (od:Option AI) (kV doc pm:AC) (an:Option AI) (cdv ct:AC) (osl:Array (Option AC)),
  fd=HU x qual (Bv st) (Bi st) (Ai st) .none kV doc pm an cdv ct/\K.lookup f=some ⟨oc,od,.func fd,osl⟩/\Oq K cdv qual=true
 kp:Ff K (.ref f)=true
section
variable {P:An} {w:BH} {K:AB} {mg:Str->Option AC} {base:Bl}
theorem Fun.binds {x qual:Str} {st:Cn} {f:AI} {fd:DU} {ps:List Str} (F:Fun K x qual st f fd)
  (h:∀(kV doc pm:AC) (an:Option AI) (cdv ct:AC) (us:List AC),us.length=ps.length->bindArgs (HU x qual (Bv st) (Bi st) (Ai st) .none kV doc pm an cdv ct) ⟨us,[]⟩=pure (ps.zip us)):Binds K fd ps []:=by
 obtain ⟨oc,od,kV,doc,pm,an,cdv,ct,osl,rfl,lk,hcd⟩:=F.ex;exact .all (h kV doc pm an cdv ct)
theorem Cu {x qual:Str} {st:Cn} {f:AI} {oc:AC} {od an:Option AI} {osl:Array (Option AC)} {kV doc pm cdv ct:AC} (l:K.lookup f=some ⟨oc,od,.func (HU x qual (Bv st) (Bi st) (Ai st) .none kV doc pm an cdv ct),osl⟩)
  (c:Oq K cdv qual=true) (k:Ff K (.ref f)=true):Fun K x qual st f (HU x qual (Bv st) (Bi st) (Ai st) .none kV doc pm an cdv ct):=⟨⟨oc,od,kV,doc,pm,an,cdv,ct,osl,rfl,l,c⟩,k⟩
end
section
variable {X:Cx}
theorem pv (i:Nat) {x:Str} {pos:Pos} (hN:X.N[i]?=some x:=by rfl) (hv:Vis X.env.scope x:=by first | exact MH rfl | exact Kw (MH rfl) | exact Kw (Kw rfl)) (hd:(x==("__debug__" : Str))=false:=by decide)
  (hcd:(x==("__classdict__" : Str))=false:=by decide):PE X (.Name x pos) (gm i):=iJ hN hv hd hcd
end
section
variable {κ:Type} [DecidableEq κ]
end
end L2
namespace L2
open PySem PySem.Spec PyProof.Rows
inductive D where
 | non | bl (b:Bool) | int (i:Int) | str (x:Str) | tup (ds:List D) | fro (ds:List D) | ref (n:Nat) | exc (C:AI)
def QU (K:AB) (H:Hp) (a:AI) (vs:List V):Prop:=
 (∃o,H a=some (.frz o (.lst vs))) ∨
  ∃(o:Obj) (its:Array AC) (n:Nat),K.lookup a=some o/\o.cls=.type "list"/\o.dict=none/\o.data=.seq its n/\its.size<=sizeLine/\Bh vs its.toList
theorem QU.sq {K:AB} {H:Hp} {a:AI} {vs:List V} (h:QU K H a vs):SqL K H a vs:=by
 rcases h with h | h
 ·exact .inl (.inr h)
 ·exact .inr h
def SV (o:Obj) (C:AI):Prop:=o.cls=.ref C/\o.dict=none/\∃vs,o.data=.fields vs
mutual
inductive Bo (K:AB) (ρ:List AI) (H:Hp):D->V->Prop where
 | non:Bo K ρ H .non .non
 | bl (b:Bool):Bo K ρ H (.bl b) (.bl b)
 | int (i:Int):Bo K ρ H (.int i) (.int i)
 | str (x:Str):Bo K ρ H (.str x) (.str x)
 | tup {ds:List D} {a:AI} {vs:List V}:H a=some (.tup vs)->At K ρ H ds vs->Bo K ρ H (.tup ds) (.ref a)
 | fro {ds:List D} {a:AI} {vs:List V}:QU K H a vs->At K ρ H ds vs->Bo K ρ H (.fro ds) (.ref a)
 | ref {n:Nat} {a:AI}:ρ[n]?=some a->Bo K ρ H (.ref n) (.ref a)
 | exc {C a:AI} {o:Obj} {u:HO}:H a=some (.frz o u)->SV o C->Bo K ρ H (.exc C) (.ref a)
inductive At (K:AB) (ρ:List AI) (H:Hp):List D->List V->Prop where
 | nil:At K ρ H [] []
 | cons {d:D} {v:V} {ds:List D} {vs:List V}:Bo K ρ H d v->At K ρ H ds vs->At K ρ H (d :: ds) (v :: vs)
end
structure Le (K:AB) (ρ:List AI) (H:Hp) (ρ':List AI) (H':Hp):Prop where
 pre:∀(n:Nat) a,ρ[n]?=some a->ρ'[n]?=some a
 tup:∀a xs,H a=some (.tup xs)->H' a=some (.tup xs)
 frz:∀a o u,H a=some (.frz o u)->H' a=some (.frz o u)
 oth:∀a o,H a=some o->(∀n:Nat,ρ[n]?≠some a)->H' a=some o/\∀n:Nat,ρ'[n]?≠some a
theorem QU.mono {K:AB} {H H':Hp} {a:AI} {xs:List V} (l:∀a o u,H a=some (.frz o u)->H' a=some (.frz o u)) (h:QU K H a xs):QU K H' a xs:=by
 rcases h with ⟨o,h⟩ | h
 ·exact .inl ⟨o,l _ _ _ h⟩
 ·exact .inr h
section
variable {K:AB} {ρ ρ' ρ'':List AI} {H H' H'':Hp}
theorem Le.fro (l:Le K ρ H ρ' H'):∀a xs,QU K H a xs->QU K H' a xs:=λ_ _ h=>h.mono l.frz
theorem Le.refl:Le K ρ H ρ H:=⟨λ_ _ h=>h,λ_ _ h=>h,λ_ _ _ h=>h,λ_ _ h n=>⟨h,n⟩⟩
theorem Le.trans (a:Le K ρ H ρ' H') (b:Le K ρ' H' ρ'' H''):Le K ρ H ρ'' H'':=
 ⟨λn x h=>b.pre n x (a.pre n x h),λx xs h=>b.tup x xs (a.tup x xs h),λx o u h=>b.frz x o u (a.frz x o u h),λx o h n=>b.oth x o (a.oth x o h n).1 (a.oth x o h n).2⟩
mutual
theorem Bo.mono (l:Le K ρ H ρ' H'):∀ {d:D} {v:V},Bo K ρ H d v->Bo K ρ' H' d v
 | _,_,.non=>.non
 | _,_,.bl b=>.bl b
 | _,_,.int i=>.int i
 | _,_,.str x=>.str x
 | _,_,.tup h r=>.tup (l.tup _ _ h) (At.mono l r)
 | _,_,.fro h r=>.fro (l.fro _ _ h) (At.mono l r)
 | _,_,.ref h=>.ref (l.pre _ _ h)
 | _,_,.exc h e=>.exc (l.frz _ _ _ h) e
theorem At.mono (l:Le K ρ H ρ' H'):∀ {ds:List D} {vs:List V},At K ρ H ds vs->At K ρ' H' ds vs
 | _,_,.nil=>.nil
 | _,_,.cons r t=>.cons (Bo.mono l r) (At.mono l t)
end
mutual
theorem Bo.more (l:∀(n:Nat) a,ρ[n]?=some a->ρ'[n]?=some a):∀ {d:D} {v:V},Bo K ρ H d v->Bo K ρ' H d v
 | _,_,.non=>.non
 | _,_,.bl b=>.bl b
 | _,_,.int i=>.int i
 | _,_,.str x=>.str x
 | _,_,.tup h r=>.tup h (At.more l r)
 | _,_,.fro h r=>.fro h (At.more l r)
 | _,_,.ref h=>.ref (l _ _ h)
 | _,_,.exc h e=>.exc h e
theorem At.more (l:∀(n:Nat) a,ρ[n]?=some a->ρ'[n]?=some a):∀ {ds:List D} {vs:List V},At K ρ H ds vs->At K ρ' H ds vs
 | _,_,.nil=>.nil
 | _,_,.cons r t=>.cons (Bo.more l r) (At.more l t)
end
mutual
theorem Bo.keep (h1:∀a xs,H a=some (.tup xs)->H' a=some (.tup xs)) (h2:∀a o u,H a=some (.frz o u)->H' a=some (.frz o u)):∀ {d:D} {v:V},Bo K ρ H d v->Bo K ρ H' d v
 | _,_,.non=>.non
 | _,_,.bl b=>.bl b
 | _,_,.int i=>.int i
 | _,_,.str x=>.str x
 | _,_,.tup h r=>.tup (h1 _ _ h) (At.keep h1 h2 r)
 | _,_,.fro h r=>.fro (h.mono h2) (At.keep h1 h2 r)
 | _,_,.ref h=>.ref h
 | _,_,.exc h e=>.exc (h2 _ _ _ h) e
theorem At.keep (h1:∀a xs,H a=some (.tup xs)->H' a=some (.tup xs)) (h2:∀a o u,H a=some (.frz o u)->H' a=some (.frz o u)):∀ {ds:List D} {vs:List V},At K ρ H ds vs->At K ρ H' ds vs
 | _,_,.nil=>.nil
 | _,_,.cons r t=>.cons (Bo.keep h1 h2 r) (At.keep h1 h2 t)
end
theorem At.length:∀ {ds:List D} {vs:List V},At K ρ H ds vs->ds.length=vs.length
 | _,_,.nil=>rfl
 | _,_,.cons _ t=>by rw [As,As,At.length t]
theorem At.get:∀ {ds:List D} {vs:List V} {i:Nat} {d:D},At K ρ H ds vs->ds[i]?=some d->∃v,vs[i]?=some v/\Bo K ρ H d v
 | _,_,_,_,.nil,e=>by simp at e
 | _,_,0,_,.cons r _,e=>by simp at e;subst e;exact ⟨_,rfl,r⟩
 | _,_,i+1,d,.cons _ t,e=>by
  obtain ⟨v,h1,h2⟩:=At.get (i:=i) (d:=d) t (by simpa using e);exact ⟨v,by simpa using h1,h2⟩
theorem At.get':∀ {ds:List D} {vs:List V} {i:Nat} {v:V},At K ρ H ds vs->vs[i]?=some v->∃d,ds[i]?=some d/\Bo K ρ H d v
 | _,_,_,_,.nil,e=>by simp at e
 | _,_,0,_,.cons r _,e=>by simp at e;subst e;exact ⟨_,rfl,r⟩
 | _,_,i+1,d,.cons _ t,e=>by
  obtain ⟨v,h1,h2⟩:=At.get' (i:=i) (v:=d) t (by simpa using e);exact ⟨v,by simpa using h1,h2⟩
theorem At.append:∀ {ds es:List D} {vs us:List V},At K ρ H ds vs->At K ρ H es us->At K ρ H (ds++es) (vs++us)
 | _,_,_,_,.nil,s=>s
 | _,_,_,_,.cons r t,s=>.cons r (At.append t s)
theorem At.take:∀ {ds:List D} {vs:List V} (n:Nat),At K ρ H ds vs->At K ρ H (ds.take n) (vs.take n)
 | _,_,0,_=>.nil
 | _,_,_+1,.nil=>.nil
 | _,_,n+1,.cons r t=>.cons r (At.take n t)
theorem At.drop:∀ {ds:List D} {vs:List V} (n:Nat),At K ρ H ds vs->At K ρ H (ds.drop n) (vs.drop n)
 | _,_,0,r=>r
 | _,_,_+1,.nil=>.nil
 | _,_,n+1,.cons _ t=>At.drop n t
theorem At.reverse {ds:List D} {vs:List V} (h:At K ρ H ds vs):At K ρ H ds.reverse vs.reverse:=by
 induction ds generalizing vs with
 | nil=>cases h;exact .nil
 | cons d ds ih=>
  cases h with
  | cons r t=>rw [JA,JA];exact (ih t).append (.cons r .nil)
theorem At.of_ints:∀(ns:List Int),At K ρ H (ns.map D.int) (ns.map V.int)
 | []=>.nil
 | n :: ns=>.cons (.int n) (At.of_ints ns)
theorem At.ints:∀ {ns:List Int} {vs:List V},At K ρ H (ns.map D.int) vs->vs=ns.map V.int
 | [],_,.nil=>rfl
 | n :: ns,_,.cons r t=>by
  cases r;rw [At.ints (ns:=ns) t];rfl
end
inductive Ob where
 | lst (ds:List D)
 | dK (kvs:List (Key×D))
 | dT (kvs:List (List Key×D))
 | ins (C:AI) (fs:List (Str×D))
abbrev Sto:=List Ob
abbrev KVR {κ:Type} (K:AB) (ρ:List AI) (H:Hp):List (κ×D)->List (κ×V)->Prop:=HF λ(p:κ×D) (q:κ×V)=>p.1=q.1/\Bo K ρ H p.2 q.2
def E2 (K:AB) (ρ:List AI) (H:Hp) (a:AI):Ob->Prop
 | .lst ds=>∃vs,H a=some (.lst vs)/\At K ρ H ds vs
 | .dK kvs=>∃kvs',H a=some (.dK kvs')/\KVR K ρ H kvs kvs'
 | .dT kvs=>∃kvs',H a=some (.dT kvs')/\KVR K ρ H kvs kvs'
 | .ins C fs=>∃dx fs',H a=some (.ins C dx fs')/\KVR K ρ H fs fs'
structure B4 (K:AB) (ρ:List AI) (S:Sto) (H:Hp):Prop where
 len:ρ.length=S.length
 nd:∀(i j:Nat) a,ρ[i]?=some a->ρ[j]?=some a->i=j
 ob:∀(n:Nat) o a,S[n]?=some o->ρ[n]?=some a->E2 K ρ H a o
section
variable {K:AB} {ρ ρ':List AI} {H H':Hp} {S:Sto} {a p:AI} {o:Ob} {n:Nat} {ho:HO}
theorem KVR.mono {κ:Type} (l:Le K ρ H ρ' H') {x:List (κ×D)} {y:List (κ×V)} (h:KVR K ρ H x y):KVR K ρ' H' x y:=HF.mapP h λ_ _ z=>⟨z.1,z.2.mono l⟩
theorem E2.mut (h:E2 K ρ H a o):Mut (H a):=by
 cases o with
 | lst ds=>obtain ⟨_,e,_⟩:=h;rw [e];trivial
 | dK ds=>obtain ⟨_,e,_⟩:=h;rw [e];trivial
 | dT ds=>obtain ⟨_,e,_⟩:=h;rw [e];trivial
 | ins C fs=>obtain ⟨_,_,e,_⟩:=h;rw [e];trivial
theorem E2.mono (l:Le K ρ H ρ' H') (e:H' a=H a) (h:E2 K ρ H a o):E2 K ρ' H' a o:=by
 cases o with
 | lst ds=>obtain ⟨vs,h1,h2⟩:=h;exact ⟨vs,e.trans h1,h2.mono l⟩
 | dK ds=>obtain ⟨vs,h1,h2⟩:=h;exact ⟨vs,e.trans h1,h2.mono l⟩
 | dT ds=>obtain ⟨vs,h1,h2⟩:=h;exact ⟨vs,e.trans h1,h2.mono l⟩
 | ins C fs=>obtain ⟨dx,vs,h1,h2⟩:=h;exact ⟨dx,vs,e.trans h1,h2.mono l⟩
theorem E2.keep (h1:∀a xs,H a=some (.tup xs)->H' a=some (.tup xs)) (h2:∀a o u,H a=some (.frz o u)->H' a=some (.frz o u)) (e:H' a=H a) (h:E2 K ρ H a o):E2 K ρ H' a o:=by
 cases o with
 | lst ds=>obtain ⟨vs,q1,q2⟩:=h;exact ⟨vs,e.trans q1,q2.keep h1 h2⟩
 | dK ds=>obtain ⟨vs,q1,q2⟩:=h;exact ⟨vs,e.trans q1,HF.mapP q2 λ_ _ z=>⟨z.1,z.2.keep h1 h2⟩⟩
 | dT ds=>obtain ⟨vs,q1,q2⟩:=h;exact ⟨vs,e.trans q1,HF.mapP q2 λ_ _ z=>⟨z.1,z.2.keep h1 h2⟩⟩
 | ins C fs=>obtain ⟨dx,vs,q1,q2⟩:=h;exact ⟨dx,vs,e.trans q1,HF.mapP q2 λ_ _ z=>⟨z.1,z.2.keep h1 h2⟩⟩
theorem E2.mono' (l:∀(n:Nat) a,ρ[n]?=some a->ρ'[n]?=some a) (h:E2 K ρ H a o):E2 K ρ' H a o:=by
 cases o with
 | lst ds=>obtain ⟨vs,h1,h2⟩:=h;exact ⟨vs,h1,h2.more l⟩
 | dK ds=>obtain ⟨vs,h1,h2⟩:=h;exact ⟨vs,h1,HF.mapP h2 λ_ _ z=>⟨z.1,z.2.more l⟩⟩
 | dT ds=>obtain ⟨vs,h1,h2⟩:=h;exact ⟨vs,h1,HF.mapP h2 λ_ _ z=>⟨z.1,z.2.more l⟩⟩
 | ins C fs=>obtain ⟨dx,vs,h1,h2⟩:=h;exact ⟨dx,vs,h1,HF.mapP h2 λ_ _ z=>⟨z.1,z.2.more l⟩⟩
theorem Fu (hp:H p=none∨Mut (H p)):(∀a xs,H a=some (.tup xs)->upd H p ho a=some (.tup xs))/\∀a o u,H a=some (.frz o u)->upd H p ho a=some (.frz o u):=by
 have ne:∀a u,H a=some u->¬Mut (some u)->a≠p:=λa u e nm z=>by
  subst z
  rcases hp with h | h
  ·rw [e] at h;cases h
  ·rw [e] at h;exact nm h
 refine ⟨λa xs e=>?_,λa o u e=>?_⟩
 ·rw [BR (ne a _ e λz=>z)];exact e
 ·rw [BR (ne a _ e λz=>z)];exact e
theorem Le.fresh (hp:H p=none):Le K ρ H ρ (upd H p ho):=
 ⟨λ_ _ h=>h,(Fu (.inl hp)).1,(Fu (.inl hp)).2,λa o e n=>⟨by rw [BR (Bc e hp)];exact e,n⟩⟩
theorem Le.write (hn:ρ[n]?=some p) (hm:Mut (H p)):Le K ρ H ρ (upd H p ho):=
 ⟨λ_ _ h=>h,(Fu (.inr hm)).1,(Fu (.inr hm)).2,λa o e h=>⟨by rw [BR λz=>h n (by rw [z];exact hn)];exact e,h⟩⟩
theorem Hx {α:Type} {l:List α} {x:α} {m:Nat} {a:α} (e:(l++[x])[m]?=some a):(l[m]?=some a/\m < l.length)∨(m=l.length/\a=x):=by
 by_cases hm:m < l.length
 ·rw [Ah hm] at e;exact .inl ⟨e,hm⟩
 ·rw [A8 (by lia)] at e
  have:m - l.length=0:=by
   have:=(AM.mp e).1;simp at this;omega
  rw [this] at e;exact .inr ⟨by lia,by simpa using e.symm⟩
theorem Le.alloc (hp:H p=none):Le K ρ H (ρ++[p]) (upd H p ho):=by
 refine ⟨λn a h=>by rw [Ah (AM.mp h).1];exact h,(Fu (.inl hp)).1,(Fu (.inl hp)).2,λa o e h=>⟨by rw [BR (Bc e hp)];exact e,λn q=>?_⟩⟩
 rcases Hx q with ⟨q,_⟩ | ⟨_,q⟩
 ·exact h n q
 ·exact Bc e hp q
theorem B4.there (h:B4 K ρ S H) {m:Nat} (e:ρ[m]?=some a):∃o,S[m]?=some o/\E2 K ρ H a o:=by
 have hn:m < S.length:=by rw [<-h.len];exact (AM.mp e).1
 exact ⟨S[m],by simp [hn],h.ob m _ a (by simp [hn]) e⟩
theorem B4.notIn (h:B4 K ρ S H) (hp:H p=none) {m:Nat} (e:ρ[m]?=some p):False:=by
 obtain ⟨o,_,r⟩:=h.there e;have:=r.mut;rw [hp] at this;exact this
theorem B4.alloc (h:B4 K ρ S H) (hp:H p=none) (hob:E2 K (ρ++[p]) (upd H p ho) p o):B4 K (ρ++[p]) (S++[o]) (upd H p ho)/\Le K ρ H (ρ++[p]) (upd H p ho)/\(ρ++[p])[S.length]?=some p:=by
 have le:Le K ρ H (ρ++[p]) (upd H p ho):=Le.alloc hp
 have at':∀(m:Nat) a,(ρ++[p])[m]?=some a->(ρ[m]?=some a/\m < ρ.length)∨(m=ρ.length/\a=p):=λm a e=>Hx e
 refine ⟨⟨by simp [h.len],λi j a hi hj=>?_,λm ob a hm ha=>?_⟩,le,by rw [<-h.len];simp⟩
 ·rcases at' i a hi with ⟨hi1,_⟩ | ⟨hi1,ea⟩ <;> rcases at' j a hj with ⟨hj1,_⟩ | ⟨hj1,ea'⟩
  ·exact h.nd i j a hi1 hj1
  ·rw [ea'] at hi1;exact (h.notIn hp hi1).elim
  ·rw [ea] at hj1;exact (h.notIn hp hj1).elim
  ·lia
 ·rcases at' m a ha with ⟨ha1,hlt⟩ | ⟨rfl,rfl⟩
  ·rw [Ah (by rw [<-h.len];exact hlt)] at hm
   refine (h.ob m ob a hm ha1).mono le (BR λz=>?_);rw [z] at ha1;exact h.notIn hp ha1
  ·rw [h.len] at hm
   simp at hm;subst hm;exact hob
theorem B4.write (h:B4 K ρ S H) (hn:ρ[n]?=some a) (hob:E2 K ρ (upd H a ho) a o):B4 K ρ (S.set n o) (upd H a ho)/\Le K ρ H ρ (upd H a ho):=by
 obtain ⟨o',e',r'⟩:=h.there hn;have le:Le K ρ H ρ (upd H a ho):=Le.write hn r'.mut;refine ⟨⟨by simp [h.len],h.nd,λm ob b hm hb=>?_⟩,le⟩
 by_cases e:m=n
 ·subst e
  rw [hn] at hb;cases hb;rw [BC (by rw [<-h.len];exact (AM.mp hn).1)] at hm;cases hm;exact hob
 ·rw [Au (B5 e)] at hm
  refine (h.ob m ob b hm hb).mono le (BR λz=>?_);subst z;exact e (h.nd m n b hb hn)
theorem Le.back {S':Sto} (l:Le K ρ H ρ' H') (s:B4 K ρ S H) (s':B4 K ρ' S' H') (hp:H' p=none):H p=none:=by
 cases q:H p with
 | none=>rfl
 | some o=>
  by_cases hn:∃n:Nat,ρ[n]?=some p
  ·obtain ⟨n,hn⟩:=hn
   exact (s'.notIn hp (l.pre n p hn)).elim
  ·have:=(l.oth p o q λn h=>hn ⟨n,h⟩).1
   rw [hp] at this;cases this
theorem B4.adopt (h:B4 K ρ S H) (hn:∀m:Nat,ρ[m]?≠some p) (hob:E2 K (ρ++[p]) H p o):B4 K (ρ++[p]) (S++[o]) H/\(ρ++[p])[S.length]?=some p:=by
 have le:∀a ob,E2 K ρ H a ob->E2 K (ρ++[p]) H a ob:=λa ob r=>by
  have l0:∀(n:Nat) a,ρ[n]?=some a->(ρ++[p])[n]?=some a:=λn a h=>by rw [Ah (AM.mp h).1];exact h
  exact r.mono' l0
 refine ⟨⟨by simp [h.len],λi j a hi hj=>?_,λm ob a hm ha=>?_⟩,by rw [<-h.len];simp⟩
 ·rcases Hx hi with ⟨hi1,_⟩ | ⟨hi1,ea⟩ <;> rcases Hx hj with ⟨hj1,_⟩ | ⟨hj1,ea'⟩
  ·exact h.nd i j a hi1 hj1
  ·rw [ea'] at hi1;exact (hn i hi1).elim
  ·rw [ea] at hj1;exact (hn j hj1).elim
  ·lia
 ·rcases Hx ha with ⟨ha,hlt⟩ | ⟨rfl,rfl⟩
  ·rw [Ah (by rw [<-h.len];exact hlt)] at hm
   exact le a ob (h.ob m ob a hm ha)
  ·rw [h.len] at hm
   simp at hm;subst hm;exact hob
end
end L2
namespace L2
open PySem PySem.Spec PyProof.Rows
inductive Res (α:Type) where
 | ok (a:α) (S:Sto) | err (c:AI) (S:Sto) | bad
def Res.bind {α β:Type} (r:Res α) (f:α->Sto->Res β):Res β:=match r with
 | .ok a S=>f a S
 | .err c S=>.err c S
 | .bad=>.bad
abbrev Lo:=List (Option D)
abbrev ME:=Lo->Sto->Res D
abbrev MT:=Lo->Sto->Res Bool
abbrev ML:=Lo->Sto->Res (List D)
inductive Fl where
 | nx (e:Lo) | rt (d:D) | bk (e:Lo) | ct (e:Lo) | ex (c:AI) (e:Lo)
abbrev MS:=Lo->Sto->Res Fl
abbrev MG:=D->Lo->Sto->Res Lo
abbrev KD:=Sto->Option (List D)
abbrev MI:=Lo->Sto->Res KD
structure FP (K:AB) (ρ:List AI) (H:Hp) (e:Lo) (σ:St):Prop where
 len:e.length=σ.length
 at':∀(i:Nat) d,e[i]?=some (some d)->∃v,σ[i]?=some (some v)/\Bo K ρ H d v
section
variable {K:AB} {ρ ρ':List AI} {H H':Hp} {S:Sto} {e:Lo} {σ:St}
theorem FP.mono (l:Le K ρ H ρ' H') (h:FP K ρ H e σ):FP K ρ' H' e σ:=⟨h.len,λi d q=>by
 obtain ⟨v,h1,h2⟩:=h.at' i d q
 exact ⟨v,h1,h2.mono l⟩⟩
theorem FP.set {d:D} {v:V} (h:FP K ρ H e σ) (r:Bo K ρ H d v) (i:Nat):FP K ρ H (e.set i (some d)) (σ.set i (some v)):=by
 refine ⟨by simp [h.len],λj d' q=>?_⟩
 by_cases hj:i=j
 ·subst hj
  have hi:i < e.length:=by
   have:=(AM.mp q).1;simpa using this
  rw [BC hi] at q;cases q;exact ⟨v,by rw [BC (by rw [<-h.len];exact hi)],r⟩
 ·rw [Au hj] at q ⊢
  exact h.at' j d' q
end
abbrev EW:=AI->St->Hp->Prop
abbrev EH:=AI->Hp->Prop
abbrev noE:EW:=λ_ _ _=>False
abbrev noH:EH:=λ_ _=>False
def Bs {α:Type} (K:AB) (E:EH) (ρ:List AI) (H:Hp) (r:Res α) (k:α->Sto->Prop):Prop:=match r with
 | .ok a S=>k a S
 | .err c S=>∀ρ' H',Le K ρ H ρ' H'->B4 K ρ' S H'->E c H'
 | .bad=>False
section
variable {α β:Type} {K:AB} {E:EH} {ρ ρ1:List AI} {H H1:Hp}
theorem Bs.seq {r:Res α} {F:α->Sto->Res β} {k:β->Sto->Prop} {k':α->Sto->Prop} (h:Bs K E ρ H (r.bind F) k) (f:∀a S,Bs K E ρ H (F a S) k->k' a S):Bs K E ρ H r k':=by
 cases r with
 | ok a S=>exact f a S h
 | err c S=>exact h
 | bad=>exact h
theorem Bs.later {r:Res α} {k:α->Sto->Prop} (h:Bs K E ρ H r k) (l:Le K ρ H ρ1 H1):Bs K E ρ1 H1 r k:=by
 cases r with
 | ok a S=>exact h
 | err c S=>exact λρ' H' l'=>h ρ' H' (l.trans l')
 | bad=>exact h
theorem Bs.imp {r:Res α} {k k':α->Sto->Prop} (h:Bs K E ρ H r k) (f:∀a S,k a S->k' a S):Bs K E ρ H r k':=by
 cases r with
 | ok a S=>exact f a S h
 | err c S=>exact h
 | bad=>exact h
theorem Bs.go {r:Res α} {k k':α->Sto->Prop} (h:Bs K E ρ H r k) (l:Le K ρ H ρ1 H1) (f:∀a S,k a S->k' a S):Bs K E ρ1 H1 r k':=(h.later l).imp f
end
def okR {α:Type}:Res α->Res α
 | .ok a S=>.ok a S
 | _=>.bad
theorem Bs.okR {α:Type} {K:AB} {E:EH} {ρ:List AI} {H:Hp} {r:Res α} {k:α->Sto->Prop} (h:Bs K E ρ H (L2.okR r) k):∃a S,r=.ok a S/\k a S:=by
 cases r with
 | ok a S=>exact ⟨a,S,rfl,h⟩
 | err c S=>exact h.elim
 | bad=>exact h.elim
section
variable (K:AB) (E:EW)
def gE (m:ME):TE:=λσ H Q=>∃ρ e S,FP K ρ H e σ/\B4 K ρ S H/\Bs K (λc=>E c σ) ρ H (m e S) λd S'=>∀ρ' H' x,Le K ρ H ρ' H'->B4 K ρ' S' H'->Bo K ρ' H' d x->Q x H'
def gT (m:MT):TT:=λσ H Q=>∃ρ e S,FP K ρ H e σ/\B4 K ρ S H/\Bs K (λc=>E c σ) ρ H (m e S) λb S'=>∀ρ' H',Le K ρ H ρ' H'->B4 K ρ' S' H'->Q b H'
def gA (m:ML):TA:=λσ H Q=>∃ρ e S,FP K ρ H e σ/\B4 K ρ S H/\Bs K (λc=>E c σ) ρ H (m e S) λds S'=>∀ρ' H' xs,Le K ρ H ρ' H'->B4 K ρ' S' H'->At K ρ' H' ds xs->Q xs H'
def gL (m:ML):TE:=λσ H Q=>∃ρ e S,FP K ρ H e σ/\B4 K ρ S H/\Bs K (λc=>E c σ) ρ H (m e S) λds S'=>∀ρ' H' p xs,Le K ρ H ρ' H'->B4 K ρ' S' H'->At K ρ' H' ds xs->H' p=some (.lst xs)->(∀n:Nat,ρ'[n]?≠some p)->H p=none->Q (.ref p) H'
def gQ (m:ML):TE:=λσ H Q=>∃ρ e S,FP K ρ H e σ/\B4 K ρ S H/\Bs K (λc=>E c σ) ρ H (m e S) λds S'=>∀ρ' H' p xs,Le K ρ H ρ' H'->B4 K ρ' S' H'->At K ρ' H' ds xs->(SqL K H' p xs∨SqT K H' p xs)->Q (.ref p) H'
def SC (K:AB) (E:EW) (ρ:List AI) (H:Hp) (S':Sto) (D:V8):Fl->Prop
 | .ex c e'=>∀ρ' H' σ',Le K ρ H ρ' H'->B4 K ρ' S' H'->FP K ρ' H' e' σ'->E c σ' H'
 | .nx e'=>∀ρ' H' σ',Le K ρ H ρ' H'->B4 K ρ' S' H'->FP K ρ' H' e' σ'->D.nx σ' H'
 | .bk e'=>∀ρ' H' σ',Le K ρ H ρ' H'->B4 K ρ' S' H'->FP K ρ' H' e' σ'->D.bk σ' H'
 | .ct e'=>∀ρ' H' σ',Le K ρ H ρ' H'->B4 K ρ' S' H'->FP K ρ' H' e' σ'->D.ct σ' H'
 | .rt d=>∀ρ' H' x,Le K ρ H ρ' H'->B4 K ρ' S' H'->Bo K ρ' H' d x->D.rt x H'
def gS (m:MS):TS:=λD σ H=>∃ρ e S,FP K ρ H e σ/\B4 K ρ S H/\Bs K noH ρ H (m e S) λfl S'=>SC K E ρ H S' D fl
def gG (m:MG):TG:=λv σ H Q=>∃ρ e S d,Bo K ρ H d v/\FP K ρ H e σ/\B4 K ρ S H/\Bs K noH ρ H (m d e S) λe' S'=>∀ρ' H' σ',Le K ρ H ρ' H'->B4 K ρ' S' H'->FP K ρ' H' e' σ'->Q σ' H'
def Nq (ρ0:List AI) (H0:Hp) (J:It) (v:KD):Prop:=∀ρ H S ds (i:Nat),Le K ρ0 H0 ρ H->B4 K ρ S H->v S=some ds ->
 (ds[i]?=none->J.stop i H)/\∀d,ds[i]?=some d->J.go i H/\∀x H',J.yld i H x H'->∃ρ',Le K ρ H ρ' H'/\B4 K ρ' S H'/\Bo K ρ' H' d x
def gI (m:MI):TI:=λσ H R=>∃ρ e S,FP K ρ H e σ/\B4 K ρ S H/\Bs K (λc=>E c σ) ρ H (m e S) λv S'=>∀ρ' H' J,Le K ρ H ρ' H'->B4 K ρ' S' H'->Nq K ρ' H' J v->R J H'
end
abbrev GE (X:Cx) (E:EW) (e:Expr) (m:ME):Prop:=PE X e (gE X.K E m)
abbrev GT (X:Cx) (E:EW) (e:Expr) (m:MT):Prop:=PT X e (gT X.K E m)
abbrev GA (X:Cx) (E:EW) (es:List Expr) (m:ML):Prop:=PA X es (gA X.K E m)
abbrev GL (X:Cx) (E:EW) (e:Expr) (m:ML):Prop:=PE X e (gL X.K E m)
abbrev GQ (X:Cx) (E:EW) (e:Expr) (m:ML):Prop:=PE X e (gQ X.K E m)
abbrev GS (X:Cx) (E:EW) (s:Cn) (m:MS):Prop:=PS X s (gS X.K E m)
abbrev GSs (X:Cx) (E:EW) (s:List Cn) (m:MS):Prop:=PSs X s (gS X.K E m)
abbrev GG (X:Cx) (t:Expr) (m:MG):Prop:=PG X t (gG X.K m)
abbrev GI (X:Cx) (E:EW) (tg t:Expr) (m:MI):Prop:=PI X tg t (gI X.K E m)
theorem PE.imp {X:Cx} {e:Expr} {t t':TE} (h:PE X e t) (i:∀σ H Q,t' σ H Q->t σ H Q):PE X e t':=λpins s σ H Q I q=>h pins s σ H Q I (i σ H Q q)
theorem PT.imp {X:Cx} {e:Expr} {t t':TT} (h:PT X e t) (i:∀σ H Q,t' σ H Q->t σ H Q):PT X e t':=λpins s σ H Q I q=>h pins s σ H Q I (i σ H Q q)
theorem PW.imp {X:Cx} {e:Expr} {t t':TT} (h:PW X e t) (i:∀σ H Q,t' σ H Q->t σ H Q):PW X e t':=λwh pins s σ H Q I q=>h wh pins s σ H Q I (i σ H Q q)
theorem PA.imp {X:Cx} {e:List Expr} {t t':TA} (h:PA X e t) (i:∀σ H Q,t' σ H Q->t σ H Q):PA X e t':=λpos pins s σ H Q I q=>h pos pins s σ H Q I (i σ H Q q)
theorem PS.imp {X:Cx} {e:Cn} {t t':TS} (h:PS X e t) (i:∀D σ H,t' D σ H->t D σ H):PS X e t':=λpins s σ H D I q=>h pins s σ H D I (i D σ H q)
theorem PSs.imp {X:Cx} {e:List Cn} {t t':TS} (h:PSs X e t) (i:∀D σ H,t' D σ H->t D σ H):PSs X e t':=λpins s σ H D I q=>h pins s σ H D I (i D σ H q)
theorem PG.imp {X:Cx} {e:Expr} {t t':TG} (h:PG X e t) (i:∀v σ H Q,t' v σ H Q->t v σ H Q):PG X e t':=λpins s σ H v u Q I r q=>h pins s σ H v u Q I r (i v σ H Q q)
theorem PI.imp {X:Cx} {tg e:Expr} {t t':TI} (h:PI X tg e t) (i:∀σ H R,t' σ H R->t σ H R):PI X tg e t':=λpins s σ H R I q=>h pins s σ H R I (i σ H R q)
theorem OpR.imp {X:Cx} {f:AC->AC->Sem AC} {r r':R2} (h:OpR X f r) (i:∀x y H Q,r' x y H Q->r x y H Q):OpR X f r':=λpins s σ H x y v u Q I rx ry q=>h pins s σ H x y v u Q I rx ry (i x y H Q q)
theorem IxR.imp {X:Cx} {r r':R2} (h:IxR X r) (i:∀x y H Q,r' x y H Q->r x y H Q):IxR X r':=λva sl pins s σ H x y v u Q I rx ry q=>h va sl pins s σ H x y v u Q I rx ry (i x y H Q q)
def AF (i:Nat):ME:=λe S=>match e[i]? with
 | some (some d)=>.ok d S
 | _=>.bad
def mC (d:D):ME:=λ_ S=>.ok d S
section
variable {X:Cx} {E:EW} {e a b:Expr} {pos:Pos} {ma mb:ME}
theorem AD {i:Nat} (h:PE X e (gm i)):GE X E e (AF i):=h.imp λσ H Q ⟨ρ,l,S,hl,hs,hm⟩=>by
 unfold AF at hm;split at hm
 ·rename_i d' hd
  obtain ⟨v,h1,h2⟩:=hl.at' i _ hd;exact ⟨v,h1,hm ρ H v .refl hs h2⟩
 ·exact hm.elim
theorem d8 {v:V} {d:D} (h:PE X e (tC v)) (hd:∀ρ H,Bo X.K ρ H d v):GE X E e (mC d):=h.imp λσ H Q ⟨ρ,l,S,hl,hs,hm⟩=>by
 exact hm ρ H v .refl hs (hd _ _)
theorem ge_int {i j pos}:GE X E (.Constant (.int i) j pos) (mC (.int i)):=d8 Zu λ_ _=>.int i
theorem HS {b j pos}:GE X E (.Constant (.bool b) j pos) (mC (.bl b)):=d8 kr λ_ _=>.bl b
theorem Fy {x j pos}:GE X E (.Constant (.str x) j pos) (mC (.str x)):=d8 iL λ_ _=>.str x
theorem T0 {x:Str} {i:Int} {tk:Tok} {pos:Pos} (hg:Gl X x) (hm:X.mg x=some (.int i tk)) (hd:(x==("__debug__" : Str))=false:=by decide):GE X E (.Name x pos) (mC (.int i)):=
 d8 (dI (v:=.int i) hg hm ⟨tk,rfl⟩ hd) λ_ _=>.int i
def m2 (f:D->D->Sto->Res D) (ma mb:ME):ME:=λe S=>(ma e S).bind λx S1=>(mb e S1).bind λy S2=>okR (f x y S2)
def rD (K:AB) (f:D->D->Sto->Res D):R2:=λu v H Q=>∃ρ S x y d S',B4 K ρ S H/\Bo K ρ H x u/\Bo K ρ H y v/\f x y S=.ok d S' /\
 ∀ρ' H' z,Le K ρ H ρ' H'->B4 K ρ' S' H'->Bo K ρ' H' d z->Q z H'
theorem Li {K:AB} {f:D->D->Sto->Res D} {σ:St} {H:Hp} {Q:VK} (h:gE K E (m2 f ma mb) σ H Q):tOp (rD K f) (gE K E ma) (gE K E mb) σ H Q:=by
 obtain ⟨ρ,l,S,hl,hs,hm⟩:=h;refine ⟨ρ,l,S,hl,hs,hm.seq λx S1 hm ρ1 H1 u l1 s1 r1=>⟨ρ1,l,S1,hl.mono l1,s1,(hm.later l1).seq λy S2 hm ρ2 H2 v l2 s2 r2=>?_⟩⟩;obtain ⟨d,S',e,k⟩:=hm.okR;exact ⟨ρ2,S2,x,y,d,S',s2,r1.mono l2,r2,e,λρ' H' z l' s' r'=>k ρ' H' z (l1.trans (l2.trans l')) s' r'⟩
theorem Bb {op:P9} {f:D->D->Sto->Res D} (ho:OpR X (Cb op) (rD X.K f)) (ha:GE X E a ma) (hb:GE X E b mb):GE X E (.BinOp a op b pos) (m2 f ma mb):=(kn ho ha hb).imp λ_ _ _ h=>Li h
theorem SA {op:Sd} {f:D->D->Sto->Res D} (ho:OpR X (CJ op) (rD X.K f)) (ha:GE X E a ma) (hb:GE X E b mb) (hm:Bt op b=false):GE X E (.Compare a [op] [b] pos) (m2 f ma mb):=(dM ho ha hb hm).imp λ_ _ _ h=>Li h
theorem lX {f:D->D->Sto->Res D} (ho:IxR X (rD X.K f)) (ha:GE X E a ma) (hb:GE X E b mb) (hs:SU b:=by intro _ _;rfl):GE X E (.Subscript a b pos) (m2 f ma mb):=(ko ho ha hb hs).imp λ_ _ _ h=>Li h
def mB (m:ME):MT:=λe S=>(m e S).bind λd S1=>match d with
 | .bl b=>.ok b S1
 | _=>.bad
def Wi (d:D) (S:Sto):Option Bool:=match d with
 | .non=>some false
 | .bl b=>some b
 | .int i=>some (i != 0)
 | .tup ds=>some (!ds.isEmpty)
 | .fro ds=>some (!ds.isEmpty)
 | .ref n=>match S[n]? with
  | some (.lst ds)=>some (!ds.isEmpty)
  | some (.dK kvs)=>some (!kvs.isEmpty)
  | _=>none
 | _=>none
def HI (m:ME):MT:=λe S=>(m e S).bind λd S1=>match Wi d S1 with
 | some b=>.ok b S1
 | none=>.bad
theorem At.empty {K:AB} {ρ:List AI} {H:Hp} {ds:List D} {vs:List V} (h:At K ρ H ds vs):ds.isEmpty=vs.isEmpty:=by cases h <;> rfl
theorem KVR.empty {κ:Type} {K:AB} {ρ:List AI} {H:Hp} {x:List (κ×D)} {y:List (κ×V)} (h:KVR K ρ H x y):x.isEmpty=y.isEmpty:=by cases h <;> rfl
theorem cW {K:AB} {ρ:List AI} {H:Hp} {S:Sto} {d:D} {x:V} {b:Bool} (hs:B4 K ρ S H) (r:Bo K ρ H d x) (h:Wi d S=some b):jW K x H b:=by
 cases r with
 | non=>cases h;rfl
 | bl c=>cases h;rfl
 | int i=>cases h;rfl
 | str x=>cases h
 | tup h1 h2=>cases h;rw [h2.empty];exact .inr (.inl ⟨_,.inl (.inl h1),rfl⟩)
 | fro h1 h2=>cases h;rw [h2.empty];exact .inl ⟨_,h1.sq,rfl⟩
 | exc _ _=>cases h
 | @ref n a hn=>
  obtain ⟨o,ho,ro⟩:=hs.there hn;unfold Wi at h;simp only [ho] at h
  cases o with
  | lst ds=>cases h;obtain ⟨vs,e,rr⟩:=ro;rw [rr.empty];exact .inl ⟨_,.inl (.inl e),rfl⟩
  | dK kvs=>cases h;obtain ⟨vs,e,rr⟩:=ro;rw [KVR.empty rr];exact .inr (.inr ⟨_,e,rfl⟩)
  | dT kvs=>cases h
  | ins C fs=>cases h
theorem R3 (h:GE X E e ma) (he:∀whole,UX e X.env whole=(do let v <-whole;jh e.pos;jj [v] (fY v)):=by intro _;rfl):GT X E e (mB ma):=(hX h he).imp λσ H Q ⟨ρ,l,S,hl,hs,hm⟩=>by
 refine ⟨ρ,l,S,hl,hs,hm.seq λd S1 hm ρ1 H1 x l1 s1 r1=>?_⟩
 cases d <;> first | exact hm.elim | skip
 cases r1;exact ⟨_,rfl,hm ρ1 H1 l1 s1⟩
theorem Fv (h:GE X E e ma) (he:∀whole,UX e X.env whole=(do let v <-whole;jh e.pos;jj [v] (fY v)):=by intro _;rfl):GT X E e (HI ma):=(Zk h he).imp λσ H Q ⟨ρ,l,S,hl,hs,hm⟩=>by
 refine ⟨ρ,l,S,hl,hs,hm.seq λd S1 hm ρ1 H1 x l1 s1 r1=>?_⟩
 cases hb:Wi d S1 with
 | none=>rw [hb] at hm;exact hm.elim
 | some c=>
  rw [hb] at hm;exact ⟨c,cW s1 r1 hb,hm ρ1 H1 l1 s1⟩
theorem En {op:Sd} {f:D->D->Sto->Res D} (ho:OpR X (CJ op) (rD X.K f)) (ha:GE X E a ma) (hb:GE X E b mb) (hm:Bt op b=false):GT X E (.Compare a [op] [b] pos) (mB (m2 f ma mb)):=(c0 ho ha hb hm).imp λσ H Q ⟨ρ,l,S,hl,hs,hm⟩=>by
 refine Li (Q:=λx H'=>∃k,x=.bl k/\Q k H') ⟨ρ,l,S,hl,hs,hm.seq λd S1 hm ρ1 H1 x l1 s1 r1=>?_⟩
 cases d <;> first | exact hm.elim | skip
 cases r1;exact ⟨_,rfl,hm ρ1 H1 l1 s1⟩
def Jj (m:MT):MT:=λe S=>(m e S).bind λb S1=>.ok (!b) S1
def Na (ma mb:MT):MT:=λe S=>(ma e S).bind λb S1=>if b=true then mb e S1 else .ok false S1
def mOr (ma mb:MT):MT:=λe S=>(ma e S).bind λb S1=>if b=true then .ok true S1 else mb e S1
variable {ta tb:MT} {rest:List Expr}
theorem Hw (h:GT X E a ta):GT X E (.UnaryOp .Not a pos) (Jj ta):=(hZ h).imp λσ H Q ⟨ρ,l,S,hl,hs,hm⟩=>by
 exact ⟨ρ,l,S,hl,hs,hm.seq λd S1 hm ρ1 H1 l1 s1=>hm ρ1 H1 l1 s1⟩
theorem cb {K:AB} {σ:St} {H:Hp} {Q:Bool->Hp->Prop} (h:gT K E (Na ta tb) σ H Q):ka (gT K E ta) (gT K E tb) σ H Q:=by
 obtain ⟨ρ,l,S,hl,hs,hm⟩:=h;refine ⟨ρ,l,S,hl,hs,hm.seq λc S1 hm ρ1 H1 l1 s1=>?_⟩
 cases c with
 | true=>rw [if_pos rfl] at hm ⊢;exact ⟨ρ1,l,S1,hl.mono l1,s1,hm.go l1 λ_ _ k ρ2 H2 l2 s2=>k ρ2 H2 (l1.trans l2) s2⟩
 | false=>rw [if_neg AK] at hm ⊢;exact hm ρ1 H1 l1 s1
theorem gq {K:AB} {σ:St} {H:Hp} {Q:Bool->Hp->Prop} (h:gT K E (mOr ta tb) σ H Q):tOr (gT K E ta) (gT K E tb) σ H Q:=by
 obtain ⟨ρ,l,S,hl,hs,hm⟩:=h;refine ⟨ρ,l,S,hl,hs,hm.seq λc S1 hm ρ1 H1 l1 s1=>?_⟩
 cases c with
 | false=>rw [if_neg AK] at hm ⊢;exact ⟨ρ1,l,S1,hl.mono l1,s1,hm.go l1 λ_ _ k ρ2 H2 l2 s2=>k ρ2 H2 (l1.trans l2) s2⟩
 | true=>rw [if_pos rfl] at hm ⊢;exact hm ρ1 H1 l1 s1
abbrev GW (X:Cx) (E:EW) (e:Expr) (m:MT):Prop:=PW X e (gT X.K E m)
theorem Oi (ha:GT X E a ta):GW X E (.BoolOp .And [a] pos) ta:=cz ha
theorem Vj (ha:GT X E a ta):GW X E (.BoolOp .Or [a] pos) ta:=hV ha
theorem R0 (ha:GT X E a ta) (hb:GW X E (.BoolOp .And (b :: rest) pos) tb):GW X E (.BoolOp .And (a :: b :: rest) pos) (Na ta tb):=(hW ha hb).imp λ_ _ _ h=>cb h
theorem Ws (ha:GT X E a ta) (hb:GW X E (.BoolOp .Or (b :: rest) pos) tb):GW X E (.BoolOp .Or (a :: b :: rest) pos) (mOr ta tb):=(kh ha hb).imp λ_ _ _ h=>gq h
theorem Vk {t:MT} (h:GW X E e t):GT X E e t:=PW.pt h
def Tq (ma mb:ME):ME:=λe S=>(ma e S).bind λd S1=>match d with
 | .bl true=>mb e S1
 | .bl false=>.ok (.bl false) S1
 | _=>.bad
def aK (ma mb:ME):ME:=λe S=>(ma e S).bind λd S1=>match d with
 | .bl true=>.ok (.bl true) S1
 | .bl false=>mb e S1
 | _=>.bad
def Tp (ma:ME):ME:=λe S=>(ma e S).bind λd S1=>match d with
 | .bl c=>.ok (.bl (!c)) S1
 | _=>.bad
theorem ao {op} (h:GE X E a ma):GE X E (.BoolOp op [a] pos) ma:=iM h
theorem jJ (ha:GE X E a ma) (hb:GE X E (.BoolOp .And (b :: rest) pos) mb):GE X E (.BoolOp .And (a :: b :: rest) pos) (Tq ma mb):=(iR ha hb).imp λσ H Q ⟨ρ,l,S,hl,hs,hm⟩=>by
 refine ⟨ρ,l,S,hl,hs,hm.seq λc S1 hm ρ1 H1 x l1 s1 r1=>?_⟩
 cases c with
 | bl c=>
  cases r1;refine ⟨c,rfl,?_⟩
  cases c with
  | true=>rw [if_pos rfl];exact ⟨ρ1,l,S1,hl.mono l1,s1,hm.go l1 λ_ _ k ρ2 H2 z l2 s2 r2=>k ρ2 H2 z (l1.trans l2) s2 r2⟩
  | false=>rw [if_neg AK];exact hm ρ1 H1 _ l1 s1 (.bl false)
 | _=>exact hm.elim
theorem lW (ha:GE X E a ma) (hb:GE X E (.BoolOp .Or (b :: rest) pos) mb):GE X E (.BoolOp .Or (a :: b :: rest) pos) (aK ma mb):=(km ha hb).imp λσ H Q ⟨ρ,l,S,hl,hs,hm⟩=>by
 refine ⟨ρ,l,S,hl,hs,hm.seq λc S1 hm ρ1 H1 x l1 s1 r1=>?_⟩
 cases c with
 | bl c=>
  cases r1;refine ⟨c,rfl,?_⟩
  cases c with
  | false=>rw [if_neg AK];exact ⟨ρ1,l,S1,hl.mono l1,s1,hm.go l1 λ_ _ k ρ2 H2 z l2 s2 r2=>k ρ2 H2 z (l1.trans l2) s2 r2⟩
  | true=>rw [if_pos rfl];exact hm ρ1 H1 _ l1 s1 (.bl true)
 | _=>exact hm.elim
theorem aq (ha:GE X E a ma):GE X E (.UnaryOp .Not a pos) (Tp ma):=(iN ha).imp λσ H Q ⟨ρ,l,S,hl,hs,hm⟩=>by
 refine ⟨ρ,l,S,hl,hs,hm.seq λc S1 hm ρ1 H1 x l1 s1 r1=>?_⟩
 cases c with
 | bl c=>cases r1;exact ⟨c,rfl,hm ρ1 H1 _ l1 s1 (.bl _)⟩
 | _=>exact hm.elim
def aL (t:MT) (ma mb:ME):ME:=λe S=>(t e S).bind λb S1=>if b=true then ma e S1 else mb e S1
theorem au {c:Expr} (hc:GT X E c ta) (ha:GE X E a ma) (hb:GE X E b mb):GE X E (.IfExp c a b pos) (aL ta ma mb):=(Zv hc ha hb).imp λσ H Q ⟨ρ,l,S,hl,hs,hm⟩=>by
 refine ⟨ρ,l,S,hl,hs,hm.seq λc S1 hm ρ1 H1 l1 s1=>?_⟩
 cases c with
 | true=>rw [if_pos rfl] at hm ⊢;exact ⟨ρ1,l,S1,hl.mono l1,s1,hm.go l1 λ_ _ k ρ2 H2 z l2 s2 r2=>k ρ2 H2 z (l1.trans l2) s2 r2⟩
 | false=>rw [if_neg AK] at hm ⊢;exact ⟨ρ1,l,S1,hl.mono l1,s1,hm.go l1 λ_ _ k ρ2 H2 z l2 s2 r2=>k ρ2 H2 z (l1.trans l2) s2 r2⟩
def m3 (f g:D->D->Sto->Res D) (ma mb mc:ME):ME:=λe S=>(ma e S).bind λx S1=>(mb e S1).bind λy S2=>(okR (f x y S2)).bind λz S3=>match z with
 | .bl true=>(mc e S3).bind λw S4=>okR (g y w S4)
 | .bl false=>.ok (.bl false) S3
 | _=>.bad
def BE:ML:=λ_ S=>.ok [] S
def AN (m:ME) (r:ML):ML:=λe S=>(m e S).bind λd S1=>(r e S1).bind λds S2=>.ok (d :: ds) S2
variable {es:List Expr} {ml:ML}
theorem Ao:GA X E [] BE:=Hr.imp λσ H Q ⟨ρ,l,S,hl,hs,hm⟩=>by
 exact hm ρ H [] .refl hs .nil
theorem AL (ha:GE X E e ma) (hr:GA X E es ml) (hs:AZ (e :: es) X.env=(false,CC e X.env) :: AZ es X.env:=by rfl):GA X E (e :: es) (AN ma ml):=(FG ha hr hs).imp λσ H Q ⟨ρ,l,S,hl,hs,hm⟩=>by
 exact ⟨ρ,l,S,hl,hs,hm.seq λd S1 hm ρ1 H1 x l1 s1 r1=>⟨ρ1,l,S1,hl.mono l1,s1,(hm.later l1).seq λds' S2 hm ρ2 H2 xs l2 s2 r2=>hm ρ2 H2 (x :: xs) (l1.trans l2) s2 (.cons (r1.mono l2) r2)⟩⟩
def Hb (m:ML):ME:=λe S=>(m e S).bind λds S1=>if ds.length<=sizeLine then .ok (.tup ds) S1 else .bad
theorem Gw {K:AB} {ρ:List AI} {H:Hp} {S:Sto} {p:AI} {ho:HO} (hs:B4 K ρ S H) (hp:H p=none):B4 K ρ S (upd H p ho)/\Le K ρ H ρ (upd H p ho):=by
 have le:Le K ρ H ρ (upd H p ho):=Le.fresh hp;refine ⟨⟨hs.len,hs.nd,λn o a h1 h2=>(hs.ob n o a h1 h2).mono le (BR λz=>?_)⟩,le⟩;subst z;exact hs.notIn hp h2
theorem E3 {x1} (h:GA X E es ml):GE X E (.Tuple es x1 pos) (Hb ml):=(iK h).imp λσ H Q ⟨ρ,l,S,hl,hs,hm⟩=>by
 refine ⟨ρ,l,S,hl,hs,hm.seq λds S1 hm ρ1 H1 xs l1 s1 r1=>?_⟩;split at hm
 ·rename_i hz
  refine ⟨by rw [<-r1.length];exact hz,λp hp=>?_⟩;obtain ⟨s2,l2⟩:=Gw (ho:=.tup xs) s1 hp;exact hm ρ1 _ _ (l1.trans l2) s2 (.tup B2 (r1.mono l2))
 ·exact hm.elim
def Em (m:ML):ML:=λe S=>(m e S).bind λds S1=>if ds.length<=sizeLine then .ok ds S1 else .bad
theorem HJ (h:GA X E es ml):GL X E (.List es pos) (Em ml):=(iO h).imp λσ H Q ⟨ρ,l,S,hl,hs,hm⟩=>by
 refine ⟨ρ,l,S,hl,hs,hm.seq λds S1 hm ρ1 H1 xs l1 s1 r1=>?_⟩;split at hm
 ·rename_i hz
  refine ⟨by rw [<-r1.length];exact hz,λp hp=>?_⟩;obtain ⟨s2,l2⟩:=Gw (ho:=.lst xs) s1 hp;exact hm ρ1 _ p xs (l1.trans l2) s2 (r1.mono l2) B2 (λn q=>s1.notIn hp q) (l1.back hs s1 hp)
 ·exact hm.elim
def DV (m:ML):ME:=λe S=>(m e S).bind λds S1=>.ok (.ref S1.length) (S1++[.lst ds])
theorem CP (h:GL X E e ml):GE X E e (DV ml):=PE.imp h λσ H Q ⟨ρ,l,S,hl,hs,hm⟩=>by
 refine ⟨ρ,l,S,hl,hs,hm.seq λds S1 hm ρ1 H1 p xs l1 s1 r1 hp hn hp0=>?_⟩
 have l0:∀(n:Nat) a,ρ1[n]?=some a->(ρ1++[p])[n]?=some a:=λn a h=>by rw [Ah (AM.mp h).1];exact h
 obtain ⟨s2,at2⟩:=s1.adopt (o:=.lst ds) hn ⟨xs,hp,r1.more l0⟩;refine hm _ _ _ ⟨λn a h=>l0 n a (l1.pre n a h),l1.tup,l1.frz,λa o e h=>⟨(l1.oth a o e h).1,λn q=>?_⟩⟩ s2 (.ref at2)
 rcases Hx q with ⟨q,_⟩ | ⟨_,q⟩
 ·exact (l1.oth a o e h).2 n q
 ·exact Bc e hp0 q
def Gi (d:D) (S:Sto):Option (List D):=match d with
 | .tup ds=>some ds
 | .fro ds=>some ds
 | .ref n=>match S[n]? with
  | some (.lst ds)=>some ds
  | _=>none
 | _=>none
def LU (m:ME):ML:=λe S=>(m e S).bind λd S1=>match Gi d S1 with
 | some ds=>.ok ds S1
 | none=>.bad
theorem Oc {K:AB} {ρ:List AI} {H:Hp} {S:Sto} {d:D} {x:V} {ds:List D} (hs:B4 K ρ S H) (r:Bo K ρ H d x) (h:Gi d S=some ds):∃p xs,x=.ref p/\At K ρ H ds xs/\(SqL K H p xs∨SqT K H p xs):=by
 cases r with
 | tup h1 h2=>cases h;exact ⟨_,_,rfl,h2,.inr (.inl (.inl h1))⟩
 | fro h1 h2=>cases h;exact ⟨_,_,rfl,h2,.inl h1.sq⟩
 | @ref n a hn=>
  obtain ⟨o,ho,ro⟩:=hs.there hn;unfold Gi at h;simp only [ho] at h
  cases o with
  | lst es=>cases h;obtain ⟨vs,e,rr⟩:=ro;exact ⟨_,_,rfl,rr,.inl (.inl (.inl e))⟩
  | _=>cases h
 | _=>cases h
theorem Wt (h:GE X E e ma):GQ X E e (LU ma):=PE.imp h λσ H Q ⟨ρ,l,S,hl,hs,hm⟩=>by
 refine ⟨ρ,l,S,hl,hs,hm.seq λx S1 hm ρ1 H1 v l1 s1 r1=>?_⟩
 cases hq:Gi x S1 with
 | none=>rw [hq] at hm;exact hm.elim
 | some ds=>
  rw [hq] at hm;obtain ⟨p,xs,rfl,r2,sq⟩:=Oc s1 r1 hq;exact hm ρ1 H1 p xs l1 s1 r2 sq
end
def Res.lift {α:Type} (r:Res α) (e:Lo) (f:α->Sto->Res Fl):Res Fl:=match r with
 | .ok a S=>f a S
 | .err c S=>.ok (.ex c e) S
 | .bad=>.bad
theorem Bs.lift {α:Type} {K:AB} {E:EW} {ρ ρ1:List AI} {H H1:Hp} {σ:St} {e:Lo} {D:V8} {r:Res α} {F:α->Sto->Res Fl} {k':α->Sto->Prop} (h:Bs K noH ρ1 H1 (r.lift e F) λfl S'=>SC K E ρ H S' D fl) (hl:FP K ρ1 H1 e σ) (l:Le K ρ H ρ1 H1)
  (f:∀a S,(Bs K noH ρ1 H1 (F a S) λfl S'=>SC K E ρ H S' D fl)->k' a S):Bs K (λc=>E c σ) ρ1 H1 r k':=by
 cases r with
 | ok a S=>exact f a S h
 | err c S=>exact λρ' H' l' s'=>h ρ' H' σ (l.trans l') s' (hl.mono l')
 | bad=>exact h
def sNx:MS:=λe S=>.ok (.nx e) S
def BU (a b:MS):MS:=λe S=>(a e S).bind λf S1=>match f with
 | .nx e1=>b e1 S1
 | f=>.ok f S1
def EE (m:ME):MS:=λe S=>(m e S).lift e λ_ S1=>.ok (.nx e) S1
def C5 (m:ME):MS:=λe S=>(m e S).lift e λd S1=>.ok (.rt d) S1
def sIf (t:MT) (a b:MS):MS:=λe S=>(t e S).lift e λc S1=>if c=true then a e S1 else b e S1
def kc (m:ME) (g:MG):MS:=λe S=>(m e S).lift e λd S1=>(g d e S1).bind λe1 S2=>.ok (.nx e1) S2
def tgN (i:Nat):MG:=λd e S=>.ok (e.set i (some d)) S
def Co (i:Nat) (m:ME):MS:=kc m (tgN i)
section
variable {X:Cx} {E:EW} {st:Cn} {rest:List Cn} {e:Expr} {pos:Pos} {a b:MS} {m:ME} {t:MT}
theorem SC.later {K:AB} {ρ ρ1:List AI} {H H1:Hp} {S:Sto} {D:V8} {f:Fl} (l:Le K ρ H ρ1 H1) (h:SC K E ρ H S D f):SC K E ρ1 H1 S D f:=by
 cases f with
 | nx e=>exact λρ' H' σ' l'=>h ρ' H' σ' (l.trans l')
 | bk e=>exact λρ' H' σ' l'=>h ρ' H' σ' (l.trans l')
 | ct e=>exact λρ' H' σ' l'=>h ρ' H' σ' (l.trans l')
 | ex c e=>exact λρ' H' σ' l'=>h ρ' H' σ' (l.trans l')
 | rt d=>exact λρ' H' x l'=>h ρ' H' x (l.trans l')
theorem CB:GSs X E [] sNx:=c7.imp λD σ H ⟨ρ,l,S,hl,hs,hm⟩=>by
 exact hm ρ H σ .refl hs hl
theorem Ab (h1:GS X E st a) (h2:GSs X E rest b):GSs X E (st :: rest) (BU a b):=(Zn h1 h2).imp λD σ H ⟨ρ,l,S,hl,hs,hm⟩=>by
 refine ⟨ρ,l,S,hl,hs,hm.seq λg S1 hm=>?_⟩
 cases g with
 | nx e'=>exact λρ1 H1 σ1 l1 s1 r1=>⟨ρ1,e',S1,r1,s1,hm.go l1 λ_ _ k=>k.later l1⟩
 | rt d=>exact hm
 | bk d=>exact hm
 | ct d=>exact hm
 | ex c d=>exact hm
theorem Am (h1:GS X E st a):GSs X E [st] a:=c6 h1
theorem Fx (he:GE X E e m) (hs:Fa e none pos.line X.env=pure false:=by rfl):GS X E (.Expr e pos) (EE m):=(c8 he hs).imp λD σ H ⟨ρ,l,S,hl,hs,hm⟩=>by
 exact ⟨ρ,l,S,hl,hs,hm.lift hl .refl λd S1 hm ρ1 H1 x l1 s1 r1=>hm ρ1 H1 σ l1 s1 (hl.mono l1)⟩
theorem Bj (he:GE X E e m):GS X E (.Return (some e) pos) (C5 m):=(iB he).imp λD σ H ⟨ρ,l,S,hl,hs,hm⟩=>by
 exact ⟨ρ,l,S,hl,hs,hm.lift hl .refl λd S1 hm ρ1 H1 x l1 s1 r1=>hm ρ1 H1 x l1 s1 r1⟩
theorem Dj {c:Expr} {sa sb:List Cn} (hc:GT X E c t) (ha:GSs X E sa a) (hb:GSs X E sb b):GS X E (.If c sa sb pos) (sIf t a b):=(kj hc ha hb).imp λD σ H ⟨ρ,l,S,hl,hs,hm⟩=>by
 refine ⟨ρ,l,S,hl,hs,hm.lift hl .refl λc S1 hm ρ1 H1 l1 s1=>?_⟩
 cases c with
 | true=>rw [if_pos rfl] at hm ⊢;exact ⟨ρ1,l,S1,hl.mono l1,s1,hm.go l1 λ_ _ k=>k.later l1⟩
 | false=>rw [if_neg AK] at hm ⊢;exact ⟨ρ1,l,S1,hl.mono l1,s1,hm.go l1 λ_ _ k=>k.later l1⟩
theorem du {i:Nat} {tg:Expr} (h:PG X tg (Wz i)):GG X tg (tgN i):=h.imp λv σ H Q ⟨ρ,l,S,d,hd,hl,hs,hm⟩=>by
 exact hm ρ H _ .refl hs (hl.set hd i)
theorem i8 {i:Nat} {x:Str} {pos':Pos} (hN:X.N.Nodup) (hi:X.N[i]?=some x) (hx:Loc X.env.scope x) (he:GE X E e m) (hs:Fa e (some (.Name x pos')) pos.line X.env=pure false:=by rfl)
  (hf:X.fn x=true∨X.env.scope.names.lookup x=some .local:=by first | exact .inl rfl | exact .inr rfl | assumption):GS X E (.Assign [.Name x pos'] e pos) (Co i m):=(iA hN hi hx he hs hf).imp λD σ H ⟨ρ,l,S,hl,hs,hm⟩=>by
 exact ⟨ρ,l,S,hl,hs,hm.lift hl .refl λd S1 hm ρ1 H1 x l1 s1 r1=>hm ρ1 H1 _ l1 s1 ((hl.mono l1).set r1 i)⟩
def KA (v:KD) (g:MG) (b:MS):Nat->Nat->Lo->Sto->Res Fl
 | k,i,e,S=>match v S with
  | none=>.bad
  | some ds=>match ds[i]? with
   | none=>.ok (.nx e) S
   | some d=>match k with
    | 0=>.bad
    | k+1=>(g d e S).bind λe1 S1=>(b e1 S1).bind λf S2=>match f with
     | .nx e2=>KA v g b k (i+1) e2 S2
     | .ct e2=>KA v g b k (i+1) e2 S2
     | .bk e2=>.ok (.nx e2) S2
     | .rt d=>.ok (.rt d) S2
     | .ex c e2=>.ok (.ex c e2) S2
def DS (v:KD) (S:Sto):Nat:=match v S with
 | none=>0
 | some ds=>ds.length
def HY (m:MI) (g:MG) (b:MS):MS:=λe S=>(m e S).lift e λv S1=>KA v g b (DS v S1) 0 e S1
theorem EA {tg iter:Expr} {body:List Cn} {mi:MI} {g:MG} (hp:Yk (AY X.prog X.w) X.A X.env X.xe) (hc:X.calm=true) (hi:GI X E tg iter mi) (hg:GG X tg g) (hb:GSs X E body b)
  (hs:∀x,E4 iter X.env x=pure x:=by intro _;rfl):GS X E (.For tg iter body [] pos) (HY mi g b):=(iC hp hc hi hg hb hs).imp λD σ H ⟨ρ,l,S,hl,hs,hm⟩=>by
 refine ⟨ρ,l,S,hl,hs,hm.lift hl .refl λv S1 hm ρ1 H1 J l1 s1 vo=>?_⟩;refine ⟨λi n σ2 H2=>∃ρ2 e2 S2,Le X.K ρ1 H1 ρ2 H2/\FP X.K ρ2 H2 e2 σ2/\B4 X.K ρ2 S2 H2/\Bs X.K noH ρ2 H2 (KA v g b n i e2 S2) λfl S'=>SC X.K E ρ H S' D fl,⟨DS v S1,ρ1,l,S1,.refl,hl.mono l1,s1,hm.later l1⟩,?_⟩;rintro i n σ2 H2 ⟨ρ2,e2,S2,l2,r2,s2,hm2⟩;unfold KA at hm2
 cases hv:v S2 with
 | none=>rw [hv] at hm2;exact hm2.elim
 | some ds=>
  rw [hv] at hm2;dsimp only at hm2;obtain ⟨v1,v2⟩:=vo ρ2 H2 S2 ds i l2 s2 hv
  cases hd:ds[i]? with
  | none=>
   rw [hd] at hm2;exact .inl ⟨v1 hd,hm2 ρ2 H2 σ2 (l1.trans l2) s2 r2⟩
  | some d=>
   rw [hd] at hm2;dsimp only at hm2;obtain ⟨go,yl⟩:=v2 d hd
   cases n with
   | zero=>exact hm2.elim
   | succ n=>
    dsimp only at hm2;refine .inr ⟨go,λσ' H'=>∃ρ2 e2 S2,Le X.K ρ1 H1 ρ2 H'/\FP X.K ρ2 H' e2 σ'/\B4 X.K ρ2 S2 H'/\Bs X.K noH ρ2 H' (KA v g b n (i+1) e2 S2) λfl S'=>SC X.K E ρ H S' D fl,λσ' H' q=>⟨n,E8 n,q⟩,λx H' y=>?_⟩;obtain ⟨ρ3,l3,s3,rd⟩:=yl x H' y;refine ⟨ρ3,e2,S2,d,rd,r2.mono l3,s3,(hm2.later l3).seq λe3 S3 hm2 ρ4 H4 σ4 l4 s4 r4=>?_⟩;refine ⟨ρ4,e3,S3,r4,s4,(hm2.later l4).seq λf4 S4 hm2=>?_⟩
    cases f4 with
    | nx e5=>exact λρ5 H5 σ5 l5 s5 r5=>⟨ρ5,e5,S4,l2.trans (l3.trans (l4.trans l5)),r5,s5,hm2.later l5⟩
    | ct e5=>exact λρ5 H5 σ5 l5 s5 r5=>⟨ρ5,e5,S4,l2.trans (l3.trans (l4.trans l5)),r5,s5,hm2.later l5⟩
    | bk e5=>exact λρ5 H5 σ5 l5 s5 r5=>hm2 ρ5 H5 σ5 (l1.trans (l2.trans (l3.trans (l4.trans l5)))) s5 r5
    | ex c e5=>exact λρ5 H5 σ5 l5 s5 r5=>hm2 ρ5 H5 σ5 (l1.trans (l2.trans (l3.trans (l4.trans l5)))) s5 r5
    | rt d5=>exact λρ5 H5 x5 l5 s5 r5=>hm2 ρ5 H5 x5 (l1.trans (l2.trans (l3.trans (l4.trans l5)))) s5 r5
end
end L2
namespace L2
open PySem PySem.Spec PyProof.Rows
section
variable {X:Cx} {E:EW} {tg e:Expr} {m:ME} {ml:ML} {K:AB}
def N0 (d:D):KD:=λS=>match d with
 | .ref n=>match S[n]? with
  | some (.lst ds)=>some ds
  | _=>none
 | .fro ds=>some ds
 | _=>none
def GX (ds:List D):KD:=λ_=>some ds
def lT (m:ME):MI:=λe S=>(m e S).bind λd S1=>match N0 d S1 with
 | some _=>.ok (N0 d) S1
 | none=>.bad
def fQ (m:ME):MI:=λe S=>(m e S).bind λd S1=>match d with
 | .tup ds=>.ok (GX ds) S1
 | _=>.bad
theorem Su {ρ:List AI} {H:Hp} {S:Sto} {a:AI} {d:D} {ds:List D} (s:B4 K ρ S H) (r:Bo K ρ H d (.ref a)) (hv:N0 d S=some ds):∃xs,SqL K H a xs/\At K ρ H ds xs:=by
 cases r with
 | tup h1 h2=>cases hv
 | exc _ _=>cases hv
 | fro h1 h2=>cases hv;exact ⟨_,h1.sq,h2⟩
 | @ref n _ hn=>
  obtain ⟨o,ho,ro⟩:=s.there hn;unfold N0 at hv;simp only [ho] at hv
  cases o with
  | lst es=>
   cases hv;obtain ⟨vs,e,rr⟩:=ro;exact ⟨vs,.inl (.inl e),rr⟩
  | _=>cases hv
theorem Uq {ρ:List AI} {H:Hp} {a:AI} {d:D} (r:Bo K ρ H d (.ref a)):Nq K ρ H (Itl K a) (N0 d):=by
 intro ρ2 H2 S ds i l s hv;obtain ⟨xs,sq,rr⟩:=Su s (r.mono l) hv;refine ⟨λhn=>⟨xs,sq,by rw [<-rr.length];exact CG.mp hn⟩,λd hd=>?_⟩;obtain ⟨x,hx,rx⟩:=rr.get hd;refine ⟨⟨xs,x,sq,hx⟩,λy H' ⟨e,hy⟩=>?_⟩;subst e;have:=hy xs sq;rw [hx] at this;cases this;exact ⟨ρ2,.refl,s,rx⟩
theorem jD (h:GE X E e m):GI X E tg e (lT m):=(dD h).imp λσ H R ⟨ρ,l,S,hl,hs,hm⟩=>by
 refine ⟨ρ,l,S,hl,hs,hm.seq λd S1 hm ρ1 H1 x l1 s1 r1=>?_⟩
 cases hv:N0 d S1 with
 | none=>rw [hv] at hm;exact hm.elim
 | some ds=>
  rw [hv] at hm
  have:∃a,x=.ref a:=by
   cases r1 <;> first | exact ⟨_,rfl⟩ | (cases hv;done)
  obtain ⟨a,rfl⟩:=this;obtain ⟨xs,sq,_⟩:=Su s1 r1 hv;exact ⟨a,rfl,⟨xs,sq⟩,hm ρ1 H1 _ l1 s1 (Uq r1)⟩
theorem Um {ρ:List AI} {H:Hp} {a:AI} {ds:List D} {xs:List V} (h1:H a=some (.tup xs)) (h2:At K ρ H ds xs):Nq K ρ H (Itt K a) (GX ds):=by
 intro ρ2 H2 S ds' i l s hv;cases hv;have rr:=h2.mono l;have sq:SqT K H2 a xs:=.inl (.inl (l.tup _ _ h1));refine ⟨λhn=>⟨xs,sq,by rw [<-rr.length];exact CG.mp hn⟩,λd hd=>?_⟩;obtain ⟨x,hx,rx⟩:=rr.get hd;refine ⟨⟨xs,x,sq,hx⟩,λy H' ⟨e,hy⟩=>?_⟩;subst e;have:=hy xs sq;rw [hx] at this;cases this;exact ⟨ρ2,.refl,s,rx⟩
theorem jB (h:GE X E e m):GI X E tg e (fQ m):=(iG h).imp λσ H R ⟨ρ,l,S,hl,hs,hm⟩=>by
 refine ⟨ρ,l,S,hl,hs,hm.seq λd S1 hm ρ1 H1 x l1 s1 r1=>?_⟩
 cases d <;> first | exact hm.elim | skip
 cases r1 with
 | tup q1 q2=>exact ⟨_,rfl,⟨_,.inl (.inl q1)⟩,hm ρ1 H1 _ l1 s1 (Um q1 q2)⟩
def Hq (lo:Int) (n:Nat):List D:=(Cc n).map λi:Nat=>D.int (lo+i)
theorem Ql (lo:Int) (n i:Nat):(Hq lo n)[i]?=if i < n then some (.int (lo+i)) else none:=by
 unfold Hq;rw [Ap]
 by_cases h:i < n
 ·rw [DB h,if_pos h];rfl
 ·rw [if_neg h,CG.mpr (by simpa using h)];rfl
theorem Oz {ρ:List AI} {H:Hp} (lo:Int) (n:Nat):Nq K ρ H (Itr lo n) (GX (Hq lo n)):=by
 intro ρ2 H2 S ds' i l s hv;cases hv;rw [Ql];refine ⟨λhn=>?_,λd hd=>?_⟩
 ·split at hn
  ·cases hn
  ·rename_i h;exact Ou h
 ·split at hd
  ·rename_i h
   cases hd;refine ⟨h,λy H' ⟨e,hy⟩=>?_⟩;subst e;subst hy;exact ⟨ρ2,.refl,s,.int _⟩
  ·cases hd
def iR1 (ml:ML):MI:=λe S=>(ml e S).bind λds S1=>match ds with
 | [.int j]=>if -(2 ^ 62)<=j/\j < 2 ^ 62 then .ok (GX (Hq 0 j.toNat)) S1 else .bad
 | _=>.bad
def iR2 (ml:ML):MI:=λe S=>(ml e S).bind λds S1=>match ds with
 | [.int i,.int j]=>if -(2 ^ 62)<=i/\i < 2 ^ 62/\-(2 ^ 62)<=j/\j < 2 ^ 62 then .ok (GX (Hq i (j - i).toNat)) S1 else .bad
 | _=>.bad
theorem FX {a:Expr} {p pos:Pos} (hg:Gl X "range") (hm:X.mg "range" = none) (ha:GA X E [a] ml) (hs:AZ [a] X.env=[(false,CC a X.env)]:=by rfl):GI X E tg (.Call (.Name "range" p) [a] [] pos) (iR1 ml):=(Xz hg hm ha hs).imp λσ H R ⟨ρ,l,S,hl,hs,hm⟩=>by
 refine ⟨ρ,l,S,hl,hs,hm.seq λds S1 hm ρ1 H1 xs l1 s1 r1=>?_⟩;split at hm
 ·rename_i j
  split at hm
  ·rename_i hj
   cases r1 with
   | cons r t=>
    cases t;cases r;exact ⟨j,rfl,hj.1,hj.2,hm ρ1 H1 _ l1 s1 (Oz 0 j.toNat)⟩
  ·exact hm.elim
 ·exact hm.elim
theorem LH {a b:Expr} {p pos:Pos} (hg:Gl X "range") (hm:X.mg "range" = none) (ha:GA X E [a,b] ml) (hs:AZ [a,b] X.env=[(false,CC a X.env),(false,CC b X.env)]:=by rfl) (hs2:AZ [b] X.env=[(false,CC b X.env)]:=by rfl) :
  GI X E tg (.Call (.Name "range" p) [a,b] [] pos) (iR2 ml):=(Xy hg hm ha hs hs2).imp λσ H R ⟨ρ,l,S,hl,hs,hm⟩=>by
 refine ⟨ρ,l,S,hl,hs,hm.seq λds S1 hm ρ1 H1 xs l1 s1 r1=>?_⟩;split at hm
 ·rename_i i j
  split at hm
  ·rename_i hj
   cases r1 with
   | cons r t=>
    cases t with
    | cons r' t=>
     cases t;cases r;cases r';exact ⟨i,j,rfl,hj,hm ρ1 H1 _ l1 s1 (Oz i _)⟩
  ·exact hm.elim
 ·exact hm.elim
end
def N2:List D->Lo->Sto->Res Lo
 | [],e,S=>.ok e S
 | _,_,_=>.bad
def FM (g:MG) (r:List D->Lo->Sto->Res Lo):List D->Lo->Sto->Res Lo
 | d :: ds,e,S=>(g d e S).bind λe1 S1=>r ds e1 S1
 | [],_,_=>.bad
def Mf (n:Nat) (r:List D->Lo->Sto->Res Lo):MG:=λd e S=>match d with
 | .tup ds=>if ds.length=n then r ds e S else .bad
 | _=>.bad
section
variable {X:Cx} {E:EW} {pos:Pos}
def gGs (K:AB) (r:List D->Lo->Sto->Res Lo):TGs:=λvs σ H Q=>∃ρ e S ds,At K ρ H ds vs/\FP K ρ H e σ/\B4 K ρ S H/\Bs K noH ρ H (r ds e S) λe' S'=>∀ρ' H' σ',Le K ρ H ρ' H'->B4 K ρ' S' H'->FP K ρ' H' e' σ'->Q σ' H'
abbrev GGs (X:Cx) (ts:List Expr) (r:List D->Lo->Sto->Res Lo):Prop:=PGs X ts (gGs X.K r)
theorem PGs.imp {X:Cx} {ts:List Expr} {t t':TGs} (h:PGs X ts t) (i:∀vs σ H Q,t' vs σ H Q->t vs σ H Q):PGs X ts t':=λpins s σ H vs us Q I r q=>h pins s σ H vs us Q I r (i vs σ H Q q)
theorem R7:GGs X [] N2:=dE.imp λvs σ H Q ⟨ρ,l,S,ds,hd,hl,hs,hm⟩=>by
 cases ds with
 | nil=>cases hd;exact ⟨rfl,hm ρ H σ .refl hs hl⟩
 | cons d ds=>exact hm.elim
theorem JO {e:Expr} {es:List Expr} {g:MG} {r:List D->Lo->Sto->Res Lo} (h1:GG X e g) (h2:GGs X es r)
  (hs:(Gb (e :: es) X.env).map (·.2)=Ua e X.env :: (Gb es X.env).map (·.2):=by rfl):GGs X (e :: es) (FM g r):=(Zs h1 h2 hs).imp λvs σ H Q ⟨ρ,l,S,ds,hd,hl,hs,hm⟩=>by
 cases ds with
 | nil=>exact hm.elim
 | cons d ds=>
  cases hd with
  | cons q1 q2=>
   exact ⟨_,_,rfl,ρ,l,S,d,q1,hl,hs,hm.seq λe1 S1 hm ρ1 H1 σ1 l1 s1 r1=>⟨ρ1,e1,S1,ds,q2.mono l1,r1,s1,hm.go l1 λ_ _ k ρ2 H2 σ2 l2 s2 r2=>k ρ2 H2 σ2 (l1.trans l2) s2 r2⟩⟩
theorem Vm {es:List Expr} {k:Nat} {r:List D->Lo->Sto->Res Lo} {n:Nat} (hc:X.calm=true) (h:GGs X es r)
  (hn:(Gb es X.env).length=n:=by rfl) (hst:(Gb es X.env).findIdx? (·.1)=none:=by rfl):GG X (.Tuple es k pos) (Mf n r):=(iI hc h hn hst).imp λv σ H Q ⟨ρ,l,S,d,hd,hl,hs,hm⟩=>by
 cases d <;> first | exact hm.elim | skip
 rename_i ds
 cases hd with
 | tup q1 q2=>
  unfold Mf at hm;dsimp only at hm;split at hm
  ·rename_i hlen
   exact ⟨_,_,rfl,.inl (.inl q1),by rw [<-q2.length];exact hlen,ρ,l,S,ds,q2,hl,hs,hm⟩
  ·exact hm.elim
end
def spM (K:AB) (n:Nat) (f:List D->Sto->Res D):Sp:=λvs H Q E=>∃ρ ds S,ds.length=n/\At K ρ H ds vs/\B4 K ρ S H/\Bs K (λc H'=>E (.ref c) none H') ρ H (f ds S) λd S'=>
 ∀ρ' H' x,Le K ρ H ρ' H'->B4 K ρ' S' H'->Bo K ρ' H' d x->Q x H'
theorem spM.len {K:AB} {n:Nat} {f:List D->Sto->Res D} {vs:List V} {H:Hp} {Q:VK} {E:XK} (h:spM K n f vs H Q E):vs.length=n:=by
 obtain ⟨ρ,ds,S,h1,h2,_⟩:=h;rw [<-h2.length];exact h1
def B3 (n:Nat) (f:List D->Sto->Res D) (m:ML):ME:=λe S=>(m e S).bind λds S1=>if ds.length=n then f ds S1 else .bad
def Qt (C:AI) (n:Nat) (f:List D->Sto->Res D) (m:ML):ME:=λe S=>(m e S).bind λds S1=>if ds.length+1=n then (f (.ref S1.length :: ds) (S1++[.ins C []])).bind (λd S2=>match d with
  | .non=>.ok (.ref S1.length) S2
  | _=>.bad) else .bad
def XY (E:EW) (σ:St):XK:=λv o H=>o=none/\∃c,v=.ref c/\E c σ H
section
variable {X:Cx} {E:EW} {CX:CXT} {k n:Nat} {f C:AI} {fd:DU} {ps:List Str} {x:Str} {p pos:Pos} {e:Expr} {es:List Expr} {ml:ML} {g:List D->Sto->Res D}
theorem Bs.xk {α:Type} {K:AB} {σ:St} {ρ ρ1:List AI} {H H1:Hp} {r:Res α} {k k':α->Sto->Prop} (h:Bs K (λc=>E c σ) ρ H r k) (l:Le K ρ H ρ1 H1) (f:∀a S,k a S->k' a S):Bs K (λc H'=>XY E σ (.ref c) none H') ρ1 H1 r k':=by
 cases r with
 | ok a S=>exact f a S h
 | err c S=>exact λρ' H' l' s=>⟨rfl,c,rfl,h ρ' H' (l.trans l') s⟩
 | bad=>exact h
theorem Ba (F:Dh X.prog X.w X.K X.mg X.base CX k f fd ps (spM X.K n g)) (hx:L9 CX X (XY E)) (hr:HN k X.A) (hg:Gl X x) (hm:X.mg x=some (.ref f)) (hk:Ff X.K (.ref f)=true) (hb:Binds X.K fd ps [])
  (ha:GA X E (e :: es) ml) (hdb:(x==("__debug__" : Str))=false:=by decide) (he:AZ (e :: es) X.env=(false,CC e X.env) :: AZ es X.env:=by rfl) (hpl:(DM pos (AZ es X.env)).any (·.1)=false:=by rfl) :
  GE X E (.Call (.Name x p) (e :: es) [] pos) (B3 n g ml):=(dN (E:=XY E) F hr hg hm hk hb .nil hx ha hdb he hpl).imp λσ H Q ⟨ρ,l,S,hl,hs,hm⟩=>by
 refine ⟨ρ,l,S,hl,hs,hm.seq λds S1 hm ρ1 H1 xs l1 s1 r1=>?_⟩;split at hm
 ·rename_i hlen
  rw [A5];exact ⟨ρ1,ds,S1,hlen,r1,s1,hm.xk l1 λ_ _ k ρ' H' z l' s' r'=>k ρ' H' z (l1.trans l') s' r'⟩
 ·exact hm.elim
theorem dy (M:Mk X.K C f) (F:Dh X.prog X.w X.K X.mg X.base CX k f fd ps (spM X.K n g)) (hx:L9 CX X (XY E)) (hr:HN (k+1) X.A) (hg:Gl X x) (hm:X.mg x=some (.ref C)) (hb:Binds X.K fd ps [])
  (ha:GA X E (e :: es) ml) (hdb:(x==("__debug__" : Str))=false:=by decide) (he:AZ (e :: es) X.env=(false,CC e X.env) :: AZ es X.env:=by rfl) (hpl:(DM pos (AZ es X.env)).any (·.1)=false:=by rfl) :
  GE X E (.Call (.Name x p) (e :: es) [] pos) (Qt C n g ml):=(dH (E:=XY E) M F hr hg hm hb .nil hx ha hdb he hpl).imp λσ H Q ⟨ρ,l,S,hl,hs,hm⟩=>by
 refine ⟨ρ,l,S,hl,hs,hm.seq λds S1 hm ρ1 H1 xs l1 s1 r1 a dx ha hdx hne=>?_⟩;split at hm
 ·rename_i hlen
  rw [A5];obtain ⟨s2,l2⟩:=Gw (ho:=.own a) s1 hdx
  have ha2:upd H1 dx (.own a) a=none:=by rw [BR (B5 hne)];exact ha
  obtain ⟨s3,l3,at3⟩:=s2.alloc (p:=a) (ho:=.ins C dx []) (o:=.ins C []) ha2 ⟨dx,[],B2,.nil⟩;refine ⟨ρ1++[a],.ref S1.length :: ds,S1++[.ins C []],by simpa using hlen,.cons (.ref at3) (r1.mono (l2.trans l3)),s3,Bs.xk (hm.seq λz S2 hm=>hm) (l1.trans (l2.trans l3)) λz S2 hm ρ' H' y l' s' r'=>?_⟩
  cases z <;> first | exact hm.elim | skip
  cases r';exact ⟨rfl,hm ρ' H' _ (l1.trans (l2.trans (l3.trans l'))) s' (.ref (l'.pre _ _ at3))⟩
 ·exact hm.elim
end
theorem KVR.lookup {K:AB} {ρ:List AI} {H:Hp} (f:Str):∀ {x:List (Str×D)} {y:List (Str×V)} {d:D},KVR K ρ H x y->x.lookup f=some d->∃v,y.lookup f=some v/\Bo K ρ H d v
 | _,_,_,.nil,h=>by simp at h
 | (g,a) :: x,(g',b) :: y,d,.cons r t,h=>by
  obtain ⟨r1,r2⟩:=r;dsimp only at r1 r2;subst r1;rw [Bz] at h ⊢
  cases hq:(f==g) with
  | true=>rw [hq] at h;cases h;exact ⟨b,rfl,r2⟩
  | false=>rw [hq] at h;exact KVR.lookup f t h
def OM (f:Str) (v:D):List (Str×D)->List (Str×D)
 | []=>[(f,v)]
 | (g,x) :: r=>if g=f then (g,v) :: r else (g,x) :: OM f v r
theorem KVR.putF {K:AB} {ρ:List AI} {H:Hp} (f:Str) {d:D} {v:V} (rd:Bo K ρ H d v):∀ {x:List (Str×D)} {y:List (Str×V)},KVR K ρ H x y->KVR K ρ H (OM f d x) (putF f v y)
 | _,_,.nil=>.cons ⟨rfl,rd⟩ .nil
 | (g,a) :: x,(g',b) :: y,.cons r t=>by
  obtain ⟨r1,r2⟩:=r;dsimp only at r1 r2;subst r1;unfold OM L2.putF
  by_cases hq:g=f
  ·rw [if_pos hq,if_pos hq];exact .cons ⟨rfl,rd⟩ t
  ·rw [if_neg hq,if_neg hq];exact .cons ⟨rfl,r2⟩ (KVR.putF f rd t)
theorem KVR.length {κ:Type} {K:AB} {ρ:List AI} {H:Hp} {x:List (κ×D)} {y:List (κ×V)} (h:KVR K ρ H x y):x.length=y.length:=EO h
def Lv (C:AI) (f:Str) (m:ME):ME:=λe S=>(m e S).bind λd S1=>match d with
 | .ref n=>match S1[n]? with
  | some (.ins C' fs)=>if C'=C then (match fs.lookup f with | some v=>.ok v S1 | none=>.bad) else .bad
  | _=>.bad
 | _=>.bad
def Qk (C:AI) (f:Str) (mo mv:ME):MS:=λe S=>(mv e S).lift e λv S1=>(mo e S1).lift e λd S2=>match d with
 | .ref n=>match S2[n]? with
  | some (.ins C' fs)=>if C'=C/\fs.length < 1000 then .ok (.nx e) (S2.set n (.ins C (OM f v fs))) else .bad
  | _=>.bad
 | _=>.bad
section
variable {X:Cx} {E:EW} {o e value:Expr} {f:Str} {pos pos':Pos} {m mv:ME} {C:AI}
theorem Ng (hc:Cls X.K C) (hn:IF X.K C f) (he:GE X E e m) (hb:E1 e f X.env (CC e X.env)=CC e X.env:=by rfl):GE X E (.Attribute e f pos) (Lv C f m):=(iP he hb).imp λσ H Q ⟨ρ,l,S,hl,hs,hm⟩=>by
 refine ⟨ρ,l,S,hl,hs,hm.seq λx S1 hm ρ1 H1 v l1 s1 r1=>?_⟩
 cases x <;> first | exact hm.elim | skip
 rename_i n;dsimp only at hm
 cases ho:S1[n]? with
 | none=>rw [ho] at hm;exact hm.elim
 | some ob=>
  rw [ho] at hm
  cases ob <;> first | exact hm.elim | skip
  rename_i C' fs;dsimp only at hm;split at hm
  ·rename_i hC
   rw [hC] at ho
   cases r1 with
   | ref hn'=>
    obtain ⟨dx,fs',e1,e2⟩:=s1.ob n _ _ ho hn'
    cases hq:fs.lookup f with
    | none=>rw [hq] at hm;exact hm.elim
    | some w=>
     rw [hq] at hm;obtain ⟨v,h3,h4⟩:=KVR.lookup f e2 hq;exact ⟨_,_,dx,fs',v,rfl,e1,hc,hn,h3,hm ρ1 H1 v l1 s1 h4⟩
  ·exact hm.elim
theorem Vl (hc:Cls X.K C) (hn:IF X.K C f) (ha:GE X E o m) (hv:GE X E value mv) (hs:Fa value (some (.Attribute o f pos')) pos.line X.env=pure false:=by rfl):GS X E (.Assign [.Attribute o f pos'] value pos) (Qk C f m mv):=(iD ha hv hs).imp λD σ H ⟨ρ,l,S,hl,hs,hm⟩=>by
 refine ⟨ρ,l,S,hl,hs,hm.lift hl .refl λv S1 hm ρ1 H1 y l1 s1 r1=>⟨ρ1,l,S1,hl.mono l1,s1,(hm.later l1).lift (hl.mono l1) l1 λx S2 hm ρ2 H2 u l2 s2 r2=>?_⟩⟩
 cases x <;> first | exact hm.elim | skip
 rename_i n;dsimp only at hm
 cases ho:S2[n]? with
 | none=>rw [ho] at hm;exact hm.elim
 | some ob=>
  rw [ho] at hm
  cases ob <;> first | exact hm.elim | skip
  rename_i C' fs;dsimp only at hm;split at hm
  ·rename_i hC
   obtain ⟨hC,hlen⟩:=hC;rw [hC] at ho
   cases r2 with
   | ref hn'=>
    obtain ⟨dx,fs',e1,e2⟩:=s2.ob n _ _ ho hn';have le:Le X.K ρ2 H2 ρ2 (upd H2 _ (.ins C dx (putF f y fs'))):=Le.write hn' (by rw [e1];trivial);obtain ⟨s3,l3⟩:=s2.write (ho:=.ins C dx (putF f y fs')) (o:=.ins C (OM f v fs)) hn' ⟨dx,_,B2,(KVR.putF f (r1.mono l2) e2).mono le⟩;refine ⟨_,C,dx,fs',rfl,e1,hc,hn,by rw [<-KVR.length e2];exact hlen,?_⟩;exact hm ρ2 _ σ (l1.trans (l2.trans l3)) s3 (hl.mono (l1.trans (l2.trans l3)))
  ·exact hm.elim
end
end L2
namespace L2
open PySem PySem.Spec PyProof.Rows
theorem Cm.get {P:An} {w:BH} {H:Hp} {h:Bl} {a:AI} {o:HO} (x:Cm P w H h a o):∃u,h.get? a=some u:=by
 cases o with
 | lst xs=>obtain ⟨_,_,_,_,e⟩:=x;exact ⟨_,e⟩
 | tup xs=>obtain ⟨_,_,_,o,e,_⟩:=x;exact ⟨_,e⟩
 | dK kvs=>obtain ⟨_,_,_,_,o,_,_,e,_⟩:=x;exact ⟨_,e⟩
 | dT kvs=>obtain ⟨_,_,_,_,o,_,_,e,_⟩:=x;exact ⟨_,e⟩
 | set S n=>obtain ⟨o,_,_,_,e,_⟩:=x;exact ⟨_,e⟩
 | ins C dx fs=>obtain ⟨_,_,_,e,_⟩:=x;exact ⟨_,e⟩
 | own y=>exact x
 | xd fs=>obtain ⟨_,⟨_,_,_,e,_⟩,_⟩:=x;exact ⟨_,e⟩
 | rng lo hi=>obtain ⟨_,_,_,e⟩:=x;exact ⟨_,e⟩
 | frz ob u=>obtain ⟨e,_⟩:=x;exact ⟨_,e⟩
 | tbl ps=>exact ⟨_,(show h.get? a=some _ from x)⟩
 | met f y=>exact ⟨_,(show h.get? a=some _ from x)⟩
 | ext φ=>obtain ⟨_,e,_⟩:=x;exact e
def QV (Nw:AI->Prop) (F:Option AC->Prop) (ea C:AI) (H:Hp) (h:Bl):Prop:=
 H ea=none/\Nw ea/\∃(oe:Obj) (vs:Array AC) (a0:AC),h.get? ea=some oe/\oe.cls=.ref C/\(oe.dict=none/\oe.data=.fields vs)/\vs[0]?=some a0 /\
  ((F none/\vs[1]?=some .none)∨∃(T:AI) (oT:Obj) (ts:Array AC) (fl:AC),F (some fl)/\vs[1]?=some (.ref T)/\T≠ea/\H T=none/\Nw T/\h.get? T=some oT/\oT.data=.fields ts/\ts[3]?=some fl)
theorem QV.imp {Nw:AI->Prop} {h:Bl} {F G:Option AC->Prop} {ea C:AI} {H:Hp} (x:QV Nw F ea C H h) (f:∀o,F o->G o):QV Nw G ea C H h:=by
 obtain ⟨n1,n2,oe,vs,a0,g1,g2,g3,g4,g5⟩:=x;refine ⟨n1,n2,oe,vs,a0,g1,g2,g3,g4,?_⟩
 rcases g5 with ⟨a,b⟩ | ⟨T,oT,ts,fl,a,b⟩
 ·exact .inl ⟨f _ a,b⟩
 ·exact .inr ⟨T,oT,ts,fl,f _ a,b⟩
structure JQ (X:Cx):Prop where
 st:X.stack=X.env :: X.outer
 fr:X.env.frame=some X.env.locals
 ex:X.ex=[]
def Nw (X:Cx) (b:AI):Prop:=X.s₀.heap.get? b=none/\∀p∈X.pn,p.1≠b
section
variable {X:Cx} {pins:List (AI×Obj)} {σ:St} {H:Hp} {s:AE} {h':Bl} {ea C:AI} {F:Option AC->Prop}
theorem Inv.old (I:Inv X pins σ H s) (O:JQ X) {b:AI} (e:s.heap.get? b=none):H b=none/\Nw X b:=by
 refine ⟨?_,?_,λp hp z=>?_⟩
 ·cases q:H b with
  | none=>rfl
  | some u=>
   obtain ⟨o,ho⟩:=(I.hok b u q).get;rw [e] at ho;cases ho
 ·cases q:X.s₀.heap.get? b with
  | none=>rfl
  | some o=>
   obtain ⟨o',ho⟩:=I.base.there b o q (by rw [O.ex];simp);rw [e] at ho;cases ho
 ·have:=(I.pin p (Bq _ hp)).1
  rw [z,e] at this;cases this
theorem Inv.recs {ch:List AI} (I:Inv X [] σ H s) (O:JQ X) (hc:∀b∈ch,H b=none/\Nw X b/\∃o vs,s.heap.get? b=some o/\o.data=.fields vs)
  (st:(Jv s.heap (frs X.stack++ch)).StaysIn h') (up:s.heap.UpToSlots h'):Inv X [] σ H { s with heap:=h' }:=by
 have keepB:∀b o,b∉frs X.stack->b∉ch->s.heap.get? b=some o->h'.get? b=some o:=λb o h1 h2 e=>
  st b o (UP _ e λz=>(BB.mp z).elim h1 h2)
 have noL:∀b∈ch,b≠X.env.locals:=λb hb z=>by
  obtain ⟨_,_,o,vs,e,d⟩:=hc b hb;obtain ⟨m,⟨o',es,ep,ho',hd',_⟩,_⟩:=I.loc;rw [z,ho'] at e;cases e;rw [hd'] at d;cases d
 have noC:∀b∈ch,∀x c,X.env.cells.lookup x=some c->c≠b:=λb hb x c q z=>by
  obtain ⟨_,_,o,vs,e,d⟩:=hc b hb;obtain ⟨v,o',ho',hd'⟩:=I.cell x c q;rw [z,e] at ho';cases ho';rw [d] at hd';cases hd'
 refine I.stepN (g':=s.gens) (t':=s.toks) (d':=s.drawn) (ch:=ch) (λb hb=>⟨.inr (hc b hb).2.1.1,noL b hb,noC b hb,λp hp=>(hc b hb).2.1.2 p (by rwa [A5] at hp)⟩)
  (λb o nl nf nc e _=>keepB b o (λz=>(Ay.mp (I.stkSub b z)).elim nl nf) nc e) (λb o _ hf _ e _=>?_) (λ_ _ _ _ n=>n) (λb o nc e=>?_) (λ_ _ q=>q) (λ_ _ _ q=>q) (λb ps q=>⟨#[],by rw [q];simp⟩) (λm hm=>up.ns hm) (λa o e=>?_) I.bare
 ·obtain ⟨o',ho',nf⟩:=(I.funs.mem hf).2
  rw [e] at ho';cases ho';exact up b o e nf
 ·by_cases hb:b∈frs X.stack
  ·obtain ⟨o',ho',nf⟩:=(I.stack.mem hb).2
   rw [e] at ho';cases ho';obtain ⟨sl,q⟩:=up b o e nf;exact ⟨_,q⟩
  ·exact ⟨o,keepB b o hb nc e⟩
 ·have tr:∀b u,H b=some u->∀v,s.heap.get? b=some v->h'.get? b=some v:=λb u q v r=>
   keepB b v (λz=>by rw [I.stkFree b z] at q;cases q) (λz=>by rw [(hc b z).1] at q;cases q) r
  refine (I.hok a o e).stay (λb u hb q=>?_) (λ_ q=>q) λ_ _ q=>q
  rcases hb with z | z
  ·subst z;exact tr _ _ e u q
  ·exact tr _ _ z u q
abbrev ai (X:Cx) (h:Bl) (ch:List AI):Bl:=Jv h (frs X.stack++ch)
theorem Qw {h:Bl} {ch:List AI} {b:AI} (hb:b∈ch):(ai X h ch).get? b=none:=KN _ (A6 _ hb)
theorem Kq (f:Array AC->Array AC) (o:Obj):(Cv f o).dict=o.dict:=by
 obtain ⟨c,d,dt,sl⟩:=o
 cases dt <;> rfl
theorem T6 {M:QB} {A:BD} {E:AC->AE->Prop} {Q:Unit->AE->Prop} {base:Bl} {env:Env} {outer:List Env} {L e:AI} {oe:Obj} {vs:Array AC} {head:AC} {hadNext:Bool}
  (hfr:A.frames=some (env :: outer)) (hl:s.heap.FunFrames base (env :: outer)) (hf:env.frame=some L) (he:s.heap.get? e=some oe) (hd:oe.data=.fields vs) (hsz:1 < vs.size)
  (k:∀h2 T oT ts,T≠e->s.heap.get? T=none->(∀b o,b≠e->b∉frs (env :: outer)->s.heap.get? b=some o->h2.get? b=some o)->(∀b o,b≠e->s.heap.get? b=some o->∃sl,h2.get? b=some { o with slots:=sl }) ->
   h2.get? e=some (Cv (·.setIfInBounds 1 (.ref T)) oe)->h2.get? T=some oT->oT.data=.fields ts->ts[3]?=some (EN L)->Q () { s with heap:=h2 }) :
  Af M A (do let a <-frameOf env;let pl <-entryPlaceOf L hadNext;let b <-RH head a .none (EN L) .none pl;bh (.ref e) 1 b) Q E s:=by
 have hnot:e∉frs (env :: outer):=λz=>by
  obtain ⟨_,o,ho,nf⟩:=hl.mem z;rw [he] at ho;cases ho;exact nf vs hd
 refine AA (wpAny_frameOf_fun hfr hl hf λg1 so=>AA (wpAny_entryPlaceOf λpl hpl=>?_));unfold RH newFields;refine AA (B8 ?_ (hpl.sizeOk5 _ _ _ _ _));have e1:g1.get? e=some oe:=(so.2.1 e hnot).trans he;have e2:=AO (h:=g1) { cls:=.type "traceback",dict:=none,data:=.fields ([head,.ref L,.none,EN L,.none]++(if pl.isEmpty then BL 6 BQ else pl)).toArray } e1;refine FI e2 hd hsz ?_;have nTe:g1.objs.size≠e:=OE (Ae e1);have dd:=B9 hd (·.setIfInBounds 1 (Az g1.objs.size))
 have old:∀b o,b≠e->g1.get? b=some o->((g1.push { cls:=.type "traceback",dict:=none,data:=.fields ([head,.ref L,.none,EN L,.none]++(if pl.isEmpty then BL 6 BQ else pl)).toArray }).update e (Cv (·.setIfInBounds 1 (Az g1.objs.size)))).get? b=some o:=λb o ne q=>by
  rw [EJ _ _ (B5 ne)];exact AO _ q
 refine k _ g1.objs.size { cls:=.type "traceback",dict:=none,data:=.fields ([head,.ref L,.none,EN L,.none]++(if pl.isEmpty then BL 6 BQ else pl)).toArray } _ nTe (WH (Ug so.1.symm)) (λb o ne nf q=>old b o ne ((so.2.1 b nf).trans q)) (λb o ne q=>?_) (Ea _ e2 (Ed dd)) ?_ rfl ?_
 ·obtain ⟨sl,z⟩:=so.2.2 b o q
  exact ⟨sl,old b _ ne z⟩
 ·rw [EJ _ _ (B5 nTe)]
  exact Aq g1 rfl
 ·rcases hpl with rfl | ⟨_,_,_,_,_,_,_,rfl⟩ <;> simp
theorem TF {h:Bl} {ch:List AI} (keep:∀b o,b∉frs X.stack->b∉ch->h.get? b=some o->h'.get? b=some o):(ai X h ch).StaysIn h':=λb o q=>by
 have hb:b∉frs X.stack++ch:=λz=>by
  have:=KN (h:=h) (frs X.stack++ch) z;rw [show (ai X h ch).get? b=(Jv h (frs X.stack++ch)).get? b from rfl,this] at q;cases q
 exact keep b o (λz=>hb (Bq _ z)) (λz=>hb (A6 _ z)) (Lh _ q)
theorem Rp {M:QB} {A:BD} {E:AC->AE->Prop} {Q:Unit->AE->Prop} (I:Inv X [] σ H s) (O:JQ X) (hA:A.frames=some X.stack) (x:QV (Nw X) F ea C H s.heap)
  (hF:∀o,F o->o=none∨o=some .none∨o=some (EN X.env.locals))
  (k:∀h',Inv X [] σ H { s with heap:=h' }->QV (Nw X) (· = some (EN X.env.locals)) ea C H h'->Q () { s with heap:=h' }):Af M A (Ye (.ref ea) X.env) Q E s:=by
 obtain ⟨n1,n2,oe,vs,a0,g1,g2,⟨g0,g3⟩,g4,g5⟩:=x
 have hA':A.frames=some (X.env :: X.outer):=by rw [hA,O.st]
 have hst:frs (X.env :: X.outer)=frs X.stack:=by rw [O.st]
 have fr:s.heap.FunFrames X.base (X.env :: X.outer):=by rw [<-O.st];exact I.stack
 rcases g5 with ⟨_,h1⟩ | ⟨T,oT,ts,fl,hf,h1,ne,m1,m2,gT,dT,h3⟩
 ·have hsz:=(Es.mp h1).1
  unfold Ye;simp only [O.fr];refine AA (C8 g1 g3 h1 ?_);rw [if_neg (by decide)]
  refine T6 hA' fr O.fr g1 g3 hsz λh2 T oT ts nT fT kp up q1 q2 q3 q4=>?_
  rw [hst] at kp;have hT:=I.old O fT
  have hc:∀b∈[ea],H b=none/\Nw X b/\∃o vs,s.heap.get? b=some o/\o.data=.fields vs:=λb hb=>by
   cases Ag.mp hb;exact ⟨n1,n2,oe,vs,g1,g3⟩
  refine k h2 (I.recs O hc (TF λb o z1 z2 q=>kp b o (λz=>z2 (Ag.mpr z)) z1 q) λb o q nf=>up b o (λz=>?_) q) ?_
  ·rw [z,g1] at q
   cases q;exact nf vs g3
  ·exact ⟨n1,n2,_,_,a0,q1,by rw [JR];exact g2,⟨by rw [Kq];exact g0,B9 g3 _⟩,by rw [Nz (by decide)];exact g4,.inr ⟨T,oT,ts,_,rfl,by simp [hsz],nT,hT.1,hT.2,q2,q3,q4⟩⟩
 ·rcases hF _ hf with e | e | e
  ·cases e
  ·cases e
   have hsz:=(Es.mp h1).1;unfold Ye;simp only [O.fr];refine AA (C8 g1 g3 h1 ?_);rw [if_pos (show (Az T != BQ)=true from by simp)];refine AA (C8 gT dT h3 ?_);rw [if_neg (show ¬((BQ==EN X.env.locals)=true) from by simp [EN])];refine AA (FI gT dT (Es.mp h3).1 ?_)
   have oth:∀b,b≠T->(s.heap.update T (Cv (·.setIfInBounds 3 BQ))).get? b=s.heap.get? b:=λb hb=>EJ _ _ (B5 hb)
   have nrec:∀b o,s.heap.get? b=some o->(∀vs,o.data≠.fields vs)->b≠T:=λb o hb nf q=>by
    rw [q,gT] at hb;cases hb;exact nf ts dT
   have fr2:(s.heap.update T (Cv (·.setIfInBounds 3 BQ))).FunFrames X.base (X.env :: X.outer):=fr.of_keeps λb o hb nf=>⟨o,(oth b (nrec b o hb nf)).trans hb,rfl⟩
   have gU:(s.heap.update T (Cv (·.setIfInBounds 3 BQ))).get? T=some (Cv (·.setIfInBounds 3 BQ) oT):=Ea _ gT (Ed (B9 dT _))
   have hc:∀b∈[ea,T],H b=none/\Nw X b/\∃o vs,s.heap.get? b=some o/\o.data=.fields vs:=λb hb=>by
    rcases Ay.mp hb with rfl | hb
    ·exact ⟨n1,n2,oe,vs,g1,g3⟩
    ·cases Ag.mp hb
     exact ⟨m1,m2,oT,ts,gT,dT⟩
   refine T6 (s:={ s with heap:=s.heap.update T (Cv (·.setIfInBounds 3 BQ)) }) hA' fr2 O.fr ((oth ea (B5 ne)).trans g1) g3 hsz λh2 T2 oT2 ts2 nT fT kp up q1 q2 q3 q4=>?_
   rw [hst] at kp
   have fT':s.heap.get? T2=none:=by
    have z:T2≠T:=λz=>by rw [z] at fT;exact absurd (fT.symm.trans gU) (by simp)
    rw [<-oth T2 z];exact fT
   have hT:=I.old O fT';refine k h2 (I.recs O hc (TF λb o z1 z2 q=>kp b o (λz=>z2 (by rw [z];exact Ax)) z1 ((oth b λz=>z2 (by rw [z];exact Aa _ (Ag.mpr rfl))).trans q)) λb o q nf=>up b o (λz=>?_) ((oth b (nrec b o q nf)).trans q)) ?_
   ·rw [z,g1] at q
    cases q;exact nf vs g3
   ·exact ⟨n1,n2,_,_,a0,q1,by rw [JR];exact g2,⟨by rw [Kq];exact g0,B9 g3 _⟩,by rw [Nz (by decide)];exact g4,.inr ⟨T2,oT2,ts2,_,rfl,by simp [hsz],nT,hT.1,hT.2,q2,q3,q4⟩⟩
  ·cases e
   have hTn:(ai X s.heap [ea,T]).get? T=none:=Qw (Aa _ (Ag.mpr rfl));refine wpAny_noteFrame_againW (base:=ai X s.heap [ea,T]) (cls:=.ref C) (a0:=a0) O.fr ⟨oe,vs,T,oT,ts,g1,⟨g2,g4⟩,g3,h1,hTn,ne,gT,dT,h3⟩ ?_;exact k s.heap I ⟨n1,n2,oe,vs,a0,g1,g2,⟨g0,g3⟩,g4,.inr ⟨T,oT,ts,_,rfl,h1,ne,m1,m2,gT,dT,h3⟩⟩
theorem LK {M:QB} {A:BD} {E:AC->AE->Prop} {Q:Unit->AE->Prop} (f:Option AI) (I:Inv X [] σ H s) (O:JQ X) (x:QV (Nw X) F ea C H s.heap) (hF:¬F none)
  (k:∀h',Inv X [] σ H { s with heap:=h' }->QV (Nw X) (· = some (f.elim BQ λa=>EN a)) ea C H h'->Q () { s with heap:=h' }):Af M A (setFlight (.ref ea) f) Q E s:=by
 obtain ⟨n1,n2,oe,vs,a0,g1,g2,⟨g0,g3⟩,g4,g5⟩:=x
 rcases g5 with ⟨z,_⟩ | ⟨T,oT,ts,fl,hf,h1,ne,m1,m2,gT,dT,h3⟩
 ·exact (hF z).elim
 ·have hc:∀b∈[ea,T],H b=none/\Nw X b/\∃o vs,s.heap.get? b=some o/\o.data=.fields vs:=λb hb=>by
   rcases Ay.mp hb with rfl | hb
   ·exact ⟨n1,n2,oe,vs,g1,g3⟩
   ·cases Ag.mp hb
    exact ⟨m1,m2,oT,ts,gT,dT⟩
  have hsz:3 < ts.size:=(Es.mp h3).1;unfold setFlight;refine AA (C8 g1 g3 h1 ?_);rw [if_pos (show (Az T != BQ)=true from by simp)];refine FI gT dT hsz ?_
  have oth:∀b,b≠T->(s.heap.update T (Cv (·.setIfInBounds 3 (f.elim BQ λa=>EN a)))).get? b=s.heap.get? b:=λb hb=>EJ _ _ (B5 hb)
  have nrec:∀b o,s.heap.get? b=some o->(∀vs,o.data≠.fields vs)->b≠T:=λb o hb nf q=>by
   rw [q,gT] at hb;cases hb;exact nf ts dT
  refine k _ (I.recs O hc (λb o q=>?_) λb o q nf=>⟨o.slots,(oth b (nrec b o q nf)).trans q⟩) ?_
  ·have hb:b≠T:=λz=>by rw [z,Qw (Aa _ (Ag.mpr rfl))] at q;cases q
   exact (oth b hb).trans (Lh _ q)
  ·refine ⟨n1,n2,oe,vs,a0,(oth ea (B5 ne)).trans g1,g2,⟨g0,g3⟩,g4,.inr ⟨T,_,_,_,rfl,h1,ne,m1,m2,Ea _ gT (Ed (B9 dT _)),B9 dT _,?_⟩⟩
   simp [hsz]
end
def trF (X:Cx) (o:Option AC):Prop:=o=none∨o=some .none∨o=some (EN X.env.locals)
def XE (X:Cx) (E:EW) (e:AC) (s':AE):Prop:=∃ea C σ H',e=.ref ea/\Inv X [] σ H' s'/\QV (Nw X) (trF X) ea C H' s'.heap/\E C σ H'
def CXG (P:An) (w:BH):CXT:=λouter H s E e s'=>∃ea C H',e=.ref ea/\s'.os=s.os/\II s'.gens/\Un (frs outer) [] H H' s.heap s'.heap/\HOk P w H' s'.heap/\QV (λb=>s.heap.get? b=none) (· = some .none) ea C H' s'.heap/\E (.ref C) none H'
theorem XE.own {X:Cx} {E:EW} (O:JQ X):Yk (AY X.prog X.w) X.A X.env (XE X E):=by
 rintro e s' ⟨ea,C,σ,H,rfl,I,x,w⟩
 refine Rp I O I.ok.frames x (λo z=>z) λh1 I1 x1=>?_
 have x1':=x1;obtain ⟨n1,n2,oe,vs,a0,g1,g2,g3,g4,g5⟩:=x1'
 rcases g5 with ⟨z,_⟩ | ⟨T,oT,ts,fl,hf,h1',_⟩
 ·cases z
 ·show Af _ _ _ _ _ _
  refine AA (C8 (s:={ s' with heap:=h1 }) g1 g3.2 h1' ?_);rw [if_neg (by simp)];rw [O.fr]
  refine LK (s:={ s' with heap:=h1 }) (some X.env.locals) I1 O x1 (by simp) λh2 I2 x2=>?_
  exact ⟨ea,C,σ,H,rfl,I2,x2.imp λo z=>.inr (.inr z),w⟩
theorem XE.leave {X:Cx} {E:EW} {e:AC} {s':AE} {Q:Unit->AE->Prop} {E':AC->AE->Prop} (O:JQ X) (h:XE X E e s')
  (k:∀ea C σ H' s'',e=.ref ea->Inv X [] σ H' s''->QV (Nw X) (· = some .none) ea C H' s''.heap->E C σ H'->Q () s''):Af (AY X.prog X.w) X.A (leaving X.env e) Q E' s':=by
 obtain ⟨ea,C,σ,H,rfl,I,x,w⟩:=h;unfold leaving;refine AA (Rp I O I.ok.frames x (λo z=>z) λh1 I1 x1=>?_)
 refine LK (s:={ s' with heap:=h1 }) none I1 O x1 (by simp) λh2 I2 x2=>?_
 exact k ea C σ H _ rfl I2 x2 w
abbrev Cx.p (X:Cx) (pn:List (AI×Obj)):Cx:={ X with pn:=pn }
abbrev Cx.w' (X:Cx) (pn:List (AI×Obj)) (E:EW):Cx:={ X with pn:=pn,xe:=XE (X.p pn) E }
theorem Inv.with {X:Cx} {pins:List (AI×Obj)} {σ:St} {H:Hp} {s:AE} (I:Inv X pins σ H s) (z:AC->AE->Prop):Inv { X with xe:=z } pins σ H s:=by
 obtain ⟨ok,a,b,c,d,e,f,g,i,j,l⟩:=I;obtain ⟨o1,o2,o3,o4,o5,o6,o7,o8,o9,o10,o11,o12,o13,o14,o15,o16,o17,o18⟩:=ok;exact ⟨⟨o1,o2,o3,o4,o5,o6,o7,o8,o9,o10,o11,o12,o13,o14,o15,o16,o17,o18⟩,a,b,c,d,e,f,g,i,j,l⟩
theorem Inv.without {X:Cx} {pins:List (AI×Obj)} {σ:St} {H:Hp} {s:AE} {z:AC->AE->Prop} (I:Inv { X with xe:=z } pins σ H s):Inv X pins σ H s:=by
 have:=I.with X.xe
 exact this
theorem Inv.pinIn {X:Cx} {pins:List (AI×Obj)} {σ:St} {H:Hp} {s:AE} (I:Inv X pins σ H s):Inv (X.p (X.pn++pins)) [] σ H s:=by
 obtain ⟨ok,a,b,c,d,e,f,g,i,j,l⟩:=I;obtain ⟨o1,o2,o3,o4,o5,o6,o7,o8,o9,o10,o11,o12,o13,o14,o15,o16,o17,o18⟩:=ok;exact ⟨⟨o1,o2,o3,o4,o5,o6,o7,o8,o9,o10,o11,o12,o13,o14,o15,o16,o17,o18⟩,a,b,c,d,e,f,g,λq hq=>i q (by rwa [A5] at hq),j,l⟩
theorem Inv.pinOut {X:Cx} {pins:List (AI×Obj)} {σ:St} {H:Hp} {s:AE} (I:Inv (X.p (X.pn++pins)) [] σ H s):Inv X pins σ H s:=by
 obtain ⟨ok,a,b,c,d,e,f,g,i,j,l⟩:=I;obtain ⟨o1,o2,o3,o4,o5,o6,o7,o8,o9,o10,o11,o12,o13,o14,o15,o16,o17,o18⟩:=ok;exact ⟨⟨o1,o2,o3,o4,o5,o6,o7,o8,o9,o10,o11,o12,o13,o14,o15,o16,o17,o18⟩,a,b,c,d,e,f,g,λq hq=>i q (by show q∈(X.pn++pins)++[];rwa [A5]),j,l⟩
structure Good (X:Cx) (E:EW):Prop where
 pass:L9 (CXG X.prog X.w) X (XY E)
 own:Yk (AY X.prog X.w) X.A X.env X.xe
 made:∀(pins:List (AI×Obj)) (σ:St) (H:Hp) (s:AE) (h':Bl) (ea C:AI) (args:List AC),Inv X pins σ H s->E C σ H->Bl.MadeExcOf s.heap h' ea (.ref C) args->X.xe (.ref ea) { s with heap:=h' }
theorem JQ.p {X:Cx} (O:JQ X) (pn:List (AI×Obj)):JQ (X.p pn):=⟨O.st,O.fr,O.ex⟩
theorem BM {X:Cx} {E:EW} {pn:List (AI×Obj)} (O:JQ X):Good (X.w' pn E) E:=by
 have O':=O.p pn;refine ⟨λpins σ H s e s' I h=>?_,XE.own O',λpins σ H s h' ea C args I w hx=>?_⟩
 ·obtain ⟨ea,C,H',rfl,os,bare,un,hok,x,_,c,ec,w⟩:=h
  cases ec;have I0:Inv (X.p pn) pins σ H s:=Inv.without (X:=X.p pn) I;have I1:Inv (X.p pn) pins σ H' s':=I0.call' os un hok bare (λb z=>absurd z (by simp))
  have I2:Inv (X.p pn) [] σ H' s':=I1.pins_of λp hp=>absurd hp (by simp)
  obtain ⟨n1,n2,oe,vs,a0,g1,g2,g3,g4,g5⟩:=x;refine ⟨ea,C,σ,H',rfl,I2,⟨n1,(I0.old O' n2).2,oe,vs,a0,g1,g2,g3,g4,?_⟩,w⟩
  rcases g5 with ⟨z,_⟩ | ⟨T,oT,ts,fl,hf,h1,ne,m1,m2,r⟩
  ·cases z
  ·exact .inr ⟨T,oT,ts,fl,.inr (.inl hf),h1,ne,m1,(I0.old O' m2).2,r⟩
 ·have I0:Inv (X.p pn) pins σ H s:=Inv.without (X:=X.p pn) I
  have I1:Inv (X.p pn) pins σ H { s with heap:=h',toks:=s.toks }:=I0.kept hx.keeps;obtain ⟨t,g1,_,_⟩:=hx.there;have hold:=I0.old O' hx.new;exact ⟨ea,C,σ,H,rfl,I1.pins_of λp hp=>absurd hp (by simp),⟨hold.1,hold.2,_,_,_,g1,rfl,⟨rfl,rfl⟩,rfl,.inl ⟨.inl rfl,rfl⟩⟩,w⟩
theorem good_none {X:Cx} (hx:X.xe=λ_ _=>False):Good X noE:=by
 refine ⟨λpins σ H s e s' I h=>?_,by rw [hx];exact Yk.never,λ_ _ _ _ _ _ _ _ _ w _=>w.elim⟩;obtain ⟨ea,C,H',rfl,os,bare,un,hok,x,_,c,ec,w⟩:=h;exact w.elim
end L2
namespace L2
open PySem PySem.Spec PyProof.Rows
abbrev Pu:List AC:=[.type "ValueError",.type "Exception",.type "BaseException",.type "object"]
structure XCl (K:AB) (C:AI):Prop where
 ex:bU K C Pu "ValueError.__new__" = true
theorem XCl.obj {K:AB} {C:AI} (c:XCl K C):∃bm N nm q bs hdct sn sub ab col dd k0 k1 k2 k3 k5,K.lookup C=some (excClassObj nm q C N bs bm hdct sn sub ab col dd k0 k1 k2 k3 k5 "ValueError.__new__") /\
  Oo K N=true/\PySem.W.nsIn K N "__init__" = some none/\PySem.W.tailIn K Pu bm=true:=by
 have q:=c.ex;unfold bU at q;split at q
 ·rename_i ddx cdx slx hox
  split at q
  ·rename_i Cx bmx j0 j1 j2 j3 nx j5 hmx hsx
   simp only [DR,beq_iff_eq,Y0] at q;obtain ⟨⟨⟨⟨⟨e1,e2⟩,e3⟩,e4⟩,e5⟩,e6⟩:=q;subst e1;subst e2;obtain ⟨f1,f2,f3,f4,f5,f6,f7,f8,f9,f10,f11⟩:=cdx;dsimp only at hmx e3 e5 e6;subst hmx;subst e3;obtain ⟨lx⟩:=slx;dsimp only at hsx;subst hsx;exact ⟨bmx,f4,f1,f5,f2,f6,f7,f8,f9,f10,ddx,j0,j1,j2,j3,j5,hox,e5,e6,e4⟩
  ·cases q
 ·cases q
theorem dY {K:AB} {N:AI} {h h2:Bl} {m:Str->Option AC} (e:Oo K N=true) (X:K.In h) (X2:K.In h2) (n:h.Ns N m):h2.Ns N m:=by
 obtain ⟨o,es,ep,ho,r⟩:=n;unfold Oo at e;split at e
 ·rename_i hk
  have z:=X _ _ hk;rw [ho] at z;cases z;exact ⟨_,es,ep,X2 _ _ hk,r⟩
 ·cases e
def EQ (C:AI) (ml:ML):MS:=λe S=>(ml e S).lift e λds S1=>if ds.length<=sizeLine then .ok (.ex C e) S1 else .bad
section
variable {X:Cx} {E:EW} {x:Str} {np cpos pos:Pos} {e:Expr} {es:List Expr} {ml:ML} {C:AI}
theorem JN (G:Good X E) (hc:X.calm=true) (c:XCl X.K C) (hg:Gl X x) (hm:X.mg x=some (.ref C)) (ha:GA X E (e :: es) ml) (hdb:(x==("__debug__" : Str))=false:=by decide)
  (he:AZ (e :: es) X.env=(false,CC e X.env) :: AZ es X.env:=by rfl) (hpl:(DM cpos (AZ es X.env)).any (·.1)=false:=by rfl) :
  GS X E (.Raise (some (.Call (.Name x np) (e :: es) [] cpos)) none pos) (EQ C ml):=by
 intro pins s σ H D I ⟨ρ,l,S,hl,hs,hm'⟩;have hh:X.A.handled=none:=I.ok.hd hc;obtain ⟨bm,N,nm,q,bs,hdct,sn,sub,ab,col,dd,k0,k1,k2,k3,k5,hC,hok,hin,htl⟩:=c.obj;have hN:s.heap.Ns N (s.heap.nsMap N):=.of_isNs (PySem.W.isNs_of_in I.kIn hok)
 refine wpAny_Raise_call_subT (C:=C) (nm:=nm) (q:=q) (N:=N) (bs:=bs) (bm:=bm) (hdct:=hdct) (sn:=sn) (sub:=sub) (ab:=ab) (col:=col) (dd:=dd) (k0:=k0) (k1:=k1) (k2:=k2) (k3:=k3) (k5:=k5) (bmB:=Pu) PySem.F.excBase_ValueError
  ((Uc I.kIn htl).hasType (by decide +kernel)) hh (by rw [he];show (false||(DM cpos (AZ es X.env)).any (·.1))=false;rw [hpl];rfl) (PySem.W.nsMap_none_of_in I.kIn hok hin)
  (Mu I hg hm ⟨rfl,?_⟩ hdb)
 have hgo:=ha cpos pins s σ H (λvs H1=>vs.length<=sizeLine/\E C σ H1) I ⟨ρ,l,S,hl,hs,Bs.lift hm' hl .refl λds S1 hm ρ1 H1 xs l1 s1 r1=>by
  split at hm
  ·rename_i hz
   exact ⟨by rw [<-r1.length];exact hz,hm ρ1 H1 σ l1 s1 (hl.mono l1)⟩
  ·exact hm.elim⟩
 rw [he] at hgo ⊢;refine Uj (thn hgo λus s2 ⟨vs,H2,I2,rv,hz,w⟩=>?_);exact ⟨rfl,by rw [<-rv.length];exact hz,I2.kIn _ _ hC,dY hok I.kIn I2.kIn hN,Uc I2.kIn htl,λh' ea hx=>G.made pins σ H2 s2 h' ea C us I2 w hx⟩
end
abbrev Cx.suite (X:Cx) (ea:AI):Cx:={ X with A:=X.A.mark (some (.ref ea)),calm:=false,xe:=λ_ _=>False }
theorem Inv.suite {X:Cx} {pins:List (AI×Obj)} {σ:St} {H:Hp} {s:AE} (I:Inv X pins σ H s) (ea:AI):Inv (X.suite ea) pins σ H s:=by
 obtain ⟨ok,a,b,c,d,e,f,g,i,j,l⟩:=I;obtain ⟨o1,o2,o3,o4,o5,o6,o7,o8,o9,o10,o11,o12,o13,o14,o15,o16,o17,o18⟩:=ok;exact ⟨⟨o1,o2,o3,o4,o5,o6,o7,o8,λz=>absurd (show false=true from z) AK,o10,o11,o12,o13,o14,o15,o16,o17,o18⟩,a,b,c,d,e,f,g,i,j,l⟩
theorem Inv.unsuite {X:Cx} {pins:List (AI×Obj)} {σ:St} {H:Hp} {s:AE} {ea:AI} (ok:X.Ok) (I:Inv (X.suite ea) pins σ H s):Inv X pins σ H s:=by
 obtain ⟨_,a,b,c,d,e,f,g,i,j,l⟩:=I;exact ⟨ok,a,b,c,d,e,f,g,i,j,l⟩
theorem Inv.track {X:Cx} {σ:St} {H:Hp} {s:AE} {ea:AI} {o:Obj} {vs:Array AC} (I:Inv X [] σ H s) (n1:H ea=none) (n2:Nw X ea) (g1:s.heap.get? ea=some o) (g3:o.data=.fields vs) :
  Inv X [] σ (upd H ea (.frz o (.ext λh=>∃u,h.get? ea=some u))) s:=by
 have neL:X.env.locals≠ea:=λz=>by
  obtain ⟨m,⟨o',es,ep,ho',hd',_⟩,_⟩:=I.loc;rw [z,g1] at ho';cases ho';rw [g3] at hd';cases hd'
 have neC:∀x c,X.env.cells.lookup x=some c->c≠ea:=λx c q z=>by
  obtain ⟨v,o',ho',hd'⟩:=I.cell x c q;rw [z,g1] at ho';cases ho';rw [g3] at hd';cases hd'
 refine ⟨I.ok,I.os,I.bare,⟨I.base.keep,I.base.slot,λb u q n hx=>?_,I.base.there,λb xs q=>?_,λb u xs q=>?_,λb ps q=>?_⟩,I.loc,I.cell,?_,λx c q=>?_,λp hp=>?_,λb u q=>?_,I.len⟩
 ·rw [BR λz=>by rw [z,n2.1] at q;cases q]
  exact I.base.free b u q n hx
 ·have:=I.base.tups b xs q
  rw [BR (Bc this n1)];exact this
 ·have:=I.base.frzs b u xs q
  rw [BR (Bc this n1)];exact this
 ·obtain ⟨more,this⟩:=I.base.tbls b ps q
  exact ⟨more,by rw [BR (Bc this n1)];exact this⟩
 ·rw [BR neL];exact I.free
 ·rw [BR (neC x c q)];exact I.freeC x c q
 ·obtain ⟨z1,z2,z3⟩:=I.pin p hp
  exact ⟨z1,by rw [BR (n2.2 p (by rwa [A5] at hp))];exact z2,z3⟩
 ·by_cases hb:b=ea
  ·subst hb
   rw [B2] at q;cases q;exact ⟨g1,⟨o,g1⟩,⟨o,g1⟩,λh1 h2 ⟨u,e1⟩ k=>⟨u,k u e1⟩⟩
  ·rw [BR hb] at q
   exact (I.hok b u q).stay (λ_ _ _ z=>z) (λc z=>by rw [BR (Bc z n1)];exact z) λc xs z=>by rw [BR (Bc z n1)];exact z
structure V9 (K:AB) (C G:AI):Prop where
 ty:Yr K (.ref G)=some (.type "type")
 cl:(Gt K G).isSome=true
 ba:P8 K (.ref G) (.type "BaseException")=some true
 su:P8 K (.ref C) (.ref G)=some true
theorem VZ {K:AB} {C G ea:AI} {oe:Obj} {M:QB} {A:BD} {E:AC->AE->Prop} {Q:Bool->AE->Prop} {s:AE} (c:V9 K C G) (X:K.In s.heap) (g1:s.heap.get? ea=some oe) (g2:oe.cls=.ref C) (q:Q true s) :
  Af M A (excMatches (.ref ea) (.ref G)) Q E s:=by
 have L1:Gu M s.heap (isInstance (.ref G) (.type "tuple")) false:=PySem.W.looks_instIn X (by unfold PySem.W.instIn;rw [c.ty];show P8 K (.type "type") (.type "tuple")=some false;kernel_rfl);have L2:Gu M s.heap (isSubtype (.ref G) (.type "BaseException")) true:=UN X c.ba;have L3:Gu M s.heap (isSubtype (.ref C) (.ref G)) true:=UN X c.su
 have L4:Gu M s.heap (isType (.ref G)) true:=by
  have z:=c.cl;unfold Gt at z;split at z
  ·rename_i hk
   intro A' Q' E' s' k q;unfold isType loadHead;exact AA (UW (k _ _ (X _ _ hk)) (AJ q))
  ·cases z
 have L5:Gu M s.heap (typeOf (.ref ea)) (.ref C):=g2▸(jz g1).andThen .now;unfold excMatches isExcClass;refine AA (L1.at ?_);rw [if_neg AK];refine AA (AJ ?_);dsimp only;refine AA ?_;rw [KU];refine AA (AA (AA (L4.at ?_)));rw [if_pos rfl];refine L2.at ?_;simp only [Se,Cq,if_false];refine AJ ?_;dsimp only;rw [Qa];refine AJ (AA (L5.at (AA ?_)));rw [KU];refine AA (AA (L3.at ?_));rw [if_pos rfl];exact AJ (AJ (AJ q))
section
variable {X:Cx} {E:EW} {body suite:List Cn} {b₀:Cn} {g n:Str} {gp hpos pos:Pos} {cs:List AI} {i:Nat} {mb mh:MS} {G:AI}
end
def Fj (n:Nat) (ds:List D):Lo:=ds.map some++BL (n - ds.length) none
theorem U1 {K:AB} {ρ:List AI} {H:Hp} {N:List Str} {ds:List D} {vs:List V} (r:At K ρ H ds vs):FP K ρ H (Fj N.length ds) (start N vs):=by
 refine ⟨by simp [Fj,start,r.length],λi d q=>?_⟩;unfold Fj at q;unfold start
 by_cases hi:i < ds.length
 ·rw [Ah (by simpa using hi),Ap] at q
  rw [Ah (by rw [AH,<-r.length];exact hi),Ap]
  cases e:ds[i]? with
  | none=>rw [e] at q;cases q
  | some d'=>
   rw [e] at q;cases q;obtain ⟨v,h1,h2⟩:=r.get e;exact ⟨v,by rw [h1];rfl,h2⟩
 ·rw [A8 (by simpa using hi),C2] at q
  split at q <;> cases q
def ER (n:Nat) (mb:MS) (ds:List D) (S:Sto):Res D:=(okR (mb (Fj n ds) S)).bind λf S1=>match f with
 | .rt d=>.ok d S1
 | .nx _=>.ok .non S1
 | .ex c _=>.err c S1
 | _=>.bad
section
variable {P:An} {w:BH} {K:AB} {mg:Str->Option AC} {base:Bl}
theorem jM {x qual:Str} {st:Cn} {f:AI} {fd:DU} {N ps:List Str} {k n:Nat} (F:Fun K x qual st f fd) (Sc:Bp N ps (Ai st)) (hn:ps.length=n) {mb:MS}
  (hbody:∀(cdv:AC) (A:BD) (outer:List Env) (s:AE) (H:Hp) (E:XK),HN k (A.deeper (Lf qual (Ai st) s.heap.objs.size f cdv))->∀pn E',GSs ((SH (CXG P w) P w K mg base N qual (Ai st) f cdv A outer s H E).w' pn E') E' (Bi st) mb) :
  Dh P w K mg base (CXG P w) (k+1) f fd ps (spM K n (ER N.length mb)):=by
 obtain ⟨oc,od,kV,doc,pm,an,cdv,ct,osl,rfl,lk,hcd⟩:=F.ex
 refine lb lk hcd Sc (λvs H Q E h=>by rw [hn];exact h.len) λA outer s H vs Q E hr h=>?_
 obtain ⟨ρ,ds,S,h1,h2,h3,h4⟩:=h;have O:JQ (SH (CXG P w) P w K mg base N qual (Ai st) f cdv A outer s H E):=⟨rfl,rfl,rfl⟩;have hb:=hbody cdv A outer s H E hr [] (λc _ H'=>E (.ref c) none H');refine ⟨gS K (λc _ H'=>E (.ref c) none H') mb,λpins s' σ H' D I q=>DK (hb pins s' σ H' D (I.with _) q) (λfl s1 z=>?_) λe s1 z=>?_,ρ,_,S,U1 h2,h3,?_⟩
 ·cases fl with
  | next=>obtain ⟨σ',H2,J,z⟩:=z;exact ⟨σ',H2,J.without,z⟩
  | brk=>obtain ⟨σ',H2,J,z⟩:=z;exact ⟨σ',H2,J.without,z⟩
  | cont=>obtain ⟨σ',H2,J,z⟩:=z;exact ⟨σ',H2,J.without,z⟩
  | ret u=>obtain ⟨v,σ',H2,J,r,z⟩:=z;exact ⟨v,σ',H2,J.without,r,z⟩
 ·refine XE.leave O z λea C σ' H2 s2 e1 J x w=>⟨ea,C,H2,e1,J.os,J.bare,J.base,J.hok,?_,w⟩
  obtain ⟨n1,n2,oe,vs',a0,g1,g2,g3,g4,g5⟩:=x;refine ⟨n1,n2.1,oe,vs',a0,g1,g2,g3,g4,?_⟩
  rcases g5 with z | ⟨T,oT,ts,fl,hf,h1,ne,m1,m2,r⟩
  ·exact .inl z
  ·exact .inr ⟨T,oT,ts,fl,hf,h1,ne,m1,m2.1,r⟩
 ·unfold ER at h4
  cases hr:mb (Fj N.length ds) S with
  | bad=>rw [hr] at h4;exact h4.elim
  | err c S'=>rw [hr] at h4;exact h4.elim
  | ok fl S'=>
   rw [hr] at h4
   cases fl with
   | nx e'=>exact λρ' H' σ' l s' r=>h4 ρ' H' .non l s' .non
   | rt d=>exact h4
   | bk e'=>exact h4.elim
   | ct e'=>exact h4.elim
   | ex c e'=>exact λρ' H' σ' l s' r=>h4 ρ' H' l s'
end
end L2
namespace L2
open PySem PySem.Spec PyProof.Rows
section
variable {X:Cx}
def intOp (C:Int->Int->Prop) [∀i j,Decidable (C i j)] (g:Int->Int->D):D->D->Sto->Res D
 | .int i,.int j,S=>if C i j then .ok (g i j) S else .bad
 | _,_,_=>.bad
theorem ae {C:Int->Int->Prop} [∀i j,Decidable (C i j)] {g:Int->Int->D} {a b d:D} {S S':Sto} (h:intOp C g a b S=.ok d S'):∃i j,a=.int i/\b=.int j/\C i j/\d=g i j/\S'=S:=by
 unfold intOp at h;split at h
 ·split at h
  ·rename_i i j _ hc
   cases h;exact ⟨_,_,rfl,rfl,hc,rfl,rfl⟩
  ·cases h
 ·cases h
theorem PX {f:AC->AC->Sem AC} {C:Int->Int->Prop} [∀i j,Decidable (C i j)] {g:Int->Int->D} {v:Int->Int->V} (hv:∀ρ H i j,Bo X.K ρ H (g i j) (v i j)) (h:OpR X f (rI C v)):OpR X f (rD X.K (intOp C g)):=h.imp λx y H Q ⟨ρ,S,a,b,d,S',hs,ra,rb,hm,k⟩=>by
 obtain ⟨i,j,rfl,rfl,hc,rfl,rfl⟩:=ae hm;cases ra;cases rb;exact ⟨i,j,rfl,rfl,hc,k ρ H _ .refl hs (hv _ _ _ _)⟩
theorem LD {f:AC->AC->Sem AC} {g:Int->Int->D} {v:Int->Int->V} (hv:∀ρ H i j,Bo X.K ρ H (g i j) (v i j)) (h:OpR X f (rI0 v)):OpR X f (rD X.K (intOp (λ_ _=>True) g)):=
 PX (C:=λ_ _=>True) hv (h.imp λx y H Q ⟨i,j,e1,e2,_,q⟩=>⟨i,j,e1,e2,q⟩)
instance (i j:Int):Decidable (em i j):=inferInstanceAs (Decidable (_/\_))
instance (i j:Int):Decidable (ej i j):=inferInstanceAs (Decidable (_/\_/\_))
abbrev TD:=intOp (λ_ _=>True) λi j=>.int (i - j)
abbrev Qy:=intOp em λi j=>.int (i / j)
abbrev Pc:=intOp (λ_ j=>0 < j) λi j=>.int (i % j)
abbrev ltD:=intOp (λ_ _=>True) λi j=>.bl (decide (i < j))
abbrev leD:=intOp (λ_ _=>True) λi j=>.bl (decide (i<=j))
abbrev geD:=intOp (λ_ _=>True) λi j=>.bl (decide (j<=i))
theorem NV:OpR X (Cb .Sub) (rD X.K TD):=LD (λ_ _ _ _=>.int _) iU
theorem Rn:OpR X (Cb .FloorDiv) (rD X.K Qy):=PX (λ_ _ _ _=>.int _) dQ
theorem Ls:OpR X (Cb .Mod) (rD X.K Pc):=PX (λ_ _ _ _=>.int _) iX
theorem Wf:OpR X (CJ .Lt) (rD X.K ltD):=LD (λ_ _ _ _=>.bl _) kt
theorem Wg:OpR X (CJ .LtE) (rD X.K leD):=LD (λ_ _ _ _=>.bl _) ku
theorem lB:OpR X (CJ .GtE) (rD X.K geD):=LD (λ_ _ _ _=>.bl _) kx
def GR:D->D->Sto->Res D
 | .int i,.int j,S=>.ok (.int (i+j)) S
 | .tup xs,.tup ys,S=>if xs.length+ys.length<=sizeLine then .ok (.tup (xs++ys)) S else .bad
 | .ref l,.ref b,S=>match S[l]?,S[b]? with
  | some (.lst xs),some (.lst ys)=>if xs.length+ys.length<=sizeLine then .ok (.ref S.length) (S++[.lst (xs++ys)]) else .bad
  | _,_=>.bad
 | _,_,_=>.bad
def kg (K:AB):R2:=λx y H Q=>∃a b xs ys,x=.ref a/\y=.ref b/\H a=some (.tup xs)/\H b=some (.tup ys)/\xs.length+ys.length<=sizeLine /\
 (xs=[]->Q (.ref b) H)/\(ys=[]->Q (.ref a) H)/\(∀p,H p=none->Q (.ref p) (upd H p (.tup (xs++ys))))
theorem dS:OpR X (Cb .Add) (kg X.K):=by
 intro pins s σ H x y v u Q I rx ry h;obtain ⟨a,b,xs,ys,rfl,rfl,ha,hb,hz,q0,q1,q2⟩:=h;cases rx;cases ry;obtain ⟨its,r1,p1,_⟩:=I.tuple (a:=a) (xs:=xs) (.inl (.inl ha));obtain ⟨its2,r2,p2,_⟩:=I.tuple (a:=b) (xs:=ys) (.inl (.inl hb))
 by_cases hx:xs=[]
 ·obtain ⟨⟨cls,dd,data,sl⟩,ho,hc,n,hd⟩:=id p1
  obtain ⟨⟨cls2,dd2,data2,sl2⟩,ho2,hc2,n2,hd2⟩:=id p2;simp only at hc hd hc2 hd2;subst hc hd hc2 hd2;have hi:its=[]:=r1.nil_iff.mpr hx
  exact Yq ⟨_,ho,rfl⟩ ⟨_,ho2,rfl⟩ Q9 XN JV Iz (Ii _ _)
   (tuple_addW0 a b its.toArray its2.toArray n n2 dd dd2 sl sl2 (by simp [hi])) ⟨ho,ho2,⟨.ref b,H,I,rfl,q0 hx⟩⟩
 ·exact dR pins s σ H (.ref a) (.ref b) _ _ Q I rfl rfl ⟨a,b,xs,ys,rfl,rfl,.inl (.inl ha),.inl (.inl hb),hx,hz,q1,λ_ p hp=>q2 p hp⟩
theorem At.nil_of {K:AB} {ρ:List AI} {H:Hp} {xs:List D} {vs:List V} (r:At K ρ H xs vs) (e:vs=[]):xs=[]:=by
 subst e;cases r;rfl
theorem D7:OpR X (Cb .Add) (rD X.K GR):=(ic.or (dS.or iY)).imp λx y H Q ⟨ρ,S,a,b,d,S',hs,ra,rb,hm,k⟩=>by
 cases ra with
 | int i=>
  cases rb <;> first | (cases hm;done) | skip
  cases hm;exact .inl ⟨_,_,rfl,rfl,k ρ H _ .refl hs (.int _)⟩
 | @tup xs a1 vs h1 h2=>
  cases rb with
  | @tup ys b1 ws h3 h4=>
   unfold GR at hm;dsimp only at hm;split at hm
   ·rename_i hz
    cases hm;refine .inr (.inl ⟨_,_,_,_,rfl,rfl,h1,h3,by rw [<-h2.length,<-h4.length];exact hz,λe=>?_,λe=>?_,λp hp=>?_⟩)
    ·rw [h2.nil_of e,bq] at k
     exact k ρ H _ .refl hs (.tup h3 h4)
    ·rw [h4.nil_of e,A5] at k
     exact k ρ H _ .refl hs (.tup h1 h2)
    ·obtain ⟨s2,l2⟩:=Gw (ho:=.tup (vs++ws)) hs hp
     exact k ρ _ _ l2 s2 (.tup B2 ((h2.append h4).mono l2))
   ·cases hm
  | _=>cases hm
 | @ref n a1 hn=>
  cases rb with
  | @ref m b1 hn'=>
   unfold GR at hm;dsimp only at hm;split at hm
   ·rename_i xs ys h1 h2
    split at hm
    ·rename_i hz
     cases hm;obtain ⟨vs,e1,r1⟩:=hs.ob _ _ _ h1 hn;obtain ⟨us,e2,r2⟩:=hs.ob _ _ _ h2 hn';refine .inr (.inr ⟨_,_,_,_,rfl,rfl,e1,e2,by rw [<-r1.length,<-r2.length];exact hz,λp hp=>?_⟩);have le:Le X.K ρ H (ρ++[p]) (upd H p (.lst (vs++us))):=Le.alloc hp;obtain ⟨s2,l2,at2⟩:=hs.alloc (ho:=.lst (vs++us)) (o:=.lst (xs++ys)) hp ⟨_,B2,(r1.append r2).mono le⟩;exact k _ _ _ l2 s2 (.ref at2)
    ·cases hm
   ·cases hm
  | _=>cases hm
 | _=>cases hm
def ixD:D->D->Sto->Res D:=λa b S=>match Gi a S,b with
 | some ds,.int i=>match atI ds i with
  | some d=>.ok d S
  | none=>.bad
 | _,_=>.bad
theorem eW {K:AB} {ρ:List AI} {H:Hp} {ds:List D} {vs:List V} {i:Int} {d:D} (r:At K ρ H ds vs) (h:atI ds i=some d):∃v,atI vs i=some v/\Bo K ρ H d v:=by
 unfold atI at h ⊢;rw [<-r.length]
 cases hq:ixN ds.length i with
 | none=>rw [hq] at h;cases h
 | some j=>
  rw [hq] at h;exact r.get h
theorem lA:IxR X (rD X.K ixD):=(ix_list.or i0).imp λx y H Q ⟨ρ,S,a,b,d,S',hs,ra,rb,hm,k⟩=>by
 unfold ixD at hm;split at hm
 ·rename_i ds i hq
  split at hm
  ·rename_i d' hd
   cases hm;cases rb;obtain ⟨p,xs,rfl,rr,sq⟩:=Oc hs ra hq;obtain ⟨v,h1,h2⟩:=eW rr hd
   rcases sq with sq | sq
   ·exact .inl ⟨p,xs,_,v,rfl,rfl,sq,h1,k ρ H v .refl hs h2⟩
   ·exact .inr ⟨p,xs,_,v,rfl,rfl,sq,h1,k ρ H v .refl hs h2⟩
  ·cases hm
 ·cases hm
end
def mQ (f:List D->Sto->Res D) (m:ML):ME:=λe S=>(m e S).bind λds S1=>okR (f ds S1)
section
variable {X:Cx} {E:EW} {e:Expr} {es:List Expr} {x:Str} {p pos:Pos} {ml:ML} {id T:String} {r:List V->Hp->VK->Prop} {f:List D->Sto->Res D}
def jX (K:AB) (r:List V->Hp->VK->Prop) (f:List D->Sto->Res D):Prop:=∀ρ H S ds q xs d S' (Q:VK),B4 K ρ S H->At K ρ H ds xs->(SqL K H q xs∨SqT K H q xs)->f ds S=.ok d S' ->
 (∀ρ' H' z,Le K ρ H ρ' H'->B4 K ρ' S' H'->Bo K ρ' H' d z->Q z H')->r [.ref q] H Q
def ja (K:AB) (r:List V->Hp->VK->Prop) (f:List D->Sto->Res D):Prop:=∀ρ H S ds xs d S' (Q:VK),B4 K ρ S H->At K ρ H ds xs->f ds S=.ok d S' ->
 (∀ρ' H' z,Le K ρ H ρ' H'->B4 K ρ' S' H'->Bo K ρ' H' d z->Q z H')->r xs H Q
def lq (K:AB) (r:List V->Hp->VK->Prop) (f:List D->Option (List D)):Prop:=∀ρ H S ds q xs es (Q:VK),B4 K ρ S H->At K ρ H ds xs->(SqL K H q xs∨SqT K H q xs)->f ds=some es ->
 (∀ρ' H' p ys,Le K ρ H ρ' H'->B4 K ρ' S H'->At K ρ' H' es ys->H' p=some (.lst ys)->(∀n:Nat,ρ'[n]?≠some p)->H p=none->Q (.ref p) H')->r [.ref q] H Q
theorem R8 (hc:IG X (.builtin id) r) (hf:jX X.K r f) (hg:Gl X x) (hm:X.mg x=none) (hv:Ec x=some (.builtin id)) (h:GQ X E e ml) (hn:x≠"__name__":=by decide) (hdb:(x==("__debug__" : Str))=false:=by decide)
  (he:AZ [e] X.env=(false,CC e X.env) :: AZ [] X.env:=by rfl):GE X E (.Call (.Name x p) [e] [] pos) (mQ f ml):=(Mj hc hg hm hv (FG h Hr he) hn hdb he rfl).imp λσ H Q ⟨ρ,l,S,hl,hs,hm⟩=>by
 refine ⟨ρ,l,S,hl,hs,hm.seq λds S1 hm ρ1 H1 q xs l1 s1 r1 sq=>?_⟩;obtain ⟨d,S',e,k⟩:=hm.okR
 exact hf ρ1 H1 S1 ds q xs d S' Q s1 r1 sq e λρ' H' z l' s' r'=>k ρ' H' z (l1.trans l') s' r'
theorem Wx (hc:IG X (.builtin id) r) (hf:ja X.K r f) (hg:Gl X x) (hm:X.mg x=none) (hv:Ec x=some (.builtin id)) (h:GA X E (e :: es) ml) (hn:x≠"__name__":=by decide) (hdb:(x==("__debug__" : Str))=false:=by decide)
  (he:AZ (e :: es) X.env=(false,CC e X.env) :: AZ es X.env:=by rfl) (hpl:(DM pos (AZ es X.env)).any (·.1)=false:=by rfl):GE X E (.Call (.Name x p) (e :: es) [] pos) (mQ f ml):=(Mj hc hg hm hv h hn hdb he hpl).imp λσ H Q ⟨ρ,l,S,hl,hs,hm⟩=>by
 refine ⟨ρ,l,S,hl,hs,hm.seq λds S1 hm ρ1 H1 xs l1 s1 r1=>?_⟩;obtain ⟨d,S',e,k⟩:=hm.okR
 exact hf ρ1 H1 S1 ds xs d S' Q s1 r1 e λρ' H' z l' s' r'=>k ρ' H' z (l1.trans l') s' r'
def mN (f:List D->Option (List D)) (m:ML):ML:=λe S=>(m e S).bind λds S1=>match f ds with
 | some es=>.ok es S1
 | none=>.bad
theorem dr {f:List D->Option (List D)} (hc:IG X (.type T) r) (hf:lq X.K r f) (hg:Gl X x) (hm:X.mg x=none) (hv:Ec x=some (.type T)) (h:GQ X E e ml) (hn:x≠"__name__":=by decide) (hdb:(x==("__debug__" : Str))=false:=by decide)
  (he:AZ [e] X.env=(false,CC e X.env) :: AZ [] X.env:=by rfl):GL X E (.Call (.Name x p) [e] [] pos) (mN f ml):=(NT hc hg hm hv (FG h Hr he) hn hdb he rfl).imp λσ H Q ⟨ρ,l,S,hl,hs,hm⟩=>by
 refine ⟨ρ,l,S,hl,hs,hm.seq λds S1 hm ρ1 H1 q xs l1 s1 r1 sq=>?_⟩
 cases hq:f ds with
 | none=>rw [hq] at hm;exact hm.elim
 | some es=>
  rw [hq] at hm
  exact hf ρ1 H1 S1 ds q xs es Q s1 r1 sq hq λρ' H' p ys l' s' r' hp hn hp0=>hm ρ' H' p ys (l1.trans l') s' r' hp hn (l1.back hs s1 hp0)
def lL (ds:List D) (S:Sto):Res D:=.ok (.int ds.length) S
theorem gy:jX X.K (λxs H Q=>∃p ys,xs=[.ref p]/\(SqL X.K H p ys∨SqT X.K H p ys)/\Q (.int ys.length) H) lL:=λρ H S ds q xs d S' Q hs rr sq hm k=>by
 cases hm;exact ⟨q,xs,rfl,sq,k ρ H _ .refl hs (by rw [rr.length];exact .int _)⟩
def Mq:List D->Sto->Res D
 | [.int i,.int j],S=>.ok (.int (if j < i then j else i)) S
 | _,_=>.bad
def Qs:List D->Sto->Res D
 | [.int i,.int j],S=>.ok (.int (if j > i then j else i)) S
 | _,_=>.bad
theorem ee:ja X.K (λxs H Q=>∃i j,xs=[.int i,.int j]/\Q (.int (if j < i then j else i)) H) Mq:=λρ H S ds xs d S' Q hs rr hm k=>by
 unfold Mq at hm;split at hm
 ·cases hm
  cases rr with
  | cons a t=>
   cases t with
   | cons b t=>
    cases t;cases a;cases b;exact ⟨_,_,rfl,k ρ H _ .refl hs (.int _)⟩
 ·cases hm
theorem ef:ja X.K (λxs H Q=>∃i j,xs=[.int i,.int j]/\Q (.int (if j > i then j else i)) H) Qs:=λρ H S ds xs d S' Q hs rr hm k=>by
 unfold Qs at hm;split at hm
 ·cases hm
  cases rr with
  | cons a t=>
   cases t with
   | cons b t=>
    cases t;cases a;cases b;exact ⟨_,_,rfl,k ρ H _ .refl hs (.int _)⟩
 ·cases hm
def Tt (ds:List D):Option (List D):=some ds
theorem cg:lq X.K (λxs H Q=>∃p ys,xs=[.ref p]/\(SqL X.K H p ys∨SqT X.K H p ys)/\∀l,H l=none->Q (.ref l) (upd H l (.lst ys))) Tt:=λρ H S ds q xs es Q hs rr sq hm k=>by
 cases hm;refine ⟨q,xs,rfl,sq,λl hl=>?_⟩;obtain ⟨s2,l2⟩:=Gw (ho:=.lst xs) hs hl;exact k ρ _ l xs l2 s2 (rr.mono l2) B2 (λn e=>hs.notIn hl e) hl
end
end L2
namespace L2
open PySem PySem.Spec PyProof.Rows
def Df (X:Cx) (scope:IK) (N':List Str) (cl:List (Str×AI)) (C:AI) (s₁:AE) (H₁:Hp) (ex:List AI) (pn:List (AI×Obj)):Cx where
 prog:=X.prog
 w:=X.w
 K:=X.K
 mg:=X.mg
 base:=X.base
 A:=X.A
 N:=N'
 s₀:=s₁
 H₀:=H₁
 env:=compEnvC scope cl C X.env
 outer:=X.stack
 stack:=X.stack
 ex:=ex
 fn:=λ_=>false
 calm:=X.calm
 pn:=pn
 xe:=λ_ _=>False
theorem SJ {env:Env}:∀(names:List (Str×QA)) (acc:List (Str×AI)),(∀y∈names,y.2=.free->∃c,env.cells.lookup y.1=some c)->(∀n c,acc.lookup n=some c->env.cells.lookup n=some c) ->
  ∃cl,(forIn names acc (λ(x:Str×QA) (cs:List (Str×AI))=>match x with | (name,kind)=>if (kind==IM)=true then do let a <-cellOf env name;pure (G3 ((name,a) :: cs)) else pure (G3 cs)):Sem (List (Str×AI)))=pure cl /\
   (∀n c,cl.lookup n=some c->env.cells.lookup n=some c)/\(∀n c,acc.lookup n=some c->∃c',cl.lookup n=some c')/\∀y∈names,y.2=.free->∃c,cl.lookup y.1=some c
 | [],acc,_,ha=>⟨acc,rfl,ha,λn c h=>⟨c,h⟩,λ_ h=>nomatch h⟩
 | (n,k) :: r,acc,h,ha=>by
  rw [KU]
  by_cases hk:k=.free
  ·subst hk
   obtain ⟨c,hc⟩:=h (n,.free) Ax rfl
   obtain ⟨cl,e,h1,h2,h3⟩:=SJ r ((n,c) :: acc) (λy hy=>h y (Aa _ hy)) (λm d hm=>by
    rw [Bz] at hm
    cases hq:(m==n) with
    | true=>rw [hq] at hm;cases hm;rw [eq_of_beq hq];exact hc
    | false=>rw [hq] at hm;exact ha m d hm)
   have e0:cellOf env n=pure c:=by unfold cellOf;rw [hc]
   refine ⟨cl,?_,h1,λm d hm=>h2 m (if m==n then c else d) ?_,λy hy hf=>?_⟩
   ·simp only [beq_self_eq_true,if_true,e0,pure_bind]
    exact e
   ·rw [Bz]
    cases hq:(m==n) with
    | true=>rfl
    | false=>exact hm
   ·rcases Ay.mp hy with rfl | hy
    ·exact h2 n c (by rw [Bz,beq_self_eq_true])
    ·exact h3 y hy hf
  ·have hb:(k==IM)=false:=by simpa using hk
   obtain ⟨cl,e,h1,h2,h3⟩:=SJ r acc (λy hy=>h y (Aa _ hy)) ha;refine ⟨cl,?_,h1,h2,λy hy hf=>?_⟩
   ·simp only [hb,Cq,if_false,pure_bind]
    exact e
   ·rcases Ay.mp hy with rfl | hy
    ·exact (hk hf).elim
    ·exact h3 y hy hf
theorem W9 {scope:IK} {env:Env} (h:∀y∈scope.names,y.2=.free->∃c,env.cells.lookup y.1=some c):∃cl,closureFor scope env=pure cl /\
  (∀n c,cl.lookup n=some c->env.cells.lookup n=some c)/\∀y∈scope.names,y.2=.free->∃c,cl.lookup y.1=some c:=by
 obtain ⟨cl,e,h1,_,h3⟩:=SJ scope.names [] h (λn c z=>by simp at z);refine ⟨cl,?_,h1,h3⟩;unfold closureFor;exact (congrArg (λz=>z >>= λcs=>pure cs) e).trans (by rw [pure_bind])
def V6 (X:Cx) (ifs:List Expr) (t:TT):Prop:=
 ∀(pins:List (AI×Obj)) (s:AE) (σ:St) (H:Hp) (Q:Bool->Hp->Prop),Inv X pins σ H s->t σ H Q ->
  Af (AY X.prog X.w) X.A (forIn ifs true λc r=>if r=true then do let ok <-UX c X.env (CC c X.env);pure (G3 ok) else pure (G3 r)) (TP X pins σ Q) X.xe s
theorem Zp {X:Cx}:V6 X [] (λ_ H Q=>Q true H):=λpins s σ H Q I h=>wpAny_tests_nil ⟨H,I,h⟩
theorem Zo {X:Cx} {c:Expr} {t:TT} (h:PT X c t):V6 X [c] t:=λpins s σ H Q I q=>wpAny_tests_one (h pins s σ H Q I q)
structure MB (X:Cx) (scope:IK) (own N':List Str):Prop where
 kind:scope.kind=.function
 nocell:∀y∈scope.names,y.2≠.cell
 names:∀y∈scope.names,y.2=.local->scope.names.lookup y.1=some .local
 free:∀y∈scope.names,y.2=.free->X.env.kindOf y.1=some .cell∨X.env.kindOf y.1=some .free
 len:N'.length=own.length+X.N.length
 up:∀i x,N'[own.length+i]?=some x->Vis (Iw scope X.env) x->X.N[i]?=some x/\Vis X.env.scope x/\((Iw scope X.env).names.lookup x=some .cell∨(Iw scope X.env).names.lookup x=some .free)/\X.env.kindOf x≠some .local
 vis:∀x,((Iw scope X.env).names.lookup x=some .cell∨(Iw scope X.env).names.lookup x=some .free)->(x,IM)∈scope.names
section
variable {X:Cx} {pins:List (AI×Obj)} {σ:St} {H2:Hp} {s2:AE} {scope:IK} {own N':List Str} {cl:List (Str×AI)} {fp:List AI} {C:AI} {s:AE} {H:Hp}
theorem Vw (Sc:MB X scope own N') (I:Inv X pins σ H2 s2) (hf:∀b∈fp,M4 X pins H2 b) (hfl:∀b∈fp,b < s2.heap.objs.size)
  (c1:∀n c,cl.lookup n=some c->X.env.cells.lookup n=some c) (c2:∀y∈scope.names,y.2=.free->∃c,cl.lookup y.1=some c)
  (hC:s2.heap.objs.size<=C) {m:Str->Option AC} (hn:s.heap.Ns C m) (hos:s.os=s2.os) (hg:II s.gens)
  (u:Un (frs X.stack) fp H2 H s2.heap s.heap) (hok:HOk X.prog X.w H s.heap) (hHC:H C=none) :
  Inv (Df X scope N' cl C s2 H2 fp (X.pn++pins)) [] (BL own.length none++σ) H s:=by
 have cellK:∀x c v,cl.lookup x=some c->s2.heap.IsCell c v->s.heap.IsCell c v:=λx c v e ⟨o,ho,hd⟩=>by
  obtain ⟨sl,q⟩:=u.any ho (I.freeC x c (c1 x c e)) λz=>(hf c z).2.2.2.2.1 x c (c1 x c e) rfl
  exact ⟨_,q,hd⟩
 have ok':(Df X scope N' cl C s2 H2 fp (X.pn++pins)).Ok:=by
  refine ⟨I.ok.mod,Sc.kind,I.ok.glob,I.ok.blt,hC,λx y c h1 h2=>I.ok.inj x y c (c1 x c h1) (c1 y c h2),λx hx=>?_,λx c z=>?_,I.ok.hd,I.ok.frames,.inl rfl,λb hb=>?_,I.bs,Al I.ok.bsz I.sz,λb o e hb=>?_,λb hb hb'=>?_,I.stack,I.stkFree⟩
  ·obtain ⟨c,hc⟩:=c2 _ (Sc.vis x hx) rfl
   exact ⟨c,hc⟩
  ·exact absurd (show false=true from z) AK
  ·exact ⟨A0 (Ad (hfl b hb) hC),λx c e=>(hf b hb).2.2.2.2.1 x c (c1 x c e)⟩
  ·obtain ⟨_,_,_,z,_⟩:=hf b hb
   rcases z with z | z
   ·exact I.ok.noex b o e z
   ·exact absurd (Ad (Ae (I.ok.bs b o e).1) z) (EZ _)
  ·obtain ⟨_,z1,z2,_⟩:=hf b hb
   rcases Ay.mp (I.stkSub b hb') with e | e
   ·exact z1 e
   ·exact z2 e
 refine ⟨ok',hos,hg,u,⟨m,hn,λi x v e1 e2 e3=>?_⟩,λx c e=>?_,hHC,λx c e=>?_,λp hp=>?_,hok,?_⟩
 ·have hi:own.length<=i:=by
   apply Ou
   intro hlt;rw [Ah (by simpa using hlt),C2,if_pos hlt] at e2;cases e2
  obtain ⟨j,rfl⟩:∃j,i=own.length+j:=⟨i - own.length,by lia⟩
  rw [A8 (by simp)] at e2
  have e2':σ[j]?=some (some v):=by simpa using e2
  obtain ⟨n1,n2,n3,n4⟩:=Sc.up j x e1 e3;obtain ⟨m0,hn0,hl⟩:=I.loc;obtain ⟨w',r,lk⟩:=hl j x v n1 e2' n2;refine ⟨w',r,.inr ⟨n3,?_⟩⟩
  rcases lk with ⟨k,_⟩ | ⟨_,c,hc,hcell⟩
  ·exact (n4 k).elim
  ·obtain ⟨c',hc'⟩:=c2 _ (Sc.vis x n3) rfl
   have e:=c1 x c' hc';rw [hc] at e;cases e;exact ⟨c,hc',cellK x c _ hc' hcell⟩
 ·obtain ⟨v,z⟩:=I.cell x c (c1 x c e)
  exact ⟨v,cellK x c v e z⟩
 ·obtain ⟨v,o,ho,hd⟩:=I.cell x c (c1 x c e)
  exact u.free c o ho (I.freeC x c (c1 x c e)) λz=>(hf c z).2.2.2.2.1 x c (c1 x c e) rfl
 ·have hp':p∈X.pn++pins:=by
   have hp:p∈(X.pn++pins)++[]:=hp;rwa [A5] at hp
  obtain ⟨e,n,ne,nf,d⟩:=I.pin p hp'
  have nfs:p.1∉frs X.stack:=λz=>(Ay.mp (I.stkSub _ z)).elim ne nf
  have nfp:p.1∉fp:=λz=>(hf _ z).2.2.2.2.2 p hp' rfl
  exact ⟨u.keep p.1 p.2 e n nfs nfp,u.free p.1 p.2 e n nfp,A0 (Ad (Ae e) hC),nfs,d⟩
 ·show (BL own.length none++σ).length=N'.length
  rw [AW,Ky,I.len,Sc.len]
def ZT (k:Nat) (wi:TI) (g:TG) (tc:TT) (te:TE):TE:=λσ H Q=>wi σ H λJ H1=>∀p,H1 p=none->∃W:Nat->Nat->St->Hp->List V->Prop,(∃m,W 0 m (BL k none++σ) (upd H1 p (.lst [])) []) /\
 ∀i m σ' H' xs,W i m σ' H' xs->H' p=some (.lst xs)/\((J.stop i H'/\Q (.ref p) H')∨(J.go i H'/\xs.length < sizeLine/\∀x H'',J.yld i H' x H''->g x σ' H'' λσ2 H2=>tc σ2 H2 λb H3=>
  if b=true then te σ2 H3 λy H4=>H4 p=some (.lst xs)/\∃m',m' < m/\W (i+1) m' σ2 (upd H4 p (.lst (xs++[y]))) (xs++[y]) else ∃m',m' < m/\W (i+1) m' σ2 H3 xs))
theorem YT {X':Cx} {elt target iter:Expr} {ifs:List Expr} {pos:Pos} {J:It} {it p:AI} {tn:Nat->Bl->Prop} {g:TG} {tc:TT} {te:TE} {R:Result->AE->Prop} {Q:Hp->Prop}
  (hc:X'.calm=true) (hx:X'.xe=λ_ _=>False) (T:UK X'.prog X'.w X'.K target J fp it tn) (hg:PG X' target g) (hif:V6 X' ifs tc) (he:PE X' elt te)
  (W:Nat->Nat->St->Hp->List V->Prop) (turn:∀i m σ' H' xs,W i m σ' H' xs->H' p=some (.lst xs)/\((J.stop i H'/\Q H')∨(J.go i H'/\xs.length < sizeLine/\∀x H'',J.yld i H' x H''->g x σ' H'' λσ2 H2=>tc σ2 H2 λb H3=>
   if b=true then te σ2 H3 λy H4=>H4 p=some (.lst xs)/\∃m',m' < m/\W (i+1) m' σ2 (upd H4 p (.lst (xs++[y]))) (xs++[y]) else ∃m',m' < m/\W (i+1) m' σ2 H3 xs)))
  (fin:∀σ' H' s',Inv X' [] σ' H' s'->Q H'->R (.ok .next) s')
  {m0:Nat} {σ0:St} {H0:Hp} {s0:AE} (I0:Inv X' [] σ0 H0 s0) (st0:tn 0 s0.heap) (f0:∀b∈fp,M4 X' [] H0 b) (w0:W 0 m0 σ0 H0 []) :
  Lg (AY X'.prog X'.w) X'.A (.compLoop (.ListComp elt [⟨target,iter,ifs,0⟩] scope pos) 0 (.ref it) (.ref p) X'.env) R s0:=by
 have stat:∀ {H':Hp},(∀b∈fp,H' b=none)->∀b∈fp,M4 X' [] H' b:=λhn b hb=>⟨hn b hb,(f0 b hb).2⟩
 refine codeAny_loop rfl (λn s'=>∃i σ' H' xs,Inv X' [] σ' H' s'/\tn i s'.heap/\(∀b∈fp,H' b=none)/\W i n σ' H' xs) (λn s1 hI=>?_) m0 ⟨0,σ0,H0,[],I0,st0,λb hb=>(f0 b hb).1,w0⟩;obtain ⟨i,σ1,H1,xs,I1,st1,fr1,w1⟩:=hI;show Af _ X'.A ((compTurn (.ListComp elt [⟨target,iter,ifs,0⟩] scope pos) 0 (.ref it) (.ref p) X'.env).onRaise (λx=>do Ye x X'.env;theTreesLotGoes x)) _ _ s1;refine wpAny_noted ?_;rw [compTurn_list]
 have up:∀ {α:Type} {t:Sem α} {P:α->AE->Prop} {E:AC->AE->Prop} {s:AE},Af (AY X'.prog X'.w) X'.A t P X'.xe s->Af (AY X'.prog X'.w) X'.A t P E s:=λh=>DK h (λ_ _ z=>z) λ_ _ z=>by rw [hx] at z;exact z.elim
 obtain ⟨hp,hcase⟩:=turn i n σ1 H1 xs w1;refine AA (XI (AA ?_))
 rcases hcase with ⟨stop,q⟩ | ⟨go,hz,step⟩
 ·refine up (thn (T.done X' rfl rfl rfl hc i [] s1 σ1 H1 X'.xe I1 (stat fr1) st1 stop) λr s4 ⟨hr,I4⟩=>?_)
  subst hr;exact AJ (fin σ1 H1 s4 I4 q)
 ·refine up (thn (T.item X' rfl rfl rfl hc i [] s1 σ1 H1 X'.xe I1 (stat fr1) st1 go) λr s4 ⟨u,hr,h4⟩=>?_)
  subst hr;refine AA (up (thn h4 λ_ s5 ⟨x,H5,I5,r5,y5,st5,fr5⟩=>?_));have I5':=I5.pinned (stat fr5) (T.obj _ _ st5);refine AA (up (thn (hg _ s5 σ1 H5 x u _ I5' r5 (step x H5 y5)) λ_ s6 ⟨σ6,H6,I6,q6⟩=>?_))
  have jk:∀ {s7:AE} {σ7:St} {H7:Hp} {ys:List V},Inv X' ([]++PP fp s5.heap) σ7 H7 s7->(∃m',m' < n/\W (i+1) m' σ7 H7 ys)->∃m,m < n/\∃i σ' H' xs,Inv X' [] σ' H' s7/\tn i s7.heap/\(∀b∈fp,H' b=none)/\W i m σ' H' xs:=λ{s7 σ7 H7 ys} I7 ⟨m',hm,w7⟩=>by
   refine ⟨m',hm,i+1,σ7,H7,ys,I7.unpinned,T.keep _ _ _ st5 λb hb o e=>(I7.pin (b,o) (A6 _ (A6 _ (Ji hb e)))).1,λb hb=>?_,w7⟩;obtain ⟨o,e,d⟩:=T.obj _ _ st5 b hb;exact (I7.pin (b,o) (A6 _ (A6 _ (Ji hb e)))).2.1
  refine AA (up (thn (hif _ s6 σ6 H6 _ I6 q6) λok s7 ⟨H7,I7,q7⟩=>?_))
  cases ok with
  | false=>
   rw [if_neg AK] at q7;exact AJ ⟨rfl,jk I7 q7⟩
  | true=>
   rw [if_pos rfl] at q7;refine AA (AA (up (thn (he _ s7 σ6 H7 _ I7 q7) λyv s8 ⟨y,H8,I8,r8,hp8,q8⟩=>?_)));refine AA (up (thn (Qr (X:=X') _ s8 σ6 H8 (.ref p) [y] (.ref p) [yv] (λv H9=>v=.non/\H9=upd H8 p (.lst (xs++[y]))) I8 rfl (.cons r8 .nil) ⟨p,xs,y,rfl,rfl,hp8,hz,rfl,rfl⟩) λv9 s9 ⟨v,H9,I9,r9,e9,e10⟩=>?_));subst e10;exact AJ (AJ ⟨rfl,jk I9 q8⟩)
end
end L2
namespace L2
open PySem PySem.Spec PyProof.Rows
section
variable {X:Cx} {pins:List (AI×Obj)} {σ:St} {H2:Hp} {s2:AE} {scope:IK} {own N':List Str} {cl:List (Str×AI)} {fp:List AI} {C:AI}
theorem Q0 {σ':St} {H':Hp} {s':AE} {h':Bl} (I2:Inv X pins σ H2 s2) (J:Inv (Df X scope N' cl C s2 H2 fp (X.pn++pins)) [] σ' H' s') (hC:s2.heap.objs.size<=C) (hf:∀b∈fp,M4 X pins H2 b)
  (sb:EK C s'.heap h'):Inv X pins σ H' { s' with heap:=h' }:=by
 have ne:∀b o,s2.heap.get? b=some o->b≠C:=λb o e=>A0 (Ad (Ae e) hC)
 have jb:Un (frs X.stack) fp H2 H' s2.heap s'.heap:=J.base
 have u:Un (frs X.stack) fp H2 H' s2.heap h':=by
  refine ⟨λb o e n hb hx=>(sb.2 b (ne b o e)).trans (jb.keep b o e n hb hx),λb o e n hb hx=>?_,jb.free,λb o e hx=>?_,jb.tups,jb.frzs,jb.tbls⟩
  ·obtain ⟨sl,q⟩:=jb.slot b o e n hb hx
   exact ⟨sl,(sb.2 b (ne b o e)).trans q⟩
  ·obtain ⟨o',q⟩:=jb.there b o e hx
   exact ⟨o',(sb.2 b (ne b o e)).trans q⟩
 have hHC:H' C=none:=J.free
 have hok:HOk X.prog X.w H' h':=λa o e=>(J.hok a o e).stay (λb u hb q=>(sb.2 b λz=>by
  subst z
  rcases hb with z | z
  ·subst z;rw [hHC] at e;cases e
  ·rw [hHC] at z;cases z).trans q) (λ_ q=>q) λ_ _ q=>q
 exact I2.call' (s':={ s' with heap:=h' }) (ch:=fp) J.os u hok J.bare λb hb=>by
  obtain ⟨_,z1,z2,z3,z4,z5⟩:=hf b hb;exact ⟨z3,z1,z4,z5⟩
variable {elt iter target:Expr} {ifs:List Expr} {pos:Pos} {wi:TI} {g:TG} {tc:TT} {te:TE}
theorem Pq {σ:St} {E:AC->AE->Prop} {Qf:AI->Hp->Prop} {RR:AC->AI->Result->AE->Prop} {it:AI} {J:It} {tn:Nat->Bl->Prop} (hc:X.calm=true) (Sc:MB X scope own N')
  (hg:∀cl C s₁ H₁ ex pn,PG (Df X scope N' cl C s₁ H₁ ex pn) target g) (hif:∀cl C s₁ H₁ ex pn,V6 (Df X scope N' cl C s₁ H₁ ex pn) ifs tc) (he:∀cl C s₁ H₁ ex pn,PE (Df X scope N' cl C s₁ H₁ ex pn) elt te)
  (c1:∀n c,cl.lookup n=some c->X.env.cells.lookup n=some c) (c2:∀y∈scope.names,y.2=.free->∃c,cl.lookup y.1=some c)
  (I2:Inv X pins σ H2 s2) (T:UK X.prog X.w X.K target J fp it tn) (st2:tn 0 s2.heap) (f2:∀b∈fp,M4 X pins H2 b)
  (q2:∀p,H2 p=none->∃W:Nat->Nat->St->Hp->List V->Prop,(∃m,W 0 m (BL own.length none++σ) (upd H2 p (.lst [])) []) /\
   ∀i m σ' H' xs,W i m σ' H' xs->H' p=some (.lst xs)/\((J.stop i H'/\Qf p H')∨(J.go i H'/\xs.length < sizeLine/\∀x H'',J.yld i H' x H''->g x σ' H'' λσ2 H2=>tc σ2 H2 λb H3=>
    if b=true then te σ2 H3 λy H4=>H4 p=some (.lst xs)/\∃m',m' < m/\W (i+1) m' σ2 (upd H4 p (.lst (xs++[y]))) (xs++[y]) else ∃m',m' < m/\W (i+1) m' σ2 H3 xs)))
  (hRR:∀D C σ' H' s',s2.heap.objs.size<=C->Inv (Df X scope N' cl C s2 H2 fp (X.pn++pins)) [] σ' H' s'->Qf D H'->RR (.ref D) C (.ok .next) s') :
  Af (AY X.prog X.w) X.A (newList []) (λacc s₃=>Af (AY X.prog X.w) X.A (newFunctionEnv scope X.env.globals cl [] X.env.qual none .none (some X.env)) (λcenv s₄=>
   Lg (AY X.prog X.w) X.A (.compStart (.ListComp elt [⟨target,iter,ifs,0⟩] scope pos) 0 (.ref it) acc { cenv with scope:=Iw scope X.env }) (RR acc cenv.locals) s₄) E s₃) E s2:=by
 have hfl:∀b∈fp,b < s2.heap.objs.size:=λb hb=>by
  obtain ⟨o,e,_⟩:=T.obj _ _ st2 b hb;exact Ae e
 refine B8 (wpAny_newFunctionEnv Sc.nocell (by intro y hy;simp at hy) (λh₁ hns₁ hsb₁=>?_) Sc.kind);dsimp only at hns₁ hsb₁ ⊢;generalize hH3:s2.heap.push { cls:=.type "list",dict:=none,data:=.seq ([]:List AC).toArray }=H3 at hns₁ hsb₁ ⊢
 have hC:H3.objs.size=s2.heap.objs.size+1:=by rw [<-hH3,IT]
 have hDC:s2.heap.objs.size≠H3.objs.size:=by rw [hC];exact A0 (E8 _)
 have hCle:s2.heap.objs.size<=H3.objs.size:=by rw [hC];exact P0 _
 have old:∀b o,s2.heap.get? b=some o->h₁.get? b=some o:=λb o e=>hsb₁.extBut b o (A0 (by rw [hC];exact OF (Ae e))) (AO _ (hH3▸AO _ e))
 have hacc:h₁.get? s2.heap.objs.size=some { cls:=.type "list",dict:=none,data:=.seq ([]:List AC).toArray }:=hsb₁.extBut _ _ hDC (AO _ (hH3▸Aq _ rfl));have hD:H2 s2.heap.objs.size=none:=I2.hok.fresh (AU _);have u:Un (frs X.stack) fp H2 (upd H2 s2.heap.objs.size (.lst [])) s2.heap h₁:=Un.laid old (AU _) hD;have hok:HOk X.prog X.w (upd H2 s2.heap.objs.size (.lst [])) h₁:=I2.hok.laid old (AU _) ⟨C0 _,[],0,.nil,hacc⟩
 have hHC:upd H2 s2.heap.objs.size (.lst []) H3.objs.size=none:=by rw [BR (B5 hDC)];exact I2.hok.fresh hCle
 obtain ⟨W,⟨m0,w0⟩,turn⟩:=q2 s2.heap.objs.size hD
 have loop:∀s₃:AE,s₃={ s2 with heap:=h₁,toks:=s2.toks+([]:List (Str×AC)).length } ->
   Lg (AY X.prog X.w) X.A (.compLoop (.ListComp elt [⟨target,iter,ifs,0⟩] scope pos) 0 (.ref it) (.ref s2.heap.objs.size) (compEnvC scope cl H3.objs.size X.env))
    (RR (.ref s2.heap.objs.size) H3.objs.size) s₃:=by
  rintro s₃ rfl
  have J0:Inv (Df X scope N' cl H3.objs.size s2 H2 fp (X.pn++pins)) [] (BL own.length none++σ) (upd H2 s2.heap.objs.size (.lst [])) { s2 with heap:=h₁,toks:=s2.toks+([]:List (Str×AC)).length }:=
   Vw (s:={ s2 with heap:=h₁,toks:=s2.toks+([]:List (Str×AC)).length }) Sc I2 f2 hfl c1 c2 hCle hns₁ rfl I2.bare u hok hHC
  refine YT (X':=Df X scope N' cl H3.objs.size s2 H2 fp (X.pn++pins)) (fp:=fp) (Q:=Qf s2.heap.objs.size) hc rfl T (hg _ _ _ _ _ _) (hif _ _ _ _ _ _) (he _ _ _ _ _ _) W turn (λσ' H' s' J q=>hRR _ _ σ' H' s' hCle J q) J0 (T.keep _ _ _ st2 λb _ o e=>old b o e) (λb hb=>?_) w0;obtain ⟨z0,z1,z2,z3,z4,z5⟩:=f2 b hb;refine ⟨by rw [BR (A0 (hfl b hb))];exact z0,A0 (Ad (hfl b hb) hCle),λz=>?_,.inl hb,λx c e=>z4 x c (c1 x c e),λp hp=>?_⟩
  ·exact (Ay.mp (I2.stkSub _ z)).elim z1 z2
  ·have hp:p∈(X.pn++pins)++[]:=hp
   rw [A5] at hp;exact z5 p hp
 exact codeAny_compStart_list (loop _ rfl) (T.self X.A 0 _ _ _ (T.keep _ _ _ st2 λb _ o e=>old b o e) (loop _ rfl))
theorem dL (hc:X.calm=true) (Sc:MB X scope own N') (hi:PI X target iter wi)
  (hg:∀cl C s₁ H₁ ex pn,PG (Df X scope N' cl C s₁ H₁ ex pn) target g) (hif:∀cl C s₁ H₁ ex pn,V6 (Df X scope N' cl C s₁ H₁ ex pn) ifs tc) (he:∀cl C s₁ H₁ ex pn,PE (Df X scope N' cl C s₁ H₁ ex pn) elt te)
  (hs:∀x,E4 iter X.env x=pure x:=by intro _;rfl):PE X (.ListComp elt [⟨target,iter,ifs,0⟩] scope pos) (ZT own.length wi g tc te):=by
 intro pins s σ H Q I h;rw [eval_ListComp];obtain ⟨cl,hclos,c1,c2⟩:=W9 (scope:=scope) (env:=X.env) (λy hy hf=>I.ok.has y.1 (Sc.free y hy hf));refine XJ (use:=none) rfl hs hclos Sc.kind Sc.names (thn (hi pins s σ H _ I h) λv s1 h1=>thn h1 λitv s2 h2=>?_);obtain ⟨it,fp,tn,J,H2,rfl,I2,T,st2,f2,q2⟩:=h2
 refine Pq (Qf:=λp H'=>Q (.ref p) H') (RR:=λacc C=>compPost (AY X.prog X.w) X.A X.xe none (EP X pins σ Q) acc C) hc Sc hg hif he c1 c2 I2 T st2 f2 q2 λD C σ' H' s' hC J q=>?_
 obtain ⟨m,hn,_⟩:=J.loc;exact ⟨m,hn,λh' sb=>⟨.ref D,H',Q0 I2 J hC f2 sb,rfl,q⟩⟩
theorem dA {i:Nat} {y:Str} {py spos:Pos} (hc:X.calm=true) (hsw:Fa (.ListComp elt [⟨target,iter,ifs,0⟩] scope pos) (some (.Name y py)) spos.line X.env=pure true)
  (hN:X.N.Nodup) (hy:X.N[i]?=some y) (hloc:Loc X.env.scope y) (Sc:MB X scope own N') (hi:PI X target iter wi)
  (hg:∀cl C s₁ H₁ ex pn,PG (Df X scope N' cl C s₁ H₁ ex pn) target g) (hif:∀cl C s₁ H₁ ex pn,V6 (Df X scope N' cl C s₁ H₁ ex pn) ifs tc) (he:∀cl C s₁ H₁ ex pn,PE (Df X scope N' cl C s₁ H₁ ex pn) elt te)
  (hs:∀x,E4 iter X.env x=pure x:=by intro _;rfl) (hf:X.fn y=true∨X.env.scope.names.lookup y=some .local:=by first | exact .inl rfl | exact .inr rfl | assumption) :
  PS X (.Assign [.Name y py] (.ListComp elt [⟨target,iter,ifs,0⟩] scope pos) spos) (kY (ZT own.length wi g tc te) (Wz i)):=by
 intro pins s σ H D I h;rw [exec_Assign_Name_used _ _ _ _ hsw];refine AA (XI (AA ?_));show Af _ X.A (do let _ <-comprehension (.ListComp elt [⟨target,iter,ifs,0⟩] scope pos) scope X.env _ (newList []) false (CC iter X.env) (some (Ua (.Name y py) X.env))) _ _ s;obtain ⟨cl,hclos,c1,c2⟩:=W9 (scope:=scope) (env:=X.env) (λy hy hf=>I.ok.has y.1 (Sc.free y hy hf))
 refine AA (DK (XJ (use:=some (Ua (.Name y py) X.env)) (Q:=λ_ s'=>SP X pins D .next s') rfl hs hclos Sc.kind Sc.names
  (thn (hi pins s σ H _ I h) λv s1 h1=>thn h1 λitv s2 h2=>?_)) (λ_ s' hq=>AJ (AJ hq)) λ_ _ e=>e)
 obtain ⟨it,fp,tn,J,H2,rfl,I2,T,st2,f2,q2⟩:=h2
 refine Pq (Qf:=λp H'=>D.nx (σ.set i (some (.ref p))) H') (RR:=λacc C=>compPost (AY X.prog X.w) X.A X.xe (some (Ua (.Name y py) X.env)) (λ_ s'=>SP X pins D .next s') acc C) hc Sc hg hif he c1 c2 I2 T st2 f2 q2 λA C σ' H' s' hC J q=>?_
 obtain ⟨m,hn,_⟩:=J.loc;have I3:Inv X pins σ H' s':=Q0 I2 J hC f2 (mI ..);have hHC:H' C=none:=J.free
 have hcell:∀x c,X.env.cells.lookup x=some c->c≠C:=λx c e z=>by
  obtain ⟨v,q⟩:=I2.cell x c e;exact absurd (Ad q.lt (by rw [z];exact hC)) (EZ _)
 have hloc':C≠X.env.locals:=OE (Ad I2.lt hC);show Af _ X.A (Ua (.Name y py) X.env (.ref A)) _ _ s';refine jf (Qh (v:=.ref A) I3 hN hy hloc rfl (λs4 I4 ⟨a,sb,ha⟩=>?_) hf)
 have haC:C≠a:=by
  rcases ha with e | e
  ·rw [e];exact hloc'
  ·exact B5 (hcell _ _ e)
 refine ⟨m,hn.sameBut sb haC,λh' sb'=>⟨_,H',?_,q⟩⟩
 refine I4.turned (t':=s4.toks) (it:=C) (λb o hb e=>(sb'.2 b hb).trans e) hHC hloc' (.inr (Al I2.sz hC)) hcell λp hp z=>?_
 exact absurd (Ad (Ae (I2.pin p hp).1) (by rw [z];exact hC)) (EZ _)
end
def FY (v:KD) (g:MG) (c:MT) (m:ME):Nat->Nat->Lo->Sto->List D->Res (List D)
 | k,i,e,S,acc=>match v S with
  | none=>.bad
  | some ds=>match ds[i]? with
   | none=>.ok acc S
   | some d=>match k with
    | 0=>.bad
    | k+1=>if acc.length < sizeLine then (okR (g d e S)).bind λe1 S1=>(okR (c e1 S1)).bind λb S2=>if b=true then (okR (m e1 S2)).bind λy S3=>FY v g c m k (i+1) e1 S3 (acc++[y]) else FY v g c m k (i+1) e1 S2 acc else .bad
def DC (n:Nat) (mi:MI) (g:MG) (c:MT) (m:ME):ML:=λe S=>(mi e S).bind λv S1=>FY v g c m (DS v S1) 0 (BL n none++e) S1 []
def FD:MT:=λ_ S=>.ok true S
section
variable {X:Cx} {E:EW} {scope:IK} {own N':List Str} {elt iter target:Expr} {ifs:List Expr} {pos:Pos} {mi:MI} {g:MG} {c:MT} {m:ME}
abbrev ei (X:Cx) (E:EW) (ifs:List Expr) (c:MT):Prop:=V6 X ifs (gT X.K E c)
theorem DO:ei X E [] FD:=λpins s σ H Q I ⟨ρ,l,S,hl,hs,hm⟩=>by
 exact Zp pins s σ H Q I (hm ρ H .refl hs)
theorem HA {e:Expr} (h:GT X E e c):ei X E [e] c:=Zo h
theorem FP.grow {K:AB} {ρ:List AI} {H:Hp} {e:Lo} {σ:St} (n:Nat) (h:FP K ρ H e σ):FP K ρ H (BL n none++e) (BL n none++σ):=by
 refine ⟨by simp [h.len],λi d q=>?_⟩
 by_cases hi:i < n
 ·rw [Ah (by simpa using hi),C2,if_pos hi] at q
  cases q
 ·rw [A8 (by simpa using hi)] at q ⊢
  simp only [Ky] at q ⊢;exact h.at' _ d q
theorem Bs.ok_of {α:Type} {K:AB} {E:EH} {ρ:List AI} {H:Hp} {r:Res α} {k:α->Sto->Prop} {a:α} {S:Sto} (e:r=.ok a S) (h:k a S):Bs K E ρ H r k:=by
 subst e;exact h
theorem PV {α β:Type} {r:Res α} {F:α->Sto->Res β} {b:β} {S:Sto} (h:(okR r).bind F=.ok b S):∃a S1,r=.ok a S1/\F a S1=.ok b S:=by
 cases r with
 | ok a S1=>exact ⟨a,S1,rfl,h⟩
 | err c S1=>cases h
 | bad=>cases h
theorem UC {v:KD} {g:MG} {c:MT} {m:ME} {er:AI} {S':Sto}:∀(k i:Nat) (e:Lo) (S:Sto) (acc:List D),FY v g c m k i e S acc≠.err er S':=by
 intro k
 induction k with
 | zero=>
  intro i e S acc h;unfold FY at h;split at h
  ·cases h
  ·split at h <;> cases h
 | succ k ih=>
  intro i e S acc h;unfold FY at h;split at h
  ·cases h
  ·split at h
   ·cases h
   ·dsimp only at h
    split at h
    ·cases h1:g _ e S with
     | ok e1 S1=>
      rw [h1] at h;dsimp only [okR,Res.bind] at h
      cases h2:c e1 S1 with
      | ok b S2=>
       rw [h2] at h;dsimp only [okR,Res.bind] at h
       cases b with
       | true=>
        rw [if_pos rfl] at h
        cases h3:m e1 S2 with
        | ok y S3=>rw [h3] at h;exact ih _ _ _ _ h
        | err _ _=>rw [h3] at h;cases h
        | bad=>rw [h3] at h;cases h
       | false=>
        rw [if_neg AK] at h;exact ih _ _ _ _ h
      | err _ _=>rw [h2] at h;cases h
      | bad=>rw [h2] at h;cases h
     | err _ _=>rw [h1] at h;cases h
     | bad=>rw [h1] at h;cases h
    ·cases h
theorem TC {K:AB} {n:Nat} {σ:St} {H:Hp} {Q:VK} (h:gL K E (DC n mi g c m) σ H Q):ZT n (gI K E mi) (gG K g) (gT K noE c) (gE K noE m) σ H Q:=by
 obtain ⟨ρ,l,S,hl,hs,hm⟩:=h;refine ⟨ρ,l,S,hl,hs,hm.seq λv S1 hm ρ1 H1 J l1 s1 vo p hp=>?_⟩
 obtain ⟨ds,S',hm,k⟩:∃ds S',FY v g c m (DS v S1) 0 (BL n none++l) S1 []=.ok ds S'/\∀ρ' H' p xs,Le K ρ H ρ' H'->B4 K ρ' S' H'->At K ρ' H' ds xs->H' p=some (.lst xs)->(∀n:Nat,ρ'[n]?≠some p)->H p=none->Q (.ref p) H':=by
  cases hc:FY v g c m (DS v S1) 0 (BL n none++l) S1 [] with
  | ok ds S'=>rw [hc] at hm;exact ⟨ds,S',rfl,hm⟩
  | err c S'=>exact (UC _ _ _ _ _ hc).elim
  | bad=>rw [hc] at hm;exact hm.elim
 obtain ⟨s1',l1'⟩:=Gw (ho:=.lst []) s1 hp;have hp0:H p=none:=l1.back hs s1 hp
 refine ⟨λi j σ2 H2 xs=>∃ρ2 e2 S2 acc,Le K ρ1 H1 ρ2 H2/\FP K ρ2 H2 e2 σ2/\B4 K ρ2 S2 H2/\At K ρ2 H2 acc xs/\H2 p=some (.lst xs)/\(∀q:Nat,ρ2[q]?≠some p)/\FY v g c m j i e2 S2 acc=.ok ds S',
  ⟨DS v S1,ρ1,_,S1,[],l1',(hl.mono (l1.trans l1')).grow n,s1',.nil,B2,λq e=>s1.notIn hp e,hm⟩,?_⟩
 rintro i j σ2 H2 xs ⟨ρ2,e2,S2,acc,l2,r2,s2,ra,hp2,hn2,hm2⟩;refine ⟨hp2,?_⟩;unfold FY at hm2
 cases hv:v S2 with
 | none=>rw [hv] at hm2;cases hm2
 | some vs=>
  rw [hv] at hm2;dsimp only at hm2;obtain ⟨v1,v2⟩:=vo ρ2 H2 S2 vs i l2 s2 hv
  cases hd:vs[i]? with
  | none=>
   rw [hd] at hm2;cases hm2;exact .inl ⟨v1 hd,k ρ2 H2 p xs (l1.trans l2) s2 ra hp2 hn2 hp0⟩
  | some d=>
   rw [hd] at hm2;dsimp only at hm2;obtain ⟨go,yl⟩:=v2 d hd
   cases j with
   | zero=>cases hm2
   | succ j=>
    dsimp only at hm2;split at hm2
    ·rename_i hz
     obtain ⟨e3,S3,h3,hm2⟩:=PV hm2;obtain ⟨b,S4,h4,hm2⟩:=PV hm2;refine .inr ⟨go,by rw [<-ra.length];exact hz,λx H' y=>?_⟩;obtain ⟨ρ3,l3,s3,rd⟩:=yl x H' y;obtain ⟨hp3,hn3⟩:=l3.oth p _ hp2 hn2;refine ⟨ρ3,e2,S2,d,rd,r2.mono l3,s3,Bs.ok_of h3 λρ4 H4 σ4 l4 s4 r4=>?_⟩;obtain ⟨hp4,hn4⟩:=l4.oth p _ hp3 hn3;refine ⟨ρ4,e3,S3,r4,s4,Bs.ok_of h4 λρ5 H5 l5 s5=>?_⟩;obtain ⟨hp5,hn5⟩:=l5.oth p _ hp4 hn4
     cases b with
     | false=>
      rw [if_neg AK] at hm2 ⊢;exact ⟨j,E8 j,ρ5,e3,S4,acc,l2.trans (l3.trans (l4.trans l5)),r4.mono l5,s5,ra.mono (l3.trans (l4.trans l5)),hp5,hn5,hm2⟩
     | true=>
      rw [if_pos rfl] at hm2 ⊢;obtain ⟨yv,S5,h5,hm2⟩:=PV hm2;refine ⟨ρ5,e3,S4,r4.mono l5,s5,Bs.ok_of h5 λρ6 H6 y6 l6 s6 r6=>?_⟩;obtain ⟨hp6,hn6⟩:=l6.oth p _ hp5 hn5
      have l7:∀xs',Le K ρ6 H6 ρ6 (upd H6 p (.lst xs'))->True:=λ_ _=>trivial
      have up7:∀xs':List V,B4 K ρ6 S5 (upd H6 p (.lst xs'))/\(∀a o,E2 K ρ6 H6 a o->a≠p->E2 K ρ6 (upd H6 p (.lst xs')) a o)/\∀e' w',Bo K ρ6 H6 e' w'->Bo K ρ6 (upd H6 p (.lst xs')) e' w':=λxs'=>by
       have kk:=Fu (H:=H6) (p:=p) (ho:=.lst xs') (.inr (by rw [hp6];trivial))
       have mono:∀e' w',Bo K ρ6 H6 e' w'->Bo K ρ6 (upd H6 p (.lst xs')) e' w':=λe' w' r=>r.keep kk.1 kk.2
       have mob:∀a o,E2 K ρ6 H6 a o->a≠p->E2 K ρ6 (upd H6 p (.lst xs')) a o:=λa o r ne=>r.keep kk.1 kk.2 (BR ne)
       exact ⟨⟨s6.len,s6.nd,λn o a q1 q2=>mob a o (s6.ob n o a q1 q2) λz=>hn6 n (by rw [<-z];exact q2)⟩,mob,mono⟩
      obtain ⟨u1,u2,u3⟩:=up7 (xs++[y6]);refine ⟨hp6,j,E8 j,ρ6,e3,S5,acc++[yv],?_,?_,u1,?_,B2,hn6,hm2⟩
      ·have lx:=l2.trans (l3.trans (l4.trans (l5.trans l6)))
       have kk:=Fu (H:=H6) (p:=p) (ho:=.lst (xs++[y6])) (.inr (by rw [hp6];trivial))
       exact ⟨lx.pre,λa zs q=>kk.1 a zs (lx.tup a zs q),λa o u q=>kk.2 a o u (lx.frz a o u q),λa o q z=>by
        have nap:a≠p:=Bc q hp;obtain ⟨z1,z2⟩:=lx.oth a o q z
        exact ⟨by rw [BR nap];exact z1,z2⟩⟩
      ·have rr:=r4.mono (l5.trans l6)
       exact ⟨rr.len,λq d' hq=>by
        obtain ⟨w',z1,z2⟩:=rr.at' q d' hq
        exact ⟨w',z1,u3 _ _ z2⟩⟩
      ·have ra6:=ra.mono (l3.trans (l4.trans (l5.trans l6)))
       have kk:=Fu (H:=H6) (p:=p) (ho:=.lst (xs++[y6])) (.inr (by rw [hp6];trivial));exact (ra6.keep kk.1 kk.2).append (.cons (u3 _ _ r6) .nil)
    ·cases hm2
theorem DT (hc:X.calm=true) (Sc:MB X scope own N') (hi:GI X E target iter mi)
  (hg:∀cl C s₁ H₁ ex pn,GG (Df X scope N' cl C s₁ H₁ ex pn) target g) (hif:∀cl C s₁ H₁ ex pn,ei (Df X scope N' cl C s₁ H₁ ex pn) noE ifs c) (he:∀cl C s₁ H₁ ex pn,GE (Df X scope N' cl C s₁ H₁ ex pn) noE elt m)
  (hs:∀x,E4 iter X.env x=pure x:=by intro _;rfl):GL X E (.ListComp elt [⟨target,iter,ifs,0⟩] scope pos) (DC own.length mi g c m):=
 (dL (g:=gG X.K g) (tc:=gT X.K noE c) (te:=gE X.K noE m) hc Sc hi hg hif he hs).imp λ_ _ _ h=>TC h
theorem Mx {i:Nat} {y:Str} {py spos:Pos} (hc:X.calm=true) (hsw:Fa (.ListComp elt [⟨target,iter,ifs,0⟩] scope pos) (some (.Name y py)) spos.line X.env=pure true)
  (hN:X.N.Nodup) (hy:X.N[i]?=some y) (hloc:Loc X.env.scope y) (Sc:MB X scope own N') (hi:GI X E target iter mi)
  (hg:∀cl C s₁ H₁ ex pn,GG (Df X scope N' cl C s₁ H₁ ex pn) target g) (hif:∀cl C s₁ H₁ ex pn,ei (Df X scope N' cl C s₁ H₁ ex pn) noE ifs c) (he:∀cl C s₁ H₁ ex pn,GE (Df X scope N' cl C s₁ H₁ ex pn) noE elt m)
  (hs:∀x,E4 iter X.env x=pure x:=by intro _;rfl) (hf:X.fn y=true∨X.env.scope.names.lookup y=some .local:=by first | exact .inl rfl | exact .inr rfl | assumption) :
  GS X E (.Assign [.Name y py] (.ListComp elt [⟨target,iter,ifs,0⟩] scope pos) spos) (Co i (DV (DC own.length mi g c m))):=by
 refine (dA (g:=gG X.K g) (tc:=gT X.K noE c) (te:=gE X.K noE m) hc hsw hN hy hloc Sc hi hg hif he hs hf).imp λD σ H ⟨ρ,l,S,hl,hs,hm⟩=>?_
 refine TC (E:=E) (Q:=λx H'=>D.nx (σ.set i (some x)) H') ⟨ρ,l,S,hl,hs,Bs.seq (F:=λds S1=>Res.ok (L2.D.ref S1.length) (S1++[Ob.lst ds])) (k:=λd S2=>Bs X.K noH ρ H ((tgN i d l S2).bind λe1 S2=>.ok (.nx e1) S2) λfl S'=>SC X.K E ρ H S' D fl) (Bs.lift hm hl .refl λd S2 h=>h) λds S1 hm ρ1 H1 p xs l1 s1 r1 hp hn hp0=>?_⟩
 have l0:∀(n:Nat) a,ρ1[n]?=some a->(ρ1++[p])[n]?=some a:=λn a h=>by rw [Ah (AM.mp h).1];exact h
 obtain ⟨s2,at2⟩:=s1.adopt (o:=.lst ds) hn ⟨xs,hp,r1.more l0⟩
 have l2:Le X.K ρ H (ρ1++[p]) H1:=⟨λn a h=>l0 n a (l1.pre n a h),l1.tup,l1.frz,λa o e h=>⟨(l1.oth a o e h).1,λn q=>by
  rcases Hx q with ⟨q,_⟩ | ⟨_,q⟩
  ·exact (l1.oth a o e h).2 n q
  ·exact Bc e hp0 q⟩⟩
 exact hm _ _ _ l2 s2 ((hl.mono l2).set (.ref at2) i)
end
end L2
namespace L2
open PySem PySem.Spec PyProof.Rows PySem.SeqAt
def Kn:D->D->Option Bool
 | .non,.non=>some true
 | .bl a,.bl b=>some (a==b)
 | .int a,.int b=>some (a==b)
 | .str a,.str b=>some (a==b)
 | .non,.int _=>some false
 | .non,.str _=>some false
 | .non,.bl _=>some false
 | .non,.tup _=>some false
 | .int _,.non=>some false
 | .str _,.non=>some false
 | .bl _,.non=>some false
 | .tup _,.non=>some false
 | .int _,.tup _=>some false
 | .tup _,.int _=>some false
 | _,_=>none
def eqL (f:D->D->Option Bool):List D->List D->Option Bool
 | [],[]=>some true
 | [],_ :: _=>some false
 | _ :: _,[]=>some false
 | x :: xs,y :: ys=>match f x y,eqL f xs ys with
  | some a,some b=>some (a&&b)
  | _,_=>none
def eqP:Nat->D->D->Option Bool
 | 0,x,y=>Kn x y
 | n+1,x,y=>match x,y with
  | .tup xs,.tup ys=>eqL (eqP n) xs ys
  | x,y=>Kn x y
theorem Km {f:D->D->Option Bool} {x y:D} {xs ys:List D} {b:Bool} (h:eqL f (x :: xs) (y :: ys)=some b):∃a c,f x y=some a/\eqL f xs ys=some c/\b=(a&&c):=by
 unfold eqL at h;split at h
 ·rename_i a c h1 h2
  cases h;exact ⟨a,c,h1,h2,rfl⟩
 ·cases h
theorem W6 {f:D->D->Option Bool}:∀ {xs ys:List D} {b:Bool},eqL f xs ys=some b->(∀(j:Nat) x y,xs[j]?=some x->ys[j]?=some y->∃c,f x y=some c) /\
  b=((Cc (min xs.length ys.length)).all (λj=>match xs[j]?,ys[j]? with | some x,some y=>(f x y).getD false | _,_=>false)&&xs.length==ys.length)
 | [],[],b,h=>by cases h;exact ⟨λj x y h=>by simp at h,by simp⟩
 | [],y :: ys,b,h=>by cases h;exact ⟨λj x y h=>by simp at h,by simp⟩
 | x :: xs,[],b,h=>by cases h;exact ⟨λj x y _ h=>by simp at h,by simp⟩
 | x :: xs,y :: ys,b,h=>by
  obtain ⟨a,c,h1,h2,rfl⟩:=Km h;obtain ⟨i1,i2⟩:=W6 h2;refine ⟨λj x' y' e1 e2=>?_,?_⟩
  ·cases j with
   | zero=>simp at e1 e2;subst e1;subst e2;exact ⟨a,h1⟩
   | succ j=>exact i1 j x' y' (by simpa using e1) (by simpa using e2)
  ·rw [i2,As,As,show min (xs.length+1) (ys.length+1)=min xs.length ys.length+1 by lia,List.range_succ_eq_map,fo,US]
   simp only [List.getElem?_cons_zero,h1,Yl,Function.comp_def,Sj];rw [Bool.and_assoc]
   congr 1
   congr 1
   rw [P3];simp
section
variable {K:AB} {ρ:List AI} {H:Hp}
theorem W2 (n k:Nat) (y:D):eqP n (.ref k) y=none:=by cases n <;> cases y <;> rfl
theorem W3 (n:Nat) (ds:List D) (y:D):eqP n (.fro ds) y=none:=by cases n <;> cases y <;> rfl
theorem W4 (n:Nat) (c:AI) (y:D):eqP n (.exc c) y=none:=by cases n <;> cases y <;> rfl
theorem Mi {x x':D} {v:V} (r1:Bo K ρ H x v) (r2:Bo K ρ H x' v):x=x'∨(∃ds ds' vs,x=.tup ds/\x'=.tup ds'/\At K ρ H ds vs/\At K ρ H ds' vs)∨(∀n y,eqP n x y=none)∨∀n y,eqP n x' y=none:=by
 cases r1 with
 | non=>cases r2;exact .inl rfl
 | bl b=>cases r2;exact .inl rfl
 | int b=>cases r2;exact .inl rfl
 | str b=>cases r2;exact .inl rfl
 | fro _ _=>exact .inr (.inr (.inl λn y=>W3 n _ y))
 | ref _=>exact .inr (.inr (.inl λn y=>W2 n _ y))
 | exc _ _=>exact .inr (.inr (.inl λn y=>W4 n _ y))
 | tup u1 u2=>
  cases r2 with
  | fro _ _=>exact .inr (.inr (.inr λn y=>W3 n _ y))
  | ref _=>exact .inr (.inr (.inr λn y=>W2 n _ y))
  | exc _ _=>exact .inr (.inr (.inr λn y=>W4 n _ y))
  | tup w1 w2=>
   rw [u1] at w1;cases w1;exact .inr (.inl ⟨_,_,_,rfl,rfl,u2,w2⟩)
theorem eJ:∀(n:Nat) {x x' y:D} {v:V} {b b':Bool},Bo K ρ H x v->Bo K ρ H x' v->eqP n x y=some b->eqP n x' y=some b'->b=b':=by
 intro n
 induction n with
 | zero=>
  intro x x' y v b b' r1 r2 h h'
  rcases Mi r1 r2 with rfl | ⟨ds,ds',vs,rfl,rfl,_,_⟩ | q | q
  ·rw [h] at h';cases h';rfl
  ·have:eqP 0 (.tup ds) y=eqP 0 (.tup ds') y:=by cases y <;> rfl
   rw [<-this,h] at h';cases h';rfl
  ·rw [q] at h;cases h
  ·rw [q] at h';cases h'
 | succ n ih=>
  intro x x' y v b b' r1 r2 h h'
  have lists:∀ {xs:List D} {vs:List V} {xs' ys:List D} {b b':Bool},At K ρ H xs vs->At K ρ H xs' vs->eqL (eqP n) xs ys=some b->eqL (eqP n) xs' ys=some b'->b=b':=by
   intro xs
   induction xs with
   | nil=>
    intro vs xs' ys b b' q1 q2 g g';cases q1;cases q2;rw [g] at g';cases g';rfl
   | cons d ds ihl=>
    intro vs xs' ys b b' q1 q2 g g'
    cases q1 with
    | cons a1 a2=>
     cases q2 with
     | cons c1 c2=>
      cases ys with
      | nil=>cases g;cases g';rfl
      | cons y ys=>
       obtain ⟨p,q,g1,g2,rfl⟩:=Km g;obtain ⟨p',q',g1',g2',rfl⟩:=Km g';rw [ih a1 c1 g1 g1',ihl a2 c2 g2 g2']
  rcases Mi r1 r2 with rfl | ⟨ds,ds',vs,rfl,rfl,q1,q2⟩ | q | q
  ·rw [h] at h';cases h';rfl
  ·by_cases c:∃ys,y=.tup ys
   ·obtain ⟨ys,rfl⟩:=c
    exact lists q1 q2 h h'
   ·have:eqP (n+1) (.tup ds) y=eqP (n+1) (.tup ds') y:=by
     cases y <;> first | rfl | exact (c ⟨_,rfl⟩).elim
    rw [<-this,h] at h';cases h';rfl
  ·rw [q] at h;cases h
  ·rw [q] at h';cases h'
theorem D2 {x:D} {b:Bool} (h:Kn x x=some b):b=true:=by
 cases x <;> first | (cases h;done) | (cases h;simp)
theorem Po:∀(n:Nat) {x:D} {b:Bool},eqP n x x=some b->b=true
 | 0,_,_,h=>D2 h
 | n+1,x,b,h=>by
  have lists:∀ {xs:List D} {b:Bool},eqL (eqP n) xs xs=some b->b=true:=by
   intro xs
   induction xs with
   | nil=>intro b g;cases g;rfl
   | cons d ds ih=>
    intro b g;obtain ⟨p,q,g1,g2,rfl⟩:=Km g;rw [Po n g1,ih g2];rfl
  cases x with
  | tup xs=>exact lists h
  | non=>exact D2 (x:=.non) h
  | bl c=>exact D2 (x:=.bl c) h
  | int c=>exact D2 (x:=.int c) h
  | str c=>exact D2 (x:=.str c) h
  | ref c=>exact D2 (x:=.ref c) h
  | fro c=>exact D2 (x:=.fro c) h
  | exc c=>exact D2 (x:=.exc c) h
theorem LN {x y:D} (hy:(∃f,y=.fro f)∨(∃r,y=.ref r)∨∃c,y=.exc c) (n:Nat):eqP n x y=none:=by
 rcases hy with ⟨f,rfl⟩ | ⟨r,rfl⟩ | ⟨c,rfl⟩ <;> (cases n <;> cases x <;> rfl)
theorem ay (n:Nat) {x y:D} {v:V} {b:Bool} (h1:Bo K ρ H x v) (h2:Bo K ρ H y v) (h:eqP n x y=some b):b=true:=by
 induction n generalizing x y v b with
 | zero=>
  rcases Mi h1 h2 with rfl | ⟨ds,ds',vs,rfl,rfl,_,_⟩ | q | q
  ·exact Po 0 h
  ·cases h
  ·rw [q] at h;cases h
  ·cases h2 with
   | fro _ _=>rw [LN (.inl ⟨_,rfl⟩)] at h;cases h
   | ref _=>rw [LN (.inr (.inl ⟨_,rfl⟩))] at h;cases h
   | exc _ _=>rw [LN (.inr (.inr ⟨_,rfl⟩))] at h;cases h
   | non=>cases (q 0 .non)
   | bl b=>cases (q 0 (.bl b))
   | int b=>cases (q 0 (.int b))
   | str b=>cases (q 0 (.str b))
   | tup _ _=>cases (q 0 .non)
 | succ n ih=>
  have lists:∀ {xs ys:List D} {vs:List V} {b:Bool},At K ρ H xs vs->At K ρ H ys vs->eqL (eqP n) xs ys=some b->b=true:=by
   intro xs
   induction xs with
   | nil=>intro ys vs b q1 q2 g;cases q1;cases q2;cases g;rfl
   | cons d ds ihl=>
    intro ys vs b q1 q2 g
    cases q1 with
    | cons a1 a2=>
     cases q2 with
     | cons c1 c2=>
      obtain ⟨p,q,g1,g2,rfl⟩:=Km g;rw [ih a1 c1 g1,ihl a2 c2 g2];rfl
  rcases Mi h1 h2 with rfl | ⟨ds,ds',vs,rfl,rfl,q1,q2⟩ | q | q
  ·exact Po (n+1) h
  ·exact lists q1 q2 h
  ·rw [q] at h;cases h
  ·cases h2 with
   | fro _ _=>rw [LN (.inl ⟨_,rfl⟩)] at h;cases h
   | ref _=>rw [LN (.inr (.inl ⟨_,rfl⟩))] at h;cases h
   | exc _ _=>rw [LN (.inr (.inr ⟨_,rfl⟩))] at h;cases h
   | non=>cases (q 0 .non)
   | bl b=>cases (q 0 (.bl b))
   | int b=>cases (q 0 (.int b))
   | str b=>cases (q 0 (.str b))
   | tup _ _=>cases (q 0 .non)
end
section
variable {X:Cx} {pins:List (AI×Obj)} {σ:St} {H:Hp} {s:AE} {ρ:List AI}
theorem Gn (A:BD):A.in1.units=A.units+1:=rfl
theorem Bh.at_ {vs:List V} {its:List AC} (r:Bh vs its) {j:Nat} (h:j < its.toArray.size):∃v,vs[j]?=some v/\RelV v its.toArray[j]:=by
 have hj:j < its.length:=by simpa using h
 have hv:j < vs.length:=by rw [r.length];exact hj
 obtain ⟨u,h1,h2⟩:=r.get (i:=j) (x:=vs[j]) (by simp [hv]);refine ⟨vs[j],by simp [hv],?_⟩
 have:its.toArray[j]=u:=by
  have:=AM.mp h1;obtain ⟨_,e⟩:=this;simpa using e
 rw [this];exact h2
theorem RX {n:Nat} {A:BD} (ih:∀(x y:D) (b:Bool) (xv yv:V) (u v:AC),eqP n x y=some b->Bo X.K ρ H x xv->Bo X.K ρ H y yv->RelV xv u->RelV yv v->EqAt A s u v b)
  {xs ys:List D} {vs ws:List V} {us zs:List AC} {b:Bool} (h:eqL (eqP n) xs ys=some b) (r1:At X.K ρ H xs vs) (r2:At X.K ρ H ys ws) (q1:Bh vs us) (q2:Bh ws zs) :
  ∃e:Nat->Bool,(∀j (h1:j < us.toArray.size) (h2:j < zs.toArray.size),EqAt A s us.toArray[j] zs.toArray[j] (e j))/\b=((Cc (min us.toArray.size zs.toArray.size)).all e&&us.toArray.size==zs.toArray.size):=by
 obtain ⟨i1,i2⟩:=W6 h;refine ⟨λj=>match xs[j]?,ys[j]? with | some x,some y=>(eqP n x y).getD false | _,_=>false,λj h1 h2=>?_,?_⟩
 ·obtain ⟨v,e1,rv⟩:=Bh.at_ q1 h1
  obtain ⟨w,e2,rw'⟩:=Bh.at_ q2 h2;obtain ⟨x,e3,rx⟩:=r1.get' e1;obtain ⟨y,e4,ry⟩:=r2.get' e2;obtain ⟨c,hc⟩:=i1 j x y e3 e4;have:=ih x y c v w _ _ hc rx ry rv rw';simp only [e3,e4,hc,Yl];exact this
 ·rw [i2,r1.length,r2.length,q1.length,q2.length]
  simp
theorem Nk {A:BD} {x y:D} {b:Bool} {xv yv:V} {u v:AC} (I:Inv X pins σ H s) (hu:A.units < EC) (h:Kn x y=some b) (r1:Bo X.K ρ H x xv) (r2:Bo X.K ρ H y yv) (q1:RelV xv u) (q2:RelV yv v) :
  EqAt A s u v b/\RcAt A s u v b/\RcNeAt A s u v (!b):=by
 cases r1 with
 | non=>
  cases q1
  cases r2 with
  | non=>cases q2;cases h;exact ⟨EqAt.same _,RcAt.none_none,RcNeAt.none_none⟩
  | bl c=>cases q2;cases h;exact ⟨EqAt.none_bool _,RcAt.none_bool _,RcNeAt.none_bool _⟩
  | int i=>obtain ⟨t,rfl⟩:=q2;cases h;exact ⟨EqAt.none_int _ _,RcAt.none_int _ _,RcNeAt.none_int _ _⟩
  | str z=>obtain ⟨t,rfl⟩:=q2;cases h;exact ⟨EqAt.none_str _ _,RcAt.none_str _ _,RcNeAt.none_str _ _⟩
  | tup a1 a2=>
   cases q2;cases h;obtain ⟨its,_,p,_⟩:=I.tuple (.inl (.inl a1));exact ⟨EqAt.none_tuple p hu,RcAt.none_tuple p hu,RcNeAt.none_tuple p hu⟩
  | _=>cases h
 | bl a=>
  cases q1
  cases r2 with
  | non=>cases q2;cases h;exact ⟨EqAt.bool_none _,RcAt.bool_none _,RcNeAt.bool_none _⟩
  | bl c=>cases q2;cases h;exact ⟨EqAt.bool_bool _ _,RcAt.bool_bool _ _,RcNeAt.bool_bool _ _⟩
  | _=>cases h
 | int a=>
  obtain ⟨t,rfl⟩:=q1
  cases r2 with
  | non=>cases q2;cases h;exact ⟨EqAt.int_none _ _,RcAt.int_none _ _,RcNeAt.int_none _ _⟩
  | int i=>obtain ⟨t',rfl⟩:=q2;cases h;exact ⟨EqAt.int_int _ _ _ _,RcAt.int_int _ _ _ _,RcNeAt.int_int _ _ _ _⟩
  | tup a1 a2=>
   cases q2;cases h;obtain ⟨its,_,p,_⟩:=I.tuple (.inl (.inl a1));exact ⟨EqAt.int_tuple _ _ p hu,RcAt.int_tuple _ _ p hu,RcNeAt.int_tuple _ _ p hu⟩
  | _=>cases h
 | str a=>
  obtain ⟨t,rfl⟩:=q1
  cases r2 with
  | non=>cases q2;cases h;exact ⟨EqAt.str_none _ _,RcAt.str_none _ _,RcNeAt.str_none _ _⟩
  | str i=>obtain ⟨t',rfl⟩:=q2;cases h;exact ⟨EqAt.str_str _ _ _ _,RcAt.str_str _ _ _ _,RcNeAt.str_str _ _ _ _⟩
  | _=>cases h
 | tup a1 a2=>
  cases q1;obtain ⟨its,_,p,_⟩:=I.tuple (.inl (.inl a1))
  cases r2 with
  | non=>cases q2;cases h;exact ⟨EqAt.tuple_none p hu,RcAt.tuple_none p hu,RcNeAt.tuple_none p hu⟩
  | int i=>obtain ⟨t',rfl⟩:=q2;cases h;exact ⟨EqAt.tuple_int _ _ p hu,RcAt.tuple_int _ _ p hu,RcNeAt.tuple_int _ _ p hu⟩
  | _=>cases h
 | _=>cases h
theorem Vt (I:Inv X pins σ H s):∀(n:Nat) (A:BD) (x y:D) (b:Bool) (xv yv:V) (u v:AC),A.units+n < EC->eqP n x y=some b->Bo X.K ρ H x xv->Bo X.K ρ H y yv->RelV xv u->RelV yv v->EqAt A s u v b:=by
 intro n
 induction n with
 | zero=>exact λA x y b xv yv u v hu h r1 r2 q1 q2=>(Nk I (by omega) h r1 r2 q1 q2).1
 | succ n ih=>
  intro A x y b xv yv u v hu h r1 r2 q1 q2
  by_cases ht:∃xs ys,x=.tup xs/\y=.tup ys
  ·obtain ⟨xs,ys,rfl,rfl⟩:=ht
   cases r1 with
   | @tup _ a vs a1 a2=>
    cases r2 with
    | @tup _ c ws b1 b2=>
     cases q1;cases q2
     by_cases hac:a=c
     ·subst hac
      rw [ay (n+1) (.tup a1 a2) (.tup b1 b2) h];exact EqAt.same _
     ·obtain ⟨its,rv,p,_⟩:=I.tuple (.inl (.inl a1))
      obtain ⟨its2,rw',p2,_⟩:=I.tuple (.inl (.inl b1));obtain ⟨e,he,rfl⟩:=RX (A:=A.in1) (λx y b xv yv u v g1 g2 g3 g4 g5=>ih A.in1 x y b xv yv u v (by rw [Gn];lia) g1 g2 g3 g4 g5) h a2 b2 rv rw';exact EqAt.of_refs hac (jy p p2 (by lia) he)
  ·have hf:Kn x y=some b:=by
    cases x <;> cases y <;> first | exact h | exact (ht ⟨_,_,rfl,rfl⟩).elim
   exact (Nk I (by lia) hf r1 r2 q1 q2).1
def QO (d:D) (S:Sto):Option (List D):=match d with
 | .fro ds=>some ds
 | .ref n=>match S[n]? with
  | some (.lst ds)=>some ds
  | _=>none
 | _=>none
def eqB (x y:D) (S:Sto):Option Bool:=match QO x S,QO y S with
 | some xs,some ys=>if xs.length=ys.length then eqL (eqP 8) xs ys else some false
 | none,none=>eqP 8 x y
 | some _,none=>match y with
  | .tup _=>some false
  | .non=>some false
  | _=>none
 | none,some _=>match x with
  | .tup _=>some false
  | .non=>some false
  | _=>none
def eqD (neg:Bool) (x y:D) (S:Sto):Res D:=match eqB x y S with
 | some b=>.ok (.bl (if neg then !b else b)) S
 | none=>.bad
theorem LG {K:AB} {S:Sto} {d:D} {x:V} {ds:List D} (hs:B4 K ρ S H) (r:Bo K ρ H d x) (h:QO d S=some ds):∃p xs,x=.ref p/\At K ρ H ds xs/\SqL K H p xs:=by
 cases r with
 | fro h1 h2=>cases h;exact ⟨_,_,rfl,h2,h1.sq⟩
 | @ref n a hn=>
  obtain ⟨o,ho,ro⟩:=hs.there hn;unfold QO at h;simp only [ho] at h
  cases o with
  | lst es=>cases h;obtain ⟨vs,e,rr⟩:=ro;exact ⟨_,_,rfl,rr,.inl (.inl e)⟩
  | _=>cases h
 | _=>cases h
theorem bB {S:Sto} {x y:D} {b:Bool} {xv yv:V} {u v:AC} (I:Inv X pins σ H s) (hu:X.A.units+64 < EC) (hs:B4 X.K ρ S H) (r1:Bo X.K ρ H x xv) (r2:Bo X.K ρ H y yv) (q1:RelV xv u) (q2:RelV yv v) (h:eqB x y S=some b) :
  RcAt X.A s u v b/\RcNeAt X.A s u v (!b):=by
 unfold eqB at h;split at h
 ·rename_i xs ys h1 h2
  obtain ⟨p,vs,rfl,rr,sq⟩:=LG hs r1 h1;obtain ⟨p',vs',rfl,rr',sq'⟩:=LG hs r2 h2;cases q1;cases q2;obtain ⟨its,rv,pl,_⟩:=I.list sq;obtain ⟨its2,rv2,pl2,_⟩:=I.list sq';split at h
  ·rename_i hlen
   obtain ⟨e,he,rfl⟩:=RX (A:=X.A.in1) (λx y b xv yv u v g1 g2 g3 g4 g5=>Vt I 8 X.A.in1 x y b xv yv u v (by rw [Gn];lia) g1 g2 g3 g4 g5) h rr rr' rv rv2
   have hsz:its.toArray.size=its2.toArray.size:=by
    simp only [Ak];rw [<-rv.length,<-rv2.length,<-rr.length,<-rr'.length];exact hlen
   have e1:((Cc (min its.toArray.size its2.toArray.size)).all e&&its.toArray.size==its2.toArray.size)=(Cc its.toArray.size).all e:=by
    rw [<-hsz,Nat.min_self,beq_self_eq_true,Bool.and_true]
   rw [e1];exact ⟨RcAt.lists pl.isList pl2.isList hsz (by lia) he,RcNeAt.lists pl.isList pl2.isList hsz (by lia) he⟩
  ·rename_i hlen
   cases h
   have hsz:(its.toArray.size != its2.toArray.size)=true:=by
    simp only [Ak];rw [<-rv.length,<-rv2.length,<-rr.length,<-rr'.length];simpa using hlen
   exact ⟨RcAt.lists_lengths pl.isList pl2.isList hsz (by lia),RcNeAt.lists_lengths pl.isList pl2.isList hsz (by lia)⟩
 ·by_cases ht:∃xs ys,x=.tup xs/\y=.tup ys
  ·obtain ⟨xs,ys,rfl,rfl⟩:=ht
   cases r1 with
   | tup a1 a2=>
    cases r2 with
    | tup b1 b2=>
     cases q1;cases q2;obtain ⟨its,rv,p,_⟩:=I.tuple (.inl (.inl a1));obtain ⟨its2,rw',p2,_⟩:=I.tuple (.inl (.inl b1));obtain ⟨e,he,rfl⟩:=RX (n:=7) (A:=X.A.in1) (λx y b xv yv u v g1 g2 g3 g4 g5=>Vt I 7 X.A.in1 x y b xv yv u v (by rw [Gn];lia) g1 g2 g3 g4 g5) h a2 b2 rv rw';exact ⟨jy p p2 (by lia) he,RcNeAt.tuples p p2 (by lia) he⟩
  ·have hf:Kn x y=some b:=by
    cases x <;> cases y <;> first | exact h | exact (ht ⟨_,_,rfl,rfl⟩).elim
   exact (Nk I (by lia) hf r1 r2 q1 q2).2
 ·rename_i xs h1 h2
  obtain ⟨p,vs,rfl,rr,sq⟩:=LG hs r1 h1;cases q1;obtain ⟨its,rv,pl,_⟩:=I.list sq;split at h
  ·cases h
   cases r2 with
   | tup b1 b2=>
    cases q2;obtain ⟨its2,rw',p2,_⟩:=I.tuple (.inl (.inl b1));exact ⟨RcAt.list_tuple pl.isList p2 (by lia),RcNeAt.list_tuple pl.isList p2 (by lia)⟩
  ·cases h
   cases r2;cases q2;exact ⟨RcAt.list_none pl.isList (by lia),RcNeAt.list_none pl.isList (by lia)⟩
  ·cases h
 ·rename_i xs h1 h2
  obtain ⟨p,vs,rfl,rr,sq⟩:=LG hs r2 h2;cases q2;obtain ⟨its,rv,pl,_⟩:=I.list sq;split at h
  ·cases h
   cases r1 with
   | tup b1 b2=>
    cases q1;obtain ⟨its2,rw',p2,_⟩:=I.tuple (.inl (.inl b1));exact ⟨RcAt.tuple_list p2 pl.isList (by lia),RcNeAt.tuple_list p2 pl.isList (by lia)⟩
  ·cases h
   cases r1;cases q1;exact ⟨RcAt.none_list pl.isList (by lia),RcNeAt.none_list pl.isList (by lia)⟩
  ·cases h
theorem Ke (hu:X.A.units+64 < EC):OpR X (CJ .Eq) (rD X.K (eqD false)):=by
 intro pins s σ H x y v u Q I rx ry h;obtain ⟨ρ,S,a,b,d,S',hs,ra,rb,hm,k⟩:=h;unfold eqD at hm;split at hm
 ·rename_i c hc
  cases hm;exact (bB I hu hs ra rb rx ry hc).1 _ _ _ _ ⟨.bl c,H,I,rfl,k ρ H _ .refl hs (.bl _)⟩
 ·cases hm
theorem Z7 (hu:X.A.units+64 < EC):OpR X (CJ .NotEq) (rD X.K (eqD true)):=by
 intro pins s σ H x y v u Q I rx ry h;obtain ⟨ρ,S,a,b,d,S',hs,ra,rb,hm,k⟩:=h;unfold eqD at hm;split at hm
 ·rename_i c hc
  cases hm;exact (bB I hu hs ra rb rx ry hc).2 _ _ _ _ ⟨.bl (!c),H,I,rfl,k ρ H _ .refl hs (.bl _)⟩
 ·cases hm
def Lc (x:D):List D->Option Bool
 | []=>some false
 | d :: ds=>match eqP 8 d x,Lc x ds with
  | some a,some b=>some (a||b)
  | _,_=>none
def inD (neg:Bool) (x y:D) (S:Sto):Res D:=match Gi y S with
 | some ds=>match Lc x ds with
  | some b=>.ok (.bl (if neg then !b else b)) S
  | none=>.bad
 | none=>.bad
theorem V3 {x d:D} {ds:List D} {b:Bool} (h:Lc x (d :: ds)=some b):∃a c,eqP 8 d x=some a/\Lc x ds=some c/\b=(a||c):=by
 unfold Lc at h;split at h
 ·rename_i a c h1 h2
  cases h;exact ⟨a,c,h1,h2,rfl⟩
 ·cases h
open Classical in
theorem M2 {x:D} {xv:V} {v:AC} (I:Inv X pins σ H s) {A:BD} (hu:A.units+8 < EC) (rx:Bo X.K ρ H x xv) (qx:RelV xv v):∀ {ds:List D} {vs:List V} {us:List AC} {b:Bool},At X.K ρ H ds vs->Bh vs us->Lc x ds=some b ->
  ∃e:AC->Bool,(∀y∈us,EqAt A s y v (e y))/\b=us.any e:=by
 intro ds vs us b r q h
 let e:AC->Bool:=λy=>decide (∃d w,d∈ds/\Bo X.K ρ H d w/\RelV w y/\eqP 8 d x=some true)
 have all:∀ {ds':List D} {vs':List V} {us':List AC} {b':Bool},(∀d∈ds',d∈ds)->At X.K ρ H ds' vs'->Bh vs' us'->Lc x ds'=some b'->(∀y∈us',EqAt A s y v (e y))/\b'=us'.any e:=by
  intro ds'
  induction ds' with
  | nil=>intro vs' us' b' _ r q h;cases r;cases q;cases h;exact ⟨(λ_ z=>nomatch z),rfl⟩
  | cons d ds' ih=>
   intro vs' us' b' hsub r q h
   cases r with
   | cons r1 r2=>
    cases q with
    | @cons w y _ _ q1 q2=>
     obtain ⟨a,c,h1,h2,rfl⟩:=V3 h;obtain ⟨i1,i2⟩:=ih (λz hz=>hsub z (Aa _ hz)) r2 q2 h2
     have ha:e y=a:=by
      by_cases hq:∃d w,d∈ds/\Bo X.K ρ H d w/\RelV w y/\eqP 8 d x=some true
      ·obtain ⟨d',w',_,g1,g2,g3⟩:=id hq
       rw [RelV.inj g2 q1] at g1;have:=eJ 8 g1 r1 g3 h1;rw [<-this];exact decide_eq_true hq
      ·have:a=false:=by
        cases a with
        | false=>rfl
        | true=>exact (hq ⟨d,_,hsub d Ax,r1,q1,h1⟩).elim
       rw [this];exact decide_eq_false hq
     refine ⟨λz hz=>?_,by rw [HG,ha,<-i2]⟩
     rcases Ay.mp hz with rfl | hz
     ·rw [ha]
      exact Vt I 8 A d x a _ _ _ _ hu h1 r1 rx q1 qx
     ·exact i1 z hz
 obtain ⟨e1,e2⟩:=all (λ_ h=>h) r q h;exact ⟨e,e1,e2⟩
theorem fI (hu:X.A.units+64 < EC):OpR X (CJ .In) (rD X.K (inD false)):=by
 intro pins s σ H x y v u Q I rx ry h;obtain ⟨ρ,S,a,b,d,S',hs,ra,rb,hm,k⟩:=h;unfold inD at hm;split at hm
 ·rename_i ds hq
  split at hm
  ·rename_i c hc
   cases hm;obtain ⟨p,xs,rfl,rr,sq⟩:=Oc hs rb hq;cases ry
   rcases sq with sq | sq
   ·obtain ⟨its,rv,pl,_⟩:=I.list sq
    obtain ⟨e,he,rfl⟩:=M2 I (A:=X.A.in1) (by rw [Gn];lia) ra rx rr rv hc;exact in_listAt e pl.isList (λz hz=>he z (by simpa using hz)) ⟨.bl (its.toArray.any e),H,I,rfl,by rw [Jy];exact k ρ H _ .refl hs (.bl _)⟩
   ·obtain ⟨its,rv,pl,_⟩:=I.tuple sq
    obtain ⟨e,he,rfl⟩:=M2 I (A:=X.A.in1) (by rw [Gn];lia) ra rx rr rv hc;exact in_tupleAt e pl (λz hz=>he z (by simpa using hz)) ⟨.bl (its.toArray.any e),H,I,rfl,by rw [Jy];exact k ρ H _ .refl hs (.bl _)⟩
  ·cases hm
 ·cases hm
theorem Te (hu:X.A.units+64 < EC):OpR X (CJ .NotIn) (rD X.K (inD true)):=by
 intro pins s σ H x y v u Q I rx ry h;obtain ⟨ρ,S,a,b,d,S',hs,ra,rb,hm,k⟩:=h;unfold inD at hm;split at hm
 ·rename_i ds hq
  split at hm
  ·rename_i c hc
   cases hm;obtain ⟨p,xs,rfl,rr,sq⟩:=Oc hs rb hq;cases ry
   rcases sq with sq | sq
   ·obtain ⟨its,rv,pl,_⟩:=I.list sq
    obtain ⟨e,he,rfl⟩:=M2 I (A:=X.A.in1) (by rw [Gn];lia) ra rx rr rv hc;exact notIn_listAt e pl.isList (λz hz=>he z (by simpa using hz)) ⟨.bl (!its.toArray.any e),H,I,rfl,by rw [Jy];exact k ρ H _ .refl hs (.bl _)⟩
   ·obtain ⟨its,rv,pl,_⟩:=I.tuple sq
    obtain ⟨e,he,rfl⟩:=M2 I (A:=X.A.in1) (by rw [Gn];lia) ra rx rr rv hc;exact notIn_tupleAt e pl (λz hz=>he z (by simpa using hz)) ⟨.bl (!its.toArray.any e),H,I,rfl,by rw [Jy];exact k ρ H _ .refl hs (.bl _)⟩
  ·cases hm
 ·cases hm
end
end L2
namespace L2
open PySem PySem.Spec PyProof.Rows
def QN (mo ma:ME):ME:=λe S=>(mo e S).bind λd S1=>match d with
 | .ref n=>match S1[n]? with
  | some (.lst _)=>(ma e S1).bind λy S2=>match S2[n]? with
   | some (.lst xs)=>if xs.length < sizeLine then .ok .non (S2.set n (.lst (xs++[y]))) else .bad
   | _=>.bad
  | _=>.bad
 | _=>.bad
section
variable {X:Cx} {E:EW} {o e:Expr} {apos cpos:Pos} {mo ma:ME}
theorem WY {K:AB} {ρ:List AI} {S:Sto} {H:Hp} {n:Nat} {x:V} {xs:List D} (s:B4 K ρ S H) (r:Bo K ρ H (.ref n) x) (h:S[n]?=some (.lst xs)):∃a vs,x=.ref a/\ρ[n]?=some a/\H a=some (.lst vs)/\At K ρ H xs vs:=by
 cases r with
 | ref hn=>
  obtain ⟨vs,e,rr⟩:=s.ob n _ _ h hn;exact ⟨_,vs,rfl,hn,e,rr⟩
theorem LJ (ho:GE X E o mo) (ha:GE X E e ma) (hbase:E1 o "append" X.env (CC o X.env)=CC o X.env:=by rfl)
  (hfew:((DM cpos (AZ [e] X.env)).all (λx=>!x.1)&&(JU cpos (FJ [] X.env)).all (λx=>x.1.isSome)
    &&decide ([e].length+([]:List Nx).length+(if ([]:List Nx).isEmpty then 0 else 1) < 30))=true:=by rfl)
  (hline:(apos.endLine==cpos.line)=true:=by rfl) (hs:AZ [e] X.env=(false,CC e X.env) :: AZ [] X.env:=by rfl) (hplain:(DM cpos (AZ [] X.env)).any (·.1)=false:=by rfl) :
  GE X E (.Call (.Attribute o "append" apos) [e] [] cpos) (QN mo ma):=(fH Iy PySem.F.slot_list_append PySem.F.type_list_append Qr ho (FG ha Hr hs) hbase hfew hline hs hplain).imp λσ H Q ⟨ρ,l,S,hl,hs,hm⟩=>by
 refine ⟨ρ,l,S,hl,hs,hm.seq λx S1 hm ρ1 H1 v l1 s1 r1=>?_⟩
 cases x <;> first | exact hm.elim | skip
 rename_i n;dsimp only at hm;split at hm
 ·rename_i xs0 h0
  obtain ⟨a,vs,rfl,hn,e0,_⟩:=WY s1 r1 h0;refine ⟨.inl ⟨rfl,vs,.inl (.inl e0)⟩,ρ1,l,S1,hl.mono l1,s1,(hm.later l1).seq λy S2 hm ρ2 H2 u l2 s2 r2=>?_⟩;split at hm
  ·rename_i xs h3
   split at hm
   ·rename_i hz
    have hn2:=l2.pre n a hn;obtain ⟨ws,e3,rr⟩:=s2.ob n _ _ h3 hn2;have le:Le X.K ρ2 H2 ρ2 (upd H2 a (.lst (ws++[u]))):=Le.write hn2 (by rw [e3];trivial);obtain ⟨s3,l3⟩:=s2.write (ho:=.lst (ws++[u])) (o:=.lst (xs++[y])) hn2 ⟨_,B2,(rr.append (.cons r2 .nil)).mono le⟩;exact ⟨a,ws,u,rfl,rfl,e3,by rw [<-rr.length];exact hz,hm ρ2 _ _ (l1.trans (l2.trans l3)) s3 .non⟩
   ·exact hm.elim
  ·exact hm.elim
 ·exact hm.elim
end
def A7 {κ β:Type} [DecidableEq κ] (kvs:List (κ×β)) (k:κ):Option β:=(kvs.find? λkv=>decide (kv.1=k)).map (·.2)
def CL {κ β:Type} [DecidableEq κ] (kvs:List (κ×β)) (k:κ) (v:β):List (κ×β):=
 if (kvs.any λkv=>decide (kv.1=k))=true then kvs.map (λkv=>if kv.1=k then (kv.1,v) else kv) else kvs++[(k,v)]
section
variable {κ:Type} [DecidableEq κ] {K:AB} {ρ:List AI} {H:Hp}
theorem KVR.val (k:κ):∀ {x:List (κ×D)} {y:List (κ×V)},KVR K ρ H x y->(A7 x k=none->KZ y k=none)/\∀d,A7 x k=some d->∃v,KZ y k=some v/\Bo K ρ H d v
 | _,_,.nil=>⟨λ_=>rfl,λd h=>by cases h⟩
 | (g,a) :: x,(g',b) :: y,.cons r t=>by
  obtain ⟨r1,r2⟩:=r;dsimp only at r1 r2;subst r1;unfold A7 KZ;rw [Bx,Bx]
  by_cases e:g=k
  ·simp only [e,decide_true]
   exact ⟨(λh=>nomatch h),(λd h=>by cases h;exact ⟨b,rfl,r2⟩)⟩
  ·simp only [e,decide_false]
   exact KVR.val k t
theorem KVR.any (k:κ):∀ {x:List (κ×D)} {y:List (κ×V)},KVR K ρ H x y->(x.any λkv=>decide (kv.1=k))=y.any λkv=>decide (kv.1=k)
 | _,_,.nil=>rfl
 | (g,a) :: x,(g',b) :: y,.cons r t=>by
  rw [HG,HG,KVR.any k t,show g=g' from r.1]
theorem KVR.repl (k:κ) {d:D} {v:V} (rd:Bo K ρ H d v):∀ {x:List (κ×D)} {y:List (κ×V)},KVR K ρ H x y->KVR K ρ H (x.map λkv=>if kv.1=k then (kv.1,d) else kv) (y.map λkv=>if kv.1=k then (kv.1,v) else kv)
 | _,_,.nil=>.nil
 | (g,a) :: x,(g',b) :: y,.cons r t=>by
  obtain ⟨r1,r2⟩:=r;dsimp only at r1 r2;subst r1;rw [A3,A3];refine .cons ?_ (KVR.repl k rd t)
  by_cases e:g=k
  ·rw [if_pos e,if_pos e];exact ⟨rfl,rd⟩
  ·rw [if_neg e,if_neg e];exact ⟨rfl,r2⟩
theorem KVR.put (k:κ) {d:D} {v:V} (rd:Bo K ρ H d v) {x:List (κ×D)} {y:List (κ×V)} (h:KVR K ρ H x y):KVR K ρ H (CL x k d) (J8 y k v):=by
 unfold CL J8;rw [KVR.any k h];split
 ·exact KVR.repl k rd h
 ·exact UQ h ⟨rfl,rd⟩
end
def di:D->Option Key
 | .int i=>some (.inl i)
 | .str x=>some (.inr x)
 | _=>none
def Tw:List D->Option (List Key)
 | []=>some []
 | d :: ds=>match di d,Tw ds with
  | some k,some ks=>some (k :: ks)
  | _,_=>none
theorem Ru {K:AB} {ρ:List AI} {H:Hp} {d:D} {v:V} {k:Key} (r:Bo K ρ H d v) (h:di d=some k):v=kV k:=by
 cases r <;> first | (cases h;done) | (cases h;rfl)
theorem Ph {K:AB} {ρ:List AI} {H:Hp}:∀ {ds:List D} {vs:List V} {ks:List Key},At K ρ H ds vs->Tw ds=some ks->vs=ks.map kV
 | _,_,_,.nil,h=>by cases h;rfl
 | _,_,_,.cons r t,h=>by
  unfold Tw at h;split at h
  ·rename_i k ks h1 h2
   cases h;rw [Ru r h1,Ph t h2];rfl
  ·cases h
def OS (x y:D) (S:Sto):Option (Option D):=match x with
 | .ref n=>match S[n]? with
  | some (.dK kvs)=>match di y with
   | some k=>some (A7 kvs k)
   | none=>none
  | some (.dT kvs)=>match y with
   | .tup ds=>match Tw ds with
    | some ks=>some (A7 kvs ks)
    | none=>none
   | _=>none
  | _=>none
 | _=>none
theorem SG {K:AB} {ρ:List AI} {S:Sto} {H:Hp} {x y:D} {xv yv:V} {o:Option D} (s:B4 K ρ S H) (rx:Bo K ρ H x xv) (ry:Bo K ρ H y yv) (h:OS x y S=some o) :
  ∃a o',xv=.ref a/\M5 H a yv o'/\(o=none->o'=none)/\∀d,o=some d->∃v,o'=some v/\Bo K ρ H d v:=by
 unfold OS at h;split at h
 ·rename_i n
  cases rx with
  | @ref _ a hn=>
   split at h
   ·rename_i kvs h1
    split at h
    ·rename_i k hk
     cases h;obtain ⟨kvs',e,r⟩:=s.ob n _ _ h1 hn;rw [Ru ry hk];obtain ⟨v1,v2⟩:=KVR.val k r;exact ⟨a,KZ kvs' k,rfl,M5.k e,v1,v2⟩
    ·cases h
   ·rename_i kvs h1
    split at h
    ·rename_i ds
     split at h
     ·rename_i ks hk
      cases h;obtain ⟨kvs',e,r⟩:=s.ob n _ _ h1 hn
      cases ry with
      | tup b1 b2=>
       obtain ⟨v1,v2⟩:=KVR.val ks r;rw [Ph b2 hk] at b1;exact ⟨a,KZ kvs' ks,rfl,M5.t e b1,v1,v2⟩
     ·cases h
    ·cases h
   ·cases h
 ·cases h
def Pp (x y:D) (S:Sto):Res D:=match OS x y S with
 | some (some d)=>.ok d S
 | _=>.bad
def Kp (neg:Bool) (y x:D) (S:Sto):Res D:=match OS x y S with
 | some o=>.ok (.bl (if neg then !o.isSome else o.isSome)) S
 | none=>.bad
section
variable {X:Cx} {E:EW} {o i value:Expr} {pos pos':Pos} {mo mi mv:ME}
theorem d7 (hu:X.A.units+1 < EC) (ho:GE X E o mo) (hi:GE X E i mi) (hs:jY i:=by intro _ _;rfl):GE X E (.Subscript o i pos) (m2 Pp mo mi):=(dJ hu ho hi hs).imp λσ H Q h=>by
 refine (Li h:tOp (rD X.K Pp) (gE X.K E mo) (gE X.K E mi) σ H Q) |> λt=>?_
 obtain ⟨ρ,l,S,hl,hs,k⟩:=t;refine ⟨ρ,l,S,hl,hs,k.imp λx S1 k ρ1 H1 u l1 s1 r1=>?_⟩;obtain ⟨ρ2,l2,S2,hl2,hs2,k2⟩:=k ρ1 H1 u l1 s1 r1;refine ⟨ρ2,l2,S2,hl2,hs2,k2.imp λy S3 k2 ρ3 H3 v l3 s3 r3=>?_⟩;obtain ⟨ρ4,S4,x4,y4,d,S5,s4,r4,r5,hm,k4⟩:=k2 ρ3 H3 v l3 s3 r3;unfold Pp at hm;split at hm
 ·rename_i d' hd
  cases hm;obtain ⟨a,o',rfl,g,_,g2⟩:=SG s4 r4 r5 hd;obtain ⟨w',rfl,rw'⟩:=g2 _ rfl;exact ⟨a,w',rfl,g,k4 ρ4 H3 w' .refl s4 rw'⟩
 ·cases hm
theorem WU {σ:St} {H:Hp} {Q:VK} (h:gE X.K E (m2 (Kp false) mi mo) σ H Q):kT (gE X.K E mi) (gE X.K E mo) σ H Q:=by
 obtain ⟨ρ,l,S,hl,hs,k⟩:=(Li h:tOp (rD X.K (Kp false)) (gE X.K E mi) (gE X.K E mo) σ H Q);refine ⟨ρ,l,S,hl,hs,k.imp λx S1 k ρ1 H1 u l1 s1 r1=>?_⟩;obtain ⟨ρ2,l2,S2,hl2,hs2,k2⟩:=k ρ1 H1 u l1 s1 r1;refine ⟨ρ2,l2,S2,hl2,hs2,k2.imp λy S3 k2 ρ3 H3 v l3 s3 r3=>?_⟩;obtain ⟨ρ4,S4,x4,y4,d,S5,s4,r4,r5,hm,k4⟩:=k2 ρ3 H3 v l3 s3 r3;unfold Kp at hm;split at hm
 ·rename_i o' hd
  cases hm;obtain ⟨a,o2,rfl,g,g1,g2⟩:=SG s4 r5 r4 hd;refine ⟨a,o2,rfl,g,?_⟩
  have:o2.isSome=o'.isSome:=by
   cases o' with
   | none=>rw [g1 rfl];rfl
   | some d=>obtain ⟨w',rfl,_⟩:=g2 d rfl;rfl
  rw [this];exact k4 ρ4 H3 _ .refl s4 (.bl _)
 ·cases hm
theorem PD {σ:St} {H:Hp} {Q:VK} (h:gE X.K E (m2 (Kp true) mi mo) σ H Q):WT (gE X.K E mi) (gE X.K E mo) σ H Q:=by
 obtain ⟨ρ,l,S,hl,hs,k⟩:=(Li h:tOp (rD X.K (Kp true)) (gE X.K E mi) (gE X.K E mo) σ H Q);refine ⟨ρ,l,S,hl,hs,k.imp λx S1 k ρ1 H1 u l1 s1 r1=>?_⟩;obtain ⟨ρ2,l2,S2,hl2,hs2,k2⟩:=k ρ1 H1 u l1 s1 r1;refine ⟨ρ2,l2,S2,hl2,hs2,k2.imp λy S3 k2 ρ3 H3 v l3 s3 r3=>?_⟩;obtain ⟨ρ4,S4,x4,y4,d,S5,s4,r4,r5,hm,k4⟩:=k2 ρ3 H3 v l3 s3 r3;unfold Kp at hm;split at hm
 ·rename_i o' hd
  cases hm;obtain ⟨a,o2,rfl,g,g1,g2⟩:=SG s4 r5 r4 hd;refine ⟨a,o2,rfl,g,?_⟩
  have:o2.isSome=o'.isSome:=by
   cases o' with
   | none=>rw [g1 rfl];rfl
   | some d=>obtain ⟨w',rfl,_⟩:=g2 d rfl;rfl
  rw [this];exact k4 ρ4 H3 _ .refl s4 (.bl _)
 ·cases hm
theorem jH (hu:X.A.units+1 < EC) (hi:GE X E i mi) (ho:GE X E o mo) (h1:Bt .In o=false:=by rfl):GE X E (.Compare i [.In] [o] pos) (m2 (Kp false) mi mo):=(Zy (Zz hu hi ho) h1).imp λ_ _ _ h=>WU h
theorem YG (hu:X.A.units+1 < EC) (hi:GE X E i mi) (ho:GE X E o mo) (h1:Bt .NotIn o=false:=by rfl):GE X E (.Compare i [.NotIn] [o] pos) (m2 (Kp true) mi mo):=(Zy (Qm hu hi ho) h1).imp λ_ _ _ h=>PD h
theorem aM {K:AB} {m:ME} {σ:St} {H:Hp} {Q:Bool->Hp->Prop} (h:gT K E (mB m) σ H Q):gE K E m σ H λx H1=>∃c,x=.bl c/\Q c H1:=by
 obtain ⟨ρ,l,S,hl,hs,hm⟩:=h;refine ⟨ρ,l,S,hl,hs,hm.seq λd S1 hm ρ1 H1 x l1 s1 r1=>?_⟩
 cases d <;> first | exact hm.elim | skip
 cases r1;exact ⟨_,rfl,hm ρ1 H1 l1 s1⟩
theorem i7 (hu:X.A.units+1 < EC) (hi:GE X E i mi) (ho:GE X E o mo) (h1:Bt .In o=false:=by rfl):GT X E (.Compare i [.In] [o] pos) (mB (m2 (Kp false) mi mo)):=(Zl (Zz hu hi ho) h1).imp λ_ _ _ h=>WU (aM h)
theorem YF (hu:X.A.units+1 < EC) (hi:GE X E i mi) (ho:GE X E o mo) (h1:Bt .NotIn o=false:=by rfl):GT X E (.Compare i [.NotIn] [o] pos) (mB (m2 (Kp true) mi mo)):=(Zl (Qm hu hi ho) h1).imp λ_ _ _ h=>PD (aM h)
def NZ:ME:=λ_ S=>.ok (.ref S.length) (S++[.dK []])
def Rr:ME:=λ_ S=>.ok (.ref S.length) (S++[.dT []])
theorem T3:GE X E (.Dict [] [] pos) NZ:=(Zx (X:=X) (pos:=pos)).imp λσ H Q ⟨ρ,l,S,hl,hs,k⟩ p hp=>by
 obtain ⟨s2,l2,at2⟩:=hs.alloc (ho:=.dK []) (o:=.dK []) hp ⟨[],B2,.nil⟩;exact k _ _ _ l2 s2 (.ref at2)
theorem T1:GE X E (.Dict [] [] pos) Rr:=(Zw (X:=X) (pos:=pos)).imp λσ H Q ⟨ρ,l,S,hl,hs,k⟩ p hp=>by
 obtain ⟨s2,l2,at2⟩:=hs.alloc (ho:=.dT []) (o:=.dT []) hp ⟨[],B2,.nil⟩;exact k _ _ _ l2 s2 (.ref at2)
def UA (x y v:D) (S:Sto):Option Sto:=match x with
 | .ref n=>match S[n]? with
  | some (.dK kvs)=>match di y with
   | some k=>if kvs.length < sizeLine then some (S.set n (.dK (CL kvs k v))) else none
   | none=>none
  | some (.dT kvs)=>match y with
   | .tup ds=>match Tw ds with
    | some ks=>if kvs.length < sizeLine then some (S.set n (.dT (CL kvs ks v))) else none
    | none=>none
   | _=>none
  | _=>none
 | _=>none
def De (mo mi mv:ME):MS:=λe S=>(mv e S).lift e λv S1=>(mo e S1).lift e λx S2=>(mi e S2).lift e λy S3=>match UA x y v S3 with
 | some S4=>.ok (.nx e) S4
 | none=>.bad
theorem Jm (hu:X.A.units+1 < EC) (ho:GE X E o mo) (hi:GE X E i mi) (hv:GE X E value mv) (hs:Fa value (some (.Subscript o i pos')) pos.line X.env=pure false:=by rfl):GS X E (.Assign [.Subscript o i pos'] value pos) (De mo mi mv):=(c9 hu ho hi hv hs).imp λD σ H ⟨ρ,l,S,hl,hs,hm⟩=>by
 refine ⟨ρ,l,S,hl,hs,hm.lift hl .refl λv S1 hm ρ1 H1 vv l1 s1 r1=>⟨ρ1,l,S1,hl.mono l1,s1,(hm.later l1).lift (hl.mono l1) l1 λx S2 hm ρ2 H2 xv l2 s2 r2=>⟨ρ2,l,S2,hl.mono (l1.trans l2),s2,(hm.later l2).lift (hl.mono (l1.trans l2)) (l1.trans l2) λy S3 hm ρ3 H3 yv l3 s3 r3=>?_⟩⟩⟩;have r1':=r1.mono (l2.trans l3);have r2':=r2.mono l3;have hl3:=hl.mono (l1.trans (l2.trans l3));split at hm
 ·rename_i S4 hp
  unfold UA at hp;split at hp
  ·rename_i n
   cases r2' with
   | @ref _ a hn=>
    split at hp
    ·rename_i kvs h4
     split at hp
     ·rename_i ky hk
      split at hp
      ·rename_i hz
       cases hp;obtain ⟨kvs',e,r⟩:=s3.ob n _ _ h4 hn;rw [Ru r3 hk];have le:Le X.K ρ3 H3 ρ3 (upd H3 a (.dK (J8 kvs' ky vv))):=Le.write hn (by rw [e];trivial);obtain ⟨s5,l5⟩:=s3.write (ho:=.dK (J8 kvs' ky vv)) (o:=.dK (CL kvs ky v)) hn ⟨_,B2,(KVR.put ky r1' r).mono le⟩;exact ⟨a,_,rfl,UL.k e (by rw [<-KVR.length r];exact hz),hm ρ3 _ σ (l1.trans (l2.trans (l3.trans l5))) s5 (hl3.mono l5)⟩
      ·cases hp
     ·cases hp
    ·rename_i kvs h4
     split at hp
     ·rename_i ds
      split at hp
      ·rename_i ks hk
       split at hp
       ·rename_i hz
        cases hp;obtain ⟨kvs',e,r⟩:=s3.ob n _ _ h4 hn
        cases r3 with
        | tup b1 b2=>
         rw [Ph b2 hk] at b1;have le:Le X.K ρ3 H3 ρ3 (upd H3 a (.dT (J8 kvs' ks vv))):=Le.write hn (by rw [e];trivial);obtain ⟨s5,l5⟩:=s3.write (ho:=.dT (J8 kvs' ks vv)) (o:=.dT (CL kvs ks v)) hn ⟨_,B2,(KVR.put ks r1' r).mono le⟩;exact ⟨a,_,rfl,UL.t e b1 (by rw [<-KVR.length r];exact hz),hm ρ3 _ σ (l1.trans (l2.trans (l3.trans l5))) s5 (hl3.mono l5)⟩
       ·cases hp
      ·cases hp
     ·cases hp
    ·cases hp
  ·cases hp
 ·exact hm.elim
end
end L2
namespace L2
open PySem PySem.Spec PyProof.Rows
section
variable {X:Cx} {E:EW} {a b c:Expr} {pos:Pos} {ma mb mc:ME}
theorem Xg {K:AB} {f g:D->D->Sto->Res D} {σ:St} {H:Hp} {Q:VK} (h:gE K E (m3 f g ma mb mc) σ H Q):ZU (rD K f) (rD K g) (gE K E ma) (gE K E mb) (gE K E mc) σ H Q:=by
 obtain ⟨ρ,l,S,hl,hs,hm⟩:=h;refine ⟨ρ,l,S,hl,hs,hm.seq λx S1 hm ρ1 H1 u l1 s1 r1=>⟨ρ1,l,S1,hl.mono l1,s1,(hm.later l1).seq λy S2 hm ρ2 H2 v l2 s2 r2=>?_⟩⟩
 cases hf:f x y S2 with
 | bad=>rw [hf] at hm;exact hm.elim
 | err _ _=>rw [hf] at hm;exact hm.elim
 | ok z S3=>
  rw [hf] at hm;dsimp only [okR,Res.bind] at hm;refine ⟨ρ2,S2,x,y,z,S3,s2,r1.mono l2,r2,hf,λρ3 H3 w l3 s3 r3=>?_⟩
  cases z with
  | bl k=>
   cases r3;refine ⟨k,rfl,?_⟩
   cases k with
   | true=>
    rw [if_pos rfl];refine ⟨ρ3,l,S3,hl.mono (l1.trans (l2.trans l3)),s3,Bs.seq (hm.later (l2.trans l3)) λw S4 hm ρ4 H4 wv l4 s4 r4=>?_⟩;obtain ⟨d,S',e,k⟩:=hm.okR;exact ⟨ρ4,S4,y,w,d,S',s4,r2.mono (l3.trans l4),r4,e,λρ' H' z l' s' r'=>k ρ' H' z (l1.trans (l2.trans (l3.trans (l4.trans l')))) s' r'⟩
   | false=>rw [if_neg AK];exact hm ρ3 H3 _ (l1.trans (l2.trans l3)) s3 (.bl false)
  | _=>exact hm.elim
theorem Pm {op op':Sd} {f g:D->D->Sto->Res D} (ho:OpR X (CJ op) (rD X.K f)) (ho':OpR X (CJ op') (rD X.K g)) (ha:GE X E a ma) (hb:GE X E b mb) (hc:GE X E c mc)
  (hm:lastMarks [op,op'] [b,c]=false:=by with_unfolding_all rfl):GT X E (.Compare a [op,op'] [b,c] pos) (mB (m3 f g ma mb mc)):=(Zm ho ho' ha hb hc hm).imp λ_ _ _ h=>Xg (aM h)
def db (m:ME):ME:=λe S=>(m e S).bind λd S1=>match d with
 | .int i=>.ok (.int (-i)) S1
 | _=>.bad
theorem jF (h:GE X E a ma):GE X E (.UnaryOp .USub a pos) (db ma):=(kl gh h).imp λσ H Q ⟨ρ,l,S,hl,hs,hm⟩=>by
 refine ⟨ρ,l,S,hl,hs,hm.seq λd S1 hm ρ1 H1 x l1 s1 r1=>?_⟩
 cases d <;> first | exact hm.elim | skip
 cases r1;exact ⟨_,rfl,hm ρ1 H1 _ l1 s1 (.int _)⟩
end
abbrev MO:=Lo->Sto->Res (Option Int)
def gO (K:AB) (E:EW) (m:MO):TO:=λσ H Q=>∃ρ e S,FP K ρ H e σ/\B4 K ρ S H/\Bs K (λc=>E c σ) ρ H (m e S) λo S'=>∀ρ' H',Le K ρ H ρ' H'->B4 K ρ' S' H'->Q o H'
abbrev GO (X:Cx) (E:EW) (e:Option Expr) (m:MO):Prop:=PO X e (gO X.K E m)
def Th:MO:=λ_ S=>.ok none S
def Qp (m:ME):MO:=λe S=>(m e S).bind λd S1=>match d with
 | .int i=>.ok (some i) S1
 | _=>.bad
def L6 {α:Type} (xs:List α) (lo hi:Option Int):List α:=(xs.drop (HT.sIx xs.length 0 lo)).take (HT.sIx xs.length xs.length hi - HT.sIx xs.length 0 lo)
section
variable {X:Cx} {E:EW} {e:Expr} {lo hi:Option Expr} {pos p2:Pos} {m:ME} {ml mh:MO}
theorem PO.imp {o:Option Expr} {t t':TO} (h:PO X o t) (i:∀σ H Q,t' σ H Q->t σ H Q):PO X o t':=λpins s σ H Q I q=>h pins s σ H Q I (i σ H Q q)
theorem R5:GO X E none Th:=PO.imp dC λσ H Q ⟨ρ,l,S,hl,hs,hm⟩=>hm ρ H .refl hs
theorem R4 (h:GE X E e m):GO X E (some e) (Qp m):=PO.imp (dB h) λσ H Q ⟨ρ,l,S,hl,hs,hm⟩=>by
 refine ⟨ρ,l,S,hl,hs,hm.seq λd S1 hm ρ1 H1 x l1 s1 r1=>?_⟩
 cases d <;> first | exact hm.elim | skip
 cases r1;exact ⟨_,rfl,hm ρ1 H1 l1 s1⟩
theorem bK {K:AB} {ρ:List AI} {H:Hp} {ds:List D} {vs:List V} (r:At K ρ H ds vs) (lo hi:Option Int):At K ρ H (L6 ds lo hi) (Vv vs lo hi):=by
 unfold L6 Vv;rw [r.length];exact (r.drop _).take _
end
section
variable {X:Cx} {E:EW} {e:Expr} {p pos:Pos} {m:ME} {ml:ML}
def Hv (m:ME):ME:=λe S=>(m e S).bind λd S1=>match Gi d S1 with
 | some ds=>.ok (.tup ds) S1
 | none=>.bad
theorem Kh (hg:Gl X "tuple") (hm:X.mg "tuple" = none) (h:GE X E e m) (he:AZ [e] X.env=(false,CC e X.env) :: AZ [] X.env:=by rfl):GE X E (.Call (.Name "tuple" p) [e] [] pos) (Hv m):=
 (NT QR hg hm OD (FG h Hr he) (by decide) (by decide) he rfl).imp λσ H Q ⟨ρ,l,S,hl,hs,hm⟩=>by
 refine ⟨ρ,l,S,hl,hs,hm.seq λd S1 hm ρ1 H1 x l1 s1 r1=>?_⟩
 cases hq:Gi d S1 with
 | none=>rw [hq] at hm;exact hm.elim
 | some ds=>
  rw [hq] at hm
  have newL:∀a vs,x=.ref a->SqL X.K H1 a vs->At X.K ρ1 H1 ds vs->∃p ys,[x]=[.ref p]/\((SqL X.K H1 p ys/\∀l,H1 l=none->Q (.ref l) (upd H1 l (.tup ys)))∨(SqT X.K H1 p ys/\Q (.ref p) H1)):=λa vs e sq rr=>by
   subst e;refine ⟨a,vs,rfl,.inl ⟨sq,λq hq=>?_⟩⟩;obtain ⟨s2,l2⟩:=Gw (ho:=.tup vs) s1 hq;exact hm _ _ _ (l1.trans l2) s2 (.tup B2 (rr.mono l2))
  cases r1 with
  | @tup _ a vs h1 h2=>cases hq;exact ⟨a,vs,rfl,.inr ⟨.inl (.inl h1),hm ρ1 H1 _ l1 s1 (.tup h1 h2)⟩⟩
  | @fro _ a vs h1 h2=>cases hq;exact newL a vs rfl h1.sq h2
  | @ref n a hn=>
   obtain ⟨o,ho,ro⟩:=s1.there hn;unfold Gi at hq;simp only [ho] at hq
   cases o with
   | lst es=>cases hq;obtain ⟨vs,e,rr⟩:=ro;exact newL a vs rfl (.inl (.inl e)) rr
   | _=>cases hq
  | _=>cases hq
variable {o:Expr} {apos cpos:Pos} {mo ma:ME}
def atL (d:D) (S:Sto):Option (Nat×List D):=match d with
 | .ref n=>match S[n]? with
  | some (.lst xs)=>some (n,xs)
  | _=>none
 | _=>none
theorem SQ {K:AB} {ρ:List AI} {S:Sto} {H:Hp} {d:D} {x:V} {n:Nat} {xs:List D} (s:B4 K ρ S H) (r:Bo K ρ H d x) (h:atL d S=some (n,xs)):d=.ref n/\S[n]?=some (.lst xs)/\∃a vs,x=.ref a/\ρ[n]?=some a/\H a=some (.lst vs)/\At K ρ H xs vs:=by
 unfold atL at h;split at h
 ·split at h
  ·rename_i ds hd
   cases h;exact ⟨rfl,hd,WY s r hd⟩
  ·cases h
 ·cases h
theorem Wb {K:AB} {ρ:List AI} {S:Sto} {H:Hp} {n:Nat} {a:AI} {vs ws:List V} {ys:List D} (s:B4 K ρ S H) (hn:ρ[n]?=some a) (e:H a=some (.lst vs)) (r:At K ρ H ys ws) :
  B4 K ρ (S.set n (.lst ys)) (upd H a (.lst ws))/\Le K ρ H ρ (upd H a (.lst ws)):=by
 have le:Le K ρ H ρ (upd H a (.lst ws)):=Le.write hn (by rw [e];trivial);exact s.write (ho:=.lst ws) (o:=.lst ys) hn ⟨_,B2,r.mono le⟩
def aJ (mo:ME):ME:=λe S=>(mo e S).bind λd S1=>match atL d S1 with
 | some (n,xs)=>.ok .non (S1.set n (.lst xs.reverse))
 | none=>.bad
theorem Vo (ho:GE X E o mo) (hbase:E1 o "reverse" X.env (CC o X.env)=CC o X.env:=by rfl) (hline:(apos.endLine==cpos.line)=true:=by rfl) :
  GE X E (.Call (.Attribute o "reverse" apos) [] [] cpos) (aJ mo):=(iQ Iy PySem.F.slot_list_reverse PySem.F.type_list_reverse VX ho hbase hline).imp λσ H Q ⟨ρ,l,S,hl,hs,hm⟩=>by
 refine ⟨ρ,l,S,hl,hs,hm.seq λd S1 hm ρ1 H1 v l1 s1 r1=>?_⟩
 cases hq:atL d S1 with
 | none=>rw [hq] at hm;exact hm.elim
 | some z=>
  obtain ⟨n,xs⟩:=z;rw [hq] at hm;obtain ⟨rfl,h0,a,vs,rfl,hn,e,rr⟩:=SQ s1 r1 hq;obtain ⟨s2,l2⟩:=Wb s1 hn e rr.reverse;exact ⟨.inl ⟨rfl,vs,.inl (.inl e)⟩,a,vs,rfl,rfl,e,hm ρ1 _ _ (l1.trans l2) s2 .non⟩
end
end L2
namespace L2
open PySem PySem.Spec PyProof.Rows
section
variable {X:Cx} {E:EW}
theorem range_getD {α:Type} (d:α) (bs:List α):(Cc bs.length).map (λi=>bs.getD i d)=bs:=by
 apply JB
 intro i;rw [Ap]
 by_cases h:i < bs.length
 ·rw [DB h]
  simp [List.getD,h]
 ·rw [CG.mpr (by simpa using h),CG.mpr (by simpa using h)]
  rfl
theorem cT {bs:List Bool} {its:List AC} (r:Bh (bs.map V.bl) its) {i:Nat} {v:AC} (h:its.toArray[i]?=some v):v=.bool (bs.getD i false):=by
 have h':its[i]?=some v:=by simpa using h
 obtain ⟨hi,e⟩:=AM.mp h'
 have hb:i < bs.length:=by have:=r.length;simp at this;lia
 obtain ⟨u,hu,ru⟩:=r.get (show (bs.map V.bl)[i]?=some (V.bl bs[i]) by simp [hb]);rw [h'] at hu;cases hu;rw [show v=MU bs[i] from ru];simp [List.getD,hb]
def VD (K:AB) (f:List Bool->Bool):List V->Hp->VK->Prop:=λxs H Q=>∃p bs,xs=[.ref p]/\(SqL K H p (bs.map V.bl)∨SqT K H p (bs.map V.bl))/\Q (.bl (f bs)) H
theorem Pt {pins:List (AI×Obj)} {s:AE} {σ:St} {H:Hp} {p:AI} {bs:List Bool} {R:AC->AE->Prop} {E:AC->AE->Prop} (hc:X.calm=true) (I:Inv X pins σ H s) (hq:SqL X.K H p (bs.map V.bl)∨SqT X.K H p (bs.map V.bl))
  (h:∀itv s2,(∃I fp wr n P St tr,itv=Az I/\Walks X.prog X.w X.A.in1 I fp wr n P St/\St 0 s2.heap/\TruthOf X.prog X.w X.A.in1 P tr/\(Cc n).map tr=bs /\
   ∀(h':Bl) (tk:Nat),(∀b o,¬b∈wr->s2.heap.get? b=some o->h'.get? b=some o)->Inv X pins σ H { s2 with heap:=h',toks:=tk })->R itv s2) :
  Af (AY X.prog X.w) X.A.in1 (fb (.ref p)) R E s:=by
 have hh:X.A.in1.handled=none:=I.ok.hd hc
 have fin:∀(its:List AC),Bh (bs.map V.bl) its->(Cc its.toArray.size).map (λi=>bs.getD i false)=bs:=λits r=>by
  have:its.toArray.size=bs.length:=by have:=r.length;simp at this;simpa using this.symm
  rw [this,range_getD]
 have tru:∀(its:List AC),Bh (bs.map V.bl) its->TruthOf X.prog X.w X.A.in1 (λi v=>its.toArray[i]?=some v) (λi=>bs.getD i false):=λits r i v s Q E hv q=>by
  rw [cT r hv];exact B7 q
 have kp:∀(ob:Obj) (h':Bl) (tk:Nat),(∀b o,¬b∈[s.heap.objs.size]->(s.heap.push ob).get? b=some o->h'.get? b=some o)->Inv X pins σ H { s with heap:=h',toks:=tk }:=λob h' tk k=>
  I.kept λb o e=>k b o (by simpa using A0 (Ae e)) (AO _ e)
 rcases hq with hq | hq
 ·obtain ⟨its,r',pl,hz⟩:=I.list hq
  refine jd pl.isList (h _ _ ⟨s.heap.objs.size,_,_,_,_,_,_,rfl,Walks.list hh _ p (A0 (Ae pl.isList.choose_spec.1)) its.toArray,⟨⟨_,Aq _ rfl,rfl,rfl⟩,?_⟩,tru its r',fin its r',kp _⟩)
  exact pl.isList.at λo e=>AO _ e
 ·obtain ⟨its,r',pl,hz⟩:=I.tuple hq
  have pt:s.heap.IsTuple p its.toArray:=pl;refine GZ pt (h _ _ ⟨s.heap.objs.size,_,_,_,_,_,_,rfl,Walks.tuple hh _ p (A0 pl.lt) its.toArray,⟨⟨_,Aq _ rfl,rfl,rfl⟩,?_⟩,tru its r',fin its r',kp _⟩);obtain ⟨o,e,c⟩:=pt;exact ⟨o,AO _ e,c⟩
theorem YZ (hc:X.calm=true):IG X (.builtin "all") (VD X.K λbs=>bs.all id):=by
 intro pins s σ H xs us Q I r h;obtain ⟨p,bs,rfl,hq,q⟩:=h;obtain ⟨u,rfl,rx⟩:=vals1 r;cases rx;refine call_all_walk (Pt hc I hq λitv s2 ⟨J,fp,wr,n,P,St,tr,e,W,st,tru,eb,kp⟩=>⟨J,fp,wr,n,P,St,tr,e,W,st,tru,λh' tk k=>⟨.bl _,H,kp h' tk k,rfl,?_⟩⟩);rw [<-eb] at q;dsimp only at q;rw [US] at q;exact q
theorem YY (hc:X.calm=true):IG X (.builtin "any") (VD X.K λbs=>bs.any id):=by
 intro pins s σ H xs us Q I r h;obtain ⟨p,bs,rfl,hq,q⟩:=h;obtain ⟨u,rfl,rx⟩:=vals1 r;cases rx;refine call_any_walk (Pt hc I hq λitv s2 ⟨J,fp,wr,n,P,St,tr,e,W,st,tru,eb,kp⟩=>⟨J,fp,wr,n,P,St,tr,e,W,st,tru,λh' tk k=>⟨.bl _,H,kp h' tk k,rfl,?_⟩⟩);rw [<-eb] at q;dsimp only at q;rw [UR] at q;exact q
def Vy:List D->Option (List Bool)
 | []=>some []
 | .bl b :: ds=>(Vy ds).map (b :: ·)
 | _ :: _=>none
theorem XB {K:AB} {ρ:List AI} {H:Hp}:∀ {ds:List D} {vs:List V} {bs:List Bool},At K ρ H ds vs->Vy ds=some bs->vs=bs.map V.bl
 | _,_,_,.nil,h=>by cases h;rfl
 | .bl b :: ds,_,bs,.cons r t,h=>by
  unfold Vy at h
  cases hq:Vy ds with
  | none=>rw [hq] at h;cases h
  | some cs=>rw [hq] at h;cases h;cases r;rw [XB t hq];rfl
 | .non :: _,_,_,.cons r t,h=>by cases h
 | .int _ :: _,_,_,.cons r t,h=>by cases h
 | .str _ :: _,_,_,.cons r t,h=>by cases h
 | .tup _ :: _,_,_,.cons r t,h=>by cases h
 | .fro _ :: _,_,_,.cons r t,h=>by cases h
 | .ref _ :: _,_,_,.cons r t,h=>by cases h
 | .exc _ :: _,_,_,.cons r t,h=>by cases h
def Ya (f:List Bool->Bool) (ds:List D) (S:Sto):Res D:=match Vy ds with
 | some bs=>.ok (.bl (f bs)) S
 | none=>.bad
theorem TL {f:List Bool->Bool}:jX X.K (VD X.K f) (Ya f):=λρ H S ds q xs d S' Q hs rr sq hm k=>by
 unfold Ya at hm;split at hm
 ·rename_i bs hb
  cases hm;rw [XB rr hb] at sq;exact ⟨q,bs,rfl,sq,k ρ H _ .refl hs (.bl _)⟩
 ·cases hm
abbrev Yc:=Ya λbs=>bs.all id
abbrev eZ:=Ya λbs=>bs.any id
def JK:List D->Option (List Int)
 | []=>some []
 | .int b :: ds=>(JK ds).map (b :: ·)
 | _ :: _=>none
theorem Pk:∀ {ds:List D} {ns:List Int},JK ds=some ns->ds=ns.map D.int
 | [],_,h=>by cases h;rfl
 | .int b :: ds,ns,h=>by
  unfold JK at h
  cases hq:JK ds with
  | none=>rw [hq] at h;cases h
  | some cs=>rw [hq] at h;cases h;rw [Pk hq];rfl
 | .non :: _,_,h=>by cases h
 | .bl _ :: _,_,h=>by cases h
 | .str _ :: _,_,h=>by cases h
 | .tup _ :: _,_,h=>by cases h
 | .fro _ :: _,_,h=>by cases h
 | .ref _ :: _,_,h=>by cases h
 | .exc _ :: _,_,h=>by cases h
variable {e:Expr} {m:ME} {ml:ML} {p pos:Pos}
def tyD (d:D) (S:Sto):Option String:=match d with
 | .non=>some "NoneType"
 | .bl _=>some "bool"
 | .int _=>some "int"
 | .str _=>some "str"
 | .tup _=>some "tuple"
 | .ref n=>match S[n]? with
  | some (.lst _)=>some "list"
  | some (.dK _)=>some "dict"
  | some (.dT _)=>some "dict"
  | _=>none
 | .fro _=>none
 | .exc _=>none
theorem gi {K:AB} {ρ:List AI} {S:Sto} {H:Hp} {d:D} {x:V} {T:String} (s:B4 K ρ S H) (r:Bo K ρ H d x) (h:tyD d S=some T):M3 K H x (.type T):=by
 cases r with
 | non=>cases h;exact .non
 | bl b=>cases h;exact .bl b
 | int i=>cases h;exact .int i
 | str i=>cases h;exact .str i
 | tup h1 _=>cases h;exact .tup h1
 | fro _ _=>cases h
 | exc _ _=>cases h
 | @ref n a hn=>
  obtain ⟨o,ho,ro⟩:=s.there hn;unfold tyD at h;simp only [ho] at h
  cases o with
  | lst es=>cases h;obtain ⟨vs,e,rr⟩:=ro;exact .lst e
  | dK es=>cases h;obtain ⟨vs,e,rr⟩:=ro;exact .dK e
  | dT es=>cases h;obtain ⟨vs,e,rr⟩:=ro;exact .dT e
  | ins _ _=>cases h
def fO (c T:String):Option Bool:=if T==c then some true else if T=="bool"&&c=="int" then some true else if ["NoneType", "bool", "int", "str", "tuple", "list", "dict"].contains T&&["bool", "int", "str", "tuple", "list", "dict"].contains c then some false else none
end
end L2
namespace L2
open PySem PySem.Spec PyProof.Rows
def Hs {α:Type} (r r':Res α):Res α:=match r with
 | .bad=>r'
 | r=>r
theorem X1 {α:Type} (r r':Res α):Hs r r'=r∨Hs r r'=r':=by cases r <;> simp [Hs]
def op2 (f g:D->D->Sto->Res D):D->D->Sto->Res D:=λx y S=>Hs (f x y S) (g x y S)
theorem Tr (f g:D->D->Sto->Res D) (ma mb:ME) (l:Lo) (S:Sto):m2 (op2 f g) ma mb l S=m2 f ma mb l S∨m2 (op2 f g) ma mb l S=m2 g ma mb l S:=by
 unfold m2
 cases ma l S with
 | ok x S1=>
  dsimp only [Res.bind]
  cases mb l S1 with
  | ok y S2=>
   dsimp only [Res.bind];unfold op2
   rcases X1 (f x y S2) (g x y S2) with e | e <;> rw [e] <;> simp
  | err c S2=>exact .inl rfl
  | bad=>exact .inl rfl
 | err c S1=>exact .inl rfl
 | bad=>exact .inl rfl
section
variable {X:Cx} {E:EW} {e o i:Expr} {pos:Pos} {m m1 m2':ME}
theorem Vp {m m1 m2:ME} (h1:GE X E e m1) (h2:GE X E e m2) (h:∀l S,m l S=m1 l S∨m l S=m2 l S):GE X E e m:=λpins s σ H Q I ⟨ρ,l,S,hl,hs,a⟩=>by
 rcases h l S with q | q
 ·rw [q] at a;exact h1 pins s σ H Q I ⟨ρ,l,S,hl,hs,a⟩
 ·rw [q] at a;exact h2 pins s σ H Q I ⟨ρ,l,S,hl,hs,a⟩
theorem ak {t t1 t2:MT} (h1:GT X E e t1) (h2:GT X E e t2) (h:∀l S,t l S=t1 l S∨t l S=t2 l S):GT X E e t:=λpins s σ H Q I ⟨ρ,l,S,hl,hs,a⟩=>by
 rcases h l S with q | q
 ·rw [q] at a;exact h1 pins s σ H Q I ⟨ρ,l,S,hl,hs,a⟩
 ·rw [q] at a;exact h2 pins s σ H Q I ⟨ρ,l,S,hl,hs,a⟩
theorem jE {tg:Expr} {t t1 t2:MI} (h1:GI X E tg e t1) (h2:GI X E tg e t2) (h:∀l S,t l S=t1 l S∨t l S=t2 l S):GI X E tg e t:=λpins s σ H R I ⟨ρ,l,S,hl,hs,a⟩=>by
 rcases h l S with q | q
 ·rw [q] at a;exact h1 pins s σ H R I ⟨ρ,l,S,hl,hs,a⟩
 ·rw [q] at a;exact h2 pins s σ H R I ⟨ρ,l,S,hl,hs,a⟩
theorem fL {m m1 m2:ME} (h:∀l S,m l S=m1 l S∨m l S=m2 l S) (l:Lo) (S:Sto):mB m l S=mB m1 l S∨mB m l S=mB m2 l S:=by
 unfold mB
 rcases h l S with q | q <;> rw [q] <;> simp
abbrev inA (neg:Bool):=op2 (inD neg) (Kp neg)
variable {mi mo:ME}
theorem fR (hu:X.A.units+64 < EC) (hi:GE X E i mi) (ho:GE X E o mo) (h1:Bt .In o=false:=by with_unfolding_all rfl):GE X E (.Compare i [.In] [o] pos) (m2 (inA false) mi mo):=
 Vp (SA (fI hu) hi ho h1) (jH (by lia) hi ho h1) λ_ _=>Tr _ _ _ _ _ _
theorem ap (hu:X.A.units+64 < EC) (hi:GE X E i mi) (ho:GE X E o mo) (h1:Bt .NotIn o=false:=by with_unfolding_all rfl):GE X E (.Compare i [.NotIn] [o] pos) (m2 (inA true) mi mo):=
 Vp (SA (Te hu) hi ho h1) (YG (by lia) hi ho h1) λ_ _=>Tr _ _ _ _ _ _
theorem N7 (hu:X.A.units+64 < EC) (hi:GE X E i mi) (ho:GE X E o mo) (h1:Bt .In o=false:=by with_unfolding_all rfl):GT X E (.Compare i [.In] [o] pos) (mB (m2 (inA false) mi mo)):=
 ak (En (fI hu) hi ho h1) (i7 (by lia) hi ho h1) (fL λ_ _=>Tr _ _ _ _ _ _)
theorem JM (hu:X.A.units+64 < EC) (hi:GE X E i mi) (ho:GE X E o mo) (h1:Bt .NotIn o=false:=by with_unfolding_all rfl):GT X E (.Compare i [.NotIn] [o] pos) (mB (m2 (inA true) mi mo)):=
 ak (En (Te hu) hi ho h1) (YF (by lia) hi ho h1) (fL λ_ _=>Tr _ _ _ _ _ _)
abbrev ixA:=op2 ixD Pp
theorem Eo (hu:X.A.units+64 < EC) (ho:GE X E o mo) (hi:GE X E i mi) (hs:SU i:=by intro _ _;rfl):GE X E (.Subscript o i pos) (m2 ixA mo mi):=
 Vp (lX lA ho hi hs) (d7 (by lia) ho hi hs) λ_ _=>Tr _ _ _ _ _ _
def IV (d:D):KD:=match d with
 | .tup ds=>GX ds
 | d=>N0 d
def DX (m:ME):MI:=λe S=>(m e S).bind λd S1=>match IV d S1 with
 | some _=>.ok (IV d) S1
 | none=>.bad
theorem Ce {tg:Expr} (h:GE X E e m):GI X E tg e (DX m):=jE (jD h) (jB h) λl S=>by
 unfold DX lT fQ
 cases m l S with
 | ok d S1=>
  dsimp only [Res.bind]
  cases d <;> first | exact .inl rfl | exact .inr rfl
 | err c S1=>exact .inl rfl
 | bad=>exact .inl rfl
def Mr (m:ME):ME:=λe S=>(m e S).bind λd S1=>match Gi d S1 with
 | some ds=>.ok (.int ds.length) S1
 | none=>.bad
variable {p:Pos} {ml:ML} {es:List Expr}
theorem Nf (hg:Gl X "len") (hm:X.mg "len" = none) (h:GE X E e m) (he:AZ [e] X.env=(false,CC e X.env) :: AZ [] X.env:=by rfl):GE X E (.Call (.Name "len" p) [e] [] pos) (Mr m):=
 (R8 SN gy hg hm PySem.boot_len (Wt h) (by decide) (by decide) he).imp λσ H Q ⟨ρ,l,S,hl,hs,a⟩=>⟨ρ,l,S,hl,hs,by
  have q:mQ lL (LU m) l S=Mr m l S:=by
   unfold mQ LU Mr
   cases m l S with
   | ok d S1=>
    dsimp only [Res.bind]
    cases Gi d S1 <;> rfl
   | err c S1=>rfl
   | bad=>rfl
  rw [q];exact a⟩
theorem R9 {a b:Expr} (hc:X.calm=true) (hg:Gl X "min") (hm:X.mg "min" = none) (h:GA X E [a,b] ml) (he:AZ [a,b] X.env=(false,CC a X.env) :: AZ [b] X.env:=by rfl) (hpl:(DM pos (AZ [b] X.env)).any (·.1)=false:=by rfl):GE X E (.Call (.Name "min" p) [a,b] [] pos) (mQ Mq ml):=
 Wx (YV hc) ee hg hm ly h (by decide) (by decide) he hpl
theorem dw {a b:Expr} (hc:X.calm=true) (hg:Gl X "max") (hm:X.mg "max" = none) (h:GA X E [a,b] ml) (he:AZ [a,b] X.env=(false,CC a X.env) :: AZ [b] X.env:=by rfl) (hpl:(DM pos (AZ [b] X.env)).any (·.1)=false:=by rfl):GE X E (.Call (.Name "max" p) [a,b] [] pos) (mQ Qs ml):=
 Wx (YW hc) ef hg hm lz h (by decide) (by decide) he hpl
theorem Wv (hg:Gl X "list") (hm:X.mg "list" = none) (h:GE X E e m) (he:AZ [e] X.env=(false,CC e X.env) :: AZ [] X.env:=by rfl):GE X E (.Call (.Name "list" p) [e] [] pos) (DV (mN Tt (LU m))):=
 CP (dr SM cg hg hm OV (Wt h) (by decide) (by decide) he)
theorem Vq (hc:X.calm=true) (hg:Gl X "all") (hm:X.mg "all" = none) (h:GE X E e m) (he:AZ [e] X.env=(false,CC e X.env) :: AZ [] X.env:=by rfl):GE X E (.Call (.Name "all" p) [e] [] pos) (mQ Yc (LU m)):=
 R8 (YZ hc) TL hg hm mG (Wt h) (by decide) (by decide) he
theorem jI (hc:X.calm=true) (hg:Gl X "any") (hm:X.mg "any" = none) (h:GE X E e m) (he:AZ [e] X.env=(false,CC e X.env) :: AZ [] X.env:=by rfl):GE X E (.Call (.Name "any" p) [e] [] pos) (mQ eZ (LU m)):=
 R8 (YY hc) TL hg hm mF (Wt h) (by decide) (by decide) he
end
end L2
namespace L2
open PySem PySem.Spec PyProof.Rows
abbrev MJ:=Str->Lo->Sto->Res Str
def iz:MJ:=λacc _ S=>if acc.length<=sizeLine then .ok acc S else .bad
def Wn (m:ME) (r:MJ):MJ:=λacc e S=>(m e S).bind λd S1=>match d with
 | .str y=>if (acc++y).length<=sizeLine then r (acc++y) e S1 else .bad
 | _=>.bad
def gJ (K:AB) (E:EW) (m:MJ) (acc:Str):TE:=λσ H Q=>∃ρ e S,FP K ρ H e σ/\B4 K ρ S H/\Bs K (λc=>E c σ) ρ H (m acc e S) λy S'=>∀ρ' H',Le K ρ H ρ' H'->B4 K ρ' S' H'->Q (.str y) H'
def GJ (X:Cx) (E:EW) (es:List Expr) (m:MJ):Prop:=∀(acc:Str) (pins:List (AI×Obj)) (s:AE) (σ:St) (H:Hp) (Q:VK),Inv X pins σ H s->gJ X.K E m acc σ H Q->Af (AY X.prog X.w) X.A (joinParts acc (evalEach es X.env)) (EP X pins σ Q) X.xe s
def fK (m:MJ):ME:=λe S=>(m UM e S).bind λy S1=>.ok (.str y) S1
def lH (m:ME):ME:=λe S=>(m e S).bind λd S1=>match d with
 | .int i=>if i.natAbs.log2 < 1920 then .ok (.str (toString i)) S1 else .bad
 | _=>.bad
section
variable {X:Cx} {E:EW} {e a b:Expr} {es:List Expr} {pos:Pos} {m:ME} {mj:MJ}
theorem jA:GJ X E [] iz:=λacc pins s σ H Q I ⟨ρ,l,S,hl,hs,hm⟩=>by
 unfold iz at hm;split at hm
 ·rename_i hz
  exact joinParts_nil ⟨.str acc,H,I.tok _,⟨_,rfl⟩,hm ρ H .refl hs⟩ hz
 ·exact hm.elim
theorem R6 (h:GE X E e m) (hr:GJ X E es mj):GJ X E (e :: es) (Wn m mj):=λacc pins s σ H Q I ⟨ρ,l,S,hl,hs,hm⟩=>by
 show Af _ _ (joinParts acc (CC e X.env :: evalEach es X.env)) _ _ s;refine joinParts_cons (thn (h pins s σ H (λx H1=>∃y,x=.str y/\(acc++y).length<=sizeLine/\gJ X.K E mj (acc++y) σ H1 Q) I ⟨ρ,l,S,hl,hs,Bs.seq hm λd S1 hm ρ1 H1 x l1 s1 r1=>?_⟩) λu s1 ⟨x,H1,I1,rx,y,ex,hz,q⟩=>?_)
 ·cases d <;> first | exact hm.elim | skip
  dsimp only at hm;split at hm
  ·rename_i y hz
   cases r1;exact ⟨y,rfl,hz,ρ1,l,S1,hl.mono l1,s1,hm.go l1 λ_ _ k ρ2 H2 l2 s2=>k ρ2 H2 (l1.trans l2) s2⟩
  ·exact hm.elim
 ·subst ex
  obtain ⟨t,rfl⟩:=rx;exact ⟨hz,hr _ pins s1 σ H1 Q I1 q⟩
theorem dz (h:GJ X E (a :: b :: es) mj):GE X E (.JoinedStr (a :: b :: es) pos) (fK mj):=λpins s σ H Q I ⟨ρ,l,S,hl,hs,hm⟩=>by
 refine JoinedStr_many (h UM pins s σ H Q I ⟨ρ,l,S,hl,hs,Bs.seq hm λy S1 hm ρ1 H1 l1 s1=>hm ρ1 H1 _ l1 s1 (.str y)⟩)
theorem jG (h:GE X E e m):GE X E (.FormattedValue e (-1) none pos) (lH m):=λpins s σ H Q I ⟨ρ,l,S,hl,hs,hm⟩=>by
 refine FormattedValue_plain (thn (h pins s σ H (λx H1=>∃i:Int,x=.int i/\i.natAbs.log2 < 1920/\Q (.str (toString i)) H1) I ⟨ρ,l,S,hl,hs,Bs.seq hm λd S1 hm ρ1 H1 x l1 s1 r1=>?_⟩) λu s1 ⟨x,H1,I1,rx,i,ex,hz,q⟩=>?_)
 ·cases d <;> first | exact hm.elim | skip
  dsimp only at hm;split at hm
  ·rename_i hz
   cases r1;exact ⟨_,rfl,hz,hm ρ1 H1 _ l1 s1 (.str _)⟩
  ·exact hm.elim
 ·subst ex
  obtain ⟨t,rfl⟩:=rx;exact wpAny_formatField_int hz ⟨.str (toString i),H1,I1.tok _,⟨_,rfl⟩,q⟩
end
def Jk (mo ma:ME):ME:=λe S=>(mo e S).bind λd S1=>match atL d S1 with
 | some (n,_)=>(ma e S1).bind λy S2=>match atL d S2,atL y S2 with
  | some (_,xs),some (k,ys)=>if k≠n/\xs.length+ys.length<=sizeLine then .ok .non (S2.set n (.lst (xs++ys))) else .bad
  | _,_=>.bad
 | none=>.bad
section
variable {X:Cx} {E:EW} {o e:Expr} {apos cpos:Pos} {mo ma:ME}
theorem Nh (ho:GE X E o mo) (ha:GE X E e ma) (hbase:E1 o "extend" X.env (CC o X.env)=CC o X.env:=by rfl)
  (hfew:((DM cpos (AZ [e] X.env)).all (λx=>!x.1)&&(JU cpos (FJ [] X.env)).all (λx=>x.1.isSome)
    &&decide ([e].length+([]:List Nx).length+(if ([]:List Nx).isEmpty then 0 else 1) < 30))=true:=by rfl)
  (hline:(apos.endLine==cpos.line)=true:=by rfl) (hs:AZ [e] X.env=(false,CC e X.env) :: AZ [] X.env:=by rfl) (hplain:(DM cpos (AZ [] X.env)).any (·.1)=false:=by rfl) :
  GE X E (.Call (.Attribute o "extend" apos) [e] [] cpos) (Jk mo ma):=(fH Iy PySem.F.slot_list_extend PySem.F.type_list_extend X4 ho (FG ha Hr hs) hbase hfew hline hs hplain).imp λσ H Q ⟨ρ,l,S,hl,hs,hm⟩=>by
 refine ⟨ρ,l,S,hl,hs,hm.seq λd S1 hm ρ1 H1 v l1 s1 r1=>?_⟩
 cases hq:atL d S1 with
 | none=>rw [hq] at hm;exact hm.elim
 | some z=>
  obtain ⟨n,xs0⟩:=z;rw [hq] at hm;dsimp only at hm;obtain ⟨rfl,h0,a,vs0,rfl,hn,e0,_⟩:=SQ s1 r1 hq;refine ⟨.inl ⟨rfl,vs0,.inl (.inl e0)⟩,ρ1,l,S1,hl.mono l1,s1,(hm.later l1).seq λy S2 hm ρ2 H2 u l2 s2 r2=>?_⟩;split at hm
  ·rename_i n' xs k ys h2 h3
   split at hm
   ·rename_i hz
    obtain ⟨e',h4,a',vs,ea,hn2,e2,rr⟩:=SQ s2 (r1.mono l2) h2;cases e';cases ea;obtain ⟨ey,h5,p,ws,rfl,hk,e3,rw'⟩:=SQ s2 r2 h3;obtain ⟨s3,l3⟩:=Wb s2 hn2 e2 (rr.append rw');exact ⟨a,p,vs,ws,rfl,rfl,e2,e3,by rw [<-rr.length,<-rw'.length];exact hz.2,hm ρ2 _ _ (l1.trans (l2.trans l3)) s3 .non⟩
   ·exact hm.elim
  ·exact hm.elim
end
def isB (t A:String):Option Bool:=if ["NoneType", "bool", "int", "str", "tuple", "list", "dict"].contains A then fO t A else none
def mIs (tab:String->Option Bool) (tabC:AI->Option Bool) (m:ME):ME:=λe S=>(m e S).bind λd S1=>match d with
 | .exc C=>match tabC C with
  | some b=>.ok (.bl b) S1
  | none=>.bad
 | d=>match tyD d S1 with
  | some T=>match tab T with
   | some b=>.ok (.bl b) S1
   | none=>.bad
  | none=>.bad
def cJ (sc:IK) (x:Str):Bool:=decide (sc.names.lookup x=some .local)||decide (sc.names.lookup x=some .cell)||decide (sc.names.lookup x=some .free)
def bM (X:Cx) (scope:IK) (own N':List Str):Bool:=
 decide (scope.kind=.function)&&scope.names.all (λy=>!decide (y.2=.cell))&&scope.names.all (λy=>!decide (y.2=.local)||decide (scope.names.lookup y.1=some .local)) &&
 scope.names.all (λy=>!decide (y.2=.free)||decide (X.env.kindOf y.1=some .cell)||decide (X.env.kindOf y.1=some .free))&&decide (N'.length=own.length+X.N.length) &&
 ((N'.drop own.length).zip X.N).all (λp=>!cJ (Iw scope X.env) p.1||(decide (p.1=p.2)&&cJ X.env.scope p.1&&(decide ((Iw scope X.env).names.lookup p.1=some .cell)||decide ((Iw scope X.env).names.lookup p.1=some .free))&&!decide (X.env.kindOf p.1=some .local))) &&
 (Iw scope X.env).names.all (λy=>(!decide (y.2=.cell)&&!decide (y.2=.free))||scope.names.any (λz=>decide (z=(y.1,IM))))
theorem Sr {sc:IK} {x:Str}:cJ sc x=true↔Vis sc x:=by
 unfold cJ Vis;simp [or_assoc]
theorem CZ {X:Cx} {scope:IK} {own N':List Str} (h:bM X scope own N'=true):MB X scope own N':=by
 unfold bM at h;simp only [DR] at h;obtain ⟨⟨⟨⟨⟨⟨h1,h2⟩,h3⟩,h4⟩,h5⟩,h6⟩,h7⟩:=h;rw [Cp] at h2 h3 h4 h6 h7;refine ⟨of_decide_eq_true h1,λy hy=>?_,λy hy e=>?_,λy hy e=>?_,of_decide_eq_true h5,λi x e v=>?_,λx hx=>?_⟩
 ·simpa using h2 y hy
 ·have:=h3 y hy
  simpa [e] using this
 ·have:=h4 y hy
  simpa [e] using this
 ·have hlen:=of_decide_eq_true h5
  have hi:own.length+i < N'.length:=(AM.mp e).1
  have hx:i < X.N.length:=by lia
  have hm:(x,X.N[i])∈(N'.drop own.length).zip X.N:=by
   rw [List.mem_iff_getElem?];refine ⟨i,?_⟩;rw [RE];exact ⟨by rw [IR];exact e,by simp [hx]⟩
  have:=h6 _ hm;rw [Sr.mpr v] at this;simp only [Se,fu,DR,bt,decide_eq_true_eq,Y0,decide_eq_false_iff_not] at this;obtain ⟨⟨⟨z1,z2⟩,z3⟩,z4⟩:=this;exact ⟨by rw [z1];simp [hx],Sr.mp z2,z3,z4⟩
 ·have key:∀k,(Iw scope X.env).names.lookup x=some k->(k=.cell∨k=.free)->(x,IM)∈scope.names:=λk e hk=>by
   have:=h7 _ (Dz e)
   rcases hk with rfl | rfl
   ·simpa using this
   ·simpa using this
  rcases hx with e | e
  ·exact key _ e (.inl rfl)
  ·exact key _ e (.inr rfl)
structure Dfn (K:AB) (mg:Str->Option AC) (x qual:Str) (st:Cn) (ps:List Str) where
 f:AI
 fd:DU
 F:Fun K x qual st f fd
 b:Binds K fd ps []
 m:mg x=some (.ref f)
theorem Dfn.kp {K:AB} {mg:Str->Option AC} {x qual:Str} {st:Cn} {ps:List Str} (d:Dfn K mg x qual st ps):Ff K (.ref d.f)=true:=d.F.kp
structure Mtd (K:AB) (x qual:Str) (st:Cn) (ps:List Str) where
 f:AI
 fd:DU
 F:Fun K x qual st f fd
 b:Binds K fd ps []
structure Own (K:AB) (mg:Str->Option AC) (x:Str) (C f:AI):Prop where
 cl:Cls K C
 mk':Mk K C f
 m:mg x=some (.ref C)
structure Xcl (K:AB) (mg:Str->Option AC) (x:Str) (C:AI):Prop where
 xc:XCl K C
 m:mg x=some (.ref C)
end L2
namespace L2
open PySem PySem.Spec PyProof.Rows
structure XIs (K:AB) (C:AI):Prop where
 cl:(Gt K C).isSome=true
 ga:CV K (.ref C) "__getattribute__" = some (some (.builtin "BaseException.__getattribute__"))
 gn:CV K (.ref C) "__getattr__" = some none
 ca:CV K (.ref C) "__class__" = some (some (.builtin "object.__class__"))
 sp:WA K (.builtin "object.__class__") "__get__" = some (some (.builtin "getset_descriptor.__get__"))
 tk:Yh K (.builtin "object.__class__")=some true
 ob:LV K C (.type "object")=some true
 be:LV K C (.type "BaseException")=some true
theorem SV.inst {h:Bl} {a C:AI} {o:Obj} (g:h.get? a=some o) (x:SV o C):Ys h a o C none:=by
 obtain ⟨x1,x2,vs,x3⟩:=x;refine ⟨g,x1,?_,?_⟩
 ·unfold PySem.W.notCls;rw [x3]
 ·rw [x2];trivial
section
variable {prog:An} {w:BH} {A:BD} {E:AC->AE->Prop} {s:AE} {K:AB} {a C:AI} {o:Obj}
theorem YN {M:QB} {nameV:AC} {Q:Unit->AE->Prop} (c:XIs K C) (X:K.In s.heap) (g:s.heap.get? a=some o) (x:SV o C) (h:Q () s):Af M A (RA "BaseException.__getattribute__" ⟨[.ref a,nameV],[]⟩) Q E s:=by
 have I:=x.inst g;obtain ⟨hh,gg,d,t,os⟩:=s;have L0:=I.type (M:=M);have LI:Gu M hh (isInstance (.ref a) (.type "BaseException")) true:=L0.andThen (PySem.W.looks_mroIn X c.be)
 have k1:builtinKind "BaseException.__getattribute__" = some .slot:=by decide +kernel
 have k2:splitId "BaseException.__getattribute__" = some ("BaseException", "__getattribute__"):=by decide +kernel
 have k3:=PySem.F.args_bexc_ga (.ref a) nameV;simp only [RA,k1,k2];refine AA (LI.at ?_)
 repeat (any_goals (first | assumption | wp_step))
theorem YL {tk:Tok} {Q:Fin->AE->Prop} (c:XIs K C) (X:K.In s.heap) (g:s.heap.get? a=some o) (x:SV o C) (h:Q (.done (.ret (.ref C))) s) :
  Af (AY prog w) A (Builtin.«object.__getattribute__» ⟨[.ref a,.str "__class__" tk],[]⟩) Q E s:=by
 have I:=x.inst g;obtain ⟨hh,gg,d,t,os⟩:=s;have L0:=I.type (M:=AY prog w)
 have hf:Yj K C none "__class__" = some (.bind (.builtin "getset_descriptor.__get__") (.builtin "object.__class__")):=by
  obtain ⟨cd,hcd⟩:=Iu.mp c.cl;unfold Yj;rw [hcd,c.ca];simp only [AG];rw [c.sp];simp only [AG];rw [c.tk];rfl
 have L1:=PySem.W.looks_find (M:=AY prog w) X I hf;unfold Builtin.«object.__getattribute__»;refine AA (AJ ?_);dsimp only;refine AA (AJ (AA (L0.at (AA (L1.at ?_)))));dsimp only;unfold bZ;dsimp only;refine AA (DY (On (PySem.W.class_get X I c.ob ?_)));exact AJ h
theorem YM {Q:Option AC->AE->Prop} (c:XIs K C) (X:K.In s.heap) (g:s.heap.get? a=some o) (x:SV o C) (h:Q (some (.ref C)) { s with toks:=s.toks+1 }):Af (AY prog w) A (getAttr? (.ref a) "__class__") Q E s:=by
 have I:=x.inst g;obtain ⟨hh,gg,d,t,os⟩:=s;have L0:=I.type (M:=AY prog w);have L1:=KM (M:=AY prog w) X c.ga;have L2:=KM (M:=AY prog w) X c.gn;unfold getAttr? getAttrBy? getAttrBy;refine AA (wpAny_mkText (AA (IH (DY (AA (L0.at (AA (L1.at ?_))))))))
 have hx:(onTheHeap (Az C)&&fA "BaseException.__getattribute__"==fA "object.__getattribute__")=false:=by show (true&&_)=false;decide +kernel
 dsimp only;rw [if_neg (by rw [hx];exact AK)];unfold getAttrByItsOwn hookBefore;refine AA ?_;rw [if_pos (show onTheHeap (Az C)=true from rfl)];refine L2.at (AA (IH (DY ?_)));unfold callGetattribute;rw [if_neg (by simp)];unfold boundAndCalled;refine AA (SX (Os.ga.bind (.ref a)) ?_);refine On (NA Os.ga.plain PySem.F.entry_bexc_ga (YN c X g x (YL c X g x ?_)));exact AJ (AJ h)
theorem aS (c:XIs K C):PySem.W.KitX K (.ref a) (.ref C) (λh=>∃o,h.get? a=some o/\SV o C) where
 ty:=λM h X ⟨o,g,x⟩=>(x.inst g).type
 it:=λM h X _=>by
  have z:=c.cl;unfold Gt at z;split at z
  ·rename_i hk
   intro A' Q' E' s' k q;unfold isType loadHead;exact AA (UW (k _ _ (X _ _ hk)) (AJ q))
  ·cases z
 ne:=λh tp dd its n sl X htp=>by
  refine Bool.eq_false_iff.mpr λq=>?_
  have e:C=tp:=Az.inj (beq_iff_eq.mp q);subst e;have z:=c.cl;unfold Gt at z;split at z
  ·rename_i hk
   have y:=(X _ _ hk).symm.trans htp;cases y
  ·cases z
 ca:=λX ⟨o,g,x⟩ k=>YM c X g x k
end
def rIs (K:AB) (c:V) (cv:AC):List V->Hp->VK->Prop:=λxs H Q=>(∃x t b,xs=[x,c]/\M3 K H x t/\CU K t cv=some b/\Q (.bl b) H) ∨
 ∃a o u C b,xs=[.ref a,c]/\H a=some (.frz o u)/\SV o C/\XIs K C/\CU K (.ref C) cv=some b/\Q (.bl b) H
section
variable {X:Cx} {E:EW} {e ce:Expr} {p pos:Pos} {m:ME} {c:V} {cv:AC} {tab:String->Option Bool} {tabC:AI->Option Bool}
theorem eQ (hv:∀u,RelV c u->u=cv):IG X (.builtin "isinstance") (rIs X.K c cv):=by
 intro pins s σ H xs us Q I r h
 rcases h with ⟨x,t,b,rfl,ty,e,q⟩ | ⟨a,o,u,C,b,rfl,ha,xo,xc,e,q⟩
 ·obtain ⟨v,w,rfl,r1,r2⟩:=vals2 r
  rw [hv w r2]
  exact X9 I r1 ty e λtk=>⟨.bl b,H,I.tok tk,rfl,q⟩
 ·obtain ⟨v,w,rfl,r1,r2⟩:=vals2 r
  rw [hv w r2];cases (show v=Az a from r1);obtain ⟨g,_⟩:=(show Cm X.prog X.w H s.heap a (.frz o u) from I.hok a _ ha)
  exact B6 (aS xc) I.kIn ⟨o,g,xo⟩ e (λz=>nomatch z) λtk=>⟨.bl b,H,I.tok tk,rfl,q⟩
theorem Ww (hv:∀u,RelV c u->u=cv) (ht:∀T b,tab T=some b->CU X.K (.type T) cv=some b) (hC:∀C b,tabC C=some b->XIs X.K C/\CU X.K (.ref C) cv=some b)
  (hg:Gl X "isinstance") (hm:X.mg "isinstance" = none) (h:GE X E e m) (hce:PE X ce (tC c))
  (he:AZ [e,ce] X.env=(false,CC e X.env) :: AZ [ce] X.env:=by rfl) (he2:AZ [ce] X.env=(false,CC ce X.env) :: AZ [] X.env:=by rfl) (hpl:(DM pos (AZ [ce] X.env)).any (·.1)=false:=by rfl) :
  GE X E (.Call (.Name "isinstance" p) [e,ce] [] pos) (mIs tab tabC m):=
 (Mj (eQ hv) hg hm mD (FG h (FG hce Hr he2) he) (by decide) (by decide) he hpl).imp λσ H Q ⟨ρ,l,S,hl,hs,hm⟩=>by
 refine ⟨ρ,l,S,hl,hs,hm.seq λd S1 hm ρ1 H1 x l1 s1 r1=>?_⟩
 have plainD:∀(z:Bs X.K (λc=>E c σ) ρ H (match tyD d S1 with | some T=>(match tab T with | some b=>Res.ok (D.bl b) S1 | none=>.bad) | none=>.bad) λd S'=>∀ρ' H' x,Le X.K ρ H ρ' H'->B4 X.K ρ' S' H'->Bo X.K ρ' H' d x->Q x H'),rIs X.K c cv [x,c] H1 Q:=λhm=>by
  cases hq:tyD d S1 with
  | none=>rw [hq] at hm;exact hm.elim
  | some T=>
   rw [hq] at hm;dsimp only at hm
   cases hb:tab T with
   | none=>rw [hb] at hm;exact hm.elim
   | some b=>
    rw [hb] at hm;exact .inl ⟨x,_,b,rfl,gi s1 r1 hq,ht T b hb,hm ρ1 H1 _ l1 s1 (.bl _)⟩
 cases d with
 | exc C=>
  dsimp only at hm
  cases hb:tabC C with
  | none=>rw [hb] at hm;exact hm.elim
  | some b=>
   rw [hb] at hm
   cases r1 with
   | exc g x=>exact .inr ⟨_,_,_,C,b,rfl,g,x,(hC C b hb).1,(hC C b hb).2,hm ρ1 H1 _ l1 s1 (.bl _)⟩
 | _=>exact plainD hm
end
end L2
namespace Srt
open PySem PyProof.Rows
structure Ord (U:Aj->Prop) (lt:Aj->Aj->Bool):Prop where
 asym:∀x y,U x->U y->lt x y=true->lt y x=false
 ntr:∀x y z,U x->U y->U z->lt y x=false->lt z y=false->lt z x=false
theorem Ord.irr {U:Aj->Prop} {lt:Aj->Aj->Bool} (o:Ord U lt) {x:Aj} (h:U x):lt x x=false:=by
 cases e:lt x x with
 | false=>rfl
 | true=>exact (o.asym x x h h e).symm.trans e |>.symm▸rfl
def ix (xs:Array Aj) (i:Nat):Aj:=xs.getD i (.none,.none)
theorem JJ {xs ys:Array Aj} {i j:Nat} (h:xs[i]?=ys[j]?):ix xs i=ix ys j:=by
 unfold ix;rw [Eb,Eb,h]
theorem DA {xs:Array Aj} {i:Nat} (h:i < xs.size):xs[i]?=some (ix xs i):=by
 unfold ix;rw [Eb,getElem?_pos xs i h];rfl
theorem X8 {xs:Array Aj} {src d:Nat} (hs:src < xs.size) (hd:d<=src) (k:Nat) :
  ix (fg xs src d) k=if k=src - d then ix xs src else if src - d < k/\k<=src then ix xs (k - 1) else ix xs k:=by
 have e:=getElem?_bubble hs d hd k;split
 ·rename_i h;rw [if_pos h] at e;exact JJ e
 ·rename_i h
  rw [if_neg h] at e;split
  ·rename_i h2;rw [if_pos h2] at e;exact JJ e
  ·rename_i h2;rw [if_neg h2] at e;exact JJ e
theorem Dx {xs:Array Aj} {i j:Nat} (hj:j<=xs.size) (k:Nat) :
  ix (JT xs i j ((j - i) / 2)) k=if i<=k/\k < j then ix xs (i+j - 1 - k) else ix xs k:=by
 have e:=getElem?_mirror_all (i:=i) hj k;split
 ·rename_i h;rw [if_pos h] at e;exact JJ e
 ·rename_i h;rw [if_neg h] at e;exact JJ e
section
variable {prog:An} {w:BH} {A:BD} {E:AC->AE->Prop} {s:AE} {a₀:Array Aj} {κ:FK} {lt:Aj->Aj->Bool}
def J5 (prog:An) (w:BH) (A:BD) (s:AE) (a₀:Array Aj) (κ:FK) (lt:Aj->Aj->Bool):Prop:=
 ∀x y,x∈a₀->y∈a₀->∀(Q:Bool->AE->Prop) (E:AC->AE->Prop),Q (lt x y) s->Af (AY prog w) A (keyLt' κ x.1 y.1) Q E s
structure Good (a₀:Array Aj) (κ:FK) (st:BI):Prop where
 perm:(AV st).Perm a₀
 kind:kindOf st=κ
 failed:IJ st=none
theorem Good.size {st:BI} (g:Good a₀ κ st):(AV st).size=a₀.size:=g.perm.size_eq
theorem Good.mem {st:BI} (g:Good a₀ κ st) {i:Nat} (h:i < a₀.size):ix (AV st) i∈a₀:=by
 have h':i < (AV st).size:=by rw [g.size];exact h
 have e:=DA h';have:=Ci e;exact BN.mp ((Er.mp g.perm).mem_iff.mp (BN.mpr this))
theorem Good.setArr {st:BI} (g:Good a₀ κ st) {xs:Array Aj} (hp:xs.Perm (AV st)):Good a₀ κ (setArr st xs):=⟨hp.trans g.perm,g.kind,g.failed⟩
theorem Oy {st:BI} {x y:Aj} {Q:Option Bool->BI->Prop} (C:J5 prog w A s a₀ κ lt) (g:Good a₀ κ st) (hx:x∈a₀) (hy:y∈a₀) (h:Q (some (lt x y)) st):wpS (AY prog w) A E s (lt' x y) Q st:=by
 rw [lt'_eq];refine AQ (HE ?_);rw [g.kind];refine AQ (wpS_lift (IH ?_));refine C x y hx hy _ _ ⟨rfl,?_⟩;exact AR h
theorem ND {st:BI} {i j:Nat} {Q:Option Bool->BI->Prop} (C:J5 prog w A s a₀ κ lt) (g:Good a₀ κ st) (hi:i < a₀.size) (hj:j < a₀.size) (h:Q (some (lt (ix (AV st) i) (ix (AV st) j))) st) :
  wpS (AY prog w) A E s (ji i j) Q st:=by
 rw [ltAt'_eq];refine AQ (HE ?_);show wpS _ _ _ _ (do let x <-elem' (AV st) i;let y <-elem' (AV st) j;lt' x y) Q st;rw [bj,bj,DA (by rw [g.size];exact hi),DA (by rw [g.size];exact hj)];exact AQ (AR (AQ (AR (Oy C g (g.mem hi) (g.mem hj) h))))
def Up (lt:Aj->Aj->Bool) (xs:Array Aj) (lo hi:Nat):Prop:=∀i j,lo<=i->i<=j->j < hi->lt (ix xs j) (ix xs i)=false
def Dn (lt:Aj->Aj->Bool) (xs:Array Aj) (lo hi:Nat):Prop:=∀i j,lo<=i->i<=j->j < hi->lt (ix xs i) (ix xs j)=false
def Out (xs ys:Array Aj) (lo hi:Nat):Prop:=∀i,(i < lo∨hi<=i)->ix ys i=ix xs i
theorem Out.refl {xs:Array Aj} {lo hi:Nat}:Out xs xs lo hi:=λ_ _=>rfl
theorem Out.trans {xs ys zs:Array Aj} {lo hi:Nat} (a:Out xs ys lo hi) (b:Out ys zs lo hi):Out xs zs lo hi:=λi h=>(b i h).trans (a i h)
theorem Up.out {xs ys:Array Aj} {lo hi l h:Nat} (u:Up lt xs l h) (o:Out xs ys lo hi) (d:h<=lo∨hi<=l):Up lt ys l h:=λi j h1 h2 h3=>by
 rw [o i (by lia),o j (by lia)];exact u i j h1 h2 h3
theorem Up.grow {st:BI} (O:Ord (·∈a₀) lt) (g:Good a₀ κ st) {lo hi:Nat} (hs:hi < a₀.size) (u:Up lt (AV st) lo hi) (h0:lo < hi) (h:lt (ix (AV st) hi) (ix (AV st) (hi - 1))=false):Up lt (AV st) lo (hi+1):=λi j h1 h2 h3=>by
 by_cases hj:j < hi
 ·exact u i j h1 h2 hj
 ·have:j=hi:=by lia
  subst this
  by_cases hi':i=j
  ·subst hi';exact O.irr (g.mem hs)
  ·exact O.ntr _ _ _ (g.mem (by lia)) (g.mem (show j - 1 < _ by omega)) (g.mem hs) (u i (j - 1) h1 (by lia) (by lia)) h
theorem wpS_binarySort {st:BI} {lo n ok:Nat} {Q:Bool->BI->Prop} (C:J5 prog w A s a₀ κ lt) (O:Ord (·∈a₀) lt) (hn:lo+n<=a₀.size) (hok:ok<=n) (g:Good a₀ κ st) (u:Up lt (AV st) lo (lo+ok))
  (h:∀st',Good a₀ κ st'->Up lt (AV st') lo (lo+n)->Out (AV st) (AV st') lo (lo+n)->AX st'=AX st->Q true st'):wpS (AY prog w) A E s (binarySort' lo n ok) Q st:=by
 rw [binarySort'_eq]
 refine AQ (C7 (By (I:=λk c st'=>c=(none,())/\Good a₀ κ st'/\Up lt (AV st') lo (lo+min k n)/\Out (AV st) (AV st') lo (lo+n)/\AX st'=AX st)
  (Q:=λc st'=>c=(none,())/\Good a₀ κ st'/\Up lt (AV st') lo (lo+n)/\Out (AV st) (AV st') lo (lo+n)/\AX st'=AX st) ?step ?fin ?init) ?post)
 case post=>
  rintro c st' ⟨rfl,g',u',o',p'⟩;exact AR (h st' g' u' o' p')
 case init=>
  refine ⟨rfl,g,λi j h1 h2 h3=>?_,.refl,rfl⟩
  by_cases h0:ok=0
  ·have:i=j:=by lia
   subst this;exact O.irr (g.mem (by omega))
  ·exact u i j h1 h2 (by lia)
 case fin=>
  rintro c st' ⟨hc,g',u',o',p'⟩;refine ⟨hc,g',?_,o',p'⟩;rwa [show min (max (max ok 1) n) n=n by lia] at u'
 case step=>
  rintro k c st1 hak hkn ⟨rfl,g1,u1,o1,p1⟩;rw [show min k n=k by lia] at u1
  have hk:lo+k < a₀.size:=by lia
  refine AQ (C7 (By (I:=λx c st2=>st2=st1/\∃l r,c=(none,l,r)/\l<=r/\r<=k/\r - l<=k - x /\
    (∀i,i < l->lt (ix (AV st1) (lo+k)) (ix (AV st1) (lo+i))=false)/\(∀i,r<=i->i < k->lt (ix (AV st1) (lo+k)) (ix (AV st1) (lo+i))=true))
   (Q:=λc st2=>st2=st1/\∃l r,c=(none,l,r)/\l<=k /\
    (∀i,i < l->lt (ix (AV st1) (lo+k)) (ix (AV st1) (lo+i))=false)/\(∀i,l<=i->i < k->lt (ix (AV st1) (lo+k)) (ix (AV st1) (lo+i))=true)) ?istep ?ifin ?iinit) ?ipost)
  case iinit=>exact ⟨rfl,0,k,rfl,by lia,by lia,by lia,λi hi=>by lia,λi h1 h2=>by lia⟩
  case ifin=>
   rintro c st2 ⟨rfl,l,r,rfl,hlr,hrk,hm,hlo,hhi⟩
   have:l=r:=by lia
   subst this;exact ⟨rfl,l,l,rfl,hrk,hlo,hhi⟩
  case istep=>
   rintro x c st2 _ hxk ⟨rfl,l,r,rfl,hlr,hrk,hm,hlo,hhi⟩;dsimp only
   by_cases hge:l ≥ r
   ·rw [if_pos hge]
    have:l=r:=by lia
    subst this;exact AR ⟨rfl,l,l,rfl,hrk,hlo,hhi⟩
   ·rw [if_neg hge]
    refine AQ (ND C g1 hk (by lia) ?_)
    cases hless:lt (ix (AV st2) (lo+k)) (ix (AV st2) (lo+(l+r) / 2)) with
    | true=>
     refine AR ⟨rfl,l,(l+r) / 2,rfl,by lia,by lia,by omega,hlo,λi h1 h2=>?_⟩
     cases e:lt (ix (AV st2) (lo+k)) (ix (AV st2) (lo+i)) with
     | true=>rfl
     | false=>
      have:=O.ntr _ _ _ (g1.mem (show lo+(l+r) / 2 < _ by lia)) (g1.mem (show lo+i < _ by lia)) (g1.mem hk) (u1 (lo+(l+r) / 2) (lo+i) (by lia) (by lia) (by lia)) e;rw [hless] at this;cases this
    | false=>
     refine AR ⟨rfl,(l+r) / 2+1,r,rfl,by lia,by omega,by omega,λi h1=>?_,hhi⟩;exact O.ntr _ _ _ (g1.mem (show lo+i < _ by lia)) (g1.mem (show lo+(l+r) / 2 < _ by lia)) (g1.mem hk) (u1 (lo+i) (lo+(l+r) / 2) (by lia) (by lia) (by lia)) hless
  case ipost=>
   rintro c st2 ⟨rfl,l,r,rfl,hlk,hlo,hhi⟩;show wpS _ _ _ _ (do moveDown' (lo+k) (lo+l);pure (G3 (none,()))) _ _;rw [moveDown'_eq]
   have hks:lo+k < (AV st2).size:=by rw [g1.size];exact hk
   have e:∀i,ix (fg (AV st2) (lo+k) (lo+k - (lo+l))) i=if i=lo+l then ix (AV st2) (lo+k) else if lo+l < i/\i<=lo+k then ix (AV st2) (i - 1) else ix (AV st2) i:=λi=>by
    rw [X8 hks (by lia),show lo+k - (lo+k - (lo+l))=lo+l by lia]
   refine AQ (DJ (AR ⟨rfl,g1.setArr (bubble_perm _ _ _),?_,o1.trans λi hi=>?_,p1⟩))
   ·rw [show min (k+1) n=k+1 by lia]
    intro i j h1 h2 h3;show lt (ix (fg (AV st2) (lo+k) (lo+k - (lo+l))) j) (ix (fg (AV st2) (lo+k) (lo+k - (lo+l))) i)=false;rw [e,e]
    repeat' split
    all_goals first
     | (exfalso;lia)
     | exact O.irr (g1.mem hk)
     | (have q:=hlo (i - lo) (by lia);rw [show lo+(i - lo)=i by lia] at q;exact q)
     | (have q:=hhi (j - 1 - lo) (by omega) (by omega);rw [show lo+(j - 1 - lo)=j - 1 by lia] at q;exact O.asym _ _ (g1.mem hk) (g1.mem (by lia)) q)
     | exact u1 _ _ (by omega) (by omega) (by lia)
   ·show ix (fg (AV st2) (lo+k) (lo+k - (lo+l))) i=ix (AV st2) i
    rw [e,if_neg (by lia),if_neg (by lia)]
end
end Srt
namespace Srt
open PySem PyProof.Rows
section
variable {prog:An} {w:BH} {A:BD} {E:AC->AE->Prop} {s:AE} {a₀:Array Aj} {κ:FK} {lt:Aj->Aj->Bool}
theorem JC {σ:Type} {M:QB} {r:String} {Q:PUnit->σ->Prop} {st:σ} (h:Q ⟨⟩ st):wpS M A E s (liftM (rule r):StateT σ Sem PUnit) Q st:=wpS_lift (UV ⟨rfl,h⟩)
theorem Dn.flip {xs:Array Aj} {lo hi:Nat} (hs:hi<=xs.size) (d:Dn lt xs lo hi):Up lt (JT xs lo hi ((hi - lo) / 2)) lo hi:=λi j h1 h2 h3=>by
 rw [Dx hs,Dx hs,if_pos (by lia),if_pos (by lia)];exact d _ _ (by omega) (by omega) (by omega)
theorem Dn.part {xs:Array Aj} {lo hi m:Nat} (hs:hi<=xs.size) (hm:lo<=m) (hmh:m<=hi) (d:Dn lt xs lo hi) (e:Up lt xs m hi):Dn lt (JT xs m hi ((hi - m) / 2)) lo hi:=λi j h1 h2 h3=>by
 rw [Dx hs,Dx hs]
 by_cases hi':m<=i
 ·rw [if_pos (by lia),if_pos (by lia)]
  exact e _ _ (by omega) (by omega) (by omega)
 ·rw [if_neg (by lia)]
  split
  ·exact d _ _ (by omega) (by lia) (by omega)
  ·exact d _ _ (by omega) (by omega) (by omega)
theorem Jg {xs:Array Aj} {i j lo hi:Nat} (hj:j<=xs.size) (h1:lo<=i) (h2:j<=hi):Out xs (JT xs i j ((j - i) / 2)) lo hi:=λk hk=>by
 rw [Dx hj,if_neg (by lia)]
theorem Dn.grow {st:BI} (O:Ord (·∈a₀) lt) (g:Good a₀ κ st) {lo hi:Nat} (hs:hi < a₀.size) (u:Dn lt (AV st) lo hi) (h0:lo < hi) (h:lt (ix (AV st) (hi - 1)) (ix (AV st) hi)=false):Dn lt (AV st) lo (hi+1):=λi j h1 h2 h3=>by
 by_cases hj:j < hi
 ·exact u i j h1 h2 hj
 ·have:j=hi:=by lia
  subst this
  by_cases hi':i=j
  ·subst hi';exact O.irr (g.mem hs)
  ·exact O.ntr _ _ _ (g.mem hs) (g.mem (show j - 1 < _ by omega)) (g.mem (by lia)) h (u i (j - 1) h1 (by lia) (by lia))
theorem Uw (O:Ord (·∈a₀) lt) {st:BI} (g:Good a₀ κ st) {lo:Nat} (h:lo < a₀.size):Up lt (AV st) lo (lo+1):=λi j h1 h2 h3=>by
 have e1:i=lo:=by lia
 have e2:j=lo:=by lia
 rw [e1,e2];exact O.irr (g.mem h)
theorem cA {st:BI} {lo nrem n:Nat} {Q:Option Nat->BI->Prop} (C:J5 prog w A s a₀ κ lt) (O:Ord (·∈a₀) lt) (h1:1<=n) (h2:n<=nrem) (hn:lo+nrem<=a₀.size) (g:Good a₀ κ st) (u:Up lt (AV st) lo (lo+n))
  (h:∀n,1<=n->n<=nrem->Up lt (AV st) lo (lo+n)->Q (some n) st):wpS (AY prog w) A E s (do
   let mut n:=n
   for _ in [n:nrem] do
    let some smaller <-ji (lo+n) (lo+n - 1) | return none
    if smaller then break
    n:=n+1
   return some n) Q st:=by
 refine AQ (C7 (By (I:=λx c st'=>st'=st/\c=(none,x)/\Up lt (AV st) lo (lo+x))
  (Q:=λc st'=>st'=st/\∃n,c=(none,n)/\1<=n/\n<=nrem/\Up lt (AV st) lo (lo+n)) ?step ?fin ⟨rfl,rfl,u⟩) ?post)
 case fin=>
  rintro c st' ⟨rfl,rfl,u⟩
  have e:max n nrem=nrem:=by lia
  rw [e] at u ⊢;exact ⟨rfl,nrem,rfl,by lia,AU _,u⟩
 case step=>
  rintro x c st' hx1 hx2 ⟨rfl,rfl,u⟩;dsimp only;refine AQ (ND C g (by lia) (by lia) ?_)
  cases hq:lt (ix (AV st') (lo+x)) (ix (AV st') (lo+x - 1)) with
  | true=>exact AR ⟨rfl,x,rfl,by lia,by lia,u⟩
  | false=>exact AR ⟨rfl,rfl,Up.grow (hi:=lo+x) O g (by lia) u (by lia) hq⟩
 case post=>
  rintro c st' ⟨rfl,n,rfl,hn1,hn2,u⟩;exact AR (h n hn1 hn2 u)
theorem wpS_countRun {st:BI} {lo nrem:Nat} {Q:Option Nat->BI->Prop} (C:J5 prog w A s a₀ κ lt) (O:Ord (·∈a₀) lt) (h1:1<=nrem) (hn:lo+nrem<=a₀.size) (g:Good a₀ κ st)
  (h:∀st' n,Good a₀ κ st'->1<=n->n<=nrem->Up lt (AV st') lo (lo+n)->Out (AV st) (AV st') lo (lo+nrem)->AX st'=AX st->Q (some n) st'):wpS (AY prog w) A E s (countRun' lo nrem) Q st:=by
 rw [countRun'_eq]
 refine AQ (C7 (By (I:=λx c st'=>st'=st/\c=(none,x)/\Up lt (AV st) lo (lo+x))
  (Q:=λc st'=>st'=st/\∃n,c=(none,n)/\1<=n/\n<=nrem/\Up lt (AV st) lo (lo+n)/\(n=nrem∨lt (ix (AV st) (lo+n)) (ix (AV st) (lo+n - 1))=true)) ?step ?fin ?init) ?post)
 case init=>
  refine ⟨rfl,rfl,λi j a1 a2 a3=>?_⟩
  have:i=j:=by lia
  subst this;exact O.irr (g.mem (by lia))
 case fin=>
  rintro c st' ⟨rfl,rfl,u⟩
  have e:max 1 nrem=nrem:=by lia
  rw [e] at u ⊢;exact ⟨rfl,nrem,rfl,h1,AU _,u,.inl rfl⟩
 case step=>
  rintro x c st' hx1 hx2 ⟨rfl,rfl,u⟩;dsimp only;refine AQ (ND C g (by lia) (by lia) ?_)
  cases hq:lt (ix (AV st') (lo+x)) (ix (AV st') (lo+x - 1)) with
  | true=>exact AR ⟨rfl,x,rfl,hx1,by lia,u,.inr hq⟩
  | false=>exact AR ⟨rfl,rfl,Up.grow (hi:=lo+x) O g (by lia) u (by lia) hq⟩
 case post=>
  rintro c st' ⟨rfl,n,rfl,hn1,hn2,u,hd⟩;dsimp only
  by_cases hnn:n=nrem
  ·rw [if_pos (by simpa using hnn)]
   exact AR (h st' n g hn1 hn2 u .refl rfl)
  ·rw [if_neg (by simpa using hnn)]
   have hd':=hd.resolve_left hnn
   have desc:∀(st1:BI),Good a₀ κ st1->Dn lt (AV st1) lo (lo+(n+1))->Out (AV st') (AV st1) lo (lo+nrem)->AX st1=AX st' ->
     wpS (AY prog w) A E s (do
      liftM (rule "list.sort.descending-run")
      let mut n:=n+1
      let mut neq:=0
      for _ in [n:nrem] do
       let some smaller <-ji (lo+n) (lo+n - 1) | return none
       if smaller then
        if neq > 0 then OU (lo+n - (neq+1)) (lo+n)
        neq:=0
       else
        let some larger <-ji (lo+n - 1) (lo+n) | return none
        if larger then break
        neq:=neq+1
       n:=n+1
      if neq > 0 then OU (lo+n - (neq+1)) (lo+n)
      OU lo (lo+n)
      for _ in [n:nrem] do
       let some smaller <-ji (lo+n) (lo+n - 1) | return none
       if smaller then break
       n:=n+1
      return some n) Q st1:=by
    intro st1 g1 d1 o1 p1;refine AQ (JC ?_)
    refine AQ (C7 (By (I:=λx c st2=>Good a₀ κ st2/\∃q,c=(none,x,q)/\q+1<=x/\Dn lt (AV st2) lo (lo+x)/\Up lt (AV st2) (lo+x - (q+1)) (lo+x)/\Out (AV st') (AV st2) lo (lo+nrem)/\AX st2=AX st')
     (Q:=λc st2=>Good a₀ κ st2/\∃n q,c=(none,n,q)/\n<=nrem/\q+1<=n/\Dn lt (AV st2) lo (lo+n)/\Up lt (AV st2) (lo+n - (q+1)) (lo+n)/\Out (AV st') (AV st2) lo (lo+nrem)/\AX st2=AX st') ?dstep ?dfin ?dinit) ?dpost)
    case dinit=>
     refine ⟨g1,0,rfl,by lia,d1,?_,o1,p1⟩;have:=Uw O g1 (lo:=lo+n) (by lia);rwa [show lo+(n+1) - (0+1)=lo+n by lia,show lo+(n+1)=lo+n+1 by lia]
    case dfin=>
     rintro c st2 ⟨g2,q,rfl,hq,d2,u2,o2,p2⟩
     have e:max (n+1) nrem=nrem:=by lia
     rw [e] at d2 u2 hq ⊢;exact ⟨g2,nrem,q,rfl,AU _,hq,d2,u2,o2,p2⟩
    case dstep=>
     rintro x c st2 hx1 hx2 ⟨g2,q,rfl,hq,d2,u2,o2,p2⟩;dsimp only;refine AQ (ND C g2 (by lia) (by lia) ?_)
     cases hs:lt (ix (AV st2) (lo+x)) (ix (AV st2) (lo+x - 1)) with
     | true=>
      dsimp only;rw [if_pos rfl];have hlt:=O.asym _ _ (g2.mem (show lo+x < _ by lia)) (g2.mem (show lo+x - 1 < _ by lia)) hs
      by_cases hq0:q > 0
      ·rw [if_pos hq0,LO]
       have hsz:lo+x<=(AV st2).size:=by rw [g2.size];lia
       have g3:Good a₀ κ (setArr st2 (JT (AV st2) (lo+x - (q+1)) (lo+x) ((lo+x - (lo+x - (q+1))) / 2))):=g2.setArr (SZ _ _ _ _);have d3:=Dn.part (lt:=lt) (lo:=lo) hsz (show lo<=lo+x - (q+1) by lia) (by omega) d2 u2;refine AQ (DJ (AR ⟨g3,0,rfl,by lia,?_,?_,o2.trans (Jg hsz (by lia) (by lia)),p2⟩))
       ·refine Dn.grow (hi:=lo+x) O g3 (by lia) d3 (by lia) ?_
        show lt (ix (JT (AV st2) (lo+x - (q+1)) (lo+x) ((lo+x - (lo+x - (q+1))) / 2)) (lo+x - 1)) (ix (JT (AV st2) (lo+x - (q+1)) (lo+x) ((lo+x - (lo+x - (q+1))) / 2)) (lo+x))=false;rw [Dx hsz,Dx hsz,if_pos (by omega),if_neg (by lia)];exact O.ntr _ _ _ (g2.mem (by lia)) (g2.mem (show lo+x - 1 < _ by lia)) (g2.mem (by omega)) hlt (d2 _ _ (by lia) (by omega) (by lia))
       ·have:=Uw O g3 (lo:=lo+x) (by lia)
        rwa [show lo+(x+1) - (0+1)=lo+x by lia,show lo+(x+1)=lo+x+1 by lia]
      ·rw [if_neg hq0]
       refine AR ⟨g2,0,rfl,by lia,Dn.grow (hi:=lo+x) O g2 (by lia) d2 (by lia) hlt,?_,o2,p2⟩;have:=Uw O g2 (lo:=lo+x) (by lia);rwa [show lo+(x+1) - (0+1)=lo+x by lia,show lo+(x+1)=lo+x+1 by lia]
     | false=>
      dsimp only;rw [if_neg AK];refine AQ (ND C g2 (by lia) (by lia) ?_)
      cases hl:lt (ix (AV st2) (lo+x - 1)) (ix (AV st2) (lo+x)) with
      | true=>exact AR ⟨g2,x,q,rfl,by lia,hq,d2,u2,o2,p2⟩
      | false=>
       refine AR ⟨g2,q+1,rfl,by lia,Dn.grow (hi:=lo+x) O g2 (by lia) d2 (by lia) hl,?_,o2,p2⟩;rw [show lo+(x+1) - (q+1+1)=lo+x - (q+1) by lia];exact Up.grow (hi:=lo+x) O g2 (by lia) u2 (by omega) hs
    case dpost=>
     rintro c st2 ⟨g2,m,q,rfl,hm,hq,d2,u2,o2,p2⟩;dsimp only
     have hsz:lo+m<=(AV st2).size:=by rw [g2.size];lia
     have last:∀st3,Good a₀ κ st3->Dn lt (AV st3) lo (lo+m)->Out (AV st') (AV st3) lo (lo+nrem)->AX st3=AX st'->∀(R:StateT BI Sem (Option Nat)),R=(do
        let mut n:=m
        for _ in [n:nrem] do
         let some smaller <-ji (lo+n) (lo+n - 1) | return none
         if smaller then break
         n:=n+1
        return some n)->wpS (AY prog w) A E s (do OU lo (lo+m);R) Q st3:=by
      rintro st3 g3 d3 o3 p3 R rfl
      have hsz3:lo+m<=(AV st3).size:=by rw [g3.size];lia
      rw [LO];refine AQ (DJ ?_);have g4:Good a₀ κ (setArr st3 (JT (AV st3) lo (lo+m) ((lo+m - lo) / 2))):=g3.setArr (SZ _ _ _ _)
      exact cA C O (by lia) hm hn g4 (Dn.flip hsz3 d3) λk k1 k2 k3=>h _ k g4 k1 k2 k3 (o3.trans (Jg hsz3 (by lia) (by lia))) p3
     by_cases hq0:q > 0
     ·rw [if_pos hq0,LO]
      refine AQ (DJ ?_);exact last _ (g2.setArr (SZ _ _ _ _)) (Dn.part hsz (by lia) (by omega) d2 u2) (o2.trans (Jg hsz (by lia) (by lia))) p2 _ rfl
     ·rw [if_neg hq0]
      exact last _ g2 d2 o2 p2 _ rfl
   have hlt:=O.asym _ _ (g.mem (show lo+n < _ by lia)) (g.mem (show lo+n - 1 < _ by omega)) hd'
   by_cases hn0:n > 1
   ·rw [if_pos hn0]
    refine AQ (ND C g (by lia) (by omega) ?_)
    cases hr:lt (ix (AV st') lo) (ix (AV st') (lo+n - 1)) with
    | true=>exact AR (h st' n g hn1 hn2 u .refl rfl)
    | false=>
     dsimp only;rw [if_neg AK,LO]
     have hsz:lo+n<=(AV st').size:=by rw [g.size];lia
     have g1:Good a₀ κ (setArr st' (JT (AV st') lo (lo+n) ((lo+n - lo) / 2))):=g.setArr (SZ _ _ _ _)
     have al:∀i j,lo<=i->i < lo+n->lo<=j->j < lo+n->lt (ix (AV st') i) (ix (AV st') j)=false:=λi j i1 i2 j1 j2=>by
      have q1:=u j (lo+n - 1) (by omega) (by lia) (by omega);have q2:=u lo i (by lia) (by omega) (by omega);exact O.ntr _ _ _ (g.mem (by lia)) (g.mem (show lo < _ by lia)) (g.mem (by lia)) (O.ntr _ _ _ (g.mem (by lia)) (g.mem (show lo+n - 1 < _ by lia)) (g.mem (by lia)) q1 hr) q2
     refine AQ (DJ ?_);refine desc _ g1 ?_ (Jg hsz (by lia) (by lia)) rfl;refine Dn.grow (hi:=lo+n) O g1 (by lia) (λi j a1 a2 a3=>?_) (by lia) ?_
     ·show lt (ix (JT (AV st') lo (lo+n) ((lo+n - lo) / 2)) i) (ix (JT (AV st') lo (lo+n) ((lo+n - lo) / 2)) j)=false
      rw [Dx hsz,Dx hsz,if_pos (by lia),if_pos (by lia)];exact al _ _ (by omega) (by omega) (by omega) (by omega)
     ·show lt (ix (JT (AV st') lo (lo+n) ((lo+n - lo) / 2)) (lo+n - 1)) (ix (JT (AV st') lo (lo+n) ((lo+n - lo) / 2)) (lo+n))=false
      rw [Dx hsz,Dx hsz,if_pos (by omega),if_neg (by lia),show lo+(lo+n) - 1 - (lo+n - 1)=lo by omega];exact O.ntr _ _ _ (g.mem (by lia)) (g.mem (show lo+n - 1 < _ by lia)) (g.mem (by lia)) hlt hr
   ·rw [if_neg hn0]
    have e:n=1:=by lia
    subst e;refine desc _ g (Dn.grow (hi:=lo+1) O g (by lia) (λi j a1 a2 a3=>?_) (by lia) hlt) .refl rfl
    have e1:i=lo:=by lia
    have e2:j=lo:=by lia
    rw [e1,e2];exact O.irr (g.mem (by lia))
end
end Srt
namespace Srt
open PySem PyProof.Rows
def lY:Bool->Aj->Array Aj->Nat->Nat->Nat->StateT BI Sem (Option Nat):=sortPriv% PySem.Builtin.gallop
section
variable {prog:An} {w:BH} {A:BD} {E:AC->AE->Prop} {s:AE} {a₀:Array Aj} {κ:FK} {lt:Aj->Aj->Bool}
abbrev BS:=Option (Option Nat)×Nat×Nat
theorem eS {st:BI} {p:Nat->Bool} {n lo hi:Nat} {F:Nat->BS->StateT BI Sem (ForInStep BS)} {T:BS->StateT BI Sem (Option Nat)} {Q:Option Nat->BI->Prop} (hlh:lo<=hi) (hhn:hi<=n)
  (hlo:∀i,i < lo->p i=true) (hhi:∀i,hi<=i->i < n->p i=false) (mono:∀i j,i<=j->j < n->p j=true->p i=true)
  (hF:∀x l h (R:ForInStep BS->BI->Prop),l<=h->h<=n->(l ≥ h->R (.done (none,l,h)) st)->(l < h->p (l+(h - l) / 2)=true->R (.yield (none,l+(h - l) / 2+1,h)) st)->(l < h->p (l+(h - l) / 2)=false->R (.yield (none,l,l+(h - l) / 2)) st) ->
   wpS (AY prog w) A E s (F x (none,l,h)) R st)
  (hT:∀l h,h<=n->(∀i,i < h->p i=true)->(∀i,h<=i->i < n->p i=false)->wpS (AY prog w) A E s (T (none,l,h)) Q st):wpS (AY prog w) A E s (forIn [0:n] (none,lo,hi) F >>= T) Q st:=by
 refine AQ (C7 (By (I:=λx c st'=>st'=st/\∃l h,c=(none,l,h)/\l<=h/\h<=n/\h - l<=n - x/\(∀i,i < l->p i=true)/\(∀i,h<=i->i < n->p i=false))
  (Q:=λc st'=>st'=st/\∃l h,c=(none,l,h)/\h<=n/\(∀i,i < h->p i=true)/\(∀i,h<=i->i < n->p i=false)) ?step ?fin ⟨rfl,lo,hi,rfl,hlh,hhn,by lia,hlo,hhi⟩) ?post)
 case fin=>
  rintro c st' ⟨rfl,l,h,rfl,h1,h2,h3,h4,h5⟩
  have:l=h:=by lia
  subst this;exact ⟨rfl,l,l,rfl,h2,h4,h5⟩
 case step=>
  rintro x c st' _ hx ⟨rfl,l,h,rfl,h1,h2,h3,h4,h5⟩
  refine hF x l h _ h1 h2 (λhge=>?_) (λhlt hp=>?_) λhlt hp=>?_
  ·have:l=h:=by lia
   subst this;exact ⟨rfl,l,l,rfl,h2,h4,h5⟩
  ·exact ⟨rfl,_,_,rfl,by lia,h2,by omega,λi hi=>mono i (l+(h - l) / 2) (by lia) (by lia) hp,h5⟩
  ·refine ⟨rfl,_,_,rfl,by lia,by lia,by omega,h4,λi hi1 hi2=>?_⟩
   cases e:p i with
   | false=>rfl
   | true=>rw [mono _ i hi1 hi2 e] at hp;cases hp
 case post=>
  rintro c st' ⟨rfl,l,h,rfl,h2,h4,h5⟩;exact hT l h h2 h4 h5
theorem Wy {st:BI} {q:Nat->Bool} {n mx:Nat} {F:Nat->BS->StateT BI Sem (ForInStep BS)} {T:BS->StateT BI Sem (Option Nat)} {Q:Option Nat->BI->Prop} (hm:mx<=n) (q0:q 0=true)
  (hF:∀x a b (R:ForInStep BS->BI->Prop),a < b->(b ≥ mx->R (.done (none,a,b)) st)->(b < mx->q b=false->R (.done (none,a,b)) st)->(b < mx->q b=true->R (.yield (none,b,2 * b+1)) st)->wpS (AY prog w) A E s (F x (none,a,b)) R st)
  (hT:∀a b,a < b->q a=true->(a=0∨a < mx)->(b < mx->q b=false)->wpS (AY prog w) A E s (T (none,a,b)) Q st):wpS (AY prog w) A E s (forIn [0:n] (none,0,1) F >>= T) Q st:=by
 refine AQ (C7 (By (I:=λx c st'=>st'=st/\∃a b,c=(none,a,b)/\a < b/\x+1<=b/\q a=true/\(a=0∨a < mx))
  (Q:=λc st'=>st'=st/\∃a b,c=(none,a,b)/\a < b/\q a=true/\(a=0∨a < mx)/\(b < mx->q b=false)) ?step ?fin ⟨rfl,0,1,rfl,by lia,by lia,q0,.inl rfl⟩) ?post)
 case fin=>
  rintro c st' ⟨rfl,a,b,rfl,h1,h2,h3,h4⟩;exact ⟨rfl,a,b,rfl,h1,h3,h4,λh=>by lia⟩
 case step=>
  rintro x c st' _ hx ⟨rfl,a,b,rfl,h1,h2,h3,h4⟩
  refine hF x a b _ h1 (λhge=>?_) (λhlt hp=>?_) λhlt hp=>?_
  ·exact ⟨rfl,a,b,rfl,h1,h3,h4,λh=>by lia⟩
  ·exact ⟨rfl,a,b,rfl,h1,h3,h4,λ_=>hp⟩
  ·exact ⟨rfl,b,2 * b+1,rfl,by lia,by lia,hp,.inr hlt⟩
 case post=>
  rintro c st' ⟨rfl,a,b,rfl,h1,h3,h4,h5⟩;exact hT a b h1 h3 h4 h5
theorem Eg {st:BI} {left:Bool} {key:Aj} {arr:Array Aj} {base n hint:Nat} {Q:Option Nat->BI->Prop} (C:J5 prog w A s a₀ κ lt) (g:Good a₀ κ st) (p:Nat->Bool)
  (hkey:key∈a₀) (harr:∀i,i < n->base+i < arr.size/\ix arr (base+i)∈a₀) (hp:∀i,i < n->p i=if left=true then lt (ix arr (base+i)) key else !lt key (ix arr (base+i)))
  (mono:∀i j,i<=j->j < n->p j=true->p i=true) (hh:hint < n)
  (h:∀k,k<=n->(∀i,i < k->p i=true)->(∀i,k<=i->i < n->p i=false)->Q (some k) st):wpS (AY prog w) A E s (lY left key arr base n hint) Q st:=by
 have bey:∀i,i < n->∀R:Option Bool->BI->Prop,R (some (p i)) st->wpS (AY prog w) A E s (do let x <-elem' arr (base+i);if left=true then lt' x key else do let y <-lt' key x;pure (y.map (!·))) R st:=by
  intro i hi R hR;obtain ⟨h1,h2⟩:=harr i hi;rw [bj,DA h1];refine AQ (AR ?_);rw [hp i hi] at hR
  cases left with
  | true=>exact Oy C g h2 hkey hR
  | false=>exact AQ (Oy C g hkey h2 (AR hR))
 refine (AQ ?_:wpS _ _ _ _ (lY left key arr base n hint) Q st);refine bey hint hh _ ?_
 have fin:∀(lo hi:Nat) {F:Nat->BS->StateT BI Sem (ForInStep BS)} {T:BS->StateT BI Sem (Option Nat)},lo<=hi->hi<=n->(∀i,i < lo->p i=true)->(∀i,hi<=i->i < n->p i=false) ->
   (∀x l h' (R:ForInStep BS->BI->Prop),l<=h'->h'<=n->(l ≥ h'->R (.done (none,l,h')) st)->(l < h'->p (l+(h' - l) / 2)=true->R (.yield (none,l+(h' - l) / 2+1,h')) st)->(l < h'->p (l+(h' - l) / 2)=false->R (.yield (none,l,l+(h' - l) / 2)) st) ->
    wpS (AY prog w) A E s (F x (none,l,h')) R st)->(∀l h',T (none,l,h')=pure (some h'))->wpS (AY prog w) A E s (forIn [0:n] (none,lo,hi) F >>= T) Q st:=λlo hi F T h1 h2 h3 h4 hF hT=>
  eS h1 h2 h3 h4 mono hF λl h' q1 q2 q3=>by rw [hT];exact AR (h h' q1 q2 q3)
 cases hq:p hint with
 | true=>
  dsimp only;rw [if_pos rfl]
  refine Wy (q:=λi=>decide (hint+i < n)&&p (hint+i)) (mx:=n - hint) (by lia) (by simp [hq,hh]) (λx a b R hab r1 r2 r3=>?_) λa b hab qa ha hb=>?_
  ·dsimp only
   by_cases hge:b ≥ n - hint
   ·rw [if_pos hge];exact AR (r1 hge)
   ·rw [if_neg hge]
    refine AQ (bey (hint+b) (by lia) _ ?_);have hd:decide (hint+b < n)=true:=decide_eq_true (by lia)
    cases e:p (hint+b) with
    | true=>exact AR (r3 (by lia) (by simp [hd,e]))
    | false=>exact AR (r2 (by lia) (by simp [hd,e]))
  ·dsimp only
   have pa:p (hint+a)=true:=by simp at qa;exact qa.2
   have han:hint+a < n:=by simp at qa;exact qa.1
   refine fin (hint+a+1) (hint+min b (n - hint)) (by omega) (by omega) (λi hi=>mono i (hint+a) (by lia) han pa) (λi h1 h2=>?_) (λx l h' R l1 l2 r1 r2 r3=>?_) λl h'=>rfl
   ·by_cases hbm:b < n - hint
    ·have:=hb hbm
     have hd:decide (hint+b < n)=true:=decide_eq_true (by lia);rw [hd,fq] at this
     cases e:p i with
     | false=>rfl
     | true=>rw [mono (hint+b) i (by lia) h2 e] at this;cases this
    ·omega
   ·dsimp only
    by_cases hge:l ≥ h'
    ·rw [if_pos hge];exact AR (r1 hge)
    ·rw [if_neg hge]
     refine AQ (bey (l+(h' - l) / 2) (by lia) _ ?_)
     cases e:p (l+(h' - l) / 2) with
     | true=>exact AR (r2 (by lia) e)
     | false=>exact AR (r3 (by lia) e)
 | false=>
  dsimp only;rw [if_neg AK]
  refine Wy (q:=λi=>decide (i<=hint)&&!p (hint - i)) (mx:=hint+1) (by lia) (by simp [hq]) (λx a b R hab r1 r2 r3=>?_) λa b hab qa ha hb=>?_
  ·dsimp only
   by_cases hge:b ≥ hint+1
   ·rw [if_pos hge];exact AR (r1 hge)
   ·rw [if_neg hge]
    refine AQ (bey (hint - b) (by omega) _ ?_);have hd:decide (b<=hint)=true:=decide_eq_true (by lia)
    cases e:p (hint - b) with
    | true=>exact AR (r2 (by lia) (by simp [hd,e]))
    | false=>exact AR (r3 (by lia) (by simp [hd,e]))
  ·dsimp only
   have pa:p (hint - a)=false:=by simp at qa;exact qa.2
   have han:a<=hint:=by simp at qa;exact qa.1
   refine fin (hint+1 - min b (hint+1)) (hint - a) (by omega) (by omega) (λi hi=>?_) (λi h1 h2=>?_) (λx l h' R l1 l2 r1 r2 r3=>?_) λl h'=>rfl
   ·by_cases hbm:b < hint+1
    ·have:=hb hbm
     have hd:decide (b<=hint)=true:=decide_eq_true (by lia);rw [hd,fq] at this;exact mono i (hint - b) (by omega) (by lia) (by simpa using this)
    ·omega
   ·cases e:p i with
    | false=>rfl
    | true=>rw [mono (hint - a) i h1 h2 e] at pa;cases pa
   ·dsimp only
    by_cases hge:l ≥ h'
    ·rw [if_pos hge];exact AR (r1 hge)
    ·rw [if_neg hge]
     refine AQ (bey (l+(h' - l) / 2) (by lia) _ ?_)
     cases e:p (l+(h' - l) / 2) with
     | true=>exact AR (r2 (by lia) e)
     | false=>exact AR (r3 (by lia) e)
end
end Srt
namespace Srt
open PySem PyProof.Rows
structure MI (R:Aj->Aj->Prop) (T o ra rb:List Aj):Prop where
 perm:(o++(ra++rb)).Perm T
 srt:o.Pairwise R
 low:∀x∈o,∀y∈ra++rb,R x y
 sa:ra.Pairwise R
 sb:rb.Pairwise R
structure He (R:Aj->Aj->Prop) (T r:List Aj):Prop where
 perm:r.Perm T
 srt:r.Pairwise R
section
variable {R:Aj->Aj->Prop} {T o ra rb xs:List Aj}
theorem MI.takeA (m:MI R T o (xs++ra) rb) (h:∀x∈xs,∀y∈rb,R x y):MI R T (o++xs) ra rb:=by
 have sa:=BG.mp m.sa;refine ⟨by simpa [BP] using m.perm,BG.mpr ⟨m.srt,sa.1,λx hx y hy=>m.low x hx y (by simp [hy])⟩,λx hx y hy=>?_,sa.2.1,m.sb⟩
 rcases BB.mp hx with hx | hx
 ·exact m.low x hx y (by rcases BB.mp hy with h | h <;> simp [h])
 ·rcases BB.mp hy with hy | hy
  ·exact sa.2.2 x hx y hy
  ·exact h x hx y hy
theorem MI.takeB (m:MI R T o ra (xs++rb)) (h:∀x∈xs,∀y∈ra,R x y):MI R T (o++xs) ra rb:=by
 have sb:=BG.mp m.sb;refine ⟨?_,BG.mpr ⟨m.srt,sb.1,λx hx y hy=>m.low x hx y (by simp [hy])⟩,λx hx y hy=>?_,m.sa,sb.2.1⟩
 ·refine List.Perm.trans ?_ m.perm
  rw [BP];refine JW o ?_;rw [<-BP,<-BP];exact QC rb Uh
 ·rcases BB.mp hx with hx | hx
  ·exact m.low x hx y (by rcases BB.mp hy with h | h <;> simp [h])
  ·rcases BB.mp hy with hy | hy
   ·exact h x hx y hy
   ·exact sb.2.2 x hx y hy
theorem MI.endA (m:MI R T o ra []):He R T (o++ra):=by
 refine ⟨by simpa using m.perm,BG.mpr ⟨m.srt,m.sa,λx hx y hy=>m.low x hx y (by simp [hy])⟩⟩
theorem MI.endB (m:MI R T o [] rb):He R T (o++rb):=by
 refine ⟨by simpa using m.perm,BG.mpr ⟨m.srt,m.sb,λx hx y hy=>m.low x hx y (by simp [hy])⟩⟩
theorem MI.last (m:MI R T o ra rb) (h:∀y∈rb,∀x∈ra,R y x):He R T (o++(rb++ra)):=by
 refine ⟨(JW o Uh).trans m.perm,BG.mpr ⟨m.srt,BG.mpr ⟨m.sb,m.sa,h⟩,λx hx y hy=>m.low x hx y (by rcases BB.mp hy with h | h <;> simp [h])⟩⟩
end
theorem Ol {a:Array Aj} {i:Nat} (h:i < a.size):a.toList.drop i=ix a i :: a.toList.drop (i+1):=by
 rw [CH (by simpa using h)]
 congr 1
 have:=DA h;rw [getElem?_pos a i h] at this;simpa using this
theorem IA {a:Array Aj} {i k:Nat} (h:i+k<=a.size):a.toList.drop i=(a.extract i (i+k)).toList++a.toList.drop (i+k):=by
 have e:(a.extract i (i+k)).toList=(a.toList.drop i).take k:=by simp [Nv]
 rw [e,<-Qb,DW]
theorem Of {a:Array Aj} {i k:Nat} (h:i+k<=a.size) {x:Aj} (hx:x∈(a.extract i (i+k)).toList):∃j,j < k/\x=ix a (i+j):=by
 rw [BN,OY] at hx;obtain ⟨j,hj,rfl⟩:=hx;refine ⟨j,by lia,?_⟩;have:=DA (xs:=a) (i:=i+j) (by lia);rw [getElem?_pos a _ (by lia)] at this;simpa using this
theorem Jp (a:Array Aj) (i:Nat):(a.extract i a.size).toList=a.toList.drop i:=by
 simp [Nv];exact DI (by simp)
theorem FW {a:Array Aj} {i:Nat} {x:Aj} (hx:x∈a.toList.drop i):∃j,i<=j/\j < a.size/\x=ix a j:=by
 obtain ⟨k,hk,rfl⟩:=WE.mp hx;simp at hk;refine ⟨i+k,by lia,by omega,?_⟩;have:=DA (xs:=a) (i:=i+k) (by omega);rw [getElem?_pos a _ (by omega)] at this;simpa using this
section
variable {prog:An} {w:BH} {A:BD} {E:AC->AE->Prop} {s:AE} {a₀:Array Aj} {κ:FK} {lt:Aj->Aj->Bool}
theorem BY {st:BI} {a:Array Aj} {i:Nat} {Q:Aj->BI->Prop} (h:i < a.size) (hq:Q (ix a i) st):wpS (AY prog w) A E s (elem' a i) Q st:=by
 rw [bj,DA h];exact AR hq
def mLo:Array Aj->Array Aj->StateT BI Sem (Array Aj):=sortPriv% PySem.Builtin.mergeLo
def mHi:Array Aj->Array Aj->StateT BI Sem (Array Aj):=sortPriv% PySem.Builtin.mergeHi
structure KG (a₀:Array Aj) (κ:FK) (st st':BI):Prop where
 good:Good a₀ κ st'
 arr:AV st'=AV st
 pend:AX st'=AX st
theorem KG.gal {st st':BI} (h:KG a₀ κ st st') (n:Nat):KG a₀ κ st (Gs (kindOf st') (AV st') (AX st') n (IJ st')):=⟨⟨h.good.perm,h.good.kind,h.good.failed⟩,h.arr,h.pend⟩
abbrev Rl (lt:Aj->Aj->Bool) (x y:Aj):Prop:=lt y x=false
theorem S8 (O:Ord (·∈a₀) lt) {a:Array Aj} (ma:∀i,i < a.size->ix a i∈a₀) (sa:a.toList.Pairwise (Rl lt)):∀i j,i<=j->j < a.size->Rl lt (ix a i) (ix a j):=λi j hij hj=>by
 by_cases e:i=j
 ·subst e;exact O.irr (ma i hj)
 ·have hd:=Ol (a:=a) (i:=i) (by lia)
  have:=sa.sublist (Yw i a.toList);rw [hd] at this;refine (M6.mp this).1 _ ?_;rw [show a.toList.drop (i+1)=(a.extract (i+1) (i+1+(j - (i+1)))).toList++a.toList.drop (i+1+(j - (i+1))) from IA (by lia),show i+1+(j - (i+1))=j by lia,Ol hj];simp
theorem Rv {a:Array Aj} (ma:∀x∈a.toList,x∈a₀):∀i,i < a.size->ix a i∈a₀:=λi hi=>ma _ (BN.mpr (Ci (DA hi)))
theorem OZ {st:BI} {n:Nat} {Q:Unit->BI->Prop} (h:Q () (Gs (kindOf st) (AV st) (AX st) n (IJ st))):wpS (AY prog w) A E s ((sortPriv% PySem.Builtin.setMinGallop) n) Q st:=DJ h
abbrev L7:=Option (Array Aj)×Array Aj×Nat×Nat×Nat×Nat×Nat
theorem bx {st:BI} {a b:Array Aj} {Q:Array Aj->BI->Prop} (C:J5 prog w A s a₀ κ lt) (O:Ord (·∈a₀) lt) (g:Good a₀ κ st)
  (ma:∀x∈a.toList,x∈a₀) (mb:∀x∈b.toList,x∈a₀) (sa:a.toList.Pairwise (Rl lt)) (sb:b.toList.Pairwise (Rl lt)) (na:0 < a.size) (nb:0 < b.size)
  (h0:∀x∈a.toList,Rl lt (ix b 0) x) (h1:∀y∈b.toList,Rl lt y (ix a (a.size - 1)))
  (h:∀r st',KG a₀ κ st st'->He (Rl lt) (a.toList++b.toList) r.toList->Q r st'):wpS (AY prog w) A E s (mLo a b) Q st:=by
 have ia0:=Rv ma;have ib0:=Rv mb;have ua:=S8 O ia0 sa;have ub:=S8 O ib0 sb
 have tr:∀x y z:Aj,x∈a₀->y∈a₀->z∈a₀->Rl lt x y->Rl lt y z->Rl lt x z:=λx y z hx hy hz h1 h2=>O.ntr x y z hx hy hz h1 h2
 let M (out:Array Aj) (ia ib:Nat):Prop:=MI (Rl lt) (a.toList++b.toList) out.toList (a.toList.drop ia) (b.toList.drop ib)
 have tA:∀out ia ib,M out ia ib->ia < a.size->(∀j,ib<=j->j < b.size->Rl lt (ix a ia) (ix b j))->M (out.push (ix a ia)) (ia+1) ib:=λout ia ib m hia hr=>by
  have m':MI (Rl lt) (a.toList++b.toList) out.toList ([ix a ia]++a.toList.drop (ia+1)) (b.toList.drop ib):=by rw [G2,<-Ol hia];exact m
  have:=m'.takeA λx hx y hy=>by
   obtain ⟨j,j1,j2,rfl⟩:=FW hy;rw [Ag.mp hx];exact hr j j1 j2
  simpa [M] using this
 have tB:∀out ia ib,M out ia ib->ib < b.size->(∀j,ia<=j->j < a.size->Rl lt (ix b ib) (ix a j))->M (out.push (ix b ib)) ia (ib+1):=λout ia ib m hib hr=>by
  have m':MI (Rl lt) (a.toList++b.toList) out.toList (a.toList.drop ia) ([ix b ib]++b.toList.drop (ib+1)):=by rw [G2,<-Ol hib];exact m
  have:=m'.takeB λx hx y hy=>by
   obtain ⟨j,j1,j2,rfl⟩:=FW hy;rw [Ag.mp hx];exact hr j j1 j2
  simpa [M] using this
 have sA:∀out ia ib k,M out ia ib->ia+k<=a.size->(∀i j,i < k->ib<=j->j < b.size->Rl lt (ix a (ia+i)) (ix b j))->M (out++a.extract ia (ia+k)) (ia+k) ib:=λout ia ib k m hk hr=>by
  have m':MI (Rl lt) (a.toList++b.toList) out.toList ((a.extract ia (ia+k)).toList++a.toList.drop (ia+k)) (b.toList.drop ib):=by rw [<-IA hk];exact m
  have:=m'.takeA λx hx y hy=>by
   obtain ⟨j,j1,j2,rfl⟩:=FW hy;obtain ⟨i,i1,rfl⟩:=Of hk hx;exact hr i j i1 j1 j2
  show MI _ _ (out++a.extract ia (ia+k)).toList _ _;rw [BF];exact this
 have sB:∀out ia ib k,M out ia ib->ib+k<=b.size->(∀i j,i < k->ia<=j->j < a.size->Rl lt (ix b (ib+i)) (ix a j))->M (out++b.extract ib (ib+k)) ia (ib+k):=λout ia ib k m hk hr=>by
  have m':MI (Rl lt) (a.toList++b.toList) out.toList (a.toList.drop ia) ((b.extract ib (ib+k)).toList++b.toList.drop (ib+k)):=by rw [<-IA hk];exact m
  have:=m'.takeB λx hx y hy=>by
   obtain ⟨j,j1,j2,rfl⟩:=FW hy;obtain ⟨i,i1,rfl⟩:=Of hk hx;exact hr i j i1 j1 j2
  show MI _ _ (out++b.extract ib (ib+k)).toList _ _;rw [BF];exact this
 have eB:∀out ia ib,M out ia ib->ib=b.size->He (Rl lt) (a.toList++b.toList) (out++a.extract ia a.size++b.extract ib b.size).toList:=λout ia ib m e=>by
  subst e
  have m':MI (Rl lt) (a.toList++b.toList) out.toList (a.toList.drop ia) []:=by
   have:b.toList.drop b.size=[]:=by simp
   rw [<-this];exact m
  rw [BF,BF,Jp,Jp,show b.toList.drop b.size=[] by simp,A5];exact m'.endA
 have eA:∀out ia ib,M out ia ib->ia=a.size->He (Rl lt) (a.toList++b.toList) (out++a.extract ia a.size++b.extract ib b.size).toList:=λout ia ib m e=>by
  subst e
  have m':MI (Rl lt) (a.toList++b.toList) out.toList [] (b.toList.drop ib):=by
   have:a.toList.drop a.size=[]:=by simp
   rw [<-this];exact m
  rw [BF,BF,Jp,Jp,show a.toList.drop a.size=[] by simp,A5];exact m'.endB
 have eL:∀out ia ib,M out ia ib->ia+1=a.size->He (Rl lt) (a.toList++b.toList) (out++b.extract ib b.size++a.extract ia a.size).toList:=λout ia ib m e=>by
  have:=m.last λy hy x hx=>by
   obtain ⟨j,j1,j2,rfl⟩:=FW hx;obtain ⟨i,i1,i2,rfl⟩:=FW hy
   have:j=a.size - 1:=by lia
   subst this;exact h1 _ (BN.mpr (Ci (DA i2)))
  rw [BF,BF,Jp,Jp,BP];exact this
 have m0:M #[] 0 0:=⟨by simp,by simp,by simp,by simpa using sa,by simpa using sb⟩
 have m1:M #[ix b 0] 0 1:=by
  have:=tB #[] 0 0 m0 nb λj _ hj=>h0 _ (BN.mpr (Ci (DA hj)))
  simpa using this
 refine (AQ (JC ?_):wpS _ _ _ _ (mLo a b) Q st);refine AQ (BY nb ?_)
 by_cases c1:1=b.size
 ·refine (show wpS (AY prog w) A E s (if (1==b.size)=true then _ else _) Q st from ?_)
  rw [if_pos (by simpa using c1)];exact AR (h _ st ⟨g,rfl,rfl⟩ (eB _ _ _ m1 c1))
 refine (show wpS (AY prog w) A E s (if (1==b.size)=true then _ else _) Q st from ?_);rw [if_neg (by simpa using c1)]
 by_cases c2:0+1=a.size
 ·rw [if_pos (by simpa using c2)]
  exact AR (h _ st ⟨g,rfl,rfl⟩ (eL _ _ _ m1 c2))
 rw [if_neg (by simpa using c2)];refine AQ (HE ?_)
 refine AQ (C7 (By (I:=λx c st'=>KG a₀ κ st st'/\∃out ia ib mg,c=(none,out,ia,ib,mg)/\M out ia ib/\ia+1 < a.size/\ib < b.size/\1+x<=ia+ib)
  (Q:=λc st'=>KG a₀ κ st st'/\∃r z,c=(some r,z)/\He (Rl lt) (a.toList++b.toList) r.toList) ?step ?fin ?init) ?post)
 case init=>exact ⟨⟨g,rfl,rfl⟩,_,_,_,_,rfl,m1,by lia,by lia,by lia⟩
 case fin=>
  rintro c st' ⟨_,out,ia,ib,mg,_,_,k1,k2,k3⟩
  lia
 case post=>
  rintro c st' ⟨s1,r,z,rfl,f⟩;exact AR (h r st' s1 f)
 case step=>
  rintro x c st1 _ _ ⟨s1,out,ia,ib,mg,rfl,m,k1,k2,k3⟩
  refine AQ (C7 (By (I:=λy c st'=>st'=st1/\∃out' ia' ib' ac bc,c=(none,out',ia',ib',ac,bc)/\M out' ia' ib'/\ia'+1 < a.size/\ib' < b.size/\ia+ib+y<=ia'+ib')
   (Q:=λc st'=>st'=st1/\((∃r z,c=(some r,z)/\He (Rl lt) (a.toList++b.toList) r.toList)∨∃out' ia' ib' ac bc,c=(none,out',ia',ib',ac,bc)/\M out' ia' ib'/\ia'+1 < a.size/\ib' < b.size/\ia+ib+1<=ia'+ib')) ?step1 ?fin1 ?init1) ?post1)
  case init1=>exact ⟨rfl,out,ia,ib,0,0,rfl,m,k1,k2,by lia⟩
  case fin1=>
   rintro c st' ⟨rfl,out',ia',ib',ac,bc,rfl,m',q1,q2,q3⟩;exact ⟨rfl,.inr ⟨out',ia',ib',ac,bc,rfl,m',q1,q2,by lia⟩⟩
  case step1=>
   rintro y c st' _ _ ⟨rfl,out',ia',ib',ac,bc,rfl,m',q1,q2,q3⟩;refine AQ (BY (i:=ib') q2 ?_);refine AQ (BY (i:=ia') (show ia' < a.size by lia) ?_);refine AQ (Oy C s1.good (ib0 _ q2) (ia0 _ (by lia)) ?_)
   cases e:lt (ix b ib') (ix a ia') with
   | true=>
    refine AQ (BY q2 ?_);have r0:Rl lt (ix b ib') (ix a ia'):=O.asym _ _ (ib0 _ q2) (ia0 _ (by lia)) e
    have m2:=tB out' ia' ib' m' q2 λj j1 j2=>tr _ _ _ (ib0 _ q2) (ia0 _ (by lia)) (ia0 _ j2) r0 (ua ia' j j1 j2)
    refine (show wpS (AY prog w) A E s (if (ib'+1==b.size)=true then _ else _) _ st' from ?_)
    by_cases d:ib'+1=b.size
    ·rw [if_pos (by simpa using d)]
     exact AR ⟨rfl,.inl ⟨_,_,rfl,eB _ _ _ m2 d⟩⟩
    ·rw [if_neg (by simpa using d)]
     split
     ·exact AR ⟨rfl,.inr ⟨_,ia',ib'+1,_,_,rfl,m2,by omega,by lia,by lia⟩⟩
     ·exact AR ⟨rfl,_,ia',ib'+1,_,_,rfl,m2,by omega,by lia,by lia⟩
   | false=>
    refine AQ (BY (show ia' < a.size by lia) ?_)
    have m2:=tA out' ia' ib' m' (by lia) λj j1 j2=>tr _ _ _ (ia0 _ (by lia)) (ib0 _ q2) (ib0 _ j2) e (ub ib' j j1 j2)
    refine (show wpS (AY prog w) A E s (if (ia'+1+1==a.size)=true then _ else _) _ st' from ?_)
    by_cases d:ia'+1+1=a.size
    ·rw [if_pos (by simpa using d)]
     exact AR ⟨rfl,.inl ⟨_,_,rfl,eL _ _ _ m2 d⟩⟩
    ·rw [if_neg (by simpa using d)]
     split
     ·exact AR ⟨rfl,.inr ⟨_,ia'+1,ib',_,_,rfl,m2,by lia,by omega,by lia⟩⟩
     ·exact AR ⟨rfl,_,ia'+1,ib',_,_,rfl,m2,by lia,by omega,by lia⟩
  case post1=>
   rintro c st' ⟨rfl,⟨r,z,rfl,f⟩ | ⟨out',ia',ib',ac,bc,rfl,m',q1,q2,q3⟩⟩
   ·exact AR ⟨s1,_,_,rfl,f⟩
   refine AQ (JC ?_)
   refine AQ (C7 (By (I:=λy c st2=>KG a₀ κ st st2/\∃out2 ia2 ib2 mg2 ac bc,c=(none,out2,ia2,ib2,mg2,ac,bc)/\M out2 ia2 ib2/\ia2+1 < a.size/\ib2 < b.size/\ia+ib+1<=ia2+ib2)
    (Q:=λc st2=>KG a₀ κ st st2/\((∃r z,c=(some r,z)/\He (Rl lt) (a.toList++b.toList) r.toList)∨∃out2 ia2 ib2 mg2 ac bc,c=(none,out2,ia2,ib2,mg2,ac,bc)/\M out2 ia2 ib2/\ia2+1 < a.size/\ib2 < b.size/\ia+ib+1<=ia2+ib2)) ?step2 ?fin2 ?init2) ?post2)
   case init2=>exact ⟨s1,out',ia',ib',mg+1,ac,bc,rfl,m',q1,q2,q3⟩
   case fin2=>
    rintro c st2 ⟨s2,out2,ia2,ib2,mg2,ac2,bc2,rfl,m2,p1,p2,p3⟩;exact ⟨s2,.inr ⟨out2,ia2,ib2,mg2,ac2,bc2,rfl,m2,p1,p2,p3⟩⟩
   case post2=>
    rintro c st2 ⟨s2,⟨r,z,rfl,f⟩ | ⟨out2,ia2,ib2,mg2,ac2,bc2,rfl,m2,p1,p2,p3⟩⟩
    ·exact AR ⟨s2,_,_,rfl,f⟩
    ·exact AQ (OZ (AR ⟨s2.gal _,out2,ia2,ib2,mg2+1,rfl,m2,p1,p2,by lia⟩))
   case step2=>
    rintro y c st2 _ _ ⟨s2,out2,ia2,ib2,mg2,ac2,bc2,rfl,m2,p1,p2,p3⟩
    let P:ForInStep L7->BI->Prop:=λr st'=>match r with
     | .done c'=>KG a₀ κ st st'/\((∃r z,c'=(some r,z)/\He (Rl lt) (a.toList++b.toList) r.toList)∨∃out2 ia2 ib2 mg2 ac bc,c'=(none,out2,ia2,ib2,mg2,ac,bc)/\M out2 ia2 ib2/\ia2+1 < a.size/\ib2 < b.size/\ia+ib+1<=ia2+ib2)
     | .yield c'=>KG a₀ κ st st'/\∃out2 ia2 ib2 mg2 ac bc,c'=(none,out2,ia2,ib2,mg2,ac,bc)/\M out2 ia2 ib2/\ia2+1 < a.size/\ib2 < b.size/\ia+ib+1<=ia2+ib2
    refine C7 (Q:=P) ?_ λr st' h=>by cases r <;> exact h
    refine (show wpS (AY prog w) A E s (if mg2 > 1 then _ else _) P st2 from ?_);split
    all_goals
     refine AQ (OZ ?_);refine AQ (BY (i:=ib2) p2 ?_);refine AQ (Eg (base:=ia2) (n:=a.size - ia2) (hint:=0) (arr:=a) (key:=ix b ib2) (left:=false) C (s2.gal _).good (λi=>!lt (ix b ib2) (ix a (ia2+i))) (ib0 _ p2) (λi hi=>⟨by lia,ia0 _ (by lia)⟩) (λi hi=>rfl) (λi j hij hj e=>?_) (by lia) λk hk k1 k2=>?_)
     ·have e':lt (ix b ib2) (ix a (ia2+j))=false:=by simpa using e
      have:=tr _ _ _ (ia0 _ (by lia)) (ia0 _ (by lia)) (ib0 _ p2) (ua (ia2+i) (ia2+j) (by lia) (by lia)) e';simpa using this
     ·have far:∀j,ia2+k<=j->j < a.size->Rl lt (ix b ib2) (ix a j):=λj j1 j2=>by
       have:=k2 (j - ia2) (by lia) (by lia);rw [show ia2+(j - ia2)=j by lia] at this;exact O.asym _ _ (ib0 _ p2) (ia0 _ j2) (by simpa using this)
      have m5:=sA out2 ia2 ib2 k m2 (by lia) λi j hi j1 j2=>tr _ _ _ (ia0 _ (by lia)) (ib0 _ p2) (ib0 _ j2) (by simpa using k1 i hi) (ub ib2 j j1 j2)
      refine (show wpS (AY prog w) A E s (if k > 0 then _ else _) P _ from ?_)
      by_cases hk0:k > 0
      ·rw [if_pos hk0]
       refine (show wpS (AY prog w) A E s (if (ia2+k+1==a.size)=true then _ else _) P _ from ?_)
       by_cases d1:ia2+k+1=a.size
       ·rw [if_pos (by simpa using d1)]
        exact AR ⟨s2.gal _,.inl ⟨_,_,rfl,eL _ _ _ m5 d1⟩⟩
       rw [if_neg (by simpa using d1)]
       by_cases d2:ia2+k=a.size
       ·rw [if_pos (by simpa using d2)]
        exact AR ⟨s2.gal _,.inl ⟨_,_,rfl,eA _ _ _ m5 d2⟩⟩
       rw [if_neg (by simpa using d2)]
       have c1:ia2+k+1 < a.size:=by lia
       have c3:ia+ib+1<=ia2+k+ib2:=by lia
       have m4:=tB _ _ _ m5 p2 far;refine AQ (BY (i:=ib2) p2 ?_);refine (show wpS (AY prog w) A E s (if (ib2+1==b.size)=true then _ else _) P _ from ?_)
       by_cases d:ib2+1=b.size
       ·rw [if_pos (by simpa using d)]
        exact AR ⟨s2.gal _,.inl ⟨_,_,rfl,eB _ _ _ m4 d⟩⟩
       rw [if_neg (by simpa using d)];refine AQ (BY (i:=ia2+k) (by lia) ?_);refine AQ (Eg (base:=ib2+1) (n:=b.size - (ib2+1)) (hint:=0) (arr:=b) (key:=ix a (ia2+k)) (left:=true) C (s2.gal _).good (λi=>lt (ix b (ib2+1+i)) (ix a (ia2+k))) (ia0 _ (by lia)) (λi hi=>⟨by lia,ib0 _ (by lia)⟩) (λi hi=>rfl) (λi j hij hj e=>?_) (by lia) λk3 hk3 k4 k5=>?_)
       ·cases e2:lt (ix b (ib2+1+i)) (ix a (ia2+k)) with
        | true=>rfl
        | false=>
         have:=tr _ _ _ (ia0 _ (by lia)) (ib0 _ (by lia)) (ib0 _ (by lia)) e2 (ub (ib2+1+i) (ib2+1+j) (by lia) (by lia));exact nomatch (show true=false from (show lt (ix b (ib2+1+j)) (ix a (ia2+k))=true from e).symm.trans this)
       ·have far2:∀j,ib2+1+k3<=j->j < b.size->Rl lt (ix a (ia2+k)) (ix b j):=λj j1 j2=>by
         have:=k5 (j - (ib2+1)) (by lia) (by omega);rwa [show ib2+1+(j - (ib2+1))=j by lia] at this
        have m6:=sB _ (ia2+k) (ib2+1) k3 m4 (by lia) λi j hi j1 j2=>tr _ _ _ (ib0 _ (by lia)) (ia0 _ (by lia)) (ia0 _ j2) (O.asym _ _ (ib0 _ (by lia)) (ia0 _ (by lia)) (k4 i hi)) (ua (ia2+k) j j1 j2)
        refine (show wpS (AY prog w) A E s (if k3 > 0 then _ else _) P _ from ?_)
        by_cases hk3:k3 > 0
        ·rw [if_pos hk3]
         refine (show wpS (AY prog w) A E s (if (ib2+1+k3==b.size)=true then _ else _) P _ from ?_)
         by_cases d2:ib2+1+k3=b.size
         ·rw [if_pos (by simpa using d2)]
          exact AR ⟨s2.gal _,.inl ⟨_,_,rfl,eB _ _ _ m6 d2⟩⟩
         rw [if_neg (by simpa using d2)];have m7:=tA _ _ _ m6 (by lia) far2;refine AQ (BY (i:=ia2+k) (by lia) ?_);refine (show wpS (AY prog w) A E s (if (ia2+k+1+1==a.size)=true then _ else _) P _ from ?_)
         by_cases d3:ia2+k+1+1=a.size
         ·rw [if_pos (by simpa using d3)]
          exact AR ⟨s2.gal _,.inl ⟨_,_,rfl,eL _ _ _ m7 d3⟩⟩
         rw [if_neg (by simpa using d3)];split
         ·exact AR ⟨s2.gal _,.inr ⟨_,ia2+k+1,ib2+1+k3,_,_,_,rfl,m7,by lia,by lia,by lia⟩⟩
         ·exact AR ⟨s2.gal _,_,ia2+k+1,ib2+1+k3,_,_,_,rfl,m7,by lia,by lia,by lia⟩
        ·rw [if_neg hk3]
         have:k3=0:=by lia
         subst this;have m7:=tA _ _ _ m4 (by lia) far2;refine AQ (BY (i:=ia2+k) (by lia) ?_);refine (show wpS (AY prog w) A E s (if (ia2+k+1+1==a.size)=true then _ else _) P _ from ?_)
         by_cases d3:ia2+k+1+1=a.size
         ·rw [if_pos (by simpa using d3)]
          exact AR ⟨s2.gal _,.inl ⟨_,_,rfl,eL _ _ _ m7 d3⟩⟩
         rw [if_neg (by simpa using d3)];split
         ·exact AR ⟨s2.gal _,.inr ⟨_,ia2+k+1,ib2+1,_,_,_,rfl,m7,by lia,by lia,by lia⟩⟩
         ·exact AR ⟨s2.gal _,_,ia2+k+1,ib2+1,_,_,_,rfl,m7,by lia,by lia,by lia⟩
      ·rw [if_neg hk0]
       have:k=0:=by lia
       subst this
       have c1:ia2+1 < a.size:=by omega
       have c3:ia+ib+1<=ia2+ib2:=by omega
       have m4:=tB _ _ _ m2 p2 far;refine AQ (BY (i:=ib2) p2 ?_);refine (show wpS (AY prog w) A E s (if (ib2+1==b.size)=true then _ else _) P _ from ?_)
       by_cases d:ib2+1=b.size
       ·rw [if_pos (by simpa using d)]
        exact AR ⟨s2.gal _,.inl ⟨_,_,rfl,eB _ _ _ m4 d⟩⟩
       rw [if_neg (by simpa using d)];refine AQ (BY (i:=ia2) (by lia) ?_);refine AQ (Eg (base:=ib2+1) (n:=b.size - (ib2+1)) (hint:=0) (arr:=b) (key:=ix a ia2) (left:=true) C (s2.gal _).good (λi=>lt (ix b (ib2+1+i)) (ix a ia2)) (ia0 _ (by lia)) (λi hi=>⟨by lia,ib0 _ (by lia)⟩) (λi hi=>rfl) (λi j hij hj e=>?_) (by lia) λk3 hk3 k4 k5=>?_)
       ·cases e2:lt (ix b (ib2+1+i)) (ix a ia2) with
        | true=>rfl
        | false=>
         have:=tr _ _ _ (ia0 _ (by lia)) (ib0 _ (by lia)) (ib0 _ (by lia)) e2 (ub (ib2+1+i) (ib2+1+j) (by lia) (by lia));exact nomatch (show true=false from (show lt (ix b (ib2+1+j)) (ix a ia2)=true from e).symm.trans this)
       ·have far2:∀j,ib2+1+k3<=j->j < b.size->Rl lt (ix a ia2) (ix b j):=λj j1 j2=>by
         have:=k5 (j - (ib2+1)) (by lia) (by omega);rwa [show ib2+1+(j - (ib2+1))=j by lia] at this
        have m6:=sB _ ia2 (ib2+1) k3 m4 (by lia) λi j hi j1 j2=>tr _ _ _ (ib0 _ (by lia)) (ia0 _ (by lia)) (ia0 _ j2) (O.asym _ _ (ib0 _ (by lia)) (ia0 _ (by lia)) (k4 i hi)) (ua ia2 j j1 j2)
        refine (show wpS (AY prog w) A E s (if k3 > 0 then _ else _) P _ from ?_)
        by_cases hk3:k3 > 0
        ·rw [if_pos hk3]
         refine (show wpS (AY prog w) A E s (if (ib2+1+k3==b.size)=true then _ else _) P _ from ?_)
         by_cases d2:ib2+1+k3=b.size
         ·rw [if_pos (by simpa using d2)]
          exact AR ⟨s2.gal _,.inl ⟨_,_,rfl,eB _ _ _ m6 d2⟩⟩
         rw [if_neg (by simpa using d2)];have m7:=tA _ _ _ m6 (by lia) far2;refine AQ (BY (i:=ia2) (by lia) ?_);refine (show wpS (AY prog w) A E s (if (ia2+1+1==a.size)=true then _ else _) P _ from ?_)
         by_cases d3:ia2+1+1=a.size
         ·rw [if_pos (by simpa using d3)]
          exact AR ⟨s2.gal _,.inl ⟨_,_,rfl,eL _ _ _ m7 d3⟩⟩
         rw [if_neg (by simpa using d3)];split
         ·exact AR ⟨s2.gal _,.inr ⟨_,ia2+1,ib2+1+k3,_,_,_,rfl,m7,by lia,by lia,by lia⟩⟩
         ·exact AR ⟨s2.gal _,_,ia2+1,ib2+1+k3,_,_,_,rfl,m7,by lia,by lia,by lia⟩
        ·rw [if_neg hk3]
         have:k3=0:=by lia
         subst this;have m7:=tA _ _ _ m4 (by lia) far2;refine AQ (BY (i:=ia2) (by lia) ?_);refine (show wpS (AY prog w) A E s (if (ia2+1+1==a.size)=true then _ else _) P _ from ?_)
         by_cases d3:ia2+1+1=a.size
         ·rw [if_pos (by simpa using d3)]
          exact AR ⟨s2.gal _,.inl ⟨_,_,rfl,eL _ _ _ m7 d3⟩⟩
         rw [if_neg (by simpa using d3)];split
         ·exact AR ⟨s2.gal _,.inr ⟨_,ia2+1,ib2+1,_,_,_,rfl,m7,by lia,by lia,by lia⟩⟩
         ·exact AR ⟨s2.gal _,_,ia2+1,ib2+1,_,_,_,rfl,m7,by lia,by lia,by lia⟩
end
end Srt
namespace Srt
open PySem PyProof.Rows
theorem MI.last2 {R:Aj->Aj->Prop} {T o ra rb:List Aj} (m:MI R T o ra rb) (h:∀x∈ra,∀y∈rb,R x y):He R T (o++(ra++rb)):=by
 refine ⟨m.perm,BG.mpr ⟨m.srt,BG.mpr ⟨m.sa,m.sb,h⟩,λx hx y hy=>m.low x hx y hy⟩⟩
theorem He.rev {lt:Aj->Aj->Bool} {T r:List Aj} (f:He (λx y=>Rl lt y x) T r):He (Rl lt) T r.reverse:=⟨r.reverse_perm.trans f.perm,Kx.mpr f.srt⟩
theorem WS {a:Array Aj} {i:Nat} (h:i < a.size):(a.toList.take (i+1)).reverse=ix a i :: (a.toList.take i).reverse:=by
 have:=DA h;rw [getElem?_pos a i h] at this;rw [Nt,show a.toList[i]?=some (ix a i) by simpa using DA h];simp
theorem TB {a:Array Aj} {i n:Nat} (h:i<=n) (hn:n<=a.size):(a.toList.take n).reverse=(a.extract i n).toList.reverse++(a.toList.take i).reverse:=by
 have e:(a.extract i n).toList=(a.toList.take n).drop i:=by simp [Nv,List.drop_take]
 rw [e,<-List.reverse_append]
 congr 1
 have:=DW i (a.toList.take n);rw [List.take_take,show min i n=i by lia] at this;exact this.symm
theorem FV {a:Array Aj} {n:Nat} {x:Aj} (hx:x∈(a.toList.take n).reverse):∃j,j < n/\j < a.size/\x=ix a j:=by
 rw [bW] at hx;obtain ⟨k,hk,rfl⟩:=WE.mp hx;simp at hk;refine ⟨k,by lia,by lia,?_⟩;have:=DA (xs:=a) (i:=k) (by lia);rw [getElem?_pos a _ (by lia)] at this;simpa using this
theorem To {a:Array Aj} {i n:Nat} {x:Aj} (hx:x∈(a.extract i n).toList.reverse):∃j,i<=j/\j < n/\j < a.size/\x=ix a j:=by
 rw [bW,BN,OY] at hx;obtain ⟨j,hj,rfl⟩:=hx;refine ⟨i+j,by lia,by omega,by omega,?_⟩;have:=DA (xs:=a) (i:=i+j) (by omega);rw [getElem?_pos a _ (by omega)] at this;simpa using this
theorem Hk (a:Array Aj) (n:Nat):(a.extract 0 n).toList=a.toList.take n:=by simp [Nv]
section
variable {prog:An} {w:BH} {A:BD} {E:AC->AE->Prop} {s:AE} {a₀:Array Aj} {κ:FK} {lt:Aj->Aj->Bool}
theorem bz {st:BI} {a b:Array Aj} {Q:Array Aj->BI->Prop} (C:J5 prog w A s a₀ κ lt) (O:Ord (·∈a₀) lt) (g:Good a₀ κ st)
  (ma:∀x∈a.toList,x∈a₀) (mb:∀x∈b.toList,x∈a₀) (sa:a.toList.Pairwise (Rl lt)) (sb:b.toList.Pairwise (Rl lt)) (pa:0 < a.size) (pb:0 < b.size)
  (h0:∀x∈a.toList,Rl lt (ix b 0) x) (h1:∀y∈b.toList,Rl lt y (ix a (a.size - 1)))
  (h:∀r st',KG a₀ κ st st'->He (Rl lt) (a.toList++b.toList) r.toList->Q r st'):wpS (AY prog w) A E s (mHi a b) Q st:=by
 have ia0:=Rv ma;have ib0:=Rv mb;have ua:=S8 O ia0 sa;have ub:=S8 O ib0 sb
 have tr:∀x y z:Aj,x∈a₀->y∈a₀->z∈a₀->Rl lt x y->Rl lt y z->Rl lt x z:=λx y z hx hy hz h1 h2=>O.ntr x y z hx hy hz h1 h2
 let M (out:Array Aj) (na nb:Nat):Prop:=MI (λx y=>Rl lt y x) (a.toList++b.toList) out.toList (a.toList.take na).reverse (b.toList.take nb).reverse
 have tA0:∀out na nb,M out (na+1) nb->na < a.size->nb<=b.size->(∀j,j < nb->Rl lt (ix b j) (ix a na))->M (out.push (ix a na)) na nb:=λout na nb m hna hnb hr=>by
  have m':MI (λx y=>Rl lt y x) (a.toList++b.toList) out.toList ([ix a na]++(a.toList.take na).reverse) (b.toList.take nb).reverse:=by rw [G2,<-WS hna];exact m
  have:=m'.takeA λx hx y hy=>by
   obtain ⟨j,j1,j2,rfl⟩:=FV hy;rw [Ag.mp hx];exact hr j j1
  simpa [M] using this
 have tB0:∀out na nb,M out na (nb+1)->nb < b.size->na<=a.size->(∀j,j < na->Rl lt (ix a j) (ix b nb))->M (out.push (ix b nb)) na nb:=λout na nb m hnb hna hr=>by
  have m':MI (λx y=>Rl lt y x) (a.toList++b.toList) out.toList (a.toList.take na).reverse ([ix b nb]++(b.toList.take nb).reverse):=by rw [G2,<-WS hnb];exact m
  have:=m'.takeB λx hx y hy=>by
   obtain ⟨j,j1,j2,rfl⟩:=FV hy;rw [Ag.mp hx];exact hr j j1
  simpa [M] using this
 have tA:∀out na nb,M out na nb->0 < na->na<=a.size->nb<=b.size->(∀j,j < nb->Rl lt (ix b j) (ix a (na - 1)))->M (out.push (ix a (na - 1))) (na - 1) nb:=λout na nb m h0 hna hnb hr=>
  tA0 out (na - 1) nb (by rw [show na - 1+1=na by lia];exact m) (by omega) hnb hr
 have tB:∀out na nb,M out na nb->0 < nb->nb<=b.size->na<=a.size->(∀j,j < na->Rl lt (ix a j) (ix b (nb - 1)))->M (out.push (ix b (nb - 1))) na (nb - 1):=λout na nb m h0 hnb hna hr=>
  tB0 out na (nb - 1) (by rw [show nb - 1+1=nb by lia];exact m) (by omega) hna hr
 have sA:∀out na nb k,M out na nb->k<=na->na<=a.size->nb<=b.size->(∀i j,k<=i->i < na->j < nb->Rl lt (ix b j) (ix a i))->M (out++(a.extract k na).reverse) k nb:=λout na nb k m hk hna hnb hr=>by
  have m':MI (λx y=>Rl lt y x) (a.toList++b.toList) out.toList ((a.extract k na).toList.reverse++(a.toList.take k).reverse) (b.toList.take nb).reverse:=by rw [<-TB hk hna];exact m
  have:=m'.takeA λx hx y hy=>by
   obtain ⟨j,j1,j2,rfl⟩:=FV hy;obtain ⟨i,i1,i2,i3,rfl⟩:=To hx;exact hr i j i1 i2 j1
  show MI _ _ (out++(a.extract k na).reverse).toList _ _;rw [BF,Ep];exact this
 have sB:∀out na nb k,M out na nb->k<=nb->nb<=b.size->na<=a.size->(∀i j,k<=i->i < nb->j < na->Rl lt (ix a j) (ix b i))->M (out++(b.extract k nb).reverse) na k:=λout na nb k m hk hnb hna hr=>by
  have m':MI (λx y=>Rl lt y x) (a.toList++b.toList) out.toList (a.toList.take na).reverse ((b.extract k nb).toList.reverse++(b.toList.take k).reverse):=by rw [<-TB hk hnb];exact m
  have:=m'.takeB λx hx y hy=>by
   obtain ⟨j,j1,j2,rfl⟩:=FV hy;obtain ⟨i,i1,i2,i3,rfl⟩:=To hx;exact hr i j i1 i2 j1
  show MI _ _ (out++(b.extract k nb).reverse).toList _ _;rw [BF,Ep];exact this
 have eA:∀out na nb,M out na nb->na=0->He (Rl lt) (a.toList++b.toList) (a.extract 0 na++b.extract 0 nb++out.reverse).toList:=λout na nb m e=>by
  subst e
  have m':MI (λx y=>Rl lt y x) (a.toList++b.toList) out.toList [] (b.toList.take nb).reverse:=by simpa [M] using m
  have:=m'.endB.rev;rw [BF,BF,Hk,Hk,Ep];simpa using this
 have eB:∀out na nb,M out na nb->nb=0->He (Rl lt) (a.toList++b.toList) (a.extract 0 na++b.extract 0 nb++out.reverse).toList:=λout na nb m e=>by
  subst e
  have m':MI (λx y=>Rl lt y x) (a.toList++b.toList) out.toList (a.toList.take na).reverse []:=by simpa [M] using m
  have:=m'.endA.rev;rw [BF,BF,Hk,Hk,Ep];simpa using this
 have eF:∀out na nb,M out na nb->nb=1->He (Rl lt) (a.toList++b.toList) (b.extract 0 nb++a.extract 0 na++out.reverse).toList:=λout na nb m e=>by
  have:=m.last2 λx hx y hy=>by
   obtain ⟨j,j1,j2,rfl⟩:=FV hx;obtain ⟨i,i1,i2,rfl⟩:=FV hy
   have:i=0:=by lia
   subst this;exact h0 _ (BN.mpr (Ci (DA j2)))
  have:=this.rev;rw [BF,BF,Hk,Hk,Ep];simpa using this
 have m0:M #[] a.size b.size:=by
  refine ⟨?_,by simp,by simp,?_,?_⟩
  ·rw [DI (by simp),DI (by simp)]
   simpa using List.Perm.append a.toList.reverse_perm b.toList.reverse_perm
  ·rw [DI (by simp)];exact Kx.mpr sa
  ·rw [DI (by simp)];exact Kx.mpr sb
 have m1:M #[ix a (a.size - 1)] (a.size - 1) b.size:=by
  have:=tA #[] a.size b.size m0 pa (AU _) (AU _) λj hj=>h1 _ (BN.mpr (Ci (DA hj)))
  simpa using this
 refine (AQ (JC ?_):wpS _ _ _ _ (mHi a b) Q st);refine AQ (BY (i:=a.size - 1) (by omega) ?_)
 by_cases c1:a.size - 1=0
 ·refine (show wpS (AY prog w) A E s (if (a.size - 1==0)=true then _ else _) Q st from ?_)
  rw [if_pos (by simpa using c1)];exact AR (h _ st ⟨g,rfl,rfl⟩ (eA _ _ _ m1 c1))
 refine (show wpS (AY prog w) A E s (if (a.size - 1==0)=true then _ else _) Q st from ?_);rw [if_neg (by simpa using c1)]
 by_cases c2:b.size=1
 ·rw [if_pos (by simpa using c2)]
  exact AR (h _ st ⟨g,rfl,rfl⟩ (eF _ _ _ m1 c2))
 rw [if_neg (by simpa using c2)];refine AQ (HE ?_)
 refine AQ (C7 (By (I:=λx c st'=>KG a₀ κ st st'/\∃out na nb mg,c=(none,na,nb,out,mg)/\M out na nb/\0 < na/\1 < nb/\na<=a.size/\nb<=b.size/\na+nb+1+x<=a.size+b.size)
  (Q:=λc st'=>KG a₀ κ st st'/\∃r z,c=(some r,z)/\He (Rl lt) (a.toList++b.toList) r.toList) ?step ?fin ?init) ?post)
 case init=>exact ⟨⟨g,rfl,rfl⟩,_,a.size - 1,b.size,_,rfl,m1,by lia,by lia,by omega,by lia,by lia⟩
 case fin=>
  rintro c st' ⟨_,out,na,nb,mg,_,_,k1,k2,k3,k4,k5⟩
  lia
 case post=>
  rintro c st' ⟨s1,r,z,rfl,f⟩;exact AR (h r st' s1 f)
 case step=>
  rintro x c st1 _ _ ⟨s1,out,na,nb,mg,rfl,m,k1,k2,k3,k4,k5⟩
  refine AQ (C7 (By (I:=λy c st'=>st'=st1/\∃out' na' nb' ac bc,c=(none,na',nb',out',ac,bc)/\M out' na' nb'/\0 < na'/\1 < nb'/\na'<=a.size/\nb'<=b.size/\na'+nb'+y<=na+nb)
   (Q:=λc st'=>st'=st1/\((∃r z,c=(some r,z)/\He (Rl lt) (a.toList++b.toList) r.toList)∨∃out' na' nb' ac bc,c=(none,na',nb',out',ac,bc)/\M out' na' nb'/\0 < na'/\1 < nb'/\na'<=a.size/\nb'<=b.size/\na'+nb'+1<=na+nb)) ?step1 ?fin1 ?init1) ?post1)
  case init1=>exact ⟨rfl,out,na,nb,0,0,rfl,m,k1,k2,k3,k4,by lia⟩
  case fin1=>
   rintro c st' ⟨rfl,out',na',nb',ac,bc,rfl,m',q1,q2,q3,q4,q5⟩;exact ⟨rfl,.inr ⟨out',na',nb',ac,bc,rfl,m',q1,q2,q3,q4,by lia⟩⟩
  case step1=>
   rintro y c st' _ _ ⟨rfl,out',na',nb',ac,bc,rfl,m',q1,q2,q3,q4,q5⟩;refine AQ (BY (i:=nb' - 1) (by lia) ?_);refine AQ (BY (i:=na' - 1) (by lia) ?_);refine AQ (Oy C s1.good (ib0 _ (by lia)) (ia0 _ (by lia)) ?_)
   cases e:lt (ix b (nb' - 1)) (ix a (na' - 1)) with
   | true=>
    refine AQ (BY (i:=na' - 1) (by lia) ?_);have r0:Rl lt (ix b (nb' - 1)) (ix a (na' - 1)):=O.asym _ _ (ib0 _ (by lia)) (ia0 _ (by lia)) e
    have m2:=tA out' na' nb' m' q1 q3 q4 λj j1=>tr _ _ _ (ib0 _ (by lia)) (ib0 _ (by lia)) (ia0 _ (by lia)) (ub j (nb' - 1) (by lia) (by lia)) r0
    refine (show wpS (AY prog w) A E s (if (na' - 1==0)=true then _ else _) _ st' from ?_)
    by_cases d:na' - 1=0
    ·rw [if_pos (by simpa using d)]
     exact AR ⟨rfl,.inl ⟨_,_,rfl,eA _ _ _ m2 d⟩⟩
    ·rw [if_neg (by simpa using d)]
     split
     ·exact AR ⟨rfl,.inr ⟨_,na' - 1,nb',_,_,rfl,m2,by lia,by omega,by lia,by omega,by lia⟩⟩
     ·exact AR ⟨rfl,_,na' - 1,nb',_,_,rfl,m2,by lia,by omega,by lia,by omega,by lia⟩
   | false=>
    refine AQ (BY (i:=nb' - 1) (by lia) ?_)
    have m2:=tB out' na' nb' m' (by lia) q4 q3 λj j1=>tr _ _ _ (ia0 _ (by lia)) (ia0 _ (by lia)) (ib0 _ (by lia)) (ua j (na' - 1) (by lia) (by lia)) e
    refine (show wpS (AY prog w) A E s (if (nb' - 1==1)=true then _ else _) _ st' from ?_)
    by_cases d:nb' - 1=1
    ·rw [if_pos (by simpa using d)]
     exact AR ⟨rfl,.inl ⟨_,_,rfl,eF _ _ _ m2 d⟩⟩
    ·rw [if_neg (by simpa using d)]
     split
     ·exact AR ⟨rfl,.inr ⟨_,na',nb' - 1,_,_,rfl,m2,by omega,by lia,by omega,by lia,by lia⟩⟩
     ·exact AR ⟨rfl,_,na',nb' - 1,_,_,rfl,m2,by omega,by lia,by omega,by lia,by lia⟩
  case post1=>
   rintro c st' ⟨rfl,⟨r,z,rfl,f⟩ | ⟨out',na',nb',ac,bc,rfl,m',q1,q2,q3,q4,q5⟩⟩
   ·exact AR ⟨s1,_,_,rfl,f⟩
   refine AQ (JC ?_)
   refine AQ (C7 (By (I:=λy c st2=>KG a₀ κ st st2/\∃out2 na2 nb2 mg2 ac bc,c=(none,na2,nb2,out2,mg2,ac,bc)/\M out2 na2 nb2/\0 < na2/\1 < nb2/\na2<=a.size/\nb2<=b.size/\na2+nb2+1<=na+nb)
    (Q:=λc st2=>KG a₀ κ st st2/\((∃r z,c=(some r,z)/\He (Rl lt) (a.toList++b.toList) r.toList)∨∃out2 na2 nb2 mg2 ac bc,c=(none,na2,nb2,out2,mg2,ac,bc)/\M out2 na2 nb2/\0 < na2/\1 < nb2/\na2<=a.size/\nb2<=b.size/\na2+nb2+1<=na+nb)) ?step2 ?fin2 ?init2) ?post2)
   case init2=>exact ⟨s1,out',na',nb',mg+1,ac,bc,rfl,m',q1,q2,q3,q4,q5⟩
   case fin2=>
    rintro c st2 ⟨s2,out2,na2,nb2,mg2,ac2,bc2,rfl,m2,p1⟩;exact ⟨s2,.inr ⟨out2,na2,nb2,mg2,ac2,bc2,rfl,m2,p1⟩⟩
   case post2=>
    rintro c st2 ⟨s2,⟨r,z,rfl,f⟩ | ⟨out2,na2,nb2,mg2,ac2,bc2,rfl,m2,p1,p2,p3,p4,p5⟩⟩
    ·exact AR ⟨s2,_,_,rfl,f⟩
    ·exact AQ (OZ (AR ⟨s2.gal _,out2,na2,nb2,mg2+1,rfl,m2,p1,p2,p3,p4,by lia⟩))
   case step2=>
    rintro y c st2 _ _ ⟨s2,out2,na2,nb2,mg2,ac2,bc2,rfl,m2,p1,p2,p3,p4,p5⟩
    let P:ForInStep (Option (Array Aj)×Nat×Nat×Array Aj×Nat×Nat×Nat)->BI->Prop:=λr st'=>match r with
     | .done c'=>KG a₀ κ st st'/\((∃r z,c'=(some r,z)/\He (Rl lt) (a.toList++b.toList) r.toList)∨∃out2 na2 nb2 mg2 ac bc,c'=(none,na2,nb2,out2,mg2,ac,bc)/\M out2 na2 nb2/\0 < na2/\1 < nb2/\na2<=a.size/\nb2<=b.size/\na2+nb2+1<=na+nb)
     | .yield c'=>KG a₀ κ st st'/\∃out2 na2 nb2 mg2 ac bc,c'=(none,na2,nb2,out2,mg2,ac,bc)/\M out2 na2 nb2/\0 < na2/\1 < nb2/\na2<=a.size/\nb2<=b.size/\na2+nb2+1<=na+nb
    refine C7 (Q:=P) ?_ λr st' h=>by cases r <;> exact h
    refine (show wpS (AY prog w) A E s (if mg2 > 1 then _ else _) P st2 from ?_);split
    all_goals
     refine AQ (OZ ?_);refine AQ (BY (i:=nb2 - 1) (by lia) ?_);refine AQ (Eg (base:=0) (n:=na2) (hint:=na2 - 1) (arr:=a) (key:=ix b (nb2 - 1)) (left:=false) C (s2.gal _).good (λi=>!lt (ix b (nb2 - 1)) (ix a (0+i))) (ib0 _ (by lia)) (λi hi=>⟨by lia,ia0 _ (by lia)⟩) (λi hi=>rfl) (λi j hij hj e=>?_) (by lia) λk hk k1 k2=>?_)
     ·have e':lt (ix b (nb2 - 1)) (ix a (0+j))=false:=by simpa using e
      have:=tr _ _ _ (ia0 _ (by lia)) (ia0 _ (by lia)) (ib0 _ (by lia)) (ua (0+i) (0+j) (by lia) (by lia)) e';simpa using this
     ·have near:∀j,j < k->Rl lt (ix a j) (ix b (nb2 - 1)):=λj j1=>by
       have:=k1 j j1;rw [Ge] at this;simpa using this
      have m5:=sA out2 na2 nb2 k m2 hk p3 p4 λi j i1 i2 j1=>by
       have:=k2 i i1 i2;rw [Ge] at this;exact tr _ _ _ (ib0 _ (by lia)) (ib0 _ (by lia)) (ia0 _ (by lia)) (ub j (nb2 - 1) (by lia) (by lia)) (O.asym _ _ (ib0 _ (by lia)) (ia0 _ (by lia)) (by simpa using this))
      refine (show wpS (AY prog w) A E s (if na2 - k > 0 then _ else _) P _ from ?_)
      by_cases hk0:na2 - k > 0
      ·rw [if_pos hk0]
       refine (show wpS (AY prog w) A E s (if (k==0)=true then _ else _) P _ from ?_)
       by_cases d1:k=0
       ·rw [if_pos (by simpa using d1)]
        exact AR ⟨s2.gal _,.inl ⟨_,_,rfl,eA _ _ _ m5 d1⟩⟩
       rw [if_neg (by simpa using d1)];have m4:=tB _ _ _ m5 (by lia) p4 (by lia) near;refine AQ (BY (i:=nb2 - 1) (by lia) ?_);refine (show wpS (AY prog w) A E s (if (nb2 - 1==1)=true then _ else _) P _ from ?_)
       by_cases d:nb2 - 1=1
       ·rw [if_pos (by simpa using d)]
        exact AR ⟨s2.gal _,.inl ⟨_,_,rfl,eF _ _ _ m4 d⟩⟩
       rw [if_neg (by simpa using d)];refine AQ (BY (i:=k - 1) (by omega) ?_);refine AQ (Eg (base:=0) (n:=nb2 - 1) (hint:=nb2 - 1 - 1) (arr:=b) (key:=ix a (k - 1)) (left:=true) C (s2.gal _).good (λi=>lt (ix b (0+i)) (ix a (k - 1))) (ia0 _ (by omega)) (λi hi=>⟨by lia,ib0 _ (by lia)⟩) (λi hi=>rfl) (λi j hij hj e=>?_) (by lia) λk3 hk3 k4 k5=>?_)
       ·cases e2:lt (ix b (0+i)) (ix a (k - 1)) with
        | true=>rfl
        | false=>
         have:=tr _ _ _ (ia0 _ (by lia)) (ib0 _ (by lia)) (ib0 _ (by lia)) e2 (ub (0+i) (0+j) (by lia) (by lia));exact nomatch (show true=false from (show lt (ix b (0+j)) (ix a (k - 1))=true from e).symm.trans this)
       ·have near2:∀j,j < k3->Rl lt (ix b j) (ix a (k - 1)):=λj j1=>by
         have:=k4 j j1;rw [Ge] at this;exact O.asym _ _ (ib0 _ (by lia)) (ia0 _ (by omega)) this
        have m6:=sB _ k (nb2 - 1) k3 m4 hk3 (by lia) (by lia) λi j i1 i2 j1=>by
         have:=k5 i i1 i2;rw [Ge] at this;exact tr _ _ _ (ia0 _ (by lia)) (ia0 _ (by lia)) (ib0 _ (by lia)) (ua j (k - 1) (by lia) (by lia)) this
        refine (show wpS (AY prog w) A E s (if nb2 - 1 - k3 > 0 then _ else _) P _ from ?_)
        by_cases hk4:nb2 - 1 - k3 > 0
        ·rw [if_pos hk4]
         refine (show wpS (AY prog w) A E s (if (k3==1)=true then _ else _) P _ from ?_)
         by_cases d2:k3=1
         ·rw [if_pos (by simpa using d2)]
          exact AR ⟨s2.gal _,.inl ⟨_,_,rfl,eF _ _ _ m6 d2⟩⟩
         rw [if_neg (by simpa using d2)]
         by_cases d4:k3=0
         ·rw [if_pos (by simpa using d4)]
          exact AR ⟨s2.gal _,.inl ⟨_,_,rfl,eB _ _ _ m6 d4⟩⟩
         rw [if_neg (by simpa using d4)];have m7:=tA _ _ _ m6 (by lia) (by lia) (by lia) near2;refine AQ (BY (i:=k - 1) (by lia) ?_);refine (show wpS (AY prog w) A E s (if (k - 1==0)=true then _ else _) P _ from ?_)
         by_cases d3:k - 1=0
         ·rw [if_pos (by simpa using d3)]
          exact AR ⟨s2.gal _,.inl ⟨_,_,rfl,eA _ _ _ m7 d3⟩⟩
         rw [if_neg (by simpa using d3)];split
         ·exact AR ⟨s2.gal _,.inr ⟨_,k - 1,k3,_,_,_,rfl,m7,by lia,by lia,by lia,by lia,by lia⟩⟩
         ·exact AR ⟨s2.gal _,_,k - 1,k3,_,_,_,rfl,m7,by lia,by lia,by lia,by lia,by lia⟩
        ·rw [if_neg hk4]
         have:k3=nb2 - 1:=by lia
         subst this;have m7:=tA _ _ _ m4 (by lia) (by lia) (by lia) near2;refine AQ (BY (i:=k - 1) (by lia) ?_);refine (show wpS (AY prog w) A E s (if (k - 1==0)=true then _ else _) P _ from ?_)
         by_cases d3:k - 1=0
         ·rw [if_pos (by simpa using d3)]
          exact AR ⟨s2.gal _,.inl ⟨_,_,rfl,eA _ _ _ m7 d3⟩⟩
         rw [if_neg (by simpa using d3)];split
         ·exact AR ⟨s2.gal _,.inr ⟨_,k - 1,nb2 - 1,_,_,_,rfl,m7,by lia,by lia,by lia,by lia,by lia⟩⟩
         ·exact AR ⟨s2.gal _,_,k - 1,nb2 - 1,_,_,_,rfl,m7,by lia,by lia,by lia,by lia,by lia⟩
      ·rw [if_neg hk0]
       have:k=na2:=by lia
       subst this;have m4:=tB _ _ _ m2 (by lia) p4 (by omega) near;refine AQ (BY (i:=nb2 - 1) (by lia) ?_);refine (show wpS (AY prog w) A E s (if (nb2 - 1==1)=true then _ else _) P _ from ?_)
       by_cases d:nb2 - 1=1
       ·rw [if_pos (by simpa using d)]
        exact AR ⟨s2.gal _,.inl ⟨_,_,rfl,eF _ _ _ m4 d⟩⟩
       rw [if_neg (by simpa using d)];refine AQ (BY (i:=k - 1) (by lia) ?_);refine AQ (Eg (base:=0) (n:=nb2 - 1) (hint:=nb2 - 1 - 1) (arr:=b) (key:=ix a (k - 1)) (left:=true) C (s2.gal _).good (λi=>lt (ix b (0+i)) (ix a (k - 1))) (ia0 _ (by lia)) (λi hi=>⟨by lia,ib0 _ (by lia)⟩) (λi hi=>rfl) (λi j hij hj e=>?_) (by lia) λk3 hk3 k4 k5=>?_)
       ·cases e2:lt (ix b (0+i)) (ix a (k - 1)) with
        | true=>rfl
        | false=>
         have:=tr _ _ _ (ia0 _ (by lia)) (ib0 _ (by lia)) (ib0 _ (by lia)) e2 (ub (0+i) (0+j) (by lia) (by lia));exact nomatch (show true=false from (show lt (ix b (0+j)) (ix a (k - 1))=true from e).symm.trans this)
       ·have near2:∀j,j < k3->Rl lt (ix b j) (ix a (k - 1)):=λj j1=>by
         have:=k4 j j1;rw [Ge] at this;exact O.asym _ _ (ib0 _ (by lia)) (ia0 _ (by lia)) this
        have m6:=sB _ k (nb2 - 1) k3 m4 hk3 (by lia) (by omega) λi j i1 i2 j1=>by
         have:=k5 i i1 i2;rw [Ge] at this;exact tr _ _ _ (ia0 _ (by lia)) (ia0 _ (by lia)) (ib0 _ (by lia)) (ua j (k - 1) (by lia) (by lia)) this
        refine (show wpS (AY prog w) A E s (if nb2 - 1 - k3 > 0 then _ else _) P _ from ?_)
        by_cases hk4:nb2 - 1 - k3 > 0
        ·rw [if_pos hk4]
         refine (show wpS (AY prog w) A E s (if (k3==1)=true then _ else _) P _ from ?_)
         by_cases d2:k3=1
         ·rw [if_pos (by simpa using d2)]
          exact AR ⟨s2.gal _,.inl ⟨_,_,rfl,eF _ _ _ m6 d2⟩⟩
         rw [if_neg (by simpa using d2)]
         by_cases d4:k3=0
         ·rw [if_pos (by simpa using d4)]
          exact AR ⟨s2.gal _,.inl ⟨_,_,rfl,eB _ _ _ m6 d4⟩⟩
         rw [if_neg (by simpa using d4)];have m7:=tA _ _ _ m6 (by omega) (by omega) (by lia) near2;refine AQ (BY (i:=k - 1) (by lia) ?_);refine (show wpS (AY prog w) A E s (if (k - 1==0)=true then _ else _) P _ from ?_)
         by_cases d3:k - 1=0
         ·rw [if_pos (by simpa using d3)]
          exact AR ⟨s2.gal _,.inl ⟨_,_,rfl,eA _ _ _ m7 d3⟩⟩
         rw [if_neg (by simpa using d3)];split
         ·exact AR ⟨s2.gal _,.inr ⟨_,k - 1,k3,_,_,_,rfl,m7,by lia,by lia,by lia,by lia,by lia⟩⟩
         ·exact AR ⟨s2.gal _,_,k - 1,k3,_,_,_,rfl,m7,by lia,by lia,by lia,by lia,by lia⟩
        ·rw [if_neg hk4]
         have:k3=nb2 - 1:=by lia
         subst this;have m7:=tA _ _ _ m4 (by omega) (by omega) (by lia) near2;refine AQ (BY (i:=k - 1) (by lia) ?_);refine (show wpS (AY prog w) A E s (if (k - 1==0)=true then _ else _) P _ from ?_)
         by_cases d3:k - 1=0
         ·rw [if_pos (by simpa using d3)]
          exact AR ⟨s2.gal _,.inl ⟨_,_,rfl,eA _ _ _ m7 d3⟩⟩
         rw [if_neg (by simpa using d3)];split
         ·exact AR ⟨s2.gal _,.inr ⟨_,k - 1,nb2 - 1,_,_,_,rfl,m7,by lia,by lia,by lia,by lia,by lia⟩⟩
         ·exact AR ⟨s2.gal _,_,k - 1,nb2 - 1,_,_,_,rfl,m7,by lia,by lia,by lia,by lia,by lia⟩
end
end Srt
namespace Srt
open PySem PyProof.Rows
def wr (arr:Array Aj) (sa:Nat) (l:List (Aj×Nat)):Array Aj:=l.foldl (λa (x:Aj×Nat)=>match x with | (p,j)=>a.setIfInBounds (sa+j) p) arr
theorem RI (sa:Nat):∀(l:List Aj) (k:Nat) (arr:Array Aj),sa+k+l.length<=arr.size->(wr arr sa (l.zipIdx k)).toList=arr.toList.take (sa+k)++l++arr.toList.drop (sa+k+l.length)
 | [],k,arr,h=>by simp [wr]
 | x :: l,k,arr,h=>by
  rw [As] at h;have e:wr arr sa ((x :: l).zipIdx k)=wr (arr.setIfInBounds (sa+k) x) sa (l.zipIdx (k+1)):=rfl;rw [e,RI sa l (k+1) _ (by simp;lia)]
  have hk:sa+k < arr.toList.length:=by simp;lia
  rw [QE,As,show sa+(k+1)=sa+k+1 by lia];rw [Nt,List.take_set_of_le (AU _),BC hk,List.drop_set_of_lt (by lia)];simp [show sa+k+1+l.length=sa+k+(l.length+1) by lia]
theorem ix_list (a:Array Aj) (i:Nat):ix a i=(a.toList[i]?).getD (.none,.none):=by
 unfold ix;rw [Eb];simp
theorem aX {arr m:Array Aj} {sa:Nat} (h:sa+m.size<=arr.size) (i:Nat):ix (wr arr sa m.toList.zipIdx) i=if i < sa then ix arr i else if i < sa+m.size then ix m (i - sa) else ix arr i:=by
 have e:=RI sa m.toList 0 arr (by simpa using h);rw [ix_list,show m.toList.zipIdx=m.toList.zipIdx 0 from rfl,e,j8]
 have hl:(arr.toList.take sa).length=sa:=by simp;lia
 split
 ·rename_i h1
  rw [BP,Ah (by lia),Sa h1,ix_list]
 ·rename_i h1
  split
  ·rename_i h2
   rw [BP,A8 (by lia),hl,Ah (by simp;lia),ix_list]
  ·rename_i h2
   rw [A8 (by simp;lia),IR,ix_list]
   congr 2
   simp
   lia
theorem dG {arr m:Array Aj} {sa:Nat} (h:sa+m.size<=arr.size) (hp:m.toList.Perm (arr.extract sa (sa+m.size)).toList):(wr arr sa m.toList.zipIdx).Perm arr:=by
 rw [Er];have e:=RI sa m.toList 0 arr (by simpa using h);rw [show m.toList.zipIdx=m.toList.zipIdx 0 from rfl,e,j8]
 have e2:arr.toList=arr.toList.take sa++(arr.extract sa (sa+m.size)).toList++arr.toList.drop (sa+m.toList.length):=by
  rw [BP,Bd,<-IA h,DW]
 conv=>rhs;rw [e2]
 exact QC _ (JW _ hp)
theorem Vg {a:Array Aj} {lo hi i:Nat} (h:hi<=a.size) (hi':i < hi - lo):ix (a.extract lo hi) i=ix a (lo+i):=by
 apply JJ
 rw [Array.getElem?_extract];simp
 lia
section
variable {prog:An} {w:BH} {A:BD} {E:AC->AE->Prop} {s:AE} {a₀:Array Aj} {κ:FK} {lt:Aj->Aj->Bool}
theorem ZL {a:Array Aj} {lo hi:Nat} (h:hi<=a.size) (u:Up lt a lo hi):(a.extract lo hi).toList.Pairwise (Rl lt):=by
 rw [List.pairwise_iff_getElem];intro i j hi' hj hij;simp at hi' hj
 have e:∀k (hk:k < (a.extract lo hi).toList.length),(a.extract lo hi).toList[k]=ix a (lo+k):=λk hk=>by
  have hk':k < (a.extract lo hi).size:=by rw [Bd] at hk;exact hk
  have:=DA hk';rw [getElem?_pos (a.extract lo hi) k hk'] at this
  have hs:(a.extract lo hi).size=hi - lo:=by simp;lia
  rw [<-Vg h (by lia)];simpa using this
 rw [e,e];exact u _ _ (by lia) (by lia) (by omega)
theorem bw {st st1:BI} {Q:PUnit->BI->Prop} (h:Q ⟨⟩ st1):wpS (AY prog w) A E s (set st1:StateT BI Sem PUnit) Q st:=AR h
theorem So {st:BI} {i sa na pw sb nb pw2:Nat} {Q:Bool->BI->Prop} (C:J5 prog w A s a₀ κ lt) (O:Ord (·∈a₀) lt) (g:Good a₀ κ st)
  (e1:(AX st)[i]?=some (sa,na,pw)) (e2:(AX st)[i+1]?=some (sb,nb,pw2)) (hab:sb=sa+na) (hna:1<=na) (hnb:1<=nb) (hs:sb+nb<=a₀.size)
  (ua:Up lt (AV st) sa (sa+na)) (ub:Up lt (AV st) sb (sb+nb))
  (h:∀st',Good a₀ κ st'->AX st'=((AX st).setIfInBounds i (sa,na+nb,pw)).eraseIdxIfInBounds (i+1)->Up lt (AV st') sa (sa+(na+nb))->Out (AV st) (AV st') sa (sa+(na+nb))->Q true st') :
  wpS (AY prog w) A E s (mergeAt' i) Q st:=by
 subst hab;have hsz:=g.size
 have mem:∀j,j < a₀.size->ix (AV st) j∈a₀:=λj hj=>g.mem hj
 have tr:∀x y z:Aj,x∈a₀->y∈a₀->z∈a₀->Rl lt x y->Rl lt y z->Rl lt x z:=λx y z hx hy hz h1 h2=>O.ntr x y z hx hy hz h1 h2
 refine (AQ (HE ?_):wpS _ _ _ _ (mergeAt' i) Q st);rw [show (sortPriv% PySem.Builtin.SortState.pending) st=AX st from rfl,e1,e2];refine AQ (bw ?_);generalize hst1:((sortPriv% PySem.Builtin.SortState.mk) (kindOf st) (AV st) (((AX st).setIfInBounds i (sa,na+nb,pw)).eraseIdxIfInBounds (i+1)) (gallopOf st) (IJ st))=st1
 have g1:Good a₀ κ st1:=by subst hst1;exact ⟨g.perm,g.kind,g.failed⟩
 have a1:AV st1=AV st:=by subst hst1;rfl
 have p1:AX st1=((AX st).setIfInBounds i (sa,na+nb,pw)).eraseIdxIfInBounds (i+1):=by subst hst1;rfl
 refine AQ (BY (a:=AV st) (i:=sa+na) (by lia) ?_);refine AQ (Eg (base:=sa) (n:=na) (hint:=0) (arr:=AV st) (key:=ix (AV st) (sa+na)) (left:=false) C g1 (λj=>!lt (ix (AV st) (sa+na)) (ix (AV st) (sa+j))) (mem _ (by lia)) (λj hj=>⟨by lia,mem _ (by lia)⟩) (λj hj=>rfl) (λx y hxy hy e=>?_) (by lia) λk hk k1 k2=>?_)
 ·have e':lt (ix (AV st) (sa+na)) (ix (AV st) (sa+y))=false:=by simpa using e
  have:=tr _ _ _ (mem _ (by lia)) (mem _ (by lia)) (mem _ (by lia)) (ua (sa+x) (sa+y) (by lia) (by lia) (by lia)) e';simpa using this
 have low:∀j,sa<=j->j < sa+k->Rl lt (ix (AV st) j) (ix (AV st) (sa+na)):=λj j1 j2=>by
  have:=k1 (j - sa) (by lia);rw [show sa+(j - sa)=j by lia] at this;simpa using this
 have lowb:∀i j,sa<=i->i < sa+k->sa+na<=j->j < sa+na+nb->Rl lt (ix (AV st) i) (ix (AV st) j):=λi j i1 i2 j1 j2=>tr _ _ _ (mem _ (by lia)) (mem _ (by lia)) (mem _ (by lia)) (low i i1 i2) (ub _ _ (by lia) (by omega) (by omega))
 have whole:(∀j,sa<=j->j < sa+na->Rl lt (ix (AV st) j) (ix (AV st) (sa+na)))->Up lt (AV st) sa (sa+(na+nb)):=λhh x y h1 h2 h3=>by
  by_cases c1:y < sa+na
  ·exact ua x y h1 h2 c1
  by_cases c2:x < sa+na
  ·exact tr _ _ _ (mem _ (by lia)) (mem _ (by lia)) (mem _ (by lia)) (hh x h1 c2) (ub _ _ (by lia) (by lia) (by lia))
  ·exact ub x y (by lia) h2 (by lia)
 refine (show wpS (AY prog w) A E s (if (na - k==0)=true then _ else _) Q st1 from ?_)
 by_cases c1:na - k=0
 ·rw [if_pos (by simpa using c1)]
  refine AR (h st1 g1 p1 ?_ (by rw [a1];exact .refl));rw [a1]
  exact whole λj j1 j2=>low j j1 (by lia)
 rw [if_neg (by simpa using c1)];refine AQ (BY (a:=AV st) (i:=sa+k+(na - k) - 1) (by omega) ?_);rw [show sa+k+(na - k) - 1=sa+na - 1 by lia];refine AQ (Eg (base:=sa+na) (n:=nb) (hint:=nb - 1) (arr:=AV st) (key:=ix (AV st) (sa+na - 1)) (left:=true) C g1 (λj=>lt (ix (AV st) (sa+na+j)) (ix (AV st) (sa+na - 1))) (mem _ (by lia)) (λj hj=>⟨by lia,mem _ (by lia)⟩) (λj hj=>rfl) (λx y hxy hy e=>?_) (by omega) λk3 hk3 k4 k5=>?_)
 ·cases e2:lt (ix (AV st) (sa+na+x)) (ix (AV st) (sa+na - 1)) with
  | true=>rfl
  | false=>
   have:=tr _ _ _ (mem _ (by lia)) (mem _ (by lia)) (mem _ (by lia)) e2 (ub (sa+na+x) (sa+na+y) (by lia) (by lia) (by lia));exact nomatch (show true=false from (show lt (ix (AV st) (sa+na+y)) (ix (AV st) (sa+na - 1))=true from e).symm.trans this)
 have high:∀j,sa+na+k3<=j->j < sa+na+nb->Rl lt (ix (AV st) (sa+na - 1)) (ix (AV st) j):=λj j1 j2=>by
  have:=k5 (j - (sa+na)) (by lia) (by lia);rwa [show sa+na+(j - (sa+na))=j by lia] at this
 refine (show wpS (AY prog w) A E s (if (k3==0)=true then _ else _) Q st1 from ?_)
 by_cases c2:k3=0
 ·rw [if_pos (by simpa using c2)]
  refine AR (h st1 g1 p1 ?_ (by rw [a1];exact .refl));rw [a1]
  exact whole λj j1 j2=>tr _ _ _ (mem _ (by lia)) (mem _ (by lia)) (mem _ (by lia)) (ua j (sa+na - 1) (by omega) (by lia) (by lia)) (high _ (by lia) (by lia))
 rw [if_neg (by simpa using c2)]
 let x:=(AV st).extract (sa+k) (sa+na)
 let y:=(AV st).extract (sa+na) (sa+na+k3)
 have xs:x.size=na - k:=by simp [x];lia
 have ys:y.size=k3:=by simp [y];lia
 have ixx:∀j,j < na - k->ix x j=ix (AV st) (sa+k+j):=λj hj=>Vg (by lia) (by lia)
 have ixy:∀j,j < k3->ix y j=ix (AV st) (sa+na+j):=λj hj=>Vg (by lia) (by lia)
 have memx:∀z∈x.toList,∃j,j < na - k/\z=ix (AV st) (sa+k+j):=λz hz=>by
  have hz:z∈((AV st).extract (sa+k) (sa+k+(na - k))).toList:=by rw [show sa+k+(na - k)=sa+na by lia];exact hz
  exact Of (by lia) hz
 have memy:∀z∈y.toList,∃j,j < k3/\z=ix (AV st) (sa+na+j):=λz hz=>Of (by lia) hz
 have fin:∀(r:Array Aj) (st':BI),KG a₀ κ st1 st'->He (Rl lt) (x.toList++y.toList) r.toList->∀st2:BI,AV st2=wr (AV st') (sa+k) r.toList.zipIdx->kindOf st2=kindOf st'->IJ st2=IJ st'->AX st2=AX st'->Q true st2:=by
  intro r st' sm f st2 q1 q2 q3 q4
  have hr:r.size=na - k+k3:=by
   have:=f.perm.length_eq;simp only [AW,Bd] at this
   lia
  have ha:AV st'=AV st:=sm.arr.trans a1;rw [ha] at q1
  have hb:sa+k+r.size<=(AV st).size:=by lia
  have mm:∀t,t < r.size->∃t',ix r t=ix (AV st) t'/\sa+k<=t'/\t' < sa+na+k3:=λt ht=>by
   have:ix r t∈r.toList:=BN.mpr (Ci (DA ht))
   rcases BB.mp (f.perm.mem_iff.mp this) with h | h
   ·obtain ⟨j,j1,e⟩:=memx _ h
    exact ⟨_,e,by lia,by lia⟩
   ·obtain ⟨j,j1,e⟩:=memy _ h
    exact ⟨_,e,by lia,by lia⟩
  have rs:=S8 O (a:=r) (λt ht=>by
   obtain ⟨t',e,_,_⟩:=mm t ht;rw [e]
   exact mem _ (by lia)) f.srt
  refine h st2 ⟨?_,?_,?_⟩ (q4.trans (sm.pend.trans p1)) ?_ ?_
  ·rw [q1]
   refine (dG hb (f.perm.trans ?_)).trans g.perm
   have:(AV st).toList.drop (sa+k)=x.toList++(AV st).toList.drop (sa+na):=by
    have:=IA (a:=AV st) (i:=sa+k) (k:=na - k) (by lia);rw [show sa+k+(na - k)=sa+na by lia] at this;exact this
   have h2:(AV st).toList.drop (sa+na)=y.toList++(AV st).toList.drop (sa+na+k3):=IA (by lia);have h3:(AV st).toList.drop (sa+k)=((AV st).extract (sa+k) (sa+k+r.size)).toList++(AV st).toList.drop (sa+k+r.size):=IA hb;rw [this,h2,<-BP,show sa+k+r.size=sa+na+k3 by lia] at h3;rw [show sa+k+r.size=sa+na+k3 by lia];exact WG (List.append_cancel_right h3)
  ·rw [q2];exact sm.good.kind
  ·rw [q3];exact sm.good.failed
  ·rw [q1]
   intro i j h1 h2 h3;show Rl lt _ _;rw [aX hb,aX hb]
   by_cases i1:i < sa+k
   ·rw [if_pos i1]
    by_cases j1:j < sa+k
    ·rw [if_pos j1];exact ua i j h1 h2 (by lia)
    rw [if_neg j1]
    by_cases j2:j < sa+k+r.size
    ·rw [if_pos j2]
     obtain ⟨t,e,t1,t2⟩:=mm (j - (sa+k)) (by omega);rw [e]
     by_cases t3:t < sa+na
     ·exact ua i t h1 (by lia) t3
     ·exact lowb i t h1 i1 (by lia) (by lia)
    ·rw [if_neg j2];exact lowb i j h1 i1 (by lia) (by lia)
   rw [if_neg i1,if_neg (show ¬j < sa+k by lia)]
   by_cases i2:i < sa+k+r.size
   ·rw [if_pos i2]
    by_cases j2:j < sa+k+r.size
    ·rw [if_pos j2];exact rs _ _ (by lia) (by omega)
    ·rw [if_neg j2]
     obtain ⟨t,e,t1,t2⟩:=mm (i - (sa+k)) (by omega);rw [e]
     by_cases t3:t < sa+na
     ·exact tr _ _ _ (mem _ (by lia)) (mem _ (by lia)) (mem _ (by lia)) (ua t (sa+na - 1) (by lia) (by lia) (by lia)) (high j (by lia) (by lia))
     ·exact ub t j (by lia) (by lia) (by lia)
   ·rw [if_neg i2,if_neg (show ¬j < sa+k+r.size by lia)]
    exact ub i j (by lia) h2 (by lia)
  ·rw [q1]
   intro i hi;rw [aX hb]
   by_cases i1:i < sa+k
   ·rw [if_pos i1]
   ·rw [if_neg i1,if_neg (by lia)]
 have args:∀ {P:Prop},((∀z∈x.toList,z∈a₀)->(∀z∈y.toList,z∈a₀)->x.toList.Pairwise (Rl lt)->y.toList.Pairwise (Rl lt)->0 < x.size->0 < y.size->(∀z∈x.toList,Rl lt (ix y 0) z)->(∀z∈y.toList,Rl lt z (ix x (x.size - 1)))->P)->P:=by
  intro P hP
  refine hP (λz hz=>?_) (λz hz=>?_) (ZL (by lia) λi j h1 h2 h3=>ua i j (by lia) h2 h3) (ZL (by lia) λi j h1 h2 h3=>ub i j h1 h2 (by lia)) (by lia) (by lia) (λz hz=>?_) λz hz=>?_
  ·obtain ⟨j,j1,rfl⟩:=memx z hz
   exact mem _ (by lia)
  ·obtain ⟨j,j1,rfl⟩:=memy z hz
   exact mem _ (by lia)
  ·obtain ⟨j,j1,rfl⟩:=memx z hz
   rw [ixy 0 (by lia)];have:=k2 (k+j) (by lia) (by lia);rw [show sa+(k+j)=sa+k+j by lia] at this;exact O.asym _ _ (mem _ (by lia)) (mem _ (by lia)) (by simpa using this)
  ·obtain ⟨j,j1,rfl⟩:=memy z hz
   rw [xs,ixx _ (by lia),show sa+k+(na - k - 1)=sa+na - 1 by lia];exact O.asym _ _ (mem _ (by lia)) (mem _ (by lia)) (k4 j j1)
 refine (show wpS (AY prog w) A E s (if na - k<=k3 then mLo x y >>= _ else mHi x y >>= _) Q st1 from ?_);split
 ·refine AQ (args λb1 b2 b3 b4 b5 b6 b7 b8=>bx C O g1 b1 b2 b3 b4 b5 b6 b7 b8 λr st' sm f=>?_)
  refine AQ (DJ (AQ (HE (AR ?_))));have q:=fin r st' sm f (setArr st' (wr (AV st') (sa+k) r.toList.zipIdx)) rfl rfl rfl rfl;rw [<-show (IJ st').isNone=true by rw [sm.good.failed];rfl] at q;exact q
 ·refine AQ (args λb1 b2 b3 b4 b5 b6 b7 b8=>bz C O g1 b1 b2 b3 b4 b5 b6 b7 b8 λr st' sm f=>?_)
  refine AQ (DJ (AQ (HE (AR ?_))));have q:=fin r st' sm f (setArr st' (wr (AV st') (sa+k) r.toList.zipIdx)) rfl rfl rfl rfl;rw [<-show (IJ st').isNone=true by rw [sm.good.failed];rfl] at q;exact q
end
end Srt
namespace Srt
open PySem PyProof.Rows
theorem dk {c:Prop} [Decidable c] {z:Nat} (h:1 < z):(if c then z - 2 - 1 else z - 2)+1 < z:=by split <;> omega
def Stk (lt:Aj->Aj->Bool) (arr:Array Aj):List (Nat×Nat×Nat)->Nat->Nat->Prop
 | [],lo,hi=>lo=hi
 | (s,n,_) :: r,lo,hi=>s=lo/\1<=n/\Up lt arr s (s+n)/\Stk lt arr r (s+n) hi
section
variable {lt:Aj->Aj->Bool} {arr arr':Array Aj}
theorem Stk.le:∀ {l:List (Nat×Nat×Nat)} {lo hi:Nat},Stk lt arr l lo hi->lo+l.length<=hi
 | [],lo,hi,h=>by cases h;simp
 | (s,n,_) :: r,lo,hi,⟨h1,h2,_,h4⟩=>by
  have:=Stk.le h4;rw [As]
  lia
theorem Stk.app:∀ {l r:List (Nat×Nat×Nat)} {lo hi:Nat},Stk lt arr (l++r) lo hi↔∃mid,Stk lt arr l lo mid/\Stk lt arr r mid hi
 | [],r,lo,hi=>⟨λh=>⟨lo,rfl,h⟩,λ⟨_,e,h⟩=>by cases e;exact h⟩
 | (s,n,_) :: l,r,lo,hi=>by
  constructor
  ·rintro ⟨h1,h2,h3,h4⟩
   obtain ⟨mid,a,b⟩:=Stk.app.mp h4;exact ⟨mid,⟨h1,h2,h3,a⟩,b⟩
  ·rintro ⟨mid,⟨h1,h2,h3,h4⟩,b⟩
   exact ⟨h1,h2,h3,Stk.app.mpr ⟨mid,h4,b⟩⟩
theorem Stk.pw {f:Nat×Nat×Nat->Nat×Nat×Nat} (hf:∀x,(f x).1=x.1/\(f x).2.1=x.2.1):∀ {l:List (Nat×Nat×Nat)} {lo hi:Nat} (i:Nat),Stk lt arr l lo hi->Stk lt arr (l.modify i f) lo hi
 | [],lo,hi,i,h=>by cases i <;> exact h
 | (s,n,p) :: r,lo,hi,0,h=>by
  obtain ⟨e1,e2⟩:=hf (s,n,p);show Stk lt arr (f (s,n,p) :: r) lo hi;generalize f (s,n,p)=q at e1 e2;obtain ⟨s',n',p'⟩:=q;dsimp only at e1 e2;subst e1 e2;exact h
 | (s,n,p) :: r,lo,hi,i+1,⟨h1,h2,h3,h4⟩=>⟨h1,h2,h3,Stk.pw hf i h4⟩
theorem Stk.out:∀ {l:List (Nat×Nat×Nat)} {lo hi x y:Nat},Stk lt arr l lo hi->Out arr arr' x y->(hi<=x∨y<=lo)->Stk lt arr' l lo hi
 | [],lo,hi,x,y,h,o,d=>h
 | (s,n,_) :: r,lo,hi,x,y,⟨h1,h2,h3,h4⟩,o,d=>by
  have:=h4.le;exact ⟨h1,h2,h3.out o (by lia),Stk.out h4 o (by lia)⟩
end
section
variable {prog:An} {w:BH} {A:BD} {E:AC->AE->Prop} {s:AE} {a₀:Array Aj} {κ:FK} {lt:Aj->Aj->Bool}
theorem Out.wide {xs ys:Array Aj} {l h l' h':Nat} (o:Out xs ys l h) (h1:l'<=l) (h2:h<=h'):Out xs ys l' h':=λi hi=>o i (by lia)
theorem JY {st:BI} {i hi:Nat} {Q:Bool->BI->Prop} (C:J5 prog w A s a₀ κ lt) (O:Ord (·∈a₀) lt) (g:Good a₀ κ st) (k:Stk lt (AV st) (AX st).toList 0 hi) (hs:hi<=a₀.size) (hi1:i+1 < (AX st).size)
  (h:∀st',Good a₀ κ st'->Stk lt (AV st') (AX st').toList 0 hi->(AX st').size+1=(AX st).size->Out (AV st) (AV st') 0 hi->Q true st'):wpS (AY prog w) A E s (mergeAt' i) Q st:=by
 obtain ⟨sa,na,pw,e1⟩:∃sa na pw,(AX st)[i]?=some (sa,na,pw):=⟨_,_,_,getElem?_pos (AX st) i (by lia)⟩
 obtain ⟨sb,nb,pw2,e2⟩:∃sa na pw,(AX st)[i+1]?=some (sa,na,pw):=⟨_,_,_,getElem?_pos (AX st) (i+1) hi1⟩
 obtain ⟨l,r,el,hl⟩:∃l r,(AX st).toList=l++(sa,na,pw) :: (sb,nb,pw2) :: r/\l.length=i:=by
  have a1:(AX st).toList[i]?=some (sa,na,pw):=by simpa using e1
  have a2:(AX st).toList[i+1]?=some (sb,nb,pw2):=by simpa using e2
  obtain ⟨b1,c1⟩:=AM.mp a1;obtain ⟨b2,c2⟩:=AM.mp a2;refine ⟨(AX st).toList.take i,(AX st).toList.drop (i+2),?_,by rw [DQ];lia⟩
  conv=>lhs;rw [<-DW i (AX st).toList,CH b1,CH b2,c1,c2]
 rw [el] at k;obtain ⟨mid,k1,⟨q1,q2,q3,⟨q4,q5,q6,q7⟩⟩⟩:=Stk.app.mp k;have hle:=q7.le;have hle1:=k1.le
 refine So C O g e1 e2 q4 q2 q5 (by lia) q3 q6 λst' g' p' u' o'=>?_
 have pl:(AX st').toList=l++(sa,na+nb,pw) :: r:=by
  rw [p',Array.toList_eraseIdxIfInBounds,QE,el];rw [List.set_append_right _ _ (by lia),hl,Ue,List.set_cons_zero,List.eraseIdx_append_of_length_le (by lia),show i+1 - l.length=1 by lia];rfl
 refine h st' g' ?_ ?_ (o'.wide (by lia) (by lia))
 ·rw [pl]
  refine Stk.app.mpr ⟨mid,k1.out o' (.inl (by lia)),q1,by lia,u',?_⟩
  have e:sb+nb=sa+(na+nb):=by lia
  rw [e] at q7;exact q7.out o' (.inr (by lia))
 ·have z1:=congrArg HQ pl
  have z2:=congrArg HQ el;simp at z1 z2
  lia
theorem wpS_sortRuns {st:BI} {Q:Unit->BI->Prop} (C:J5 prog w A s a₀ κ lt) (O:Ord (·∈a₀) lt) (g:Good a₀ κ st) (hp:AX st = #[])
  (h:∀st',Good a₀ κ st'->Up lt (AV st') 0 a₀.size->Q () st'):wpS (AY prog w) A E s sortRuns' Q st:=by
 rw [sortRuns'_eq];refine AQ (HE ?_);dsimp only;rw [g.size];generalize minRun' a₀.size a₀.size 0=mr
 refine AQ (C7 (By (I:=λx c st'=>∃lo,c=(none,lo)/\Good a₀ κ st'/\Stk lt (AV st') (AX st').toList 0 lo/\lo<=a₀.size/\min x a₀.size<=lo)
  (Q:=λc st'=>c=(none,a₀.size)/\Good a₀ κ st'/\Stk lt (AV st') (AX st').toList 0 a₀.size) ?step ?fin ?init) ?post)
 case init=>exact ⟨0,rfl,g,by rw [hp];rfl,by lia,by lia⟩
 case fin=>
  rintro c st' ⟨lo,rfl,g',k',h1,h2⟩
  have:lo=a₀.size:=by lia
  subst this;exact ⟨rfl,g',k'⟩
 case step=>
  rintro x c st1 _ hx ⟨lo,rfl,g1,k1,h1,h2⟩;dsimp only
  by_cases hge:lo ≥ a₀.size
  ·rw [if_pos hge]
   have:lo=a₀.size:=by lia
   subst this;exact AR ⟨rfl,g1,k1⟩
  rw [if_neg hge];refine AQ (wpS_countRun C O (by lia) (by lia) g1 λst2 n g2 n1 n2 u2 o2 p2=>?_);dsimp only
  have k2:Stk lt (AV st2) (AX st2).toList 0 lo:=by
   rw [p2];exact k1.out o2 (.inl (AU _))
  by_cases hm:n < mr
  ·rw [if_pos hm]
   refine AQ (JC ?_);refine AQ (wpS_binarySort C O (by lia) (by omega) g2 u2 λst3 g3 u3 o3 p3=>?_)
   have k3:Stk lt (AV st3) (AX st3).toList 0 lo:=by
    rw [p3];exact k2.out o3 (.inl (AU _))
   rw [if_neg (by simp)];refine AQ (HE ?_)
   cases hb:(AX st3).back? with
   | none=>
    dsimp only;refine AQ (DJ (AR ⟨lo+min (a₀.size - lo) mr,rfl,⟨g3.perm,g3.kind,g3.failed⟩,?_,by lia,by lia⟩));show Stk lt (AV st3) ((AX st3).push (lo,min (a₀.size - lo) mr,0)).toList 0 (lo+min (a₀.size - lo) mr);rw [Iv];exact Stk.app.mpr ⟨lo,k3,rfl,by omega,u3,rfl⟩
   | some t=>
    obtain ⟨s1,n1,z⟩:=t;dsimp only;generalize power' a₀.size (2 * s1+n1) (2 * s1+n1+n1+min (a₀.size - lo) mr) a₀.size=pw
    refine AQ (C7 (By (I:=λ_ c st4=>c=(none,())/\Good a₀ κ st4/\Stk lt (AV st4) (AX st4).toList 0 lo/\Up lt (AV st4) lo (lo+min (a₀.size - lo) mr))
     (Q:=λc st4=>c=(none,())/\Good a₀ κ st4/\Stk lt (AV st4) (AX st4).toList 0 lo/\Up lt (AV st4) lo (lo+min (a₀.size - lo) mr)) ?_ (λc st4 h=>h) ⟨rfl,g3,k3,u3⟩) ?_)
    ·rintro x' c' st4 _ _ ⟨rfl,g4,k4,u4⟩
     refine AQ (HE ?_)
     by_cases hz:(AX st4).size > 1
     ·rw [if_pos hz]
      obtain ⟨s2,n2,older,e2⟩:∃s2 n2 older,(AX st4)[(AX st4).size - 2]?=some (s2,n2,older):=⟨_,_,_,getElem?_pos (AX st4) ((AX st4).size - 2) (by lia)⟩
      rw [e2];dsimp only
      by_cases ho:older<=pw
      ·rw [if_pos ho]
       exact AR ⟨rfl,g4,k4,u4⟩
      ·rw [if_neg ho]
       refine AQ (JY C O g4 k4 (by omega) (by lia) λst5 g5 k5 _ o5=>?_);exact AR ⟨rfl,g5,k5,u4.out o5 (.inr (by lia))⟩
     ·rw [if_neg hz]
      exact AR ⟨rfl,g4,k4,u4⟩
    ·rintro c' st4 ⟨rfl,g4,k4,u4⟩
     dsimp only;refine AQ (DJ (AQ (DJ (AR ⟨lo+min (a₀.size - lo) mr,rfl,⟨g4.perm,g4.kind,g4.failed⟩,?_,by lia,by lia⟩))));show Stk lt (AV st4) ((((AX st4).modify ((AX st4).size - 1) λx=>(x.fst,x.2.fst,pw))).push (lo,min (a₀.size - lo) mr,0)).toList 0 (lo+min (a₀.size - lo) mr);rw [Iv,WJ];exact Stk.app.mpr ⟨lo,Stk.pw (f:=λx=>(x.fst,x.2.fst,pw)) (λx=>⟨rfl,rfl⟩) _ k4,rfl,by omega,u4,rfl⟩
  ·rw [if_neg hm]
   refine AQ (HE ?_)
   cases hb:(AX st2).back? with
   | none=>
    dsimp only;refine AQ (DJ (AR ⟨lo+n,rfl,⟨g2.perm,g2.kind,g2.failed⟩,?_,by lia,by lia⟩));show Stk lt (AV st2) ((AX st2).push (lo,n,0)).toList 0 (lo+n);rw [Iv];exact Stk.app.mpr ⟨lo,k2,rfl,by omega,u2,rfl⟩
   | some t=>
    obtain ⟨s1,n1,z⟩:=t;dsimp only;generalize power' a₀.size (2 * s1+n1) (2 * s1+n1+n1+n) a₀.size=pw
    refine AQ (C7 (By (I:=λ_ c st4=>c=(none,())/\Good a₀ κ st4/\Stk lt (AV st4) (AX st4).toList 0 lo/\Up lt (AV st4) lo (lo+n))
     (Q:=λc st4=>c=(none,())/\Good a₀ κ st4/\Stk lt (AV st4) (AX st4).toList 0 lo/\Up lt (AV st4) lo (lo+n)) ?_ (λc st4 h=>h) ⟨rfl,g2,k2,u2⟩) ?_)
    ·rintro x' c' st4 _ _ ⟨rfl,g4,k4,u4⟩
     refine AQ (HE ?_)
     by_cases hz:(AX st4).size > 1
     ·rw [if_pos hz]
      obtain ⟨s2,n2,older,e2⟩:∃s2 n2 older,(AX st4)[(AX st4).size - 2]?=some (s2,n2,older):=⟨_,_,_,getElem?_pos (AX st4) ((AX st4).size - 2) (by lia)⟩
      rw [e2];dsimp only
      by_cases ho:older<=pw
      ·rw [if_pos ho]
       exact AR ⟨rfl,g4,k4,u4⟩
      ·rw [if_neg ho]
       refine AQ (JY C O g4 k4 (by omega) (by lia) λst5 g5 k5 _ o5=>?_);exact AR ⟨rfl,g5,k5,u4.out o5 (.inr (by lia))⟩
     ·rw [if_neg hz]
      exact AR ⟨rfl,g4,k4,u4⟩
    ·rintro c' st4 ⟨rfl,g4,k4,u4⟩
     dsimp only;refine AQ (DJ (AQ (DJ (AR ⟨lo+n,rfl,⟨g4.perm,g4.kind,g4.failed⟩,?_,by lia,by lia⟩))));show Stk lt (AV st4) ((((AX st4).modify ((AX st4).size - 1) λx=>(x.fst,x.2.fst,pw))).push (lo,n,0)).toList 0 (lo+n);rw [Iv,WJ];exact Stk.app.mpr ⟨lo,Stk.pw (f:=λx=>(x.fst,x.2.fst,pw)) (λx=>⟨rfl,rfl⟩) _ k4,rfl,by omega,u4,rfl⟩
 case post=>
  rintro c st1 ⟨rfl,g1,k1⟩;dsimp only
  refine AQ (C7 (By (I:=λx c st4=>c=(none,())/\Good a₀ κ st4/\Stk lt (AV st4) (AX st4).toList 0 a₀.size/\((AX st4).size<=1∨(AX st4).size+x<=a₀.size))
   (Q:=λc st4=>c=(none,())/\Good a₀ κ st4/\Stk lt (AV st4) (AX st4).toList 0 a₀.size/\(AX st4).size<=1) ?_ ?_ ?_) ?_)
  ·rintro x c st4 _ _ ⟨rfl,g4,k4,d⟩
   refine AQ (HE ?_)
   by_cases hz:(AX st4).size<=1
   ·rw [if_pos hz]
    exact AR ⟨rfl,g4,k4,hz⟩
   ·rw [if_neg hz]
    refine AQ (JY C O g4 k4 (AU _) (dk (by lia)) λst5 g5 k5 z5 o5=>?_);exact AR ⟨rfl,g5,k5,.inr (by lia)⟩
  ·rintro c st4 ⟨rfl,g4,k4,d⟩
   exact ⟨rfl,g4,k4,by lia⟩
  ·refine ⟨rfl,g1,k1,.inr ?_⟩
   have:=k1.le;simp at this;omega
  ·rintro c st4 ⟨rfl,g4,k4,d⟩
   refine AR (h st4 g4 ?_);generalize hl:(AX st4).toList=l at k4
   have hd:l.length<=1:=by rw [<-hl];simpa using d
   match l,k4,hd with
   | [],k4,_=>exact λi j h1 h2 h3=>by have:(0:Nat)=a₀.size:=k4;lia
   | [(s,n,_)],⟨e1,_,u,e2⟩,_=>
    have e2:s+n=a₀.size:=e2;rw [e2,e1] at u;exact u
end
end Srt
namespace Srt
open PySem PyProof.Rows
def ltL:List Int->List Int->Bool
 | [],[]=>false
 | [],_ :: _=>true
 | _ :: _,[]=>false
 | x :: xs,y :: ys=>if x=y then ltL xs ys else decide (x < y)
theorem Ms:∀x y,ltL x y=true->ltL y x=false
 | [],[],h=>by cases h
 | [],_ :: _,_=>rfl
 | _ :: _,[],h=>by cases h
 | x :: xs,y :: ys,h=>by
  unfold ltL at h ⊢
  by_cases e:x=y
  ·rw [if_pos e] at h;rw [if_pos e.symm];exact Ms xs ys h
  ·rw [if_neg e] at h;rw [if_neg (B5 e)];simp at h ⊢;lia
theorem Rs:∀x y z,ltL y x=false->ltL z y=false->ltL z x=false
 | [],y,[],_,_=>rfl
 | [],[],_ :: _,_,_=>rfl
 | [],_ :: _,_ :: _,_,_=>rfl
 | x :: xs,[],z,h,_=>by cases h
 | _,y :: ys,[],_,h=>by cases h
 | x :: xs,y :: ys,z :: zs,h1,h2=>by
  unfold ltL at h1 h2 ⊢
  by_cases e1:y=x
  ·rw [if_pos e1] at h1
   subst e1
   by_cases e2:z=y
   ·rw [if_pos e2] at h2 ⊢
    exact Rs xs ys zs h1 h2
   ·rw [if_neg e2] at h2 ⊢;exact h2
  ·rw [if_neg e1] at h1
   by_cases e2:z=y
   ·subst e2;rw [if_neg e1];exact h1
   ·rw [if_neg e2] at h2
    by_cases e3:z=x
    ·subst e3;simp at h1 h2;lia
    ·rw [if_neg e3];simp at h1 h2 ⊢;lia
theorem Wj:∀x y,ltL x y=false->ltL y x=false->x=y
 | [],[],_,_=>rfl
 | [],_ :: _,h,_=>by cases h
 | _ :: _,[],_,h=>by cases h
 | x :: xs,y :: ys,h1,h2=>by
  unfold ltL at h1 h2
  by_cases e:x=y
  ·rw [if_pos e] at h1;rw [if_pos e.symm] at h2;rw [e,Wj xs ys h1 h2]
  ·rw [if_neg e] at h1;rw [if_neg (B5 e)] at h2;simp at h1 h2;lia
def ltK (f:AC->List Int) (x y:Aj):Bool:=ltL (f x.1) (f y.1)
theorem dP (f:AC->List Int) (U:Aj->Prop):Ord U (ltK f):=⟨λx y _ _ h=>Ms _ _ h,λx y z _ _ _ h1 h2=>Rs _ _ _ h1 h2⟩
section
variable {prog:An} {w:BH} {A:BD} {E:AC->AE->Prop} {s:AE}
theorem VM {a b:Int} {t u:Tok} (o:Bool) {Q:Bool->AE->Prop} (h:Q (decide (a < b)) s):Af (AY prog w) A (oneLt' o (.int a t) (.int b u)) Q E s:=by
 cases o with
 | true=>exact oneLt_int h
 | false=>
  rw [oneLt'_eq];simp only [Cq,if_false];exact AA (wpAny_lt_int (B7 h))
def V5 (s:AE) (v:AC) (ns:List Int):Prop:=∃a its,v=.ref a/\s.heap.IsTuple a its/\Fc its.toList ns
def lh (o:Bool):(AC×AC)×Nat->Option Bool×Unit->Sem (ForInStep (Option Bool×Unit)):=λe _=>match e with
 | ((p,q),i)=>eqBool p q >>= λc=>if (!c)=true then oneLt' (o&&i==0) p q >>= λb=>pure (.done (some b,())) else pure (.yield (none,()))
theorem aV (o:Bool) (x y:AC):keyLt' (jg o) x y=(IU x >>= λr=>IU y >>= λq=>forIn (r.toList.zip q.toList).zipIdx ((none,()):Option Bool×Unit) (lh o) >>= λz=>match z.1 with
  | some b=>pure b
  | none=>pure (decide (r.size < q.size))):=by kernel_rfl
theorem bO (o:Bool) {n0:Nat}:∀ {is js:List AC} {ns ms:List Int} (k:Nat) {Q:Bool->AE->Prop},Fc is ns->Fc js ms->Q (ltL ns ms) s ->
  Af (AY prog w) A (forIn ((is.zip js).zipIdx k) ((none,()):Option Bool×Unit) (lh o) >>= λz=>match z.1 with
   | some b=>pure b
   | none=>pure (decide (n0+is.length < n0+js.length))) Q E s:=by
 intro is
 induction is with
 | nil=>
  intro js ns ms k Q h1 h2 hq;cases h1;rw [List.zip_nil_left,bp,Qa];refine AA (AJ (AJ ?_))
  cases h2 with
  | nil=>simpa [ltL] using hq
  | cons m t h=>simpa [ltL] using hq
 | cons v is ih=>
  intro js ns ms k Q h1 h2 hq
  cases h1 with
  | cons n t h1=>
   cases h2 with
   | nil=>
    rw [IN,bp,Qa];refine AA (AJ (AJ ?_));rw [decide_eq_false (by rw [As,KS];lia)];exact hq
   | cons m u h2=>
    rw [IP,List.zipIdx_cons,KU];rw [bind_assoc];unfold ltL at hq;refine AA ?_;refine AA (ju ?_)
    by_cases e:n=m
    ·rw [if_pos e] at hq
     rw [if_neg (by simp [e])];refine AJ ?_;have:=ih (k+1) h1 h2 hq;simpa [Nat.add_lt_add_iff_left] using this
    ·rw [if_neg e] at hq
     rw [if_pos (by simp [e])];refine AA (VM _ (AJ ?_));exact AA (AJ (AJ hq))
end
end Srt
namespace Srt
open PySem PyProof.Rows
section
variable {prog:An} {w:BH} {A:BD} {E:AC->AE->Prop} {s:AE}
theorem NK {v:AC} {ns:List Int} (h:V5 s v ns):∃its:Array AC,Fc its.toList ns/\s.TypeIs v "tuple"/\∀(E:AC->AE->Prop) (Q:Array AC->AE->Prop),Q its s->Af (AY prog w) A (IU v) Q E s:=by
 obtain ⟨a,its,rfl,⟨o,ho,hc,n,hd⟩,hi⟩:=h;exact ⟨its,hi,⟨o,ho,hc⟩,λE Q q=>listItems_at ho hd q⟩
theorem eN {x y:AC} {ns ms:List Int} (o:Bool) (hx:V5 s x ns) (hy:V5 s y ms) {Q:Bool->AE->Prop} (h:Q (ltL ns ms) s):Af (AY prog w) A (keyLt' (jg o) x y) Q E s:=by
 obtain ⟨r,hr,_,wr⟩:=NK (prog:=prog) (w:=w) (A:=A) hx;obtain ⟨q,hq,_,wq⟩:=NK (prog:=prog) (w:=w) (A:=A) hy;rw [aV];refine AA (wr E _ (AA (wq E _ ?_)));have:=bO (prog:=prog) (w:=w) (A:=A) (E:=E) (n0:=0) o 0 hr hq h;simp only [Ge,Bd] at this;exact this
theorem YI {v:AC} {n:Int} {ns:List Int} (h:V5 s v (n :: ns)) {Q:Option AC->AE->Prop} (hq:∀t,Q (some (.int n t)) s):Af (AY prog w) A (XQ v) Q E s:=by
 obtain ⟨r,hr,ty,wr⟩:=NK (prog:=prog) (w:=w) (A:=A) h;refine (AA (P4 ty ?_):Af _ _ (XQ v) Q E s);refine (show Af (AY prog w) A (if (Fb "tuple" != Fb "tuple")=true then _ else _) Q E s from ?_);rw [if_neg (by simp)];refine AA (wr E _ (AJ ?_));generalize hl:r.toList=l at hr
 cases hr with
 | cons _ t h2=>
  have:r[0]?=some (.int n t):=by
   rw [<-Array.getElem?_toList,hl];rfl
  rw [this];exact hq t
theorem Pn:∀ {vs:List AC},(∀v∈vs,∃n ns,V5 s v (n :: ns))->∀ {Q:List (Option AC)->AE->Prop},(∀is ns,Fc is ns->is.length=vs.length->Q (is.map some) s)->Af (AY prog w) A (vs.mapM XQ) Q E s
 | [],_,Q,h=>by
  rw [List.mapM_nil];exact AJ (h [] [] .nil rfl)
 | v :: vs,hv,Q,h=>by
  obtain ⟨n,ns,hn⟩:=hv v Ax;rw [List.mapM_cons];refine AA (YI hn λt=>AA (Pn (λv hv'=>hv v (Aa _ hv')) λis ms h1 h2=>AJ ?_));exact h (.int n t :: is) (n :: ms) (.cons n t h1) (by rw [As,h2,As])
theorem Rg {is:List AC} {ns:List Int} (h:Fc is ns) (h0:is≠[]):oneTypeOnly' is.toArray=pure (some (.type "int")):=by
 rw [oneTypeOnly'_eq,Yu,mapM_typeOf_ints h];simp only [map_pure,pure_bind]
 cases is with
 | nil=>exact absurd rfl h0
 | cons v is=>
  have e0:(QY (λ_=>Fb "int") (v :: is)).toArray[0]?=some (Fb "int"):=by simp
  have e1:((QY (λ_=>Fb "int") (v :: is)).toArray.all λx=>x==Fb "int")=true:=by
   simp only [List.all_toArray,US,Cp]
   exact λ_ _=>rfl
  rw [e0];simp only [e1,if_true]
theorem aT {vs:List AC} (hv:∀v∈vs,∃n ns,V5 s v (n :: ns)) (h0:vs≠[]) {Q:FK->AE->Prop} (h:Q (jg true) s):Af (AY prog w) A (keyKind' vs.toArray) Q E s:=by
 rw [keyKind'_eq,Yu];refine AA ?_;rw [map_eq_pure_bind];refine AA (Pn hv λis ns h1 h2=>AJ ?_)
 have hall:((is.map some).toArray.all λx=>x.isSome)=true:=by simp
 rw [if_pos hall];refine AA (UV ?_)
 have hf:(is.map some).toArray.filterMap id=is.toArray:=by simp
 rw [hf,Rg h1 (by intro e;subst e;cases vs with | nil=>exact h0 rfl | cons=>simp at h2)];refine AA (AJ (AJ ?_));exact h
end
end Srt
namespace Srt
open PySem PyProof.Rows
section
variable {prog:An} {w:BH} {A:BD} {E:AC->AE->Prop} {s:AE}
theorem Gm {vs:List AC} {x:Aj} (h:x∈KH vs):x.1∈vs/\x.1=x.2:=by
 have:x∈(KH vs).toList:=BN.mpr h;rw [pairsOf_toList] at this;exact ⟨(mem_zip_self this).2,(mem_zip_self this).1⟩
theorem X0 (vs:List AC):(KH vs).map (·.2)=vs.toArray:=by
 apply Array.ext'
 rw [JX,pairsOf_toList];simp [List.map_snd_zip]
def SS (prog:An) (w:BH) (A:BD) (s:AE) (vs:List AC) (f:AC->List Int):Prop:=
 ∃κ:FK,(∀(Q:FK->AE->Prop) (E:AC->AE->Prop),Q κ s->Af (AY prog w) A (keyKind' vs.toArray) Q E s)/\J5 prog w A s (KH vs) κ (ltK f)
theorem QP {a:AI} {vs:List AC} {n:Nat} {P:Fin->AE->Prop} {f:AC->List Int} (ho:s.heap.get? a=some (Ih "list" vs.toArray n)) (hz:vs.length<=sizeLine)
  (hk:2<=vs.length->∀s':AE,(∀b o,b≠a->s.heap.get? b=some o->s'.heap.get? b=some o)->SS prog w A s' vs f)
  (h:∀out:Array AC,out.toList.Perm vs->out.toList.Pairwise (λx y=>ltL (f y) (f x)=false)->P (.done (.ret .none)) { s with heap:=fZ s.heap a vs out }) :
  Af (AY prog w) A (Builtin.«list.sort» ⟨[.ref a],[]⟩) P E s:=by
 have ha:a < s.heap.objs.size:=Ae ho
 have hsz:vs.toArray.size=vs.length:=by simp
 obtain ⟨e1,ho1⟩:∃e1,(s.heap.update a (Ij λ_=>#[])).get? a=some (Ih "list" #[] e1):=⟨_,get?_update_seq ho (λ_=>#[])⟩
 have ho6:(((s.heap.update a (Ij λ_=>#[])).push (Ih "tuple" vs.toArray 0)).push (Ih "list" #[] 0)).get? a=some (Ih "list" #[] e1):=
  AO _ (AO _ ho1)
 have old:∀b o,b≠a->s.heap.get? b=some o->(((s.heap.update a (Ij λ_=>#[])).push (Ih "tuple" vs.toArray 0)).push (Ih "list" #[] 0)).get? b=some o:=λb o hb hg=>
  AO _ (AO _ (by rw [XV _ _ _ _ hb];exact hg))
 have fin:∀st':BI,(AV st').Perm (KH vs)->(AV st').toList.Pairwise (Rl (ltK f))->P (.done (.ret .none)) { s with heap:=fZ s.heap a vs ((AV st').map (·.2)) }:=by
  intro st' hp hs
  have hmem:∀x∈(AV st').toList,x.1=x.2:=λx hx=>by
   have:x∈(KH vs).toList:=(Er.mp hp).mem_iff.mp hx;exact (Gm (BN.mp this)).2
  refine h _ ?_ ?_
  ·have:=(Er.mp hp).map (·.2)
   rw [<-JX,<-JX,X0] at this;simpa using this
  ·rw [JX,Bk]
   refine hs.imp_of_mem λ{x y} hx hy r=>?_
   rw [<-hmem x hx,<-hmem y hy];exact r
 have last:∀st':BI,(AV st').Perm (KH vs)->IJ st'=none->(AV st').toList.Pairwise (Rl (ltK f))->(((AV st').map (·.2)).size<=sizeLine+1):=λst' hp _ _=>by
  rw [Array.size_map,hp.size_eq,pairsOf_size]
  lia
 rw [list_sort_plain];refine AA (listItems_at ho rfl (AA (XO ho rfl (AA (bi ho1 rfl (AA (wpAny_newTuple (AA (wpAny_newList (DY ?_)))))) ) (by rw [hsz];exact hz) (C0 _))));show Af (AY prog w) A _ P E { s with heap:=((s.heap.update a (Ij λ_=>#[])).push (Ih "tuple" vs.toArray 0)).push (Ih "list" #[] 0) };dsimp only
 by_cases h2:vs.toArray.size < 2
 ·rw [if_pos h2,if_pos h2]
  refine AA (AJ ?_);rw [StateT.run_pure]
  have hs0:(AV (Gs UY (vs.toArray.zip vs.toArray) #[] 7 none)).toList.Pairwise (Rl (ltK f)):=by
   have:(AV (Gs UY (vs.toArray.zip vs.toArray) #[] 7 none)).toList.length < 2:=by
    rw [Bd];show (KH vs).size < 2;rw [pairsOf_size];omega
   generalize (AV (Gs UY (vs.toArray.zip vs.toArray) #[] 7 none)).toList=l at this
   match l,this with
   | [],_=>exact .nil
   | [x],_=>exact List.pairwise_singleton _ _
   | _ :: _ :: _,h=>simp at h;lia
  refine AA (AJ (AA (bi ho6 rfl (AA (XO ho6 rfl ?_ (C0 _) (last (Gs UY (vs.toArray.zip vs.toArray) #[] 7 none) (M7 _) rfl hs0))))));simp only [bne_self_eq_false,Cq,if_false];exact AJ (fin (Gs UY (vs.toArray.zip vs.toArray) #[] 7 none) (M7 _) hs0)
 ·rw [if_neg h2,if_neg h2]
  obtain ⟨κ,kk,C⟩:=hk (by lia) { s with heap:=((s.heap.update a (Ij λ_=>#[])).push (Ih "tuple" vs.toArray 0)).push (Ih "list" #[] 0) } old;refine AA (kk _ _ ?_)
  refine AA (DK (Srt.wpS_sortRuns (a₀:=KH vs) (st:=Gs κ (vs.toArray.zip vs.toArray) #[] 7 none)
   (Q:=λ_ st'=>(AV st').Perm (KH vs)/\IJ st'=none/\(AV st').toList.Pairwise (Rl (ltK f))) C (dP f _) ⟨M7 _,rfl,rfl⟩ rfl λst' g u=>⟨g.perm,g.failed,?_⟩) ?_ λ_ _ e=>e)
  ·have:=ZL (a:=AV st') (lo:=0) (hi:=(AV st').size) (AU _) (by rw [g.size];exact u)
   rwa [Jp,List.drop_zero] at this
  rintro ⟨⟨⟩,st'⟩ s' ⟨rfl,hp,hf,hs⟩;refine AA (bi ho6 rfl (AA (XO ho6 rfl ?_ (C0 _) (last st' hp hf hs))));rw [hf];simp only [bne_self_eq_false,Cq,if_false];exact AJ (fin st' hp hs)
theorem Xj {vs:List AC} {f:AC->List Int} (h:∀v∈vs,V5 s v (f v)/\f v≠[]) (h0:vs≠[]):SS prog w A s vs f:=
 ⟨jg true,λQ E q=>aT (λv hv=>by
  obtain ⟨h1,h2⟩:=h v hv
  cases e:f v with
  | nil=>exact absurd e h2
  | cons n ns=>exact ⟨n,ns,by rw [<-e];exact h1⟩) h0 q,λx y hx hy Q E q=>eN true (h _ (Gm hx).1).1 (h _ (Gm hy).1).1 q⟩
def Z5 (v:AC):List Int:=[numOf v]
theorem Xk {vs:List AC} {ns:List Int} (h:Fc vs ns) (h2:2<=vs.length):SS prog w A s vs Z5:=by
 refine ⟨oneType',λQ E q=>?_,λx y hx hy Q E q=>?_⟩
 ·match vs,h2,h with
  | v :: u :: r,_,h=>rw [keyKind_ints h];exact AJ q
 ·obtain ⟨n,t,e1⟩:=h.all _ (Gm hx).1
  obtain ⟨m,u,e2⟩:=h.all _ (Gm hy).1;rw [keyLt'_oneType,e1,e2];refine oneLt_int ?_
  have:ltK Z5 x y=decide (n < m):=by
   unfold ltK Z5;rw [e1,e2];show (if n=m then false else decide (n < m))=_;split
   ·rename_i e;simp [e]
   ·rfl
  rw [<-this];exact q
end
end Srt
namespace Srt
open PySem PyProof.Rows
def QT (h:Bl) (d:AI) (es:Array Ny) (ep:Nat):Prop:=∃o,h.get? d=some o/\o.ExactDict/\o.data=.dict es ep
theorem QT.at' {h h':Bl} {d:AI} {es:Array Ny} {ep:Nat} (x:QT h d es ep) (e:∀o,h.get? d=some o->h'.get? d=some o):QT h' d es ep:=let ⟨o,ho,r⟩:=x;⟨o,e _ ho,r⟩
theorem QT.ty {s:AE} {d:AI} {es:Array Ny} {ep:Nat} (x:QT s.heap d es ep):s.TypeIs (.ref d) "dict":=let ⟨o,ho,hc,_⟩:=x;⟨o,ho,hc.1⟩
section
variable {prog:An} {w:BH} {A:BD} {E:AC->AE->Prop} {s:AE} {d it:AI} {es:Array Ny} {ep i:Nat}
theorem Zh {Q:AC->AE->Prop} (hd:(d==Dd)=false) (hm:QT s.heap d es ep)
  (kq:Q (.ref s.heap.objs.size) { s with heap:=s.heap.push { cls:=.type "dict_keyiterator",data:=.fields #[.ref d,.int 0 0,.int es.size 0,.int ep 0] } }):Af (AY prog w) A (fb (.ref d)) Q E s:=by
 have hT:=hm.ty;obtain ⟨o,ho,hc,hdat⟩:=hm;refine wpAny_pyIter_slot hT RC (Cz RC hT PySem.F.entry_dict_iter ?_ (PySem.F.args_dict_iter_1 _));unfold Builtin.«dict.__iter__»;refine AA ?_;unfold mJ;refine AA (wpAny_notOrdered_dict hT (show Af _ _ (pure (Az d)) _ _ s from AJ ?_));refine (show Af _ _ (Ow d >>= _) _ _ s from ?_);unfold Ow;rw [if_neg (by simp [hd])];refine AA (AJ (AA (P5 ho hdat (AA (Sg ho hdat (AA (B8 (AJ ⟨_,rfl, "dict_keyiterator",_,⟨_,Aq _ rfl,rfl⟩,CO.lookup,?_⟩))))))));simpa [EN] using kq
theorem Zg {Q:Option AC->AE->Prop} (ki:s.heap.IsKeyIter it d i es.size ep) (hm:QT s.heap d es ep) (hi:i < es.size)
  (kq:∀h',h'.IsKeyIter it d (i+1) es.size ep->EK it s.heap h'->Q (some es[i].key) { s with heap:=h' }):Af (AY prog w) A (Q8 (.ref it)) Q E s:=by
 obtain ⟨o,ho,hc,hd⟩:=id ki;obtain ⟨od,hod,hcd,hdd⟩:=hm;unfold Q8;refine AA (IH (Ca (name:=Gc "__next__") ki.typeIs CO (Cz CO ki.typeIs LW (AA (AJ (AA (AA ?_)))) (LP _))))
 first | refine AA (EY ki.typeIs (AJ (AA (M8 ho hd ?_)))) | refine AA (GP ki.typeIs (AJ (AA (M8 ho hd ?_))))
 simp only [show KL "dict_keyiterator" = false by decide,Cq,if_false];refine (show Af _ _ (if (Az d==BQ)=true then _ else _) _ _ s from ?_);rw [if_neg (λz:(Az d==BQ)=true=>AK z)];refine AA (AJ (AA (P5 hod hdd ?_)));rw [if_neg (by simp)];refine AA (AJ (AA (Sg hod hdd ?_)));rw [if_neg (by simp)];refine AJ ?_;simp only [show ¬((i:Int) < 0) by lia,if_false,CM,Array.getElem?_eq_getElem hi];refine AA ?_
 first | refine AA (EY ki.typeIs (AJ (AA (MR ki.typeIs ?_)))) | refine AA (GP ki.typeIs (AJ (AA (MR ki.typeIs ?_))))
 refine (show Af _ _ (bh (.ref it) 1 (EN ((i:Int)+1)) >>= _) _ _ s from ?_);have ki':(s.heap.update it (Cv (·.setIfInBounds 1 (EN ((i:Int)+1))))).IsKeyIter it d (i+1) es.size ep:=⟨_,Ea _ ho (Ed (B9 hd _)),(JR ..).trans hc,by rw [B9 hd];simp [EN]⟩;refine AA (FI ho hd (by simp) (AA (DY (AA (MR (s:={ s with heap:=s.heap.update it (Cv (·.setIfInBounds 1 (EN ((i:Int)+1)))) }) ki'.typeIs ?_)))));exact (show Af _ _ (pure es[i].key) _ _ _ from AJ (AJ ⟨_,rfl,AJ (kq _ ki' (Gf ..))⟩))
theorem cw {Q:Option AC->AE->Prop} (h0:A.handled=none) (ki:s.heap.IsKeyIter it d i es.size ep) (hm:QT s.heap d es ep) (hi:es.size<=i)
  (kq:∀h',WI it s.heap h'->Q none { s with heap:=h' }):Af (AY prog w) A (Q8 (.ref it)) Q E s:=by
 obtain ⟨o,ho,hc,hd⟩:=id ki;obtain ⟨od,hod,hcd,hdd⟩:=hm;unfold Q8;refine AA (IH (Ca (name:=Gc "__next__") ki.typeIs CO (Cz CO ki.typeIs LW (AA (AJ (AA (AA ?_)))) (LP _))))
 first | refine AA (EY ki.typeIs (AJ (AA (M8 ho hd ?_)))) | refine AA (GP ki.typeIs (AJ (AA (M8 ho hd ?_))))
 simp only [show KL "dict_keyiterator" = false by decide,Cq,if_false];refine (show Af _ _ (if (Az d==BQ)=true then _ else _) _ _ s from ?_);rw [if_neg (λz:(Az d==BQ)=true=>AK z)];refine AA (AJ (AA (P5 hod hdd ?_)));rw [if_neg (by simp)];refine AA (AJ (AA (Sg hod hdd ?_)));rw [if_neg (by simp)];refine AJ ?_;simp only [show ¬((i:Int) < 0) by lia,if_false,CM,Array.getElem?_eq_none hi];refine AA ?_
 first | refine AA (EY ki.typeIs (AJ (show Af _ _ (bh (.ref it) 0 .none >>= _) _ _ s from ?_))) | refine AA (GP ki.typeIs (AJ (show Af _ _ (bh (.ref it) 0 .none >>= _) _ _ s from ?_)))
 refine AA (FI ho hd (by simp) (show Af _ _ (newExc (.type "StopIteration") [] >>= _) _ _ _ from AA ?_));simp only [newExc,newTuple];refine AA (B8 (AA (m:=M9 _ _) (SX (a:=BQ) (by first | rfl | (simp only [M9];rfl)) (B8 ?_ (by size_fits)))) (by size_fits));simp only [raiseNew];refine AA (wpAny_handled ?_);rw [show A.in1.handled=none from h0];refine AA (AJ (wpAny_throw ?_));refine AA (jr (T:="StopIteration") (b:=true) ⟨_,Aq _ rfl,rfl⟩ isSubtype_stop (AJ ?_));exact kq _ (((Gf ..).extBut.push _).push _)
theorem Xw (h0:A.handled=none) (I:AI) (hne:d≠I):Walks prog w A I [I,d] [I] es.size (λi v=>∃h:i < es.size,v=es[i].key) (λi h=>h.IsKeyIter I d i es.size ep/\QT h d es ep) where
 sub:=λx hx=>by simp at hx;simp [hx]
 frame:=λ_ _ _ st keep=>⟨st.1.at λo e=>keep I (by simp) o e,st.2.at' λo e=>keep d (by simp) o e⟩
 item:=λi s Q E hi st kq=>Zg st.1 st.2 hi λh' ki' hs'=>kq _ h' s.toks ⟨hi,rfl⟩ ⟨ki',st.2.at' λo e=>hs'.extBut d o hne e⟩ λb o hb e=>hs'.extBut b o (λh=>hb (by simp [h])) e
 done:=λs Q E st kq=>cw h0 st.1 st.2 (AU _) λh' he'=>kq h' s.toks λb o hb e=>he' b o (λh=>hb (by simp [h])) e
 self:=λ_ _ _ _ st kq=>wpAny_pyIter_keyiter st.1 kq
theorem WZ (lo:(d==Dd)=false):PySem.W.KdlSrc prog w "dict" d d es.size (λi v=>∃h:i < es.size,v=es[i].key) (λh=>QT h d es ep) where
 type:=λ_ hm=>hm.ty
 there:=λ_ hm=>⟨let ⟨_,ho,_⟩:=hm;Ae ho,let ⟨_,ho,_⟩:=hm;Ae ho⟩
 keep:=λ_ _ hm hk=>hm.at' λo e=>hk d (.inl rfl) o e
 notList:=by decide
 notTuple:=by decide
 hint:=λ_ _ _ _ hm hq=>PySem.W.kdl_hint_dict hm.ty hq
 iter:=λ_ _ h0 hm=>⟨_,_,(λ_ _ hq=>Zh lo hm hq),Xw h0 _ (A0 (let ⟨_,ho,_⟩:=hm;Ae ho)),⟨⟨_,Aq _ rfl,rfl,rfl⟩,hm.at' λo e=>AO _ e⟩⟩
end
end Srt
namespace L2
open PySem PySem.Spec PyProof.Rows
open Srt (ltL)
theorem Tb {α β:Type} {R:α->β->Prop} {l2 l2':List β} (p:l2.Perm l2'):∀ {l1:List α},HF R l1 l2->∃l1',HF R l1' l2'/\l1'.Perm l1:=by
 induction p with
 | nil=>intro l1 h;cases h;exact ⟨[],.nil,.refl _⟩
 | cons x _ ih=>
  intro l1 h
  cases h with
  | cons r t=>
   obtain ⟨l',h1,h2⟩:=ih t;exact ⟨_ :: l',.cons r h1,h2.cons _⟩
 | swap x y l=>
  intro l1 h
  cases h with
  | cons r t=>
   cases t with
   | cons r2 t=>exact ⟨_ :: _ :: _,.cons r2 (.cons r t),List.Perm.swap _ _ _⟩
 | trans _ _ ih1 ih2=>
  intro l1 h;obtain ⟨a,h1,h2⟩:=ih1 h;obtain ⟨b,h3,h4⟩:=ih2 h1;exact ⟨b,h3,h4.trans h2⟩
theorem Ml {α β γ:Type} {R:α->β->Prop} {f:α->γ} {g:β->γ}:∀ {l1:List α} {l2:List β},HF R l1 l2->(∀a∈l1,∀b,R a b->g b=f a)->l2.map g=l1.map f
 | _,_,.nil,_=>rfl
 | _,_,.cons r t,h=>by rw [A3,A3,h _ Ax _ r,Ml t λa ha=>h a (Aa _ ha)]
theorem PQ {α β:Type} {R:α->β->Prop}:∀ {l1:List α} {l2:List β} {b:β},HF R l1 l2->b∈l2->∃a∈l1,R a b
 | _,_,_,.nil,h=>nomatch h
 | _,_,b,.cons r t,h=>by
  rcases Ay.mp h with h | h
  ·subst h;exact ⟨_,Ax,r⟩
  ·obtain ⟨a,ha,e⟩:=PQ t h
   exact ⟨a,Aa _ ha,e⟩
def QM:V->Int
 | .int n=>n
 | _=>0
def Xt (H:Hp):AC->List Int
 | .int n _=>[n]
 | .ref b=>match H b with
  | some (.tup xs)=>xs.map QM
  | _=>[]
 | _=>[]
theorem NW (r:List Int):(r.map V.int).map QM=r:=by
 rw [BX];exact (Cd λa _=>rfl).trans (jp r)
def lm (K:AB) (H:Hp) (p:AI) (G:List V->Prop):Prop:=
 (∃vs,(SqL K H p vs∨SqT K H p vs)/\G vs)∨(∃kvs,H p=some (.dK kvs)/\G (kvs.map λx=>kV x.1)) ∨
  ∃kvs,H p=some (.dT kvs)/\∀bs:List AI,HF (λ(k:List Key×V) b=>H b=some (.tup (k.1.map kV))) kvs bs->G (bs.map V.ref)
def Q6 (H:Hp) (f:V->List Int) (vs:List V):Prop:=(∀v∈vs,∃n,v=.int n/\f v=[n])∨∀v∈vs,∃b,v=.ref b/\H b=some (.tup ((f v).map V.int))/\f v≠[]
def ke (K:AB):List V->Hp->VK->Prop:=λxs H Q=>∃p,xs=[.ref p]/\lm K H p λvs=>∃f:V->List Int,Q6 H f vs /\
 ∀out,out.Perm vs->out.Pairwise (λx y=>ltL (f y) (f x)=false)->∀l,H l=none->Q (.ref l) (upd H l (.lst out))
theorem Q6.rel {H:Hp} {f:V->List Int} {vs:List V} (h:Q6 H f vs):∀v∈vs,∀u,RelV v u->Xt H u=f v:=λv hv u r=>by
 rcases h with h | h
 ·obtain ⟨n,rfl,e⟩:=h v hv
  obtain ⟨t,rfl⟩:=r;exact e.symm
 ·obtain ⟨b,rfl,e,_⟩:=h v hv
  cases r;show (match H b with | some (.tup xs)=>xs.map QM | _=>[])=_;rw [e];exact NW _
theorem TH {X:Cx} {pins:List (AI×Obj)} {s:AE} {σ:St} {H:Hp} {p:AI} {G:List V->Prop} (hc:X.calm=true) (I:Inv X pins σ H s) (h:lm X.K H p G) :
  ∃vs its,G vs/\Bh vs its/\its.length<=sizeLine/\∀(R:List AC->AE->Prop) (E:AC->AE->Prop),(∀(g:Bl) (tk:Nat),(∀b o,s.heap.get? b=some o->g.get? b=some o)->R its { s with heap:=g,toks:=tk })->Af (AY X.prog X.w) X.A.in1 (collect (.ref p)) R E s:=by
 have hh:X.A.handled=none:=I.ok.hd hc
 rcases h with ⟨vs,sq,g⟩ | ⟨kvs,e,g⟩ | ⟨kvs,e,g⟩
 ·rcases sq with sq | sq
  ·obtain ⟨its,rv,pl,hz⟩:=I.list sq
   refine ⟨vs,its,g,rv,by rw [<-rv.length];exact hz,λR E k=>collect_list pl.isList (k _ s.toks λb o e=>?_) (by rw [<-rv.length];exact hz)⟩;rw [XV _ _ _ _ (A0 (Ae e))];exact AO _ e
  ·obtain ⟨its,rv,⟨o,ho,hcl,n,hd⟩,hz⟩:=I.tuple sq
   have hz':its.length<=sizeLine:=by rw [<-rv.length];exact hz
   exact ⟨vs,its,g,rv,hz',λR E k=>wpAny_collect_seq p (.inr rfl) ho hcl hd (λh' kp=>by simpa using k h' s.toks kp) (by simpa using hz')⟩
 ·obtain ⟨hz,sm,us,kv,o,es,ep,g1,g2,g3,g5,g6,_⟩:=(show Cm X.prog X.w H s.heap p (.dK kvs) from I.hok p _ e)
  have hlen:es.size=kvs.length:=by
   have a1:=g6.length;have a2:kvs.length=us.length:=EO kv;rw [Bd] at a1
   lia
  have hv:Bh (kvs.map λx=>kV x.1) (es.toList.map (·.key)):=by
   have key:∀ {l:List Ny} {us:List (Key×AC)} {kvs:List (Key×V)},Pairs (D8 X.prog X.w) l us->KV kvs us->Bh (kvs.map λx=>kV x.1) (l.map (·.key)):=by
    intro l us kvs hp
    induction hp generalizing kvs with
    | nil=>intro h;cases h;exact .nil
    | cons q1 q2 _ ih=>
     intro h
     cases h with
     | cons r t=>
      refine .cons ?_ (ih t);dsimp only;rw [r.1]
      rcases DD q1 with ⟨i,t,e1,e2⟩ | ⟨x,t,e1,e2⟩
      ·rw [e1,e2];exact ⟨t,rfl⟩
      ·rw [e1,e2];exact ⟨t,rfl⟩
   exact key g6 kv
  refine ⟨_,es.toList.map (·.key),g,hv,by rw [AH,Bd,hlen];exact hz,λR E k=>?_⟩
  refine UO (Srt.WZ (es:=es) (ep:=ep) sm) hh ⟨o,g1,g2,g3⟩ (by rw [hlen];exact hz) λg' tk acc kp ac=>?_
  have:acc.toList=es.toList.map (·.key):=by
   apply JB
   intro j
   by_cases hj:j < es.size
   ·have hj2:j < acc.size:=by rw [ac.1];exact hj
    obtain ⟨_,e2⟩:=ac.2 j acc[j] (by simp [hj2]);simp [hj,hj2,e2]
   ·have hj2:¬j < acc.size:=by rw [ac.1];exact hj
    simp [hj,hj2]
  rw [this];exact k g' tk kp
 ·obtain ⟨hz,sm,xs,rr,o,es,ep,g1,g2,g3,g4,_⟩:=(show Cm X.prog X.w H s.heap p (.dT kvs) from I.hok p _ e)
  have hlen:es.size=kvs.length:=by
   have a1:=congrArg HQ g4;have a2:kvs.length=xs.length:=EO rr;rw [Bd,AH] at a1
   lia
  have hb:HF (λ(k:List Key×V) b=>H b=some (.tup (k.1.map kV))) kvs (xs.map (·.2.1)):=by
   have key:∀ {kvs:List (List Key×V)} {xs:List (List Key×AI×AC)},HF (λ(p:List Key×V) (q:List Key×AI×AC)=>p.1=q.1/\H q.2.1=some (.tup (p.1.map kV))/\RelV p.2 q.2.2) kvs xs->HF (λ(k:List Key×V) b=>H b=some (.tup (k.1.map kV))) kvs (xs.map (·.2.1)):=by
    intro kvs xs h
    induction h with
    | nil=>exact .nil
    | cons r _ ih=>exact .cons r.2.1 ih
   exact key rr
  have hk:es.toList.map (·.key)=(xs.map (·.2.1)).map Az:=by
   rw [g4,BX,BX];rfl
  have hv:∀l:List AI,Bh (l.map V.ref) (l.map Az):=λl=>by
   induction l with
   | nil=>exact .nil
   | cons a l ih=>exact .cons rfl ih
  refine ⟨_,(xs.map (·.2.1)).map Az,g _ hb,hv _,by rw [AH,AH,<-EO rr];exact hz,λR E k=>?_⟩
  refine UO (Srt.WZ (es:=es) (ep:=ep) sm) hh ⟨o,g1,g2,g3⟩ (by rw [hlen];exact hz) λg' tk acc kp ac=>?_
  have:acc.toList=(xs.map (·.2.1)).map Az:=by
   rw [<-hk]
   apply JB
   intro j
   by_cases hj:j < es.size
   ·have hj2:j < acc.size:=by rw [ac.1];exact hj
    obtain ⟨_,e2⟩:=ac.2 j acc[j] (by simp [hj2]);simp [hj,hj2,e2]
   ·have hj2:¬j < acc.size:=by rw [ac.1];exact hj
    simp [hj,hj2]
  rw [this];exact k g' tk kp
theorem TR {X:Cx} {s:AE} {H:Hp} {f:V->List Int} {vs:List V} {its:List AC} (I:∀b xs,H b=some (.tup xs)->∃is:List AC,Bh xs is/\br s.heap b is.toArray) (h:Q6 H f vs) (rv:Bh vs its) (h2:2<=its.length) {A:BD}:Srt.SS X.prog X.w A s its (Xt H):=by
 rcases id h with hi | ht
 ·have:∃ns,Fc its ns:=by
   have key:∀ {vs:List V} {its:List AC},Bh vs its->(∀v∈vs,∃n,v=.int n/\f v=[n])->∃ns,Fc its ns:=by
    intro vs its r
    induction r with
    | nil=>exact λ_=>⟨[],.nil⟩
    | cons r _ ih=>
     intro hv
     obtain ⟨ns,hns⟩:=ih λv hv'=>hv v (Aa _ hv')
     obtain ⟨n,rfl,_⟩:=hv _ Ax;obtain ⟨t,rfl⟩:=r;exact ⟨n :: ns,.cons n t hns⟩
   exact key rv hi
  obtain ⟨ns,hns⟩:=this;obtain ⟨κ,k1,k2⟩:=Srt.Xk (prog:=X.prog) (w:=X.w) (A:=A) (s:=s) hns h2;refine ⟨κ,k1,λx y hx hy Q E q=>k2 x y hx hy Q E ?_⟩;obtain ⟨n,t,e1⟩:=hns.all _ (Srt.Gm hx).1;obtain ⟨m,u,e2⟩:=hns.all _ (Srt.Gm hy).1
  have e:Srt.ltK Srt.Z5 x y=Srt.ltK (Xt H) x y:=by
   unfold Srt.ltK Srt.Z5;rw [e1,e2];rfl
  rw [e];exact q
 ·refine Srt.Xj (λu hu=>?_) (by intro e;subst e;simp at h2)
  obtain ⟨v,hv,r⟩:=PQ rv hu;rw [h.rel v hv u r];obtain ⟨b,rfl,e,ne⟩:=ht v hv;cases r;refine ⟨⟨b,?_⟩,ne⟩;obtain ⟨is,r,o,ho,hcl,n,hd⟩:=I b _ e;exact ⟨is.toArray,rfl,⟨o,ho,hcl,n,hd⟩,by simpa using intsAre_of r⟩
theorem YU {X:Cx} (hc:X.calm=true):IG X (.builtin "sorted") (ke X.K):=by
 intro pins s σ H xs us Q I r h;obtain ⟨p,rfl,src⟩:=h;obtain ⟨u,rfl,rx⟩:=vals1 r;cases rx;obtain ⟨vs,its,⟨f,rows,q⟩,rv,hz,col⟩:=TH hc I src;refine Calls.call_function_entry kind_sorted plain_sorted entry_sorted (args_sorted1 _) ?_;unfold Builtin.«sorted»;refine AA (m:=checkCount "sorted" 1 1 _) (AJ (AA (col _ _ λg tk kp=>?_)));refine AA (wpAny_newList ?_ hz);have I1:Inv X pins σ H { s with heap:=g,toks:=tk }:=I.kept kp;have hl:(g.push (Ih "list" its.toArray 0)).get? g.objs.size=some (Ih "list" its.toArray 0):=Aq _ rfl;refine AA (DY (Cz slot_list_sort ⟨_,hl,rfl⟩ entry_list_sort (Srt.QP (f:=Xt H) hl hz (λh2 s' keep=>?_) λout po so=>⟨_,rfl,AJ ⟨_,rfl,?_⟩⟩) (args_list_sort _)))
 ·refine TR (λb xs e=>?_) rows rv h2
  obtain ⟨_,is,r,o,ho,hcl,n,hd⟩:=(show Cm X.prog X.w H g b (.tup xs) from I1.hok b _ e);exact ⟨is,r,o,keep b o (A0 (Ae ho)) (AO _ ho),hcl,n,hd⟩
 ·obtain ⟨vo,ro,pv⟩:=Tb po.symm rv
  have so':vo.Pairwise (λx y=>ltL (f y) (f x)=false):=by
   have e:out.toList.map (Xt H)=vo.map f:=Ml ro λa ha b rb=>rows.rel a (pv.mem_iff.mp ha) b rb
   have:=(Bk (f:=Xt H) (R:=λx y=>ltL y x=false)).mpr so;rw [e] at this;exact Bk.mp this
  obtain ⟨k,hk⟩:=sortedHeap_at (out:=out) hl
  have hlen:vo.length<=sizeLine:=by rw [pv.length_eq,rv.length];exact hz
  have I2:=I1.laid (a:=g.objs.size) (o:=.lst vo) (t':=tk) (h':=fZ (g.push (Ih "list" its.toArray 0)) g.objs.size its out)
   (λb u z=>by
    have lt:b < g.objs.size:=Ae z;rw [sortedHeap_old (A0 lt) (by rw [size_push'];exact OF lt)]
    exact AO _ z) (AU _) ⟨hlen,out.toList,k,ro,hk⟩
  exact ⟨.ref g.objs.size,_,I2,rfl,q vo pv so' _ (I1.hok.fresh (AU _))⟩
end L2
namespace L2
open PySem PySem.Spec PyProof.Rows
open Srt (ltL)
def Db (ns:List Int):List Int:=ns.mergeSort (λa b=>decide (a<=b))
@[simp] theorem Xl:Db []=[]:=by unfold Db;simp
theorem FN (ns:List Int):(Db ns).Perm ns:=XT ns _
theorem TJ (ns:List Int):(Db ns).Pairwise (·<=·):=by
 have:=Si (le:=λa b:Int=>decide (a<=b)) (by intro a b c h1 h2;simp at h1 h2 ⊢;lia) (by intro a b;simp;lia) ns
 exact this.imp λh=>by simpa using h
def Hm (rs:List (List Int)):List (List Int):=rs.mergeSort (λa b=>!ltL b a)
theorem D6 (rs:List (List Int)):(Hm rs).Perm rs:=XT rs _
theorem Kb (rs:List (List Int)):(Hm rs).Pairwise (λa b=>ltL b a=false):=by
 have:=Si (le:=λa b:List Int=>!ltL b a) (by intro a b c h1 h2;simp at h1 h2 ⊢;exact Srt.Rs _ _ _ h1 h2) (by
  intro a b
  cases e:ltL b a with
  | false=>simp
  | true=>simp [Srt.Ms _ _ e]) rs
 exact this.imp λh=>by simpa using h
theorem K7 {l l':List (List Int)} (p:l.Perm l') (h:l.Pairwise (λa b=>ltL b a=false)) (h':l'.Pairwise (λa b=>ltL b a=false)):l=l':=
 p.eq_of_pairwise (λa b _ _ h1 h2=>Srt.Wj a b h2 h1) h h'
def aU:Key->D
 | .inl i=>.int i
 | .inr x=>.str x
def Jl (d:D) (S:Sto):Option (List D):=match d with
 | .fro ds=>some ds
 | .tup ds=>some ds
 | .ref n=>match S[n]? with
  | some (.lst ds)=>some ds
  | some (.dK kvs)=>some (kvs.map λx=>aU x.1)
  | some (.dT kvs)=>some (kvs.map λx=>.tup (x.1.map aU))
  | _=>none
 | _=>none
def LQ (r:List Int):D:=.tup (r.map D.int)
def LZ:List D->Option (List (List Int))
 | []=>some []
 | .tup ds :: r=>match JK ds,LZ r with
  | some (n :: ns),some rs=>some ((n :: ns) :: rs)
  | _,_=>none
 | _ :: _=>none
def Jz (ds:List D):Option (List D):=match JK ds with
 | some ns=>some ((Db ns).map D.int)
 | none=>match LZ ds with
  | some rs=>some ((Hm rs).map LQ)
  | none=>none
def D9 (m:ME):ME:=λe S=>(m e S).bind λd S1=>match Jl d S1 with
 | some ds=>match Jz ds with
  | some es=>.ok (.ref S1.length) (S1++[.lst es])
  | none=>.bad
 | none=>.bad
section
variable {X:Cx} {E:EW} {e:Expr} {p pos:Pos} {m:ME}
theorem de (x y:Int):ltL [y] [x]=decide (y < x):=by
 show (if y=x then false else decide (y < x))=_;split
 ·rename_i e;simp [e]
 ·rfl
def QI (H:Hp):V->List Int
 | .int n=>[n]
 | .ref b=>match H b with
  | some (.tup xs)=>xs.map QM
  | _=>[]
 | _=>[]
theorem TU {K:AB} {ρ:List AI} {H:Hp}:∀ {ds:List D} {rs:List (List Int)} {vs:List V},LZ ds=some rs->At K ρ H ds vs->vs.map (QI H)=rs/\∀v∈vs,∃b,v=.ref b/\H b=some (.tup ((QI H v).map V.int))/\QI H v≠[]
 | [],_,_,h,.nil=>by cases h;exact ⟨rfl,λv hv=>nomatch hv⟩
 | .tup ts :: ds,rs,_,h,.cons r t=>by
  unfold LZ at h;split at h
  ·rename_i n ns rs' h1 h2
   cases h;obtain ⟨i1,i2⟩:=TU h2 t
   cases r with
   | @tup _ b ws hb rr=>
    have:=Pk h1;subst this;have:=rr.ints;subst this
    have e:QI H (.ref b)=n :: ns:=by
     show (match H b with | some (.tup xs)=>xs.map QM | _=>[])=_;rw [hb];exact NW _
    refine ⟨by rw [A3,e,i1],λv hv=>?_⟩
    rcases Ay.mp hv with hv | hv
    ·subst hv
     refine ⟨b,rfl,?_,?_⟩
     ·rw [e];exact hb
     ·rw [e];exact List.cons_ne_nil _ _
    ·exact i2 v hv
  ·cases h
 | .non :: _,_,_,h,_=>by cases h
 | .bl _ :: _,_,_,h,_=>by cases h
 | .int _ :: _,_,_,h,_=>by cases h
 | .str _ :: _,_,_,h,_=>by cases h
 | .fro _ :: _,_,_,h,_=>by cases h
 | .ref _ :: _,_,_,h,_=>by cases h
 | .exc _ :: _,_,_,h,_=>by cases h
theorem TW {K:AB} {ρ:List AI} {H:Hp}:∀ {vs:List V},(∀v∈vs,∃b,v=.ref b/\H b=some (.tup ((QI H v).map V.int))/\QI H v≠[])->At K ρ H ((vs.map (QI H)).map LQ) vs
 | [],_=>.nil
 | v :: vs,h=>by
  obtain ⟨b,e,hb,_⟩:=h v Ax;refine .cons ?_ (TW λu hu=>h u (Aa _ hu));subst e;exact .tup hb (At.of_ints _)
theorem ZX {K:AB} {ρ:List AI} {H:Hp} {ds es:List D} {vs:List V} (h:Jz ds=some es) (r:At K ρ H ds vs) :
  ∃f:V->List Int,Q6 H f vs/\∀out,out.Perm vs->out.Pairwise (λx y=>ltL (f y) (f x)=false)->At K ρ H es out:=by
 unfold Jz at h;split at h
 ·rename_i ns hz
  cases h;have:=Pk hz;subst this;have:=r.ints;subst this;refine ⟨λv=>[QM v],.inl λv hv=>?_,λout po so=>?_⟩
  ·obtain ⟨n,_,rfl⟩:=A9.mp hv
   exact ⟨n,rfl,rfl⟩
  ·have e1:out=(out.map QM).map V.int:=by
    rw [BX]
    conv=>lhs;rw [<-Ov out]
    refine Cd λv hv=>?_
    obtain ⟨n,_,rfl⟩:=A9.mp (po.mem_iff.mp hv);rfl
   have e2:out.map QM=Db ns:=by
    have p1:(out.map QM).Perm (Db ns):=by
     have:=po.map QM;rw [NW] at this;exact this.trans (FN ns).symm
    refine p1.eq_of_pairwise (λa b _ _ h1 h2=>Int.le_antisymm h1 h2) ?_ (TJ ns);rw [Bk]
    refine so.imp λ{x y} hxy=>?_
    rw [de] at hxy;simp at hxy;exact hxy
   rw [e1,e2];exact At.of_ints _
 ·split at h
  ·rename_i rs hr
   cases h;obtain ⟨i1,i2⟩:=TU hr r;refine ⟨QI H,.inr i2,λout po so=>?_⟩
   have e2:out.map (QI H)=Hm rs:=by
    refine K7 ?_ (Bk.mpr so) (Kb rs);have:=po.map (QI H);rw [i1] at this;exact this.trans (D6 rs).symm
   rw [<-e2]
   exact TW λv hv=>i2 v (po.mem_iff.mp hv)
  ·cases h
theorem Pg {K:AB} {ρ:List AI} {H:Hp}:∀ks:List Key,At K ρ H (ks.map aU) (ks.map kV)
 | []=>.nil
 | .inl i :: ks=>.cons (.int i) (Pg ks)
 | .inr x :: ks=>.cons (.str x) (Pg ks)
theorem Pf {K:AB} {ρ:List AI} {H:Hp}:∀ {kvs:List (Key×D)} {kvs':List (Key×V)},KVR K ρ H kvs kvs'->At K ρ H (kvs.map λx=>aU x.1) (kvs'.map λx=>kV x.1)
 | _,_,.nil=>.nil
 | (k,_) :: _,(k',_) :: _,.cons r t=>by
  have e:k=k':=r.1;subst e
  cases k with
  | inl i=>exact .cons (.int i) (Pf t)
  | inr x=>exact .cons (.str x) (Pf t)
theorem Tv {K:AB} {ρ:List AI} {H:Hp}:∀ {kvs:List (List Key×D)} {kvs':List (List Key×V)} {bs:List AI},KVR K ρ H kvs kvs'->HF (λ(k:List Key×V) b=>H b=some (.tup (k.1.map kV))) kvs' bs->At K ρ H (kvs.map λx=>.tup (x.1.map aU)) (bs.map V.ref)
 | _,_,_,.nil,.nil=>.nil
 | (k,_) :: _,(k',_) :: _,_,.cons r t,.cons r2 t2=>by
  have e:k=k':=r.1;subst e;exact .cons (.tup r2 (Pg k)) (Tv t t2)
theorem Go (hc:X.calm=true) (hg:Gl X "sorted") (hm:X.mg "sorted" = none) (h:GE X E e m) (he:AZ [e] X.env=(false,CC e X.env) :: AZ [] X.env:=by rfl):GE X E (.Call (.Name "sorted" p) [e] [] pos) (D9 m):=
 (Mj (YU hc) hg hm lw (FG h Hr he) (by decide) (by decide) he rfl).imp λσ H Q ⟨ρ,l,S,hl,hs,hm⟩=>by
 refine ⟨ρ,l,S,hl,hs,hm.seq λd S1 hm ρ1 H1 x l1 s1 r1=>?_⟩
 cases hq:Jl d S1 with
 | none=>rw [hq] at hm;exact hm.elim
 | some ds=>
  rw [hq] at hm;dsimp only at hm
  cases hi:Jz ds with
  | none=>rw [hi] at hm;exact hm.elim
  | some es=>
   rw [hi] at hm
   have fin:∀vs:List V,At X.K ρ1 H1 es vs->∀q,H1 q=none->Q (.ref q) (upd H1 q (.lst vs)):=λvs rr q hq=>by
    have le:Le X.K ρ1 H1 (ρ1++[q]) (upd H1 q (.lst vs)):=Le.alloc hq;obtain ⟨s4,l4,at4⟩:=s1.alloc (ho:=.lst vs) (o:=.lst es) hq ⟨_,B2,rr.mono le⟩;exact hm _ _ _ (l1.trans l4) s4 (.ref at4)
   have out:∀vs,At X.K ρ1 H1 ds vs->∃f:V->List Int,Q6 H1 f vs/\∀out,out.Perm vs->out.Pairwise (λx y=>ltL (f y) (f x)=false)->∀l,H1 l=none->Q (.ref l) (upd H1 l (.lst out)):=λvs rr=>by
    obtain ⟨f,k1,k2⟩:=ZX hi rr;exact ⟨f,k1,λout po so=>fin out (k2 out po so)⟩
   cases r1 with
   | fro h1 h2=>cases hq;exact ⟨_,rfl,.inl ⟨_,.inl h1.sq,out _ h2⟩⟩
   | tup h1 h2=>cases hq;exact ⟨_,rfl,.inl ⟨_,.inr (.inl (.inl h1)),out _ h2⟩⟩
   | @ref n a hn=>
    obtain ⟨o,ho,ro⟩:=s1.there hn;unfold Jl at hq;simp only [ho] at hq
    cases o with
    | lst ys=>cases hq;obtain ⟨vs,e,rr⟩:=ro;exact ⟨_,rfl,.inl ⟨vs,.inl (.inl (.inl e)),out _ rr⟩⟩
    | dK kvs=>cases hq;obtain ⟨vs,e,rr⟩:=ro;exact ⟨_,rfl,.inr (.inl ⟨vs,e,out _ (Pf rr)⟩)⟩
    | dT kvs=>cases hq;obtain ⟨vs,e,rr⟩:=ro;exact ⟨_,rfl,.inr (.inr ⟨vs,e,λbs hb=>out _ (Tv rr hb)⟩)⟩
    | ins C fs=>cases hq
   | _=>cases hq
end
end L2
namespace L2
open PySem PySem.Spec PyProof.Rows
theorem Rx {K:AB} {t:String} (h:∀A∈["NoneType", "bool", "int", "str", "tuple", "list", "dict"],CU K (.type A) (.type t)=fO t A):∀A b,isB t A=some b->CU K (.type A) (.type t)=some b:=λA b e=>by
 unfold isB at e;split at e
 ·rename_i hA
  rw [h A (by simpa using hA)];exact e
 ·cases e
theorem YA {K:AB}:∀A b,isB "tuple" A=some b->CU K (.type A) (.type "tuple")=some b:=Rx λA h=>by
 simp only [Ay,E5,or_false] at h
 rcases h with rfl | rfl | rfl | rfl | rfl | rfl | rfl <;> kernel_rfl
theorem aZ {K:AB}:∀A b,isB "list" A=some b->CU K (.type A) (.type "list")=some b:=Rx λA h=>by
 simp only [Ay,E5,or_false] at h
 rcases h with rfl | rfl | rfl | rfl | rfl | rfl | rfl <;> kernel_rfl
theorem dm {K:AB}:∀A b,isB "int" A=some b->CU K (.type A) (.type "int")=some b:=Rx λA h=>by
 simp only [Ay,E5,or_false] at h
 rcases h with rfl | rfl | rfl | rfl | rfl | rfl | rfl <;> kernel_rfl
theorem aa {K:AB}:∀A b,isB "bool" A=some b->CU K (.type A) (.type "bool")=some b:=Rx λA h=>by
 simp only [Ay,E5,or_false] at h
 rcases h with rfl | rfl | rfl | rfl | rfl | rfl | rfl <;> kernel_rfl
end L2
namespace L2
open PySem PySem.Spec PyProof.Rows
def ZW (K:AB):Sp:=λvs H Q _=>∃(a:AI) (ns:List Int),vs=[.ref a]/\QU K H a (ns.map V.int)/\ns.length<=63/\∀H',Q (.bl true) H'
theorem aQ {P:An} {w:BH} {K:AB} {mg:Str->Option AC} {base:Bl} {k:Nat} {fa:AI} {fd:DU} {f:List D->Sto->Res D} (F:Dh P w K mg base (CXG P w) k fa fd ["script"] (spM K 1 f))
  (h:∀ns:List Int,ns.length<=63->∃S',f [.fro (ns.map D.int)] []=.ok (.bl true) S'):Dh P w K mg base (CXG P w) k fa fd ["script"] (ZW K):=F.imp λvs H Q E ⟨a,ns,e,hS,hl,q⟩=>by
 subst e;obtain ⟨S',e⟩:=h ns hl;refine ⟨[],[.fro (ns.map D.int)],[],rfl,.cons (.fro hS (At.of_ints ns)) .nil,⟨rfl,λi j a hi=>by simp at hi,λn o a hn=>by simp at hn⟩,?_⟩;rw [e]
 exact λρ' H' x _ _ r=>by cases r;exact q H'
theorem jL {K:AB} {H:Hp} {a:AI} {ns:List Int} (hO:eh H) (hS:SqL K H a (ns.map V.int)):QU K H a (ns.map V.int):=by
 rcases hS with (h | h) | h
 ·rcases hO a with z | ⟨o,xs,z⟩ <;> rw [z] at h <;> cases h
 ·exact .inl h
 ·exact .inr h
theorem Jq {K:AB} {C:AI} {v:AC} {b:Bool} (h:LV K C v=some b):(Gt K C).isSome=true:=by
 obtain ⟨cd,a,_⟩:=RD.mp h;rw [a];rfl
theorem jS {P:An} {w:BH} {H:Hp} {s:AE} {e:AC} {s':AE} (h:CXG P w [] H s (λ_ _ _=>False) e s'):False:=by
 obtain ⟨_,_,_,_,_,_,_,_,_,z⟩:=h;exact z
end L2
namespace L2
open PySem
def fV (I:Lo->Sto->Prop) (R:Fl->Sto->Prop) (f:Fl) (S:Sto):Prop:=match f with
 | .nx e=>I e S
 | .ct e=>I e S
 | .bk e=>R (.nx e) S
 | .rt d=>R (.rt d) S
 | .ex c e=>R (.ex c e) S
theorem d9 {v:KD} {g:MG} {b:MS} {xs:List D} (I:Nat->Lo->Sto->Prop) (R:Fl->Sto->Prop) (hv:∀i e S,I i e S->v S=some xs)
  (step:∀i d e S,xs[i]?=some d->I i e S->∃e1 S1,g d e S=.ok e1 S1/\∃f S2,b e1 S1=.ok f S2/\fV (I (i+1)) R f S2)
  (fin:∀e S,I xs.length e S->R (.nx e) S):∀(k i:Nat) (e:Lo) (S:Sto),I i e S->i<=xs.length->xs.length<=i+k->∃f S',KA v g b k i e S=.ok f S'/\R f S':=by
 intro k
 induction k with
 | zero=>
  intro i e S h h1 h2
  have:i=xs.length:=by lia
  subst this;refine ⟨.nx e,S,?_,fin e S h⟩;unfold KA;rw [hv _ e S h];simp
 | succ k ih=>
  intro i e S h h1 h2;unfold KA;rw [hv _ e S h];dsimp only
  by_cases hi:i < xs.length
  ·have hd:xs[i]?=some xs[i]:=by simp [hi]
   rw [hd];dsimp only;obtain ⟨e1,S1,q1,f,S2,q2,t⟩:=step i _ e S hd h;rw [q1];dsimp only [Res.bind];rw [q2];dsimp only [Res.bind]
   cases f with
   | nx e2=>exact ih (i+1) e2 S2 t (by lia) (by lia)
   | ct e2=>exact ih (i+1) e2 S2 t (by lia) (by lia)
   | bk e2=>exact ⟨_,_,rfl,t⟩
   | rt d=>exact ⟨_,_,rfl,t⟩
   | ex c e2=>exact ⟨_,_,rfl,t⟩
  ·have:i=xs.length:=by lia
   subst this;rw [show xs[xs.length]?=none by simp];exact ⟨.nx e,S,rfl,fin e S h⟩
theorem Nj {v:KD} {g:MG} {b:MS} {xs:List D} {e:Lo} {S:Sto} (I:Nat->Lo->Sto->Prop) (R:Fl->Sto->Prop) (h0:I 0 e S) (hv:∀i e S,I i e S->v S=some xs)
  (step:∀i d e S,xs[i]?=some d->I i e S->∃e1 S1,g d e S=.ok e1 S1/\∃f S2,b e1 S1=.ok f S2/\fV (I (i+1)) R f S2)
  (fin:∀e S,I xs.length e S->R (.nx e) S):∃f S',KA v g b (DS v S) 0 e S=.ok f S'/\R f S':=by
 have hl:DS v S=xs.length:=by unfold DS;rw [hv 0 e S h0]
 rw [hl];exact d9 I R hv step fin _ _ _ _ h0 (C0 _) (by lia)
theorem bL {v:KD} {g:MG} {c:MT} {m:ME} {xs:List D} (I:Nat->Lo->Sto->List D->Prop) (hv:∀i e S acc,I i e S acc->v S=some xs)
  (step:∀i d e S acc,xs[i]?=some d->I i e S acc->acc.length < sizeLine/\∃e1 S1,g d e S=.ok e1 S1/\∃b S2,c e1 S1=.ok b S2/\((b=true/\∃y S3,m e1 S2=.ok y S3/\I (i+1) e1 S3 (acc++[y]))∨(b=false/\I (i+1) e1 S2 acc))) :
  ∀(k i:Nat) (e:Lo) (S:Sto) (acc:List D),I i e S acc->i<=xs.length->xs.length<=i+k->∃r S',FY v g c m k i e S acc=.ok r S'/\∃e',I xs.length e' S' r:=by
 intro k
 induction k with
 | zero=>
  intro i e S acc h h1 h2
  have:i=xs.length:=by lia
  subst this;refine ⟨acc,S,?_,e,h⟩;unfold FY;rw [hv _ e S acc h];simp
 | succ k ih=>
  intro i e S acc h h1 h2;unfold FY;rw [hv _ e S acc h];dsimp only
  by_cases hi:i < xs.length
  ·have hd:xs[i]?=some xs[i]:=by simp [hi]
   rw [hd];dsimp only;obtain ⟨hz,e1,S1,q1,b,S2,q2,t⟩:=step i _ e S acc hd h;rw [if_pos hz,q1];dsimp only [okR,Res.bind];rw [q2];dsimp only [okR,Res.bind]
   rcases t with ⟨rfl,y,S3,q3,t⟩ | ⟨rfl,t⟩
   ·rw [if_pos rfl,q3]
    exact ih (i+1) e1 S3 _ t (by lia) (by lia)
   ·rw [if_neg AK]
    exact ih (i+1) e1 S2 acc t (by lia) (by lia)
  ·have:i=xs.length:=by lia
   subst this;rw [show xs[xs.length]?=none by simp];exact ⟨acc,S,rfl,e,h⟩
theorem W8 {v:KD} {g:MG} {c:MT} {m:ME} {xs:List D} {e:Lo} {S:Sto} (I:Nat->Lo->Sto->List D->Prop) (h0:I 0 e S []) (hv:∀i e S acc,I i e S acc->v S=some xs)
  (step:∀i d e S acc,xs[i]?=some d->I i e S acc->acc.length < sizeLine/\∃e1 S1,g d e S=.ok e1 S1/\∃b S2,c e1 S1=.ok b S2/\((b=true/\∃y S3,m e1 S2=.ok y S3/\I (i+1) e1 S3 (acc++[y]))∨(b=false/\I (i+1) e1 S2 acc))) :
  ∃r S',FY v g c m (DS v S) 0 e S []=.ok r S'/\∃e',I xs.length e' S' r:=by
 have hl:DS v S=xs.length:=by unfold DS;rw [hv 0 e S [] h0]
 rw [hl];exact bL I hv step _ _ _ _ _ h0 (C0 _) (by lia)
theorem io {j:Int} (h:-1000000<=j):-(2 ^ 62)<=j:=Int.le_trans (by decide) h
theorem i6 {j:Int} (h:j<=1000000):j < 2 ^ 62:=Int.lt_of_le_of_lt h (by decide)
theorem ag {ml:ML} {e:Lo} {S S1:Sto} {j:Int} (h:ml e S=.ok [.int j] S1) (h0:-1000000<=j) (h1:j<=1000000):iR1 ml e S=.ok (GX (Hq 0 j.toNat)) S1:=by
 unfold iR1;rw [h];dsimp only [Res.bind];rw [if_pos ⟨io h0,i6 h1⟩]
theorem i4 {ml:ML} {e:Lo} {S S1:Sto} {i j:Int} (h:ml e S=.ok [.int i,.int j] S1) (h0:-1000000<=i) (h1:i<=1000000) (h2:-1000000<=j) (h3:j<=1000000):iR2 ml e S=.ok (GX (Hq i (j - i).toNat)) S1:=by
 unfold iR2;rw [h];dsimp only [Res.bind];rw [if_pos ⟨io h0,i6 h1,io h2,i6 h3⟩]
theorem Xu (lo:Int) (n:Nat):(Hq lo n).length=n:=by simp [Hq]
theorem Zf {lo:Int} {n i:Nat} {d:D} (h:(Hq lo n)[i]?=some d):i < n/\d=.int (lo+i):=by
 rw [Ql] at h;split at h
 ·rename_i hi
  cases h;exact ⟨hi,rfl⟩
 ·cases h
theorem ax {i j:Int} {S:Sto} (h:0 < j) (h1:j<=1000000):Qy (.int i) (.int j) S=.ok (.int (i / j)) S:=by
 show (if em i j then _ else _)=_;rw [if_pos ⟨h,by lia⟩]
theorem Wh {i j:Int} {S:Sto} (h:0 < j):Pc (.int i) (.int j) S=.ok (.int (i % j)) S:=by
 show (if 0 < j then _ else _)=_;rw [if_pos h]
theorem Dw {f:D->D->Sto->Res D} {ma mb:ME} {e:Lo} {S S1 S2 S3:Sto} {x y d:D} (ha:ma e S=.ok x S1) (hb:mb e S1=.ok y S2) (hf:f x y S2=.ok d S3):m2 f ma mb e S=.ok d S3:=by
 unfold m2;rw [ha];dsimp only [Res.bind];rw [hb];dsimp only [Res.bind];rw [hf];rfl
theorem Lk {m:ME} {e:Lo} {S S1:Sto} {d:D} {i:Nat} (h:m e S=.ok d S1):Co i m e S=.ok (.nx (e.set i (some d))) S1:=by
 unfold Co kc;rw [h];rfl
theorem NS {m:ME} {e:Lo} {S S1:Sto} {d:D} (h:m e S=.ok d S1):C5 m e S=.ok (.rt d) S1:=by
 unfold C5;rw [h];rfl
theorem LM {m:ME} {e:Lo} {S S1:Sto} {d:D} (h:m e S=.ok d S1):EE m e S=.ok (.nx e) S1:=by
 unfold EE;rw [h];rfl
theorem FB {t:MT} {a b:MS} {e:Lo} {S S1:Sto} {c:Bool} (h:t e S=.ok c S1):sIf t a b e S=if c=true then a e S1 else b e S1:=by
 unfold sIf;rw [h];rfl
theorem aY {t:MT} {a b:ME} {e:Lo} {S S1:Sto} {c:Bool} (h:t e S=.ok c S1):aL t a b e S=if c=true then a e S1 else b e S1:=by
 unfold aL;rw [h];rfl
theorem Ki {m:MI} {g:MG} {b:MS} {e:Lo} {S S1:Sto} {v:KD} (h:m e S=.ok v S1):HY m g b e S=KA v g b (DS v S1) 0 e S1:=by
 unfold HY;rw [h];rfl
theorem Jr {n:Nat} {f:List D->Sto->Res D} {m:ML} {e:Lo} {S S1:Sto} {ds:List D} (h:m e S=.ok ds S1) (hn:ds.length=n):B3 n f m e S=f ds S1:=by
 unfold B3;rw [h];dsimp only [Res.bind];rw [if_pos hn]
theorem CF {a b:MS} {e e1:Lo} {S S1:Sto} (h:a e S=.ok (.nx e1) S1):BU a b e S=b e1 S1:=by unfold BU;rw [h];rfl
theorem RV {a b:MS} {e:Lo} {S S1:Sto} {d:D} (h:a e S=.ok (.rt d) S1):BU a b e S=.ok (.rt d) S1:=by unfold BU;rw [h];rfl
theorem RW {a b:MS} {e e1:Lo} {S S1:Sto} {c:AI} (h:a e S=.ok (.ex c e1) S1):BU a b e S=.ok (.ex c e1) S1:=by unfold BU;rw [h];rfl
theorem Ln {n:Nat} {mb:MS} {ds:List D} {S S1:Sto} {d:D} (h:mb (Fj n ds) S=.ok (.rt d) S1):ER n mb ds S=.ok d S1:=by unfold ER;rw [h];rfl
theorem Zb {n:Nat} {mb:MS} {ds:List D} {S S1:Sto} {e:Lo} (h:mb (Fj n ds) S=.ok (.nx e) S1):ER n mb ds S=.ok .non S1:=by unfold ER;rw [h];rfl
theorem Zd {n:Nat} {mb:MS} {ds:List D} {S S1:Sto} {c:AI} {e:Lo} (h:mb (Fj n ds) S=.ok (.ex c e) S1):ER n mb ds S=.err c S1:=by unfold ER;rw [h];rfl
def Keeps (S S':Sto):Prop:=S.length<=S'.length/\∀j,j < S.length->S'[j]?=S[j]?
theorem Keeps.refl (S:Sto):Keeps S S:=⟨AU _,λ_ _=>rfl⟩
theorem Keeps.trans {S S1 S2:Sto} (a:Keeps S S1) (b:Keeps S1 S2):Keeps S S2:=⟨Al a.1 b.1,λj h=>(b.2 j (Ad h a.1)).trans (a.2 j h)⟩
theorem Keeps.app (S:Sto) (G:Sto):Keeps S (S++G):=⟨by simp,λj h=>Ah h⟩
theorem Keeps.set {S S1:Sto} (a:Keeps S S1) {m:Nat} (h:S.length<=m) (o:Ob):Keeps S (S1.set m o):=⟨by simpa using a.1,λj hj=>by rw [Au (by lia)];exact a.2 j hj⟩
theorem Keeps.at {S S1:Sto} (a:Keeps S S1) {j:Nat} {o:Ob} (h:S[j]?=some o):S1[j]?=some o:=by
 rw [a.2 j (AM.mp h).1];exact h
theorem V2 {mo ma:ME} {e:Lo} {S S1 S2:Sto} {n:Nat} {xs xs2:List D} {y:D} (h1:mo e S=.ok (.ref n) S1) (h2:S1[n]?=some (.lst xs)) (h3:ma e S1=.ok y S2) (h4:S2[n]?=some (.lst xs2)) (h5:xs2.length < sizeLine) :
  QN mo ma e S=.ok .non (S2.set n (.lst (xs2++[y]))):=by
 unfold QN;rw [h1];dsimp only [Res.bind];rw [h2];dsimp only;rw [h3];dsimp only [Res.bind];rw [h4];dsimp only;rw [if_pos h5]
theorem YK {mo ma:ME} {e:Lo} {S S1 S2:Sto} {n k:Nat} {xs xs2 ys:List D} (h1:mo e S=.ok (.ref n) S1) (h2:S1[n]?=some (.lst xs)) (h3:ma e S1=.ok (.ref k) S2) (h4:S2[n]?=some (.lst xs2)) (h5:S2[k]?=some (.lst ys)) (hk:k≠n) (h6:xs2.length+ys.length<=sizeLine) :
  Jk mo ma e S=.ok .non (S2.set n (.lst (xs2++ys))):=by
 unfold Jk;rw [h1];dsimp only [Res.bind]
 have a1:atL (.ref n) S1=some (n,xs):=by unfold atL;dsimp only;rw [h2]
 have a2:atL (.ref n) S2=some (n,xs2):=by unfold atL;dsimp only;rw [h4]
 have a3:atL (.ref k) S2=some (k,ys):=by unfold atL;dsimp only;rw [h5]
 rw [a1];dsimp only;rw [h3];dsimp only [Res.bind];rw [a2,a3];dsimp only;rw [if_pos ⟨hk,h6⟩]
theorem cU {xs ys:List D} {S:Sto} (h:xs.length+ys.length<=sizeLine):GR (.tup xs) (.tup ys) S=.ok (.tup (xs++ys)) S:=by
 unfold GR;dsimp only;rw [if_pos h]
theorem Eu {n:Nat} {S:Sto} {xs:List D} (h:S[n]?=some (.lst xs)):IV (.ref n) S=some xs:=by
 unfold IV N0;dsimp only;rw [h]
theorem JL {m:ME} {e:Lo} {S S1:Sto} {n:Nat} {xs:List D} (h:m e S=.ok (.ref n) S1) (hx:S1[n]?=some (.lst xs)):DX m e S=.ok (IV (.ref n)) S1:=by
 unfold DX;rw [h];dsimp only [Res.bind];rw [Eu hx]
theorem Pl {m:ME} {e:Lo} {S S1:Sto} {xs:List D} (h:m e S=.ok (.tup xs) S1):DX m e S=.ok (GX xs) S1:=by
 unfold DX;rw [h];rfl
theorem VV {ml:ML} {e:Lo} {S S1:Sto} {ds:List D} (h:ml e S=.ok ds S1):DV ml e S=.ok (.ref S1.length) (S1++[.lst ds]):=by
 unfold DV;rw [h];rfl
theorem FO (S:Sto) (o:Ob):(S++[o])[S.length]?=some o:=by simp
theorem FA {n:Nat} {S:Sto} {ds:List D} (h:S[n]?=some (.lst ds)):Gi (.ref n) S=some ds:=by
 unfold Gi;dsimp only;rw [h]
theorem Lx {n:Nat} {S:Sto} {ds:List D} (h:S[n]?=some (.lst ds)):Jl (.ref n) S=some ds:=by
 unfold Jl;dsimp only;rw [h]
theorem JE {m:ME} {e:Lo} {S S1:Sto} {d:D} {ds es:List D} (h:m e S=.ok d S1) (hi:Jl d S1=some ds) (hs:Jz ds=some es):D9 m e S=.ok (.ref S1.length) (S1++[.lst es]):=by
 unfold D9;rw [h];dsimp only [Res.bind];rw [hi];dsimp only;rw [hs]
theorem Me {m:ME} {e:Lo} {S S1:Sto} {d:D} {ds:List D} (h:m e S=.ok d S1) (hq:Gi d S1=some ds):Hv m e S=.ok (.tup ds) S1:=by
 unfold Hv;rw [h];dsimp only [Res.bind];rw [hq]
theorem Vd {m:ME} {e:Lo} {S S1:Sto} {d:D} {ds:List D} (h:m e S=.ok d S1) (hq:Gi d S1=some ds):Mr m e S=.ok (.int ds.length) S1:=by
 unfold Mr;rw [h];dsimp only [Res.bind];rw [hq]
theorem RU {C:AI} {f:Str} {mo mv:ME} {e:Lo} {S S1 S2:Sto} {n:Nat} {fs:List (Str×D)} {v:D} (hv:mv e S=.ok v S1) (ho:mo e S1=.ok (.ref n) S2) (hs:S2[n]?=some (.ins C fs)) (hl:fs.length < 1000) :
  Qk C f mo mv e S=.ok (.nx e) (S2.set n (.ins C (OM f v fs))):=by
 unfold Qk;rw [hv];dsimp only [Res.lift];rw [ho];dsimp only [Res.lift];rw [hs];dsimp only;rw [if_pos ⟨rfl,hl⟩]
theorem Vr {C:AI} {f:Str} {m:ME} {e:Lo} {S S1:Sto} {n:Nat} {fs:List (Str×D)} {v:D} (h:m e S=.ok (.ref n) S1) (hs:S1[n]?=some (.ins C fs)) (hl:fs.lookup f=some v):Lv C f m e S=.ok v S1:=by
 unfold Lv;rw [h];dsimp only [Res.bind];rw [hs];dsimp only;rw [if_pos rfl,hl]
theorem da {C:AI} {n:Nat} {f:List D->Sto->Res D} {ml:ML} {e:Lo} {S S1 S2:Sto} {ds:List D} (h:ml e S=.ok ds S1) (hn:ds.length+1=n) (hf:f (.ref S1.length :: ds) (S1++[.ins C []])=.ok .non S2):Qt C n f ml e S=.ok (.ref S1.length) S2:=by
 unfold Qt;rw [h];dsimp only [Res.bind];rw [if_pos hn,hf]
theorem Cg {m:ME} {r:ML} {e:Lo} {S S1 S2:Sto} {d:D} {ds:List D} (h:m e S=.ok d S1) (hr:r e S1=.ok ds S2):AN m r e S=.ok (d :: ds) S2:=by
 unfold AN;rw [h];dsimp only [Res.bind];rw [hr]
theorem SI {n:Nat} {mi:MI} {g:MG} {c:MT} {m:ME} {e:Lo} {S S1:Sto} {v:KD} (h:mi e S=.ok v S1):DC n mi g c m e S=FY v g c m (DS v S1) 0 (BL n none++e) S1 []:=by
 unfold DC;rw [h];rfl
theorem Pz {m:ME} {e:Lo} {S S1:Sto} {b:Bool} (h:m e S=.ok (.bl b) S1):mB m e S=.ok b S1:=by
 unfold mB;rw [h];rfl
theorem aN {f g:D->D->Sto->Res D} {ma mb mc:ME} {e:Lo} {S S1 S2 S3 S4 S5:Sto} {x y w d:D} (ha:ma e S=.ok x S1) (hb:mb e S1=.ok y S2) (hf:f x y S2=.ok (.bl true) S3) (hc:mc e S3=.ok w S4) (hg:g y w S4=.ok d S5):m3 f g ma mb mc e S=.ok d S5:=by
 unfold m3;rw [ha];dsimp only [Res.bind];rw [hb];dsimp only [Res.bind];rw [hf];dsimp only [Res.bind,okR];rw [hc];dsimp only [Res.bind];rw [hg]
theorem lI {f g:D->D->Sto->Res D} {ma mb mc:ME} {e:Lo} {S S1 S2 S3:Sto} {x y:D} (ha:ma e S=.ok x S1) (hb:mb e S1=.ok y S2) (hf:f x y S2=.ok (.bl false) S3):m3 f g ma mb mc e S=.ok (.bl false) S3:=by
 unfold m3;rw [ha];dsimp only [Res.bind];rw [hb];dsimp only [Res.bind];rw [hf];rfl
theorem Vf {i j:Int} {S:Sto} {b:Bool} (h:decide (i<=j)=b):leD (.int i) (.int j) S=.ok (.bl b) S:=by subst h;rfl
theorem Vc {i j:Int} {S:Sto} {b:Bool} (h:decide (i < j)=b):ltD (.int i) (.int j) S=.ok (.bl b) S:=by subst h;rfl
theorem jK {i j:Int} {S:Sto} {b:Bool} (h:decide (j<=i)=b):geD (.int i) (.int j) S=.ok (.bl b) S:=by subst h;rfl
theorem jP {i j:Int} {S:Sto} {b:Bool} (h:decide (i=j)=b):eqD false (.int i) (.int j) S=.ok (.bl b) S:=by
 subst h;show Res.ok (D.bl (i==j)) S=_;rfl
theorem Kf {m:MT} {e:Lo} {S S1:Sto} {b:Bool} (h:m e S=.ok b S1):Jj m e S=.ok (!b) S1:=by
 unfold Jj;rw [h];rfl
theorem TZ {C:AI} {ml:ML} {e:Lo} {S S1:Sto} {ds:List D} (h:ml e S=.ok ds S1) (hl:ds.length<=30):EQ C ml e S=.ok (.ex C e) S1:=by
 unfold EQ;rw [h];dsimp only [Res.lift];rw [if_pos (Al hl (by decide))]
theorem ZO {ml:ML} {e:Lo} {S S1:Sto} {ds:List D} (h:ml e S=.ok ds S1) (hl:ds.length<=1000):Hb ml e S=.ok (.tup ds) S1:=by
 unfold Hb;rw [h];dsimp only [Res.bind];rw [if_pos (Al hl (by decide))]
theorem fN {tab:String->Option Bool} {tabC:AI->Option Bool} {m:ME} {e:Lo} {S S1:Sto} {d:D} {T:String} {b:Bool} (h:m e S=.ok d S1) (ht:tyD d S1=some T) (hb:tab T=some b):mIs tab tabC m e S=.ok (.bl b) S1:=by
 unfold mIs;rw [h];dsimp only [Res.bind]
 cases d with
 | exc C=>cases ht
 | _=>dsimp only;rw [ht];dsimp only;rw [hb]
theorem Z4 {ta tb:MT} {e:Lo} {S S1:Sto} (h:ta e S=.ok true S1):mOr ta tb e S=.ok true S1:=by
 unfold mOr;rw [h];rfl
theorem VJ {ta tb:MT} {e:Lo} {S S1:Sto} (h:ta e S=.ok false S1):mOr ta tb e S=tb e S1:=by
 unfold mOr;rw [h];rfl
theorem SR {ta tb:MT} {e:Lo} {S S1:Sto} (h:ta e S=.ok true S1):Na ta tb e S=tb e S1:=by
 unfold Na;rw [h];rfl
theorem XH {ta tb:MT} {e:Lo} {S S1:Sto} (h:ta e S=.ok false S1):Na ta tb e S=.ok false S1:=by
 unfold Na;rw [h];rfl
theorem fF {m:ME} {e:Lo} {S S1:Sto} {d:D} {ds:List D} (h:m e S=.ok d S1) (hq:Gi d S1=some ds):LU m e S=.ok ds S1:=by
 unfold LU;rw [h];dsimp only [Res.bind];rw [hq]
theorem Zj {f:List D->Sto->Res D} {ml:ML} {e:Lo} {S S1 S2:Sto} {ds:List D} {d:D} (h:ml e S=.ok ds S1) (hf:f ds S1=.ok d S2):mQ f ml e S=.ok d S2:=by
 unfold mQ;rw [h];dsimp only [Res.bind];rw [hf];rfl
theorem Mt {n:Nat} {S:Sto} {ds:List D} (h:S[n]?=some (.lst ds)):QO (.ref n) S=some ds:=by
 unfold QO;dsimp only;rw [h]
end L2
namespace L2
open PySem PySem.Spec PyProof.Rows
section
variable {X:Cx} {E:EW} {e:Expr} {tg:Expr}
end
section
variable {X:Cx} {E:EW} {e:Expr} {es:List Expr} {p pos p2:Pos} {x1:Nat} {m:ME} {c:V} {cs:List V} {Cs:List AI} {tabC:AI->Option Bool}
end
end L2
namespace L2
open PySem PySem.Spec PyProof.Rows
section
variable {X:Cx} {E:EW} {e st:Expr} {te:TE} {lo hi:Option Expr} {tl th ts:TO} {pos p2:Pos} {m:ME} {ml mh ms:MO}
end
section
variable {X:Cx} {E:EW} {e:Expr} {p pos:Pos} {m:ME}
def dc (m:ME):ME:=λe S=>(m e S).bind λd S1=>match d with
 | .int i=>.ok (.int i) S1
 | .bl k=>.ok (.int (if k then 1 else 0)) S1
 | _=>.bad
theorem d6 (hg:Gl X "int") (hm:X.mg "int" = none) (h:GE X E e m) (he:AZ [e] X.env=(false,CC e X.env) :: AZ [] X.env:=by rfl):GE X E (.Call (.Name "int" p) [e] [] pos) (dc m):=
 (NT YX hg hm Ot (FG h Hr he) (by decide) (by decide) he rfl).imp λσ H Q ⟨ρ,l,S,hl,hs,hm⟩=>by
 refine ⟨ρ,l,S,hl,hs,hm.seq λd S1 hm ρ1 H1 x l1 s1 r1=>?_⟩
 cases d <;> first | exact hm.elim | skip
 ·cases r1
  exact .inr ⟨_,rfl,hm ρ1 H1 _ l1 s1 (.int _)⟩
 ·cases r1
  exact .inl ⟨_,rfl,hm ρ1 H1 _ l1 s1 (.int _)⟩
end
end L2
namespace PySem
open Sem (wp)
open AutoSeq1 (wpAny_loadPart')
section
variable {prog:An} {w:BH} {A:BD} {E:AC->AE->Prop} {s:AE}
theorem Mp {it t:AI} {i:Nat} {items} {x:AC} {Q:AC->AE->Prop} (hit:s.heap.IsTupleIter it t i)
  (ht:s.heap.IsTuple t items) (hx:items[i]?=some x)
  (hQ:∀h',h'.IsTupleIter it t (i+1)->EK it s.heap h'->Q x { s with heap:=h' }) :
  Af (AY prog w) A (D4 (.ref it)) Q E s:=by
 obtain ⟨o,ho,hc,hd⟩:=id hit;obtain ⟨ol,hol,_,nl,hdl⟩:=ht;unfold D4
 refine AA (Ca (name:=Gc "__next__") hit.typeIs E9
  (Cz E9 hit.typeIs Sb ?_ (RG _)))
 show Af _ _ (field (.ref it) 0 >>= _) _ _ s;refine AA (C8 ho hd (x:=.ref t) rfl ?_);show Af _ _ (if (Az t==BQ)=true then _ else _) _ _ s;rw [if_neg (show ¬((Az t==BQ)=true) from AK)];show Af _ _ (field (.ref it) 1 >>= _) _ _ s;refine AA (C8 ho hd (x:=.int i 0) rfl ?_);show Af _ _ (seqItems? (.ref t) >>= _) _ _ s;refine AA (wpAny_seqItems hol hdl ?_);simp only [CM,hx];refine AA (FI ho hd (by simp) (AJ ⟨x,rfl,AJ (hQ _ ?_ (Gf ..))⟩))
 exact ⟨_,Ea _ ho (Ed (B9 hd _)),(JR ..).trans hc,by
  rw [B9 hd];simp [EN]⟩
theorem JI {it t:AI} {i:Nat} {items} {Q:AC->AE->Prop} (hh:A.handled=none)
  (hit:s.heap.IsTupleIter it t i) (ht:s.heap.IsTuple t items) (hx:items[i]?=none)
  (hE:∀h' e,WI it s.heap h'->(∃o,h'.get? e=some o/\o.cls=.type "StopIteration")->E (.ref e) { s with heap:=h' }) :
  Af (AY prog w) A (D4 (.ref it)) Q E s:=by
 obtain ⟨o,ho,hc,hd⟩:=id hit;obtain ⟨ol,hol,_,nl,hdl⟩:=ht;unfold D4
 refine AA (Ca (name:=Gc "__next__") hit.typeIs E9
  (Cz E9 hit.typeIs Sb ?_ (RG _)))
 show Af _ _ (field (.ref it) 0 >>= _) _ _ s;refine AA (C8 ho hd (x:=.ref t) rfl ?_);show Af _ _ (if (Az t==BQ)=true then _ else _) _ _ s;rw [if_neg (show ¬((Az t==BQ)=true) from AK)];show Af _ _ (field (.ref it) 1 >>= _) _ _ s;refine AA (C8 ho hd (x:=.int i 0) rfl ?_);show Af _ _ (seqItems? (.ref t) >>= _) _ _ s;refine AA (wpAny_seqItems hol hdl ?_);simp only [CM,hx];refine AA (UV (AA (FI ho hd (by simp) ?_)));show Af _ _ (newExc (.type "StopIteration") [] >>= _) _ _ _;refine AA ?_;simp only [newExc,newTuple];refine AA (B8 ?_ (by size_fits));refine AA (m:=M9 _ _) (SX (a:=BQ) (by first | rfl | (simp only [M9];rfl)) ?_);refine B8 ?_ (by size_fits);simp only [raiseNew];refine AA (wpAny_handled ?_)
 first | rw [show A.in1.handled=none from hh] | rw [hh]
 refine AA (AJ (wpAny_throw ?_));exact hE _ _ (((Gf ..).extBut.push _).push _) ⟨_,Aq _ rfl,rfl⟩
end
end PySem
namespace L2
open PySem PySem.Spec PyProof.Rows
theorem Inv.turned2 {X:Cx} {pins:List (AI×Obj)} {σ:List (Option V)} {H:Hp} {s:AE} {h':Bl} {t':Nat} {e it a:AI} {o:HO} (I:Inv X pins σ H s) (k:∀b u,b≠e->b≠it->s.heap.get? b=some u->h'.get? b=some u)
  (fe:M4 X pins H e) (fi:M4 X pins H it) (ha:s.heap.objs.size<=a) (new:Cm X.prog X.w (upd H a o) h' a o):Inv X pins σ (upd H a o) { s with heap:=h',toks:=t' }:=by
 have hn:=I.hok.fresh ha
 have nit:∀b u,H b=some u->b≠e/\b≠it:=λb u q=>⟨λz=>(by rw [z,fe.1] at q;cases q),λz=>(by rw [z,fi.1] at q;cases q)⟩
 have out:∀b:AI,b∉[e,it]->b≠e/\b≠it:=λb hb=>⟨λz=>hb (by simp [z]),λz=>hb (by simp [z])⟩
 refine I.step (g':=s.gens) (d':=s.drawn) (ch:=[e,it]) (λb hb=>?_) (λb o _ _ hc q _=>k b o (out b hc).1 (out b hc).2 q) (λb o _ _ hc q _=>⟨o.slots,k b o (out b hc).1 (out b hc).2 q⟩) (λb o _ q n=>?_)
  (λb o hc q=>⟨o,k b o (out b hc).1 (out b hc).2 q⟩) (λb xs q=>by rw [BR (Bc q hn)];exact q) (λb o u q=>by rw [BR (Bc q hn)];exact q) (λb ps q=>⟨#[],by rw [BR (Bc q hn),q];simp⟩) (λm hm=>?_) (λb u q=>?_) I.bare
 ·have hb':b=e∨b=it:=by simpa using hb
  rcases hb' with z | z
  ·subst z;exact ⟨fe.2.2.2.1,fe.2.1,fe.2.2.2.2.1,fe.2.2.2.2.2⟩
  ·subst z;exact ⟨fi.2.2.2.1,fi.2.1,fi.2.2.2.2.1,fi.2.2.2.2.2⟩
 ·rw [BR (A0 (Ad (Ae q) ha))];exact n
 ·obtain ⟨o,es,ep,ho,r⟩:=hm
  exact ⟨o,es,ep,k _ o (B5 fe.2.1) (B5 fi.2.1) ho,r⟩
 ·by_cases hb:b=a
  ·subst hb;rw [B2] at q;cases q;exact new
  ·rw [BR hb] at q
   refine (I.hok b u q).stay (λc v hc r=>?_) (λc r=>by rw [BR (Bc r hn)];exact r) λc xs r=>by rw [BR (Bc r hn)];exact r
   have:c≠e/\c≠it:=by
    rcases hc with z | z
    ·rw [z];exact nit b u q
    ·exact nit c _ z
   exact k c v this.1 this.2 r
def Ite (sq:Hp->List V->Prop):It:=
 ⟨λi H=>∃xs x,sq H xs/\xs[i]?=some x,λi H y H'=>∃p x,H p=none/\y=.ref p/\H'=upd H p (.tup [.int i,x])/\∀xs,sq H xs->xs[i]?=some x,λi H=>∃xs,sq H xs/\xs.length<=i⟩
section
variable {P:An} {w:BH} {K:AB} {elts:List Expr} {x1:Nat} {pos:Pos}
theorem YO {X:Cx} {pins:List (AI×Obj)} {σ:St} {H:Hp} {s:AE} {E:AC->AE->Prop} {sq:Hp->List V->Prop} {e it:AI} {i:Nat} {x:V} {u:AC} {tk:Nat} {h':Bl} {tn:Nat->Bl->Prop}
  (I:Inv X pins σ H s) (hne:e≠it) (hf:∀b∈[e,it],M4 X pins H b) (le:e < s.heap.objs.size) (li:it < s.heap.objs.size) (ru:RelV x u) (hx:∀xs,sq H xs->xs[i]?=some x)
  (ho:IsEnumOut h' e it ((i:Int)+1) u s.heap.objs.size) (hT:h'.get? s.heap.objs.size=some { cls:=.type "tuple",data:=.seq #[.int i tk,u] }) (hk:∀b o,b≠e->b≠it->s.heap.get? b=some o->h'.get? b=some o)
  (ht:∀h2,EK e h' h2->(∃old,Yy h2 e it ((i+1:Nat):Int) old)->tn (i+1) h2) :
  Af (AY X.prog X.w) X.A (MF (.Tuple elts x1 pos) (.ref e) (.ref s.heap.objs.size)) (λ_ s2=>∃y H',Inv X pins σ H' s2/\RelV y (.ref s.heap.objs.size)/\(Ite sq).yld i H y H'/\tn (i+1) s2.heap/\∀b∈[e,it],H' b=none) E { s with heap:=h',toks:=tk+1 }:=by
 have fe:=hf e (by simp);have fi:=hf it (by simp);have ne:e≠s.heap.objs.size:=A0 le;have ni:it≠s.heap.objs.size:=A0 li
 have new:Cm X.prog X.w (upd H s.heap.objs.size (.tup [.int i,x])) h' s.heap.objs.size (.tup [.int i,x]):=
  ⟨Al (show 2<=1000 by decide) (by decide),[.int i tk,u],.cons ⟨tk,rfl⟩ (.cons ru .nil),_,hT,rfl,_,rfl⟩
 have I1:=I.turned2 (t':=tk+1) hk fe fi (AU _) new
 refine wpAny_letOwnedTupleGo_enum (s:={ s with heap:=h',toks:=tk+1 }) ho λh2 he2 hs2=>?_
 have hs2':EK e h' h2:=hs2;have I2:=I1.turned (t':=tk+1) (h':=h2) (it:=e) (λb o hb q=>(hs2'.2 b hb).trans q) (by rw [BR ne];exact fe.1) fe.2.1 fe.2.2.2.1 fe.2.2.2.2.1 fe.2.2.2.2.2;refine ⟨.ref s.heap.objs.size,_,I2,rfl,⟨s.heap.objs.size,x,I.hok.fresh (AU _),rfl,rfl,hx⟩,ht h2 hs2' ⟨u,by rw [Int.natCast_add,Int.natCast_one];exact he2⟩,λb hb=>?_⟩
 have hb':b=e∨b=it:=by simpa using hb
 rcases hb' with z | z
 ·rw [z,BR ne];exact fe.1
 ·rw [z,BR ni];exact fi.1
end
section
variable {X:Cx} {E:EW} {e:Expr} {elts:List Expr} {x1:Nat} {p pos ptg:Pos} {m:ME} {ta:TA}
end
end L2
namespace L2
open PySem PySem.Spec PyProof.Rows
section
variable {X:Cx}
variable {E:EW} {e:Expr} {p pos:Pos} {m:ME}
end
end L2
namespace PySem
open Sem (wp)
open AutoSeq1 (wpAny_loadPart')
namespace F
end F
section
variable {prog:An} {w:BH} {A:BD} {E:AC->AE->Prop} {s:AE} {I:AI} {fp wr:List AI} {G:Array Ui->Array Ui->Prop} {n:Nat} {P:Nat->AC->Prop} {St:Nat->AE->Prop}
end
end PySem
namespace L2
open PySem PySem.Spec PyProof.Rows
section
variable {X:Cx} {E:EW} {e:Expr} {p p2 pos pos2:Pos} {m:ME} {te:TE}
end
end L2
namespace L2
open PySem
theorem Px {α:Type} {xs:List α} {j:Int} {x:α} (h0:0<=j) (h:xs[j.toNat]?=some x):atI xs j=some x:=by
 have hlt:=(AM.mp h).1;unfold atI ixN;rw [if_pos (by omega),if_pos (by lia)];simpa using h
theorem Wp {d:D} {S:Sto} {ds:List D} {j:Int} {z:D} (hd:Gi d S=some ds) (h0:0<=j) (h:ds[j.toNat]?=some z):ixA d (.int j) S=.ok z S:=by
 show Hs (ixD d (.int j) S) _=_
 have:ixD d (.int j) S=.ok z S:=by
  unfold ixD;rw [hd];dsimp only;rw [Px h0 h]
 rw [this];rfl
theorem bJ {α:Type} (xs:List α) {k:Nat} (h:k<=xs.length):L6 xs (some (k:Int)) none=xs.drop k:=by
 unfold L6;rw [HT.cq,HT.Za,Nat.min_eq_left h];exact DI (by simp)
theorem ed {P:AI->Prop}:∀C∈([]:List AI),P C:=λ_ h=>absurd h E5
theorem all_cons {P:AI->Prop} {a:AI} {l:List AI} (h:P a) (t:∀C∈l,P C):∀C∈a :: l,P C:=λC hC=>by
 rcases Ay.mp hC with e | hC
 ·rw [e];exact h
 ·exact t C hC
theorem Ve {α:Type}:∀ {l:List α},l.length=1->∃x1,l=[x1]
 | [a],_=>⟨a,rfl⟩
theorem QQ {α:Type}:∀ {l:List α},l.length=2->∃x1 x2,l=[x1,x2]
 | y :: _,q=>by
  obtain ⟨x2,rfl⟩:=Ve (MK q);exact ⟨y,x2,rfl⟩
theorem Tu {α:Type}:∀ {l:List α},l.length=3->∃x1 x2 x3,l=[x1,x2,x3]
 | y :: _,q=>by
  obtain ⟨x2,x3,rfl⟩:=QQ (MK q);exact ⟨y,x2,x3,rfl⟩
theorem aO {α:Type}:∀ {l:List α},l.length=4->∃x1 x2 x3 x4,l=[x1,x2,x3,x4]
 | y :: _,q=>by
  obtain ⟨x2,x3,x4,rfl⟩:=Tu (MK q);exact ⟨y,x2,x3,x4,rfl⟩
theorem len5 {α:Type}:∀ {l:List α},l.length=5->∃x1 x2 x3 x4 x5,l=[x1,x2,x3,x4,x5]
 | y :: _,q=>by
  obtain ⟨x2,x3,x4,x5,rfl⟩:=aO (MK q);exact ⟨y,x2,x3,x4,x5,rfl⟩
end L2
namespace L2
open PySem PySem.Spec PyProof.Rows
section
variable {X:Cx} {E:EW} {e:Expr} {m:ME} {pos:Pos}
def Xq (i:Nat) (g:Int->Int->Int) (m:ME):MS:=λe S=>match e[i]? with
 | some (some (.int x))=>(m e S).lift e λd S1=>match d with
  | .int y=>.ok (.nx (e.set i (some (.int (g x y))))) S1
  | _=>.bad
 | _=>.bad
theorem i9 {i:Nat} {x:Str} {pos':Pos} {op:P9} {g:Int->Int->Int} (hN:X.N.Nodup) (hi:X.N[i]?=some x) (hx:Loc X.env.scope x) (hp:PIp X op (ipI g)) (he:GE X E e m)
  (hf:X.fn x=true∨X.env.scope.names.lookup x=some .local:=by first | exact .inl rfl | exact .inr rfl | assumption):GS X E (.AugAssign (.Name x pos') op e pos) (Xq i g m):=(iE hN hi hx he hp hf).imp λD σ H ⟨ρ,l,S,hl,hs,hm⟩=>by
 unfold Xq at hm;split at hm
 ·rename_i n hn
  obtain ⟨v,h1,h2⟩:=hl.at' i _ hn;cases h2;refine ⟨_,h1,ρ,l,S,hl,hs,hm.lift hl .refl λd S1 hm ρ1 H1 y l1 s1 r1=>?_⟩
  cases d with
  | int y=>cases r1;exact ⟨n,y,rfl,rfl,hm ρ1 H1 _ l1 s1 ((hl.mono l1).set (.int _) i)⟩
  | _=>exact hm.elim
 ·exact hm.elim
end
def Itv (K:AB) (a:AI) (n:Nat):It:=
 ⟨λi H=>∃xs x,SqL K H a xs/\xs.length=n/\xs.reverse[i]?=some x,λi H x H'=>H'=H/\∀xs,SqL K H a xs->xs.reverse[i]?=some x,λi H=>∃xs,SqL K H a xs/\xs.length=n/\n<=i⟩
theorem ZN {P:An} {w:BH} {K:AB} {tg:Expr} (a it:AI) (n:Nat):UK P w K tg (Itv K a n) [it] it (λi h=>i<=n/\h.IsRevIter it a ((n:Int) - 1 - i)) where
 mem:=by simp
 obj:=λi h st b hb=>by
  have e:b=it:=by simpa using hb
  subst e;obtain ⟨_,o,e,c,d⟩:=st;exact ⟨o,e,λv z=>by rw [d] at z;cases z⟩
 keep:=λi h h' st k=>⟨st.1,st.2.at λo e=>k it (by simp) o e⟩
 item:=by
  intro X hP hw hK hc i pins s σ H E I hf st hg;subst hP hw hK;obtain ⟨hin,st⟩:=st;obtain ⟨xs,x,hq,hn,hx⟩:=hg
  have hi:i < n:=by have:=(AM.mp hx).1;simpa [hn] using this
  have hx':=hx;rw [List.getElem?_reverse (by lia)] at hx';obtain ⟨its,rv,p,hz⟩:=I.list hq;obtain ⟨u,hu,ru⟩:=rv.get hx';obtain ⟨f0,f1,f2,f3,f4,f5⟩:=hf it (by simp)
  have e0:(n:Int) - 1 - (i:Int)=((xs.length - 1 - i:Nat):Int):=by lia
  rw [e0] at st
  refine wpAny_pyNext_rev_item st p.isList (x:=u) (by simpa using hu) λh' st' sb=>?_
  have I1:Inv X pins σ H { s with heap:=h' }:=I.turned (t':=s.toks) (λb o hb e=>(sb.2 b hb).trans e) f0 f1 f3 f4 f5;obtain ⟨o,e,c,d⟩:=id st';refine ⟨u,rfl,Wu (s:={ s with heap:=h' }) e c d (by decide) ⟨x,H,I1,ru,⟨rfl,λys hy=>by rw [I.list_inj hy hq];exact hx⟩,⟨hi,?_⟩,λb hb=>(hf b hb).1⟩⟩
  have e1:(n:Int) - 1 - ((i+1:Nat):Int)=((xs.length - 1 - i:Nat):Int) - 1:=by lia
  rw [e1];exact st'
 done:=by
  intro X hP hw hK hc i pins s σ H E I hf st hg;subst hP hw hK;obtain ⟨hin,st⟩:=st;obtain ⟨xs,hq,hn,hx⟩:=hg;obtain ⟨f0,f1,f2,f3,f4,f5⟩:=hf it (by simp)
  have e0:(n:Int) - 1 - (i:Int) = -1:=by lia
  rw [e0] at st
  exact wpAny_pyNext_rev_end (I.ok.hd hc) st λh' eb=>⟨rfl,I.turned (t':=s.toks) (λb o hb e=>eb b o hb e) f0 f1 f3 f4 f5⟩
 self:=λ_ _ _ _ _ st h=>bd st.2 h
section
variable {X:Cx} {E:EW} {tg e a b:Expr} {p p2 pos pos2:Pos} {m:ME} {ml:ML} {ta:TA}
def lS (K:AB) (ta:TA):TI:=λσ H R=>ta σ H λvs H1=>∃a xs,vs=[.ref a]/\SqL K H1 a xs/\R (Itv K a xs.length) H1
theorem iH (hg:Gl X "reversed") (hm:X.mg "reversed" = none) (ha:PA X [e] ta) (hs:AZ [e] X.env=[(false,CC e X.env)]:=by rfl):PI X tg (.Call (.Name "reversed" p) [e] [] pos) (lS X.K ta):=by
 intro pins s σ H R I h;refine Call_ (Lw I hg hm boot_reversed (D3 (thn (ha pos pins s σ H _ I h) λus s1 ⟨vs,H1,I1,r1,q1⟩=>?_) hs rfl));obtain ⟨a,xs,rfl,sq,q⟩:=q1;obtain ⟨u,rfl,ru⟩:=vals1 r1;cases ru;obtain ⟨its,rv,pl,hz⟩:=I1.list sq;have hl:=rv.length;refine call_reversed_list pl.isList ?_;have hit:(s1.heap.push (revObj a ((its.toArray.size:Int) - 1))).IsRevIter s1.heap.objs.size a ((xs.length:Int) - 1 - ((0:Nat):Int)):=⟨_,Aq _ rfl,rfl,by simp [revObj,hl]⟩;refine bd hit ⟨s1.heap.objs.size,[s1.heap.objs.size],_,_,H1,rfl,I1.kept (t':=s1.toks) λb o e=>AO _ e,ZN a _ xs.length,⟨C0 _,hit⟩,λb hb=>?_,q⟩
 have e:b=s1.heap.objs.size:=by simpa using hb
 subst e;exact I1.fpOk (AU _) (I1.hok.fresh (AU _))
def Ss (d:D) (n:Nat):KD:=λS=>match QO d S with
 | some ds=>if ds.length=n then some ds.reverse else none
 | none=>none
def Wr (m:ME):MI:=λe S=>(m e S).bind λd S1=>match QO d S1 with
 | some ds=>.ok (Ss d ds.length) S1
 | none=>.bad
theorem Uo {K:AB} {ρ:List AI} {H:Hp} {a:AI} {d:D} {n:Nat} (r:Bo K ρ H d (.ref a)):Nq K ρ H (Itv K a n) (Ss d n):=by
 intro ρ2 H2 S ds i l s hv;unfold Ss at hv;split at hv
 ·rename_i es hes
  split at hv
  ·rename_i hlen
   cases hv;obtain ⟨a',xs,e,rr,sq⟩:=LG s (r.mono l) hes;cases e;have hl:=rr.length;refine ⟨λhn=>⟨xs,sq,by lia,?_⟩,λd hd=>?_⟩
   ·have:=CG.mp hn
    rw [MM] at this
    lia
   ·obtain ⟨x,hx,rx⟩:=rr.reverse.get hd
    refine ⟨⟨xs,x,sq,by lia,hx⟩,λy H' ⟨e,hy⟩=>?_⟩;subst e;have:=hy xs sq;rw [hx] at this;cases this;exact ⟨ρ2,.refl,s,rx⟩
  ·cases hv
 ·cases hv
theorem jC (hg:Gl X "reversed") (hm:X.mg "reversed" = none) (h:GE X E e m) (he:AZ [e] X.env=[(false,CC e X.env)]:=by rfl):GI X E tg (.Call (.Name "reversed" p) [e] [] pos) (Wr m):=
 (iH hg hm (FG h Hr he) he).imp λσ H R ⟨ρ,l,S,hl,hs,hm⟩=>by
 refine ⟨ρ,l,S,hl,hs,hm.seq λd S1 hm ρ1 H1 x l1 s1 r1=>?_⟩
 cases hq:QO d S1 with
 | none=>rw [hq] at hm;exact hm.elim
 | some ds=>
  rw [hq] at hm;obtain ⟨a,xs,rfl,rr,sq⟩:=LG s1 r1 hq;refine ⟨a,xs,rfl,sq,hm ρ1 H1 _ l1 s1 ?_⟩;rw [<-rr.length];exact Uo r1
end
end L2
namespace PySem
open Sem (wp)
open PyProof.Rows (IntsAre)
section
variable {prog:An} {w:BH} {A:BD} {E:AC->AE->Prop} {s:AE}
end
end PySem
namespace L2
open PySem PySem.Spec PyProof.Rows
section
variable {X:Cx} {E:EW} {a b:Expr} {p p2 pos pos2:Pos} {ml:ML} {ta:TA}
end
end L2
namespace PySem
open Sem (wp)
open AutoSeq1 (wpAny_loadPart')
section
variable {prog:An} {w:BH} {A:BD} {E:AC->AE->Prop} {s:AE}
theorem Tf {T newId:String} {self:AC} {rest:List AC} {kw:List (Str×AC)} (hl:fX (.type T) "__init__" = pure (some (.builtin "object.__init__"))) (hm:Bind.madeBy (.type T)=pure (some newId)) (hne:(some newId != some "object.__new__")=true) (hr:(!rest.isEmpty||!kw.isEmpty)=true) :
  Meets (Builtin.«object.__init__» ⟨self :: rest,kw⟩) (λ_ R s=>s.TypeIs self T/\R (.ok (.ret .none)) s):=by
 refine Meets.of_wp λprog w A R s hs=>?_
 obtain ⟨hT,hq⟩:=hs;unfold Builtin.«object.__init__»;dsimp only;rw [if_pos hr];(repeat (any_goals (first | assumption | wp_step)));exact ⟨_,rfl,hq⟩
theorem Vx {T newId:String} {Bn:Builtin} {args:List AC} {kw:List (Str×AC)} {S:Spec} {Q:AC->AE->Prop} (ft:TypeCalled T newId "object.__init__") (hne:(some newId != some "object.__new__")=true) (hr:(!args.isEmpty||!kw.isEmpty)=true)
  (hct:checkTypeCall T ⟨args,kw⟩=pure ()) (hcn:RA newId ⟨.type T :: args,kw⟩=pure ()) (hok:∀obj,argsOk "object.__init__" ⟨obj :: args,kw⟩) (entryN:entryFor table newId=some Bn) (g:Meets (Bn ⟨.type T :: args,kw⟩) S)
  (h:S A.in1 (wants (λobj s₁=>s₁.TypeIs obj T/\Q obj s₁) E) s):Af (AY prog w) A (call (.type T) args kw) Q E s:=by
 obtain ⟨c,tl,hmro⟩:=ft.mro;have hmade:=ft.made;have hsub:=ft.sub;refine On (codeAny_of_tree ?_);show Af _ _ (callAny (.type T) _) _ _ _;refine AJ ⟨Code.quiet_builtin _ (by decide +kernel),codeAny_builtin F.entry_type_call ?_⟩;rw [BD.under_plain (weight_type_call_type T args kw) (units_type_call_type T args kw)];have h1:=ft.notType;have h2:=ft.canCreate;(repeat (any_goals (first | assumption | wp_step)))
 refine Ix (NA ft.plain entryN (SX hcn (g prog w A.in1 _ s h))) λr s₁ hr₁=>?_
 cases r with
 | error e=>exact hr₁
 | ok fl=>
  cases fl with
  | ret obj=>
   obtain ⟨hT,hq⟩:=hr₁;have hli:=ft.init.lookup;have hbi:=ft.init.bind obj;(repeat (any_goals (first | assumption | wp_step)))
   refine Ix (NA (R:=wants (λr s₂=>r=.none/\Q obj s₂) E) ft.init.plain F.entry_object_init (ft.init.check _ _ _ _ _ _ _ _ hT (hok obj) (Tf ft.init.lookup ft.made hne hr prog w A.in1 _ s₁ ⟨hT,rfl,hq⟩))) λr₂ s₂ hr₂=>?_
   cases r₂ with
   | error e=>exact hr₂
   | ok fl₂=>
    cases fl₂ with
    | ret r=>
     obtain ⟨rfl,hq⟩:=hr₂;(repeat (any_goals (first | assumption | wp_step)))
    | _=>exact hr₂.elim
  | _=>exact hr₁.elim
theorem J9 (l:AI) (items:Array AC) (n:Nat) (dct:Option AI) (sl:Array (Option AC)) (t:Tok) :
  Meets (Builtin.«enumerate.__new__» ⟨[.type "enumerate",.ref l],[("start",.int 1 t)]⟩) (λ_ R s=>s.heap.get? l=some { cls:=.type "tuple",dict:=dct,data:=.seq items n,slots:=sl } /\
   R (.ok (.ret (.ref (s.heap.push { cls:=.type "tuple_iterator",data:=.fields #[.ref l,.int 0 0] }).objs.size)))
    { s with heap:=(s.heap.push { cls:=.type "tuple_iterator",data:=.fields #[.ref l,.int 0 0] }).push { cls:=.type "enumerate",data:=.fields #[.none,.bool false,.ref s.heap.objs.size,EN 1,.none,.none] } }):=
 .of_wp λprog w A R s h=>by
  obtain ⟨hp,g,d,tk,os⟩:=s;obtain ⟨hl,h⟩:=h;have hsub:=sub_enumerate;have hL:Bl.IsTuple (AE.heap ⟨hp,g,d,tk,os⟩) l items:=⟨_,hl,rfl,n,rfl⟩
  wp_walk using MC hl
  refine wpAny_stack_any λst=>AJ ?_
  split
  ·rename_i c _ _ _ _ _
   cases (c==Fb "enumerate")
   ·wp_walk using MC hl,GZ hL
    exact ⟨_,rfl,h⟩
   ·wp_walk using MC hl,GZ hL
    exact ⟨_,rfl,h⟩
  ·wp_walk using MC hl,GZ hL
   exact ⟨_,rfl,h⟩
end
end PySem
namespace PySem
section
variable {prog:An} {w:BH} {A:BD} {E:AC->AE->Prop} {s:AE}
theorem KC {l:AI} {items:Array AC} {t:Tok} {Q:AC->AE->Prop} (hL:s.heap.IsTuple l items)
  (h:∀h',Yy h' (s.heap.objs.size+1) s.heap.objs.size 1 .none->h'.IsTupleIter s.heap.objs.size l 0->h'.objs.size=s.heap.objs.size+2 ->
   (∀b o,s.heap.get? b=some o->h'.get? b=some o)->Q (.ref (s.heap.objs.size+1)) { s with heap:=h' }) :
  Af (AY prog w) A (call (.type "enumerate") [.ref l] [("start",.int 1 t)]) Q E s:=by
 obtain ⟨⟨c,dct,dt,sl⟩,hl,hc,n,hd⟩:=hL
 replace hc:c=.type "tuple":=hc
 replace hd:dt=.seq items n:=hd
 subst hc hd
 refine Vx F.called_enumerate (by decide) rfl (by kernel_rfl) (by kernel_rfl) (λobj=>by
  unfold argsOk;rw [signature?_of (id:="object.__init__") (n:=['_','_','t','i','n','i','_','_']) (o:=['t','c','e','j','b','o']) (by kernel_rfl) F.owner_object];kernel_rfl) F.entry_enumerate_new
  (J9 l items n dct sl t) ⟨hl,?_⟩
 have hz:(s.heap.push { cls:=.type "tuple_iterator",data:=.fields #[.ref l,.int 0 0] }).objs.size=s.heap.objs.size+1:=IT ..;show _/\_;rw [hz]
 have he:Yy ((s.heap.push { cls:=.type "tuple_iterator",data:=.fields #[.ref l,.int 0 0] }).push
   { cls:=.type "enumerate",data:=.fields #[.none,.bool false,.ref s.heap.objs.size,EN 1,.none,.none] }) (s.heap.objs.size+1) s.heap.objs.size 1 .none:=by
  have:=Aq (s.heap.push { cls:=.type "tuple_iterator",data:=.fields #[.ref l,.int 0 0] })
   (o:={ cls:=.type "enumerate",data:=.fields #[.none,.bool false,.ref s.heap.objs.size,EN 1,.none,.none] }) rfl
  rw [hz] at this;exact this
 refine ⟨⟨_,he,rfl⟩,h _ he ⟨_,AO _ (Aq _ rfl),rfl,rfl⟩ (by rw [IT,hz]) λb o x=>AO _ (AO _ x)⟩
theorem Pa {e it l:AI} {i:Nat} {j:Int} {items:Array AC} {old:AC} {Q:Option AC->AE->Prop} (hh:A.handled=none)
  (he:Yy s.heap e it j old) (hit:s.heap.IsTupleIter it l i) (hl:s.heap.IsTuple l items) (hx:items[i]?=none)
  (hQ:∀h',WI it s.heap h'->Q none { s with heap:=h' }):Af (AY prog w) A (Q8 (.ref e)) Q E s:=by
 have hT:s.TypeIs (.ref e) "enumerate":=⟨_,he,rfl⟩;unfold Q8
 refine AA (IH (Ca (name:=Gc "__next__") hT Yo
  (Cz Yo hT F.entry_enumerate_next ?_ (F.args_enumerate_next_1 _))))
 show Af _ _ (field (.ref e) 2 >>= _) _ _ _;refine AA (C8 he rfl (x:=.ref it) rfl (AA (JI hh hit hl hx λh' x he' hx'=>?_)));obtain ⟨o,ho,hc⟩:=hx';exact AA (jr (T:="StopIteration") (b:=true) ⟨o,ho,hc⟩ isSubtype_stop (AJ (hQ _ he')))
theorem SW (hh:A.handled=none) (it l:AI) (hne:l≠it) (items:Array AC) :
  Draws prog w A it [it,l] (items.size+1) (λi v=>items[i - 1]?=some v) (λi h=>1<=i/\h.IsTupleIter it l (i - 1)/\h.IsTuple l items) where
 live:=λ_ _ st=>let ⟨o,ho,_⟩:=st.2.1;⟨o,ho⟩
 frame:=λ_ _ _ st hk=>⟨st.1,st.2.1.at λo e=>hk it (by simp) o e,let ⟨o,ho,r⟩:=st.2.2;⟨o,hk l (by simp) o ho,r⟩⟩
 item:=λi s Q E hi st hQ=>by
  obtain ⟨h1,st⟩:=st
  have hlt:i - 1 < items.size:=by omega
  refine Mp st.1 st.2 (x:=items[i - 1]) (by simp [hlt]) λh' hit' hs'=>?_
  refine hQ _ h' s.toks (by simp [hlt]) ⟨by lia,?_,st.2.extBut hs'.extBut hne⟩ hs';rw [show i+1 - 1=i - 1+1 by lia];exact hit'
 done:=λs Q E st hE=>JI hh st.2.1 st.2.2 (by simp) hE
end
end PySem
namespace L2
open PySem PySem.Spec PyProof.Rows
def jZ (sq:Hp->List V->Prop):It:=
 ⟨λi H=>∃xs x,sq H xs/\xs[i]?=some x,λi H y H'=>∃p x,H p=none/\y=.ref p/\H'=upd H p (.tup [.int ((i+1:Nat):Int),x])/\∀xs,sq H xs->xs[i]?=some x,λi H=>∃xs,sq H xs/\xs.length<=i⟩
section
variable {P:An} {w:BH} {K:AB} {elts:List Expr} {x1:Nat} {pos:Pos}
theorem S9 (a e it:AI) (hne:e≠it) (hae:a≠it) (hef:e≠a):UK P w K (.Tuple elts x1 pos) (jZ λH xs=>SqT K H a xs) [e,it] e (λi h=>(∃old,Yy h e it ((i+1:Nat):Int) old)/\h.IsTupleIter it a i) where
 mem:=by simp
 obj:=λi h st b hb=>by
  have hb':b=e∨b=it:=by simpa using hb
  rcases hb' with z | z
  ·subst z
   obtain ⟨⟨old,he⟩,_⟩:=st
   exact ⟨_,he,λv z=>by
    have z':kB _=Data.cell v:=z
    cases z'⟩
  ·subst z
   obtain ⟨_,o,e,c,d⟩:=st;exact ⟨o,e,λv z=>by rw [d] at z;cases z⟩
 keep:=λi h h' st k=>⟨st.1.imp λold he=>k e (by simp) _ he,st.2.at λo q=>k it (by simp) o q⟩
 item:=by
  intro X hP hw hK hc i pins s σ H E I hf st hg;subst hP hw hK;obtain ⟨xs,x,hq,hx⟩:=hg;obtain ⟨its,rv,p,hz⟩:=I.tuple hq;have p':s.heap.IsTuple a its.toArray:=p;obtain ⟨u,hu,ru⟩:=rv.get hx
  have hlt:i < its.toArray.size:=by
   have:=(AM.mp hu).1;simpa using this
  obtain ⟨⟨old,he⟩,hit⟩:=st
  have li:it < s.heap.objs.size:=by obtain ⟨o,q,_⟩:=hit;exact Ae q
  refine wpAny_pyNext_enum_itemD (SW (A:=X.A.in1) (I.ok.hd hc) it a hae its.toArray) (i:=i+1) he ⟨by lia,hit,p'⟩ (by lia) hne (by simp [hne,hef]) λu' h' tk hu' ho hst' hT hsz hk=>?_
  have:u'=u:=by
   have hu2:its[i]?=some u':=by simpa using hu'
   rw [hu] at hu2;cases hu2;rfl
  subst this
  have t:=YO (i:=i+1) (E:=E) (elts:=elts) (x1:=x1) (pos:=pos) (sq:=λH xs=>∃y ys,xs=y :: ys/\SqT X.K H a ys) (tn:=λj h=>(∃old,Yy h e it (j:Int) old)/\h.IsTupleIter it a (j - 1)) I hne hf (Ae he) li ru (λys hy=>by
   obtain ⟨y,ys',rfl,hy⟩:=hy;rw [Sj,I.tuple_inj hy hq]
   exact hx) ho hT hk λh2 hs2 he2=>⟨he2,hst'.2.1.at λo q=>(hs2.2 it (B5 hne)).trans q⟩
  refine ⟨_,rfl,DK t (λ_ s2 h2=>?_) λ_ _ z=>z⟩;obtain ⟨y,H',q1,q2,⟨p,x,e1,e2,e3,e4⟩,q4,q5⟩:=h2;exact ⟨y,H',q1,q2,⟨p,x,e1,e2,e3,λzs hz=>by simpa using e4 (x :: zs) ⟨x,zs,rfl,hz⟩⟩,q4,q5⟩
 done:=by
  intro X hP hw hK hc i pins s σ H E I hf st hg;subst hP hw hK;obtain ⟨xs,hq,hx⟩:=hg;obtain ⟨its,rv,p,hz⟩:=I.tuple hq;obtain ⟨⟨old,he⟩,hit⟩:=st;obtain ⟨f0,f1,f2,f3,f4,f5⟩:=hf it (by simp);have hl:=rv.length
  exact Pa (I.ok.hd hc) he hit (show s.heap.IsTuple a its.toArray from p) (by simp;lia) λh' eb=>⟨rfl,I.turned (t':=s.toks) (λb o hb e=>eb b o hb e) f0 f1 f3 f4 f5⟩
 self:=λ_ _ _ _ _ st h=>by
  obtain ⟨⟨old,he⟩,_⟩:=st;exact je he h
end
section
variable {X:Cx} {E:EW} {e:Expr} {elts:List Expr} {x1:Nat} {p pos ptg kp vp:Pos} {j1:Nat} {m:ME} {ta:TA}
def i5 (K:AB) (ta:TA):TI:=λσ H R=>ta σ H λvs H1=>∃a,vs=[.ref a]/\(∃xs,SqT K H1 a xs)/\R (jZ λH xs=>SqT K H a xs) H1
theorem OT {M:QB} {A:BD} {E:AC->AE->Prop} {s:AE} {env:Env} {pos:Pos} {T:String} {e:Expr} {rest:List Expr} {kws:List Nx} {Q:AC->AE->Prop}
  (h:Af M A (spliced (DM pos (AZ (e :: rest) env))) (λvs s₁=>Af M A (evalAll ((JU pos (FJ kws env)).map (·.2)))
   (λkvs s₂=>Af M A (call (.type T) vs (((JU pos (FJ kws env)).filterMap (·.1)).zip kvs)) Q E s₂) E s₁) E s)
  (he:DM pos (AZ (e :: rest) env)=(false,CC e env) :: DM pos (AZ rest env)) (hplain:(DM pos (AZ (e :: rest) env)).any (·.1)=false)
  (hall:(JU pos (FJ kws env)).all (·.1.isSome)=true) (hkw:(JU pos (FJ kws env)).any (·.1.isNone)=false) :
  Af M A (callWith pos (.type T) [] (DM pos (AZ (e :: rest) env)) (JU pos (FJ kws env))) Q E s:=by
 have h2:Af M A (evalArgs (.type T) true (DM pos (AZ (e :: rest) env)) (JU pos (FJ kws env))) (λa s₁=>Af M A (call (.type T) ([]++a.pos) a.kw) Q E s₁) E s:=by
  rw [he] at h ⊢;exact evalArgs_kwB hall h
 unfold callWith;refine AA (DY (DK h2 (λa s₁ h₁=>AA (XI ?_)) λ_ _ x=>x));simp only [hplain,hkw,Bool.or_false];exact AA (AJ (AA (DK h₁ (λr s₂ hr=>AA (DY (wpAny_point (AJ hr)))) λ_ _ x=>x)))
theorem Zr (hg:Gl X "enumerate") (hm:X.mg "enumerate" = none) (ha:PA X [e] ta) (hs:AZ [e] X.env=[(false,CC e X.env)]:=by rfl) :
  PI X (.Tuple elts x1 ptg) (.Call (.Name "enumerate" p) [e] [⟨some "start",.Constant (.int 1) j1 vp,kp⟩] pos) (i5 X.K ta):=by
 intro pins s σ H R I h;refine Ga (Lw I hg hm boot_enumerate ?_ (by decide) (by decide));refine OT (thn (ha pos pins s σ H _ I h) λus s1 ⟨vs,H1,I1,r1,q1⟩=>?_) (by rw [hs];rfl) (by rw [hs];rfl) rfl rfl;obtain ⟨a,rfl,⟨xs,sq⟩,q⟩:=q1;obtain ⟨u,rfl,ru⟩:=vals1 r1;cases ru;refine kws_cons ?_
 refine thn (Zu (X:=X) (i:=1) (j:=j1) (pos:=vp) pins s1 σ H1 (λx H2=>x=.int 1/\H2=H1) I1 ⟨rfl,rfl⟩) λv s2 ⟨x,H2,I2,r2,e1,e2⟩=>?_
 subst e1 e2;obtain ⟨t,rfl⟩:=r2;refine kws_nil ?_;show Af _ _ (call (.type "enumerate") [.ref a] [("start",.int 1 t)]) _ _ _;obtain ⟨its,rv,pl,hz⟩:=I2.tuple sq;have pl':s2.heap.IsTuple a its.toArray:=pl
 have la:a < s2.heap.objs.size:=by obtain ⟨o,q,_⟩:=pl';exact Ae q
 refine KC pl' λh' he hit hsz hk=>je he ?_
 refine ⟨_,[s2.heap.objs.size+1,s2.heap.objs.size],_,_,_,rfl,I2.kept (t':=s2.toks) hk,S9 a _ _ (Nat.succ_ne_self _) (A0 la) (OE (OF la)),⟨⟨_,he⟩,hit⟩,λb hb=>?_,q⟩
 have hb':b=s2.heap.objs.size+1∨b=s2.heap.objs.size:=by simpa using hb
 rcases hb' with z | z
 ·rw [z];exact I2.fpOk (P0 _) (I2.hok.fresh (P0 _))
 ·rw [z];exact I2.fpOk (AU _) (I2.hok.fresh (AU _))
def Ic (ds:List D):List D:=ds.zipIdx.map λx=>.tup [.int ((x.2+1:Nat):Int),x.1]
theorem N8 (ds:List D) (i:Nat):(Ic ds)[i]?=(ds[i]?).map λd=>.tup [.int ((i+1:Nat):Int),d]:=by
 unfold Ic;rw [Ap,WF]
 cases ds[i]? with
 | none=>rfl
 | some d=>simp
theorem RL {K:AB} {ρ:List AI} {H:Hp} {a:AI} {ds:List D} {xs:List V} (h1:H a=some (.tup xs)) (h2:At K ρ H ds xs):Nq K ρ H (jZ λH xs=>SqT K H a xs) (GX (Ic ds)):=by
 intro ρ2 H2 S ds' i l s hv;cases hv;have rr:=h2.mono l;have sq:SqT K H2 a xs:=.inl (.inl (l.tup _ _ h1));refine ⟨λhn=>⟨xs,sq,?_⟩,λd hd=>?_⟩
 ·rw [N8] at hn
  rw [<-rr.length]
  cases hq:ds[i]? with
  | none=>exact CG.mp hq
  | some d=>rw [hq] at hn;cases hn
 ·rw [N8] at hd
  cases hq:ds[i]? with
  | none=>rw [hq] at hd;cases hd
  | some d0=>
   rw [hq] at hd;cases hd;obtain ⟨x,hx,rx⟩:=rr.get hq;refine ⟨⟨xs,x,sq,hx⟩,λy H' ⟨p,x',e1,e2,e3,e4⟩=>?_⟩;subst e2 e3;have:=e4 xs sq;rw [hx] at this;cases this;obtain ⟨s4,l4⟩:=Gw (ho:=.tup [.int ((i+1:Nat):Int),x]) s e1;exact ⟨ρ2,l4,s4,.tup B2 (.cons (.int _) (.cons (rx.mono l4) .nil))⟩
def Oh (m:ME):MI:=λe S=>(m e S).bind λd S1=>match d with
 | .tup ds=>.ok (GX (Ic ds)) S1
 | _=>.bad
theorem am (hg:Gl X "enumerate") (hm:X.mg "enumerate" = none) (h:GE X E e m) (he:AZ [e] X.env=[(false,CC e X.env)]:=by rfl) :
  GI X E (.Tuple elts x1 ptg) (.Call (.Name "enumerate" p) [e] [⟨some "start",.Constant (.int 1) j1 vp,kp⟩] pos) (Oh m):=
 (Zr hg hm (FG h Hr he) he).imp λσ H R ⟨ρ,l,S,hl,hs,hm⟩=>by
 refine ⟨ρ,l,S,hl,hs,hm.seq λd S1 hm ρ1 H1 x l1 s1 r1=>?_⟩
 cases d with
 | tup ds=>
  have hm':=hm
  cases r1 with
  | @tup _ a vs q1 q2=>exact ⟨a,rfl,⟨vs,.inl (.inl q1)⟩,hm' ρ1 H1 _ l1 s1 (RL q1 q2)⟩
 | _=>exact hm.elim
end
end L2
namespace PySem
open Sem (wp)
section
variable {prog:An} {w:BH} {A:BD} {E:AC->AE->Prop} {s:AE}
end
end PySem
namespace L2
open PySem PySem.Spec PyProof.Rows
section
variable {X:Cx} {E:EW} {e a b c:Expr} {p p2 pos pos2:Pos} {m:ME} {te:TE} {ml:ML} {ta:TA} {tg:Expr}
end
section
variable {X:Cx} {E:EW} {a b c:Expr} {p pos:Pos} {ml:ML} {ta:TA} {tg:Expr}
end
end L2
namespace L2
open PySem PySem.Spec PyProof.Rows
section
variable {X:Cx} {E:EW} {e a b c:Expr} {p p2 pos pos2:Pos} {m:ME} {te:TE} {ml:ML} {ta:TA} {tg:Expr}
end
theorem jN {P:An} {w:BH} {K:AB} {mg:Str->Option AC} {base:Bl} {CX:CXT} {k n:Nat} {f:AI} {fd:DU} {ps:List Str}:Dh P w K mg base CX k f fd ps (spM K n λ_ _=>.bad):=
 ⟨λ_ _ _ _ ⟨_,_,_,_,_,_,h⟩=>h.elim,λ_ _ _ _ _ _ _ _ _ _ _ _ _ ⟨_,_,_,_,_,_,h⟩=>h.elim⟩
end L2
namespace L2
open PySem PySem.Spec PyProof.Rows
section
variable {X:Cx} {E:EW} {k v:Expr} {pos:Pos} {mk mv:ME}
end
end L2
namespace PySem
end PySem
namespace L2
open PySem PySem.Spec PyProof.Rows
section
variable {X:Cx} {E:EW} {o e:Expr} {apos cpos:Pos} {mo ma:ME}
end
section
variable {X:Cx} {o e:Expr} {apos cpos:Pos} {td ty:TE}
end
section
variable {X:Cx} {E:EW} {o e:Expr} {apos cpos:Pos} {mo ma:ME}
end
end L2
namespace L2
open PySem PySem.Spec PyProof.Rows
section
variable {X:Cx}
end
section
variable {X:Cx} {E:EW} {o e f:Expr} {apos cpos:Pos} {mo mi my:ME}
end
end L2
namespace PySem
open Sem (wp)
section
variable {prog:An} {w:BH} {A:BD} {E:AC->AE->Prop} {s:AE}
end
end PySem
namespace L2
open PySem PySem.Spec PyProof.Rows
section
variable {P:An} {w:BH} {K:AB} {elts:List Expr} {x1:Nat} {pos:Pos}
end
section
variable {X:Cx} {E:EW} {e1 e2:Expr} {elts:List Expr} {x1:Nat} {p pos ptg:Pos} {ml:ML} {ta:TA}
end
end L2
namespace HT
open PySem PySem.Spec PyProof.Rows
section
variable {prog:An} {w:BH} {A:BD} {E:AC->AE->Prop} {s:AE}
theorem M0 {t sl:AI} {items:Array AC} {vl vu:AC} {lo hi:Option Int} {Q:AC->AE->Prop} (ht:br s.heap t items) (hs:s.heap.IsSliceOf sl vl vu .none) (pl:NC vl lo) (pu:NC vu hi)
  (hw:sIx items.size 0 lo=0/\sIx items.size items.size hi=items.size) (h:Q (.ref t) s):Af (AY prog w) A (KI (.ref t) (.ref sl)) Q E s:=by
 obtain ⟨os,hos,hcs,hds⟩:=id hs;have hTs:s.TypeIs (.ref sl) "slice":=⟨os,hos,hcs⟩;unfold KI
 try with_reducible refine DY ?_
 first | refine AA (AJ ?_) | skip
 refine AA (jc ht.typeIs (by decide) (AA (Ca (name:=Gc "__getitem__") ht.typeIs B1
  (Cz B1 ht.typeIs eu ?_ (fh _ _)))))
 show Af (AY prog w) _ (MX (.ref t) >>= _) _ _ s;refine AA (tupleItemsOf_ ht (AA (P4 hTs ?_)));rw [if_pos (by decide)];refine AA (JF hs pl pu ?_);show Af (AY prog w) _ (if (((sIx items.size 0 lo:Nat):Int)==0&&(1:Int)==1&&(sIx items.size items.size hi - sIx items.size 0 lo)==items.size)=true then _ else _) _ _ s;rw [hw.1,hw.2,if_pos (by simp)];unfold kD;refine AA (AA (P4 ht.typeIs (AJ ?_)));rw [if_pos (by decide)];exact AA (UV (AA (AJ (AJ ⟨_,rfl,AJ h⟩))))
end
end HT
namespace L2
open PySem PySem.Spec PyProof.Rows
section
variable {X:Cx}
def rSlW (K:AB):V->Option Int->Option Int->Hp->VK->Prop:=λx lo hi H Q=>∃a xs,x=.ref a/\SqT K H a xs/\(HT.sIx xs.length 0 lo=0/\HT.sIx xs.length xs.length hi=xs.length)/\Q (.ref a) H
theorem gx:SlR X (rSlW X.K):=by
 intro pins s σ H x v vl vu lo hi sl Q I rx hs pl pu h;obtain ⟨a,xs,rfl,hx,hw,q⟩:=h;cases rx;obtain ⟨its,r,ht,_⟩:=I.tuple hx
 have hlen:its.toArray.size=xs.length:=by rw [Ak];exact r.length.symm
 exact ⟨"tuple",_,B1.lookup,ht.typeIs,HT.M0 ht hs pl pu (by rw [hlen];exact hw) ⟨.ref a,H,I,rfl,q⟩⟩
def gv (d:D) (lo hi:Option Int) (S:Sto):Res D:=match d with
 | .tup ds=>.ok (.tup (L6 ds lo hi)) S
 | _=>.bad
def LF (m:ME) (ml mh:MO):ME:=λe S=>(m e S).bind λd S1=>(ml e S1).bind λlo S2=>(mh e S2).bind λhi S3=>okR (gv d lo hi S3)
variable {E:EW} {e:Expr} {lo hi:Option Expr} {pos p2:Pos} {m:ME} {ml mh:MO}
theorem eM {α:Type} (xs:List α) (lo hi:Option Int) (h:HT.sIx xs.length 0 lo=0/\HT.sIx xs.length xs.length hi=xs.length):L6 xs lo hi=xs:=by
 unfold L6;rw [h.1,h.2];simp
theorem Nd (he:GE X E e m) (hl:GO X E lo ml) (hu:GO X E hi mh):GE X E (.Subscript e (.Slice lo hi none p2) pos) (LF m ml mh):=(Zt (gx.or gw) he hl hu).imp λσ H Q ⟨ρ,l,S,hl,hs,hm⟩=>by
 refine ⟨ρ,l,S,hl,hs,hm.seq λd S1 hm ρ1 H1 x l1 s1 r1=>⟨ρ1,l,S1,hl.mono l1,s1,(hm.later l1).seq λlo S2 hm ρ2 H2 l2 s2=>⟨ρ2,l,S2,hl.mono (l1.trans l2),s2,(hm.later l2).seq λhi S3 hm ρ3 H3 l3 s3=>?_⟩⟩⟩;obtain ⟨d',S',e,k⟩:=hm.okR;have r3:=r1.mono (l2.trans l3)
 cases d with
 | tup ds=>
  cases e
  cases r3 with
  | @tup _ a vs h1 h2=>
   by_cases hw:HT.sIx vs.length 0 lo=0/\HT.sIx vs.length vs.length hi=vs.length
   ·refine .inl ⟨a,vs,rfl,.inl (.inl h1),hw,k _ _ _ (l1.trans (l2.trans l3)) s3 ?_⟩
    rw [eM ds lo hi (by rw [h2.length];exact hw)];exact .tup h1 h2
   ·refine .inr ⟨a,vs,rfl,.inl (.inl h1),hw,λq hq=>?_⟩
    obtain ⟨s4,l4⟩:=Gw (ho:=.tup (Vv vs lo hi)) s3 hq;exact k _ _ _ (l1.trans (l2.trans (l3.trans l4))) s4 (.tup B2 ((bK h2 lo hi).mono l4))
 | _=>cases e
end
end L2
namespace L2
open PySem PySem.Spec PyProof.Rows
section
variable {X:Cx}
instance (i j:Int):Decidable ((λ_ j:Int=>0<=j) i j):=inferInstanceAs (Decidable (0<=j))
abbrev cj:=intOp ej λi j=>.int (i * 2 ^ j.toNat)
abbrev TK:=intOp (λ_ j=>0<=j) λi j=>.int (i / 2 ^ j.toNat)
abbrev UI:=intOp (λ_ _=>True) λi j=>.int (Fg i j)
abbrev fx:=intOp (λ_ _=>True) λi j=>.int (DN i j)
theorem Z6:OpR X (Cb .LShift) (rD X.K cj):=PX (λ_ _ _ _=>.int _) iW
theorem VQ:OpR X (Cb .RShift) (rD X.K TK):=PX (λ_ _ _ _=>.int _) iV
theorem VR:OpR X (Cb .BitAnd) (rD X.K UI):=LD (λ_ _ _ _=>.int _) iZ
theorem ii:OpR X (Cb .BitXor) (rD X.K fx):=LD (λ_ _ _ _=>.int _) iT
theorem lO:PIp X .BitOr (ipI λi j=>LY i j):=by
 intro pins s σ H x y v u Q I r1 r2 h;obtain ⟨i,j,e1,e2,q⟩:=h;subst e1;subst e2;obtain ⟨a,rfl⟩:=r1;obtain ⟨b,rfl⟩:=r2;exact ior_int ⟨.int _,H,I.tok _,⟨_,rfl⟩,q⟩
end
end L2
namespace L2
open PySem PySem.Spec PyProof.Rows
section
variable {X:Cx} {E:EW} {CX:CXT} {k n:Nat} {f C:AI} {fd:DU} {ps:List Str} {m:Str} {pos apos:Pos} {o e:Expr} {es:List Expr} {mo:ME} {ml:ML} {g:List D->Sto->Res D}
end
end L2
namespace L2
open PySem PySem.Spec PyProof.Rows
section
variable {X:Cx} {E:EW} {o:Expr} {apos cpos:Pos} {mo:ME}
end
end L2
namespace L2
open PySem PySem.Spec PyProof.Rows
section
variable {X:Cx}
end
end L2
namespace L2
open PySem PySem.Spec PyProof.Rows
def WW (cs:List AI) (b h:MS):MS:=λe S=>(b e S).bind λf S1=>match f with
 | .ex c e1=>if c∈cs then (h e1 S1).bind λf2 S2=>(match f2 with
  | .ex _ _=>.bad
  | f2=>.ok f2 S2) else .bad
 | f=>.ok f S1
section
variable {X:Cx} {E:EW} {g:Str} {gp hpos pos:Pos} {G:AI} {cs:List AI} {body suite:List Cn} {b₀:Cn} {mb mh:MS}
theorem dq {pn:List (AI×Obj)} (O:JQ X) (hg:Gl X g) (hm:X.mg g=some (.ref G)) (hcs:∀c∈cs,V9 X.K c G)
  (hb:∀pn' E',GSs (X.w' pn' E') E' body mb) (hh:∀pn' ea,GSs ((X.p pn').suite ea) noE (b₀ :: suite) mh) (hdb:(g==("__debug__" : Str))=false:=by decide) :
  GS (X.w' pn E) E (.Try body [.ExceptHandler (some (.Name g gp)) none (b₀ :: suite) hpos] [] [] pos) (WW cs mb mh):=by
 intro pins s σ H D I ⟨ρ,l,S,hl,hs,hm'⟩;have I0:Inv (X.p pn) pins σ H s:=Inv.without (X:=X.p pn) I;have I1:Inv (X.p (pn++pins)) [] σ H s:=I0.pinIn;have O1:=O.p (pn++pins)
 let ET:EW:=λC σ' H'=>C∈cs/\∀ea o u,H' ea=none->SV o C->gS X.K noE mh D σ' (upd H' ea (.frz o u))
 have run:=hb (pn++pins) ET [] s σ H D (I1.with _) ⟨ρ,l,S,hl,hs,hm'.seq λf S1 hm=>by
  cases f with
  | nx e'=>exact hm
  | rt d=>exact hm
  | bk d=>exact hm
  | ct d=>exact hm
  | ex c e1=>
   intro ρ' H' σ' l' s' r';dsimp only at hm;split at hm
   ·rename_i hc
    refine ⟨hc,λea o u hn ho=>?_⟩;have le:Le X.K ρ' H' ρ' (upd H' ea (.frz o u)):=Le.fresh hn;have s2:=(Gw (ho:=.frz o u) s' hn).1;refine ⟨ρ',e1,S1,r'.mono le,s2,(Bs.later hm (l'.trans le)).seq λf2 S2 hm=>?_⟩
    cases f2 with
    | nx e2=>exact λρ2 H2 σ2 l2 q2 r2=>hm ρ2 H2 _ (l'.trans (le.trans l2)) q2 r2
    | bk e2=>exact λρ2 H2 σ2 l2 q2 r2=>hm ρ2 H2 _ (l'.trans (le.trans l2)) q2 r2
    | ct e2=>exact λρ2 H2 σ2 l2 q2 r2=>hm ρ2 H2 _ (l'.trans (le.trans l2)) q2 r2
    | rt d=>exact λρ2 H2 x2 l2 q2 r2=>hm ρ2 H2 x2 (l'.trans (le.trans l2)) q2 r2
    | ex c' e2=>exact hm.elim
   ·exact hm.elim⟩
 refine wpAny_Try_except (DK run (λf s1 q=>?_) λe s1 q=>?_)
 ·cases f with
  | next=>
   obtain ⟨σ',H',J,z⟩:=q;exact MD ⟨σ',H',(Inv.pinOut (X:=X.p pn) J.without).with _,z⟩
  | brk=>
   obtain ⟨σ',H',J,z⟩:=q;exact ⟨σ',H',(Inv.pinOut (X:=X.p pn) J.without).with _,z⟩
  | cont=>
   obtain ⟨σ',H',J,z⟩:=q;exact ⟨σ',H',(Inv.pinOut (X:=X.p pn) J.without).with _,z⟩
  | ret u=>
   obtain ⟨v,σ',H',J,r,z⟩:=q;exact ⟨v,σ',H',(Inv.pinOut (X:=X.p pn) J.without).with _,r,z⟩
 ·obtain ⟨ea,C,σ',H',rfl,J,x,hC,w⟩:=q
  refine Rp (X:=X.p (pn++pins)) J O1 J.ok.frames x (λo z=>z) λh1 J1 x1=>?_
  refine LK (X:=X.p (pn++pins)) (s:={ s1 with heap:=h1 }) none J1 O1 x1 (by simp) λh2 J2 x2=>?_
  refine wpAny_handleBy_cons (codeAny_handlers_test ?_) (by intro z;cases z);have J2s:=J2.suite ea;refine Mu (X:=(X.p (pn++pins)).suite ea) J2s hg hm ?_ hdb;have x2':=x2;obtain ⟨n1,n2,oe,vs,a0,g1,g2,⟨g0,g3⟩,_⟩:=x2';refine VZ (hcs C hC) J2.kIn g1 g2 ?_;refine codeAny_handlers_suite ?_
  refine LK (X:=X.p (pn++pins)) (s:={ s1 with heap:=h2 }) none J2 O1 x2 (by simp) λh3 J3 x3=>?_
  obtain ⟨n1,n2,oe,vs,a0,g1,g2,⟨g0,g3⟩,_⟩:=x3;have J4:=J3.track n1 n2 g1 g3
  refine DK (hh (pn++pins) ea [] _ _ _ D (J4.suite ea) (w ea oe _ n1 ⟨g2,g0,vs,g3⟩)) (λf s6 q=>?_) λ_ _ z=>z.elim
  have ok:(X.p (pn++pins)).Ok:=J.ok
  cases f with
  | next=>
   obtain ⟨σ6,H6,J6,z⟩:=q;exact ⟨_,H6,(Inv.pinOut (X:=X.p pn) (J6.unsuite ok)).with _,z⟩
  | brk=>
   obtain ⟨σ6,H6,J6,z⟩:=q;exact ⟨_,H6,(Inv.pinOut (X:=X.p pn) (J6.unsuite ok)).with _,z⟩
  | cont=>
   obtain ⟨σ6,H6,J6,z⟩:=q;exact ⟨_,H6,(Inv.pinOut (X:=X.p pn) (J6.unsuite ok)).with _,z⟩
  | ret u=>
   obtain ⟨v,σ6,H6,J6,r,z⟩:=q;exact ⟨v,_,H6,(Inv.pinOut (X:=X.p pn) (J6.unsuite ok)).with _,r,z⟩
end
end L2
namespace L2
open PySem PySem.Spec PyProof.Rows PySem.SeqAt
section
variable {X:Cx} {K:AB} {ρ:List AI} {H:Hp}
variable {pins:List (AI×Obj)} {σ:St} {s:AE}
end
section
variable {P:An} {w:BH} {K:AB} {mg:Str->Option AC} {base:Bl}
theorem G9 {N ps:List Str} {sc:IK} (h1:N.Nodup:=by decide +kernel) (h2:∀x∈ps,sc.names.lookup x=some .local∨sc.names.lookup x=some .cell:=by decide +kernel) (h3:∀y∈sc.names,y.2≠.free:=by decide +kernel) (h4:sc.kind=.function:=by rfl) (h5:sc.isCoroutine=false:=by rfl) (h6:sc.isGenerator=false:=by rfl) (h7:N.take ps.length=ps:=by rfl):Bp N ps sc:=⟨h4,h5,h6,h1,h7,h2,h3⟩
theorem CI {x qual:Str} {st:Cn} {f:AI} {fd:DU} {N ps:List Str} {k n:Nat} (F:Fun K x qual st f fd) (Sc:Bp N ps (Ai st)) (hn:ps.length=n) {mb:MS}
  (hbody:∀(cdv:AC) (A:BD) (outer:List Env) (s:AE) (H:Hp) (E:XK),HN k (A.deeper (Lf qual (Ai st) s.heap.objs.size f cdv))->JQ (SH (CXG P w) P w K mg base N qual (Ai st) f cdv A outer s H E)->(A.deeper (Lf qual (Ai st) s.heap.objs.size f cdv)).units+64 < EC->N.Nodup ->
   ∀pn E',GSs ((SH (CXG P w) P w K mg base N qual (Ai st) f cdv A outer s H E).w' pn E') E' (Bi st) mb) :
  Dh P w K mg base (CXG P w) (k+1) f fd ps (spM K n (ER N.length mb)):=jM F Sc hn λcdv A outer s H E hr=>hbody cdv A outer s H E hr ⟨rfl,rfl,rfl⟩ hr.units Sc.nd
end
section
variable {X:Cx} {E:EW} {e:Expr} {m:ME} {pos:Pos}
theorem CD {x:Str} (i:Nat) (hN:X.N.Nodup) (hi:X.N[i]?=some x:=by rfl) (hx:Loc X.env.scope x:=by first | exact MH rfl | exact Kw rfl) (hf:X.fn x=true∨X.env.scope.names.lookup x=some .local:=by first | exact .inl rfl | exact .inr rfl | assumption):GG X (.Name x pos) (tgN i):=du (dF hN hi hx hf)
theorem Ct {x:Str} {pos':Pos} (i:Nat) (hN:X.N.Nodup) (he:GE X E e m) (hi:X.N[i]?=some x:=by rfl) (hx:Loc X.env.scope x:=by first | exact MH rfl | exact Kw rfl) (hs:Fa e (some (.Name x pos')) pos.line X.env=pure false:=by rfl)
  (hf:X.fn x=true∨X.env.scope.names.lookup x=some .local:=by first | exact .inl rfl | exact .inr rfl | assumption):GS X E (.Assign [.Name x pos'] e pos) (Co i m):=i8 hN hi hx he hs hf
theorem lV {x:Str} {pos':Pos} {op:P9} {g:Int->Int->Int} (i:Nat) (hN:X.N.Nodup) (hp:PIp X op (ipI g)) (he:GE X E e m) (hi:X.N[i]?=some x:=by rfl) (hx:Loc X.env.scope x:=by first | exact MH rfl | exact Kw rfl)
  (hf:X.fn x=true∨X.env.scope.names.lookup x=some .local:=by first | exact .inl rfl | exact .inr rfl | assumption):GS X E (.AugAssign (.Name x pos') op e pos) (Xq i g m):=i9 hN hi hx hp he hf
end
end L2
namespace L4
open PySem L2
inductive Cel where
 | no | fz (o:Ob) | ow (i:Nat)
abbrev Fz:=Nat->Cel
inductive Sl where
 | u | v (d:D) | z (o:Ob) | y (o:Ob) | w (i:Nat) (o:Ob)
def Sl.ok (S0:Sto) (F:Fz) (S:Sto):Sl->Option D->Prop
 | .u,_=>True
 | .v d,x=>x=some d
 | .z o,x=>∃n,x=some (.ref n)/\F n=.fz o
 | .y o,x=>∃n,x=some (.ref n)/\F n=.fz o/\S0.length<=n
 | .w i o,x=>∃n,x=some (.ref n)/\F n=.ow i/\S[n]?=some o
structure Vs (S0:Sto) (A:List Sl) (e:Lo) (F:Fz) (S:Sto):Prop where
 kp:Keeps S0 S
 fz:∀n o,F n=.fz o->S[n]?=some o
 ow:∀n i,F n=.ow i->S0.length<=n/\n < S.length
 hi:∀n,S.length<=n->F n=.no
 sl:∀(i:Nat) (a:Sl),A[i]?=some a->∃x,e[i]?=some x/\a.ok S0 F S x
def Fle (F F':Fz):Prop:=∀n o,F n=.fz o->F' n=.fz o
theorem Fle.refl (F:Fz):Fle F F:=λ_ _ h=>h
theorem Fle.trans {F G H:Fz} (a:Fle F G) (b:Fle G H):Fle F H:=λn o h=>b n o (a n o h)
def Nn (F:Fz) (S S':Sto):Fz:=λn=>if n < S.length then F n else match S'[n]? with
 | some o=>.fz o
 | none=>.no
section
variable {S0 S S':Sto} {A B:List Sl} {e:Lo} {F:Fz} {α β γ ρ σ τ:Type}
theorem GF {n:Nat} (h:n < S.length):Nn F S S' n=F n:=if_pos h
theorem T5 {n:Nat} {o:Ob} (h:S.length<=n) (ho:S'[n]?=some o):Nn F S S' n=.fz o:=by
 unfold Nn;rw [if_neg (Ik.mpr h),ho]
theorem Bf {n:Nat} {o:Ob} (h:S[n]?=some o):n < S.length:=(AM.mp h).1
theorem Sl.mono {S0:Sto} {F F':Fz} {S S':Sto} {a:Sl} {x:Option D} (h:a.ok S0 F S x) (h1:∀n o,F n=.fz o->F' n=.fz o) (h2:∀n i o,F n=.ow i->S[n]?=some o->F' n=.ow i/\S'[n]?=some o):a.ok S0 F' S' x:=by
 cases a with
 | u=>trivial
 | v d=>exact h
 | z o=>obtain ⟨n,h3,h4⟩:=h;exact ⟨n,h3,h1 _ _ h4⟩
 | y o=>obtain ⟨n,h3,h4,h5⟩:=h;exact ⟨n,h3,h1 _ _ h4,h5⟩
 | w i o=>obtain ⟨n,h3,h4,h5⟩:=h;exact ⟨n,h3,h2 _ _ _ h4 h5⟩
theorem Vs.fle (h:Vs S0 A e F S) (S':Sto):Fle F (Nn F S S'):=λn o q=>by rw [GF (Bf (h.fz n o q))];exact q
theorem Vs.grow (h:Vs S0 A e F S) (k:Keeps S S'):Vs S0 A e (Nn F S S') S':=by
 refine ⟨h.kp.trans k,λn o q=>?_,λn i q=>?_,λn hn=>?_,λi a ha=>?_⟩
 ·unfold Nn at q
  split at q
  ·rename_i hn
   rw [k.2 n hn];exact h.fz n o q
  ·cases hs:S'[n]? with
   | none=>rw [hs] at q;cases q
   | some o'=>rw [hs] at q;cases q;rfl
 ·unfold Nn at q
  split at q
  ·exact ⟨(h.ow n i q).1,Ad (h.ow n i q).2 k.1⟩
  ·cases hs:S'[n]? with
   | none=>rw [hs] at q;cases q
   | some o'=>rw [hs] at q;cases q
 ·unfold Nn
  rw [if_neg (Ik.mpr (Al k.1 hn)),CN hn]
 ·obtain ⟨x,h1,h2⟩:=h.sl i a ha
  exact ⟨x,h1,Sl.mono h2 (h.fle S') λn i o q1 q2=>⟨by rw [GF (Bf q2)];exact q1,by rw [k.2 n (Bf q2)];exact q2⟩⟩
theorem Vs.cons (h:Vs S0 A e F S) {a:Sl} {x:Option D} (hx:a.ok S0 F S x):Vs S0 (a :: A) (x :: e) F S:=
 ⟨h.kp,h.fz,h.ow,h.hi,λi b hb=>by
  cases i with
  | zero=>cases hb;exact ⟨x,rfl,hx⟩
  | succ i=>exact h.sl i b hb⟩
theorem Vs.set (h:Vs S0 A e F S) {a:Sl} {x:Option D} (i:Nat) (hx:a.ok S0 F S x):Vs S0 (A.set i a) (e.set i x) F S:=
 ⟨h.kp,h.fz,h.ow,h.hi,λj b hb=>by
  by_cases c:i=j
  ·subst c
   rw [GU] at hb;rw [if_pos rfl] at hb;split at hb
   ·rename_i hl
    cases hb;obtain ⟨y,hy,_⟩:=h.sl i (A[i]) (B0 hl);exact ⟨x,by rw [GU];rw [if_pos rfl,if_pos (AM.mp hy).1],hx⟩
   ·cases hb
  ·rw [Au c] at hb ⊢
   exact h.sl j b hb⟩
inductive Wk:List Sl->List Sl->Prop where
 | nil:Wk [] []
 | same {a:Sl} {A B:List Sl}:Wk A B->Wk (a :: A) (a :: B)
 | drop {a:Sl} {A B:List Sl}:Wk A B->Wk (a :: A) (.u :: B)
 | less {o:Ob} {A B:List Sl}:Wk A B->Wk (.y o :: A) (.z o :: B)
theorem Wk.at:∀ {A B:List Sl},Wk A B->∀(i:Nat) (b:Sl),B[i]?=some b->∃a,A[i]?=some a/\(b=.u∨b=a∨∃o,a=.y o/\b=.z o)
 | _,_,.nil,i,b,h=>by simp at h
 | _,_,.same w,0,b,h=>by cases h;exact ⟨_,rfl,.inr (.inl rfl)⟩
 | _,_,.less w,0,b,h=>by cases h;exact ⟨_,rfl,.inr (.inr ⟨_,rfl,rfl⟩)⟩
 | _,_,.less w,i+1,b,h=>Wk.at w i b h
 | _,_,.drop w,0,b,h=>by cases h;exact ⟨_,rfl,.inl rfl⟩
 | _,_,.same w,i+1,b,h=>Wk.at w i b h
 | _,_,.drop w,i+1,b,h=>Wk.at w i b h
theorem Vs.weak (h:Vs S0 A e F S) (w:Wk A B):Vs S0 B e F S:=⟨h.kp,h.fz,h.ow,h.hi,λi b hb=>by
 obtain ⟨a,h1,h2⟩:=w.at i b hb;obtain ⟨x,h3,h4⟩:=h.sl i a h1
 rcases h2 with rfl | rfl | ⟨o,rfl,rfl⟩
 ·exact ⟨x,h3,trivial⟩
 ·exact ⟨x,h3,h4⟩
 ·obtain ⟨n,h5,h6,_⟩:=h4
  exact ⟨x,h3,n,h5,h6⟩⟩
def Sl.oth (i:Nat):Sl->Bool
 | .w k _=>!(Nat.beq k i)
 | _=>true
theorem Z2 {i j k:Nat} {o:Ob} (h:((A.set i .u).all (Sl.oth i))=true) (hj:j≠i) (ha:A[j]?=some (.w k o)):k≠i:=by
 have h1:(A.set i .u)[j]?=some (.w k o):=by rw [Au (B5 hj)];exact ha
 have:=Cp.mp h _ (CT h1);intro e;subst e;have h2:(!(Nat.beq k k))=true:=this;rw [Nat.beq_refl] at h2;cases h2
theorem Vs.put (h:Vs S0 A e F S) {i n:Nat} {o o':Ob} (ht:((A.set i .u).all (Sl.oth i))=true) (ha:A[i]?=some (.w i o)) (hx:e[i]?=some (some (.ref n))) (hn:F n=.ow i):Vs S0 (A.set i (.w i o')) e F (S.set n o'):=by
 have hl:=h.ow n i hn;refine ⟨h.kp.set hl.1 o',λk q hq=>?_,λk j q=>by rw [KR];exact h.ow k j q,λk hk=>h.hi k (by rw [KR] at hk;exact hk),λj b hb=>?_⟩
 ·have:n≠k:=λc=>by subst c;rw [hn] at hq;cases hq
  rw [Au this];exact h.fz k q hq
 ·by_cases c:i=j
  ·subst c
   rw [GU] at hb;rw [if_pos rfl] at hb;split at hb
   ·cases hb
    exact ⟨_,hx,n,rfl,hn,by rw [GU];rw [if_pos rfl,if_pos hl.2]⟩
   ·cases hb
  ·rw [Au c] at hb
   obtain ⟨x,h1,h2⟩:=h.sl j b hb;refine ⟨x,h1,?_⟩
   cases b with
   | u=>trivial
   | v d=>exact h2
   | z q=>exact h2
   | y q=>exact h2
   | w k q=>
    obtain ⟨m,h3,h4,h5⟩:=h2;refine ⟨m,h3,h4,?_⟩
    have:n≠m:=λz=>by
     subst z;rw [hn] at h4;cases h4;exact Z2 ht (λz=>c z.symm) hb rfl
    rw [Au this];exact h5
theorem Vs.freeze (h:Vs S0 A e F S) {i:Nat} {o:Ob} (ht:((A.set i .u).all (Sl.oth i))=true) (ha:A[i]?=some (.w i o)):∃F',Vs S0 (A.set i (.y o)) e F' S/\Fle F F':=by
 obtain ⟨x,hx,n,rfl,hn,ho⟩:=h.sl i _ ha
 have g:∀k,k≠n->(if k=n then Cel.fz o else F k)=F k:=λk hk=>if_neg hk
 have fl:Fle F (λk=>if k=n then Cel.fz o else F k):=λk q hq=>by
  have:k≠n:=λc=>by subst c;rw [hn] at hq;cases hq
  show (if k=n then Cel.fz o else F k)=_;rw [if_neg this];exact hq
 refine ⟨λk=>if k=n then .fz o else F k,⟨h.kp,λk q hq=>?_,λk j q=>?_,λk hk=>?_,λj b hb=>?_⟩,fl⟩
 ·split at hq
  ·rename_i c;cases hq;subst c;exact ho
  ·exact h.fz k q hq
 ·split at q
  ·cases q
  ·exact h.ow k j q
 ·have:k≠n:=λc=>by subst c;exact absurd (Bf ho) (Ik.mpr hk)
  show (if k=n then Cel.fz o else F k)=_;rw [if_neg this];exact h.hi k hk
 ·by_cases c:i=j
  ·subst c
   rw [GU] at hb;rw [if_pos rfl] at hb;split at hb
   ·cases hb
    exact ⟨_,hx,n,rfl,if_pos rfl,(h.ow n i hn).1⟩
   ·cases hb
  ·rw [Au c] at hb
   obtain ⟨x,h1,h2⟩:=h.sl j b hb;refine ⟨x,h1,?_⟩
   cases b with
   | u=>trivial
   | v d=>exact h2
   | z q=>obtain ⟨m,h3,h4⟩:=h2;exact ⟨m,h3,fl _ _ h4⟩
   | y q=>obtain ⟨m,h3,h4,h5⟩:=h2;exact ⟨m,h3,fl _ _ h4,h5⟩
   | w k q=>
    obtain ⟨m,h3,h4,h5⟩:=h2;refine ⟨m,h3,?_,h5⟩
    have:m≠n:=λz=>by
     subst z;rw [hn] at h4;cases h4;exact Z2 ht (λz=>c z.symm) hb rfl
    show (if m=n then Cel.fz o else F m)=_;rw [if_neg this];exact h4
theorem Vs.own (h:Vs S0 A e F S) (k:Keeps S S') {i n:Nat} {o:Ob} (hn:S.length<=n) (ho:S'[n]?=some o):∃F',Vs S0 (A.set i (.w i o)) (e.set i (some (.ref n))) F' S'/\Fle F F':=by
 have g:=h.grow k;have hnl:=Bf ho
 have fl:Fle F (λj=>if j=n then Cel.ow i else Nn F S S' j):=λj q hq=>by
  have:j≠n:=λc=>by subst c;exact absurd (Bf (h.fz _ _ hq)) (Ik.mpr hn)
  show (if j=n then Cel.ow i else _)=_;rw [if_neg this];exact h.fle S' _ _ hq
 refine ⟨λj=>if j=n then .ow i else Nn F S S' j,(Vs.set (a:=.w i o) (x:=some (.ref n)) ⟨g.kp,λj q hq=>?_,λj q hq=>?_,λj hj=>?_,λj b hb=>?_⟩ i ⟨n,rfl,if_pos rfl,ho⟩),fl⟩
 ·split at hq
  ·cases hq
  ·exact g.fz j q hq
 ·split at hq
  ·rename_i c;subst c;exact ⟨Al h.kp.1 hn,hnl⟩
  ·exact g.ow j q hq
 ·have:j≠n:=λc=>by subst c;exact absurd hnl (Ik.mpr hj)
  show (if j=n then Cel.ow i else _)=_;rw [if_neg this];exact g.hi j hj
 ·obtain ⟨x,h1,h2⟩:=h.sl j b hb
  refine ⟨x,h1,Sl.mono h2 fl λm j q q1 q2=>?_⟩;have hm:=Bf q2
  have:m≠n:=λc=>by subst c;exact absurd hm (Ik.mpr hn)
  refine ⟨?_,by rw [k.2 m hm];exact q2⟩;show (if m=n then Cel.ow i else _)=_;rw [if_neg this,GF hm];exact q1
abbrev Rk (α:Type):=α->Sto->D->Sto->Prop
def rV (enc:α->D):Rk α:=λv _ d _=>d=enc v
def rO (ob:α->Ob):Rk α:=λv _ d S=>∃n,d=.ref n/\S[n]?=some (ob v)
def rN (ob:α->Ob):Rk α:=λv S0 d S=>∃n,d=.ref n/\S0.length<=n/\S[n]?=some (ob v)
def VE (A:List Sl) (m:ME) (R:Rk α) (p:Option α):Prop:=∀v,p=some v->∀S0 e F S,Vs S0 A e F S->∃d S',m e S=.ok d S'/\Keeps S S'/\R v S d S'
def VB (A:List Sl) (t:MT) (p:Option Bool):Prop:=∀v,p=some v->∀S0 e F S,Vs S0 A e F S->∃S',t e S=.ok v S'/\Keeps S S'
def VL (A:List Sl) (ml:ML) (enc:α->D) (p:Option (List α)):Prop:=∀v,p=some v->∀S0 e F S,Vs S0 A e F S->∃S',ml e S=.ok (v.map enc) S'/\Keeps S S'
def VK (A:List Sl) (mi:MI) (enc:α->D) (p:Option (List α)):Prop:=∀v,p=some v->∀S0 e F S,Vs S0 A e F S->∃w S',mi e S=.ok w S'/\Keeps S S'/\∀S'',Keeps S' S''->w S''=some (v.map enc)
def VI (A:List Sl) (mi:MI) (enc:α->D) (p:Option (List α)):Prop:=∀v,p=some v->∀S0 e F S,Vs S0 A e F S->∃w S',mi e S=.ok w S'/\Keeps S S'/\∀F'' S'',Fle (Nn F S S') F''->(∀n o,F'' n=.fz o->S''[n]?=some o)->w S''=some (v.map enc)
theorem VI.k {mi:MI} {enc:α->D} {p:Option (List α)} (h:VI A mi enc p):VK A mi enc p:=λv hv S0 e F S hs=>by
 obtain ⟨w,S',h1,h2,h3⟩:=h v hv S0 e F S hs;have g:=hs.grow h2;exact ⟨w,S',h1,h2,λS'' k=>h3 _ S'' (g.fle S'') (g.grow k).fz⟩
def eT (enc:α->D) (l:List α):D:=.tup (l.map enc)
def eP (a:α->D) (b:β->D) (x:α×β):D:=.tup [a x.1,b x.2]
def eU (_:Unit):D:=.non
def eF (l:List Int):D:=.fro (l.map D.int)
def oL (enc:α->D) (l:List α):Ob:=.lst (l.map enc)
theorem gc {m:ME} {R R':Rk α} {p:Option α} (h:VE A m R p) (i:∀v S d S',R v S d S'->R' v S d S'):VE A m R' p:=λv hv S0 e F S hs=>by
 obtain ⟨d,S',h1,h2,h3⟩:=h v hv S0 e F S hs;exact ⟨d,S',h1,h2,i _ _ _ _ h3⟩
theorem G4 {m:ME} {ob:α->Ob} {p:Option α} (h:VE A m (rN ob) p):VE A m (rO ob) p:=gc h λv S d S' ⟨n,h1,_,h2⟩=>⟨n,h1,h2⟩
theorem AS {enc:α->D} {v:α} {i:Nat} (h:A[i]?=some (.v (enc v))):VE A (AF i) (rV enc) (some v):=λ_ hv S0 e F S hs=>by
 cases hv;obtain ⟨x,h1,h2⟩:=hs.sl i _ h;cases h2;exact ⟨_,S,by unfold AF;rw [h1],Keeps.refl S,rfl⟩
theorem Cf {ob:α->Ob} {v:α} {i:Nat} (h:A[i]?=some (.z (ob v))):VE A (AF i) (rO ob) (some v):=λ_ hv S0 e F S hs=>by
 cases hv;obtain ⟨x,h1,n,rfl,h2⟩:=hs.sl i _ h;exact ⟨_,S,by unfold AF;rw [h1],Keeps.refl S,n,rfl,hs.fz _ _ h2⟩
theorem D5 {ob:α->Ob} {v:α} {i:Nat} (h:A[i]?=some (.y (ob v))):VE A (AF i) (rO ob) (some v):=λ_ hv S0 e F S hs=>by
 cases hv;obtain ⟨x,h1,n,rfl,h2,_⟩:=hs.sl i _ h;exact ⟨_,S,by unfold AF;rw [h1],Keeps.refl S,n,rfl,hs.fz _ _ h2⟩
theorem HX {ob:α->Ob} {v:α} {i k:Nat} (h:A[i]?=some (.w k (ob v))):VE A (AF i) (rO ob) (some v):=λ_ hv S0 e F S hs=>by
 cases hv;obtain ⟨x,h1,n,rfl,h2,h3⟩:=hs.sl i _ h;exact ⟨_,S,by unfold AF;rw [h1],Keeps.refl S,n,rfl,h3⟩
theorem C1 {enc:α->D} {v:α} {d:D} (h:d=enc v):VE A (mC d) (rV enc) (some v):=λ_ hv S0 e F S hs=>by
 cases hv;exact ⟨d,S,rfl,Keeps.refl S,h⟩
theorem A4 {p:Option α} {q:α->Option β} {v:β} (h:p.bind q=some v):∃x,p=some x/\q x=some v:=RD.mp h
theorem HR {f:D->D->Sto->Res D} {a b:ME} {ea:α->D} {eb:β->D} {ec:γ->D} {pa:Option α} {pb:Option β} {g:α->β->Option γ} (ha:VE A a (rV ea) pa) (hb:VE A b (rV eb) pb)
  (hf:∀x y z S,g x y=some z->f (ea x) (eb y) S=.ok (ec z) S):VE A (m2 f a b) (rV ec) (pa.bind λx=>pb.bind λy=>g x y):=λv hv S0 e F S hs=>by
 obtain ⟨x,h1,hv⟩:=A4 hv;obtain ⟨y,h2,h3⟩:=A4 hv;obtain ⟨d1,S1,q1,k1,rfl⟩:=ha x h1 S0 e F S hs;obtain ⟨d2,S2,q2,k2,rfl⟩:=hb y h2 S0 e _ S1 (hs.grow k1);exact ⟨_,S2,Dw q1 q2 (hf x y v S2 h3),k1.trans k2,rfl⟩
theorem O2 {f:D->D->Sto->Res D} {a b:ME} {ea:α->D} {ob:β->Ob} {ec:γ->D} {pa:Option α} {pb:Option β} {g:α->β->Option γ} (ha:VE A a (rV ea) pa) (hb:VE A b (rO ob) pb)
  (hf:∀x y z S (n:Nat),S[n]?=some (ob y)->g x y=some z->f (ea x) (.ref n) S=.ok (ec z) S):VE A (m2 f a b) (rV ec) (pa.bind λx=>pb.bind λy=>g x y):=λv hv S0 e F S hs=>by
 obtain ⟨x,h1,hv⟩:=A4 hv;obtain ⟨y,h2,h3⟩:=A4 hv;obtain ⟨d1,S1,q1,k1,rfl⟩:=ha x h1 S0 e F S hs;obtain ⟨d2,S2,q2,k2,n,rfl,hn⟩:=hb y h2 S0 e _ S1 (hs.grow k1);exact ⟨_,S2,Dw q1 q2 (hf x y v S2 n hn h3),k1.trans k2,rfl⟩
theorem ZI {f:D->D->Sto->Res D} {a b:ME} {ob:α->Ob} {eb:β->D} {ec:γ->D} {pa:Option α} {pb:Option β} {g:α->β->Option γ} (ha:VE A a (rO ob) pa) (hb:VE A b (rV eb) pb)
  (hf:∀x y z S (n:Nat),S[n]?=some (ob x)->g x y=some z->f (.ref n) (eb y) S=.ok (ec z) S):VE A (m2 f a b) (rV ec) (pa.bind λx=>pb.bind λy=>g x y):=λv hv S0 e F S hs=>by
 obtain ⟨x,h1,hv⟩:=A4 hv;obtain ⟨y,h2,h3⟩:=A4 hv;obtain ⟨d1,S1,q1,k1,n,rfl,hn⟩:=ha x h1 S0 e F S hs;obtain ⟨d2,S2,q2,k2,rfl⟩:=hb y h2 S0 e _ S1 (hs.grow k1);exact ⟨_,S2,Dw q1 q2 (hf x y v S2 n (k2.at hn) h3),k1.trans k2,rfl⟩
theorem Fi {m:ME} {p:Option Bool} (h:VE A m (rV D.bl) p):VB A (mB m) p:=λv hv S0 e F S hs=>by
 obtain ⟨d,S',h1,h2,rfl⟩:=h v hv S0 e F S hs;exact ⟨S',Pz h1,h2⟩
theorem RQ {m:ME} {p:Option Bool} (h:VE A m (rV D.bl) p):VB A (HI m) p:=λv hv S0 e F S hs=>by
 obtain ⟨d,S',h1,h2,rfl⟩:=h v hv S0 e F S hs;refine ⟨S',?_,h2⟩;unfold HI;rw [h1];rfl
theorem Ev:VB A FD (some true):=λv hv S0 e F S hs=>by cases hv;exact ⟨S,rfl,Keeps.refl S⟩
theorem KY {t:MT} {p:Option Bool} (h:VB A t p):VB A (Jj t) (p.bind λb=>some (!b)):=λv hv S0 e F S hs=>by
 obtain ⟨x,h1,h2⟩:=A4 hv;cases h2;obtain ⟨S',h3,h4⟩:=h x h1 S0 e F S hs;exact ⟨S',Kf h3,h4⟩
theorem Uu {t u:MT} {p q:Option Bool} (h:VB A t p) (hu:VB A u q):VB A (Na t u) (p.bind λb=>if b=true then q else some false):=λv hv S0 e F S hs=>by
 obtain ⟨x,h1,h2⟩:=A4 hv;obtain ⟨S1,h3,h4⟩:=h x h1 S0 e F S hs
 cases x with
 | true=>
  obtain ⟨S2,h5,h6⟩:=hu v h2 S0 e _ S1 (hs.grow h4);exact ⟨S2,(SR h3).trans h5,h4.trans h6⟩
 | false=>cases h2;exact ⟨S1,XH h3,h4⟩
theorem ZJ {t u:MT} {p q:Option Bool} (h:VB A t p) (hu:VB A u q):VB A (mOr t u) (p.bind λb=>if b=true then some true else q):=λv hv S0 e F S hs=>by
 obtain ⟨x,h1,h2⟩:=A4 hv;obtain ⟨S1,h3,h4⟩:=h x h1 S0 e F S hs
 cases x with
 | false=>
  obtain ⟨S2,h5,h6⟩:=hu v h2 S0 e _ S1 (hs.grow h4);exact ⟨S2,(VJ h3).trans h5,h4.trans h6⟩
 | true=>cases h2;exact ⟨S1,Z4 h3,h4⟩
theorem gW {t:MT} {a b:ME} {R:Rk α} {pt:Option Bool} {pa pb:Option α} (ht:VB A t pt) (ha:VE A a R pa) (hb:VE A b R pb) (hR:∀v S S1 d S',S.length<=S1.length->R v S1 d S'->R v S d S'):VE A (aL t a b) R (pt.bind λc=>if c=true then pa else pb):=λv hv S0 e F S hs=>by
 obtain ⟨x,h1,h2⟩:=A4 hv;obtain ⟨S1,h3,h4⟩:=ht x h1 S0 e F S hs
 cases x with
 | true=>
  obtain ⟨d,S2,h5,h6,h7⟩:=ha v h2 S0 e _ S1 (hs.grow h4);exact ⟨d,S2,(aY h3).trans h5,h4.trans h6,hR _ _ _ _ _ h4.1 h7⟩
 | false=>
  obtain ⟨d,S2,h5,h6,h7⟩:=hb v h2 S0 e _ S1 (hs.grow h4);exact ⟨d,S2,(aY h3).trans h5,h4.trans h6,hR _ _ _ _ _ h4.1 h7⟩
theorem G5 {enc:α->D}:∀(v:α) (S S1:Sto) (d:D) (S':Sto),S.length<=S1.length->rV enc v S1 d S'->rV enc v S d S':=λ_ _ _ _ _ _ h=>h
theorem IW {ob:α->Ob}:∀(v:α) (S S1:Sto) (d:D) (S':Sto),S.length<=S1.length->rN ob v S1 d S'->rN ob v S d S':=λ_ _ _ _ _ l ⟨n,h1,h2,h3⟩=>⟨n,h1,Al l h2,h3⟩
inductive Fw (ρ σ:Type) where
 | rt (r:ρ) | nx (s:σ) | bk (s:σ) | ct (s:σ)
def VG (S0:Sto) (F:Fz) (S':Sto) (R:Rk ρ) (B:σ->List Sl) (g:Fl):Fw ρ σ->Prop
 | .nx s=>∃e' F',g=.nx e'/\Vs S0 (B s) e' F' S'/\Fle F F'
 | .ct s=>∃e' F',g=.ct e'/\Vs S0 (B s) e' F' S'/\Fle F F'
 | .bk s=>∃e' F',g=.bk e'/\Vs S0 (B s) e' F' S'/\Fle F F'
 | .rt r=>∃d,g=.rt d/\R r S0 d S'/\Keeps S0 S'
def VS (A:List Sl) (b:MS) (R:Rk ρ) (p:Option (Fw ρ σ)) (B:σ->List Sl):Prop:=∀f,p=some f->∀S0 e F S,Vs S0 A e F S->∃g S',b e S=.ok g S'/\VG S0 F S' R B g f
def BV (p:Option (Fw ρ σ)) (q:σ->Option (Fw ρ τ)):Option (Fw ρ τ):=match p with
 | some (.nx s)=>q s
 | some (.rt r)=>some (.rt r)
 | _=>none
theorem VG.up {S0:Sto} {F F1:Fz} {S':Sto} {R:Rk ρ} {B:σ->List Sl} {g:Fl} {f:Fw ρ σ} (l:Fle F F1) (h:VG S0 F1 S' R B g f):VG S0 F S' R B g f:=by
 cases f with
 | rt r=>exact h
 | nx s=>obtain ⟨e',F',h1,h2,h3⟩:=h;exact ⟨e',F',h1,h2,l.trans h3⟩
 | bk s=>obtain ⟨e',F',h1,h2,h3⟩:=h;exact ⟨e',F',h1,h2,l.trans h3⟩
 | ct s=>obtain ⟨e',F',h1,h2,h3⟩:=h;exact ⟨e',F',h1,h2,l.trans h3⟩
theorem BK {a b:MS} {R:Rk ρ} {p:Option (Fw ρ σ)} {q:σ->Option (Fw ρ τ)} {B:σ->List Sl} {C:τ->List Sl} (ha:VS A a R p B) (hb:∀s,VS (B s) b R (q s) C):VS A (BU a b) R (BV p q) C:=λf hf S0 e F S hs=>by
 cases p with
 | none=>cases hf
 | some w=>
  obtain ⟨g,S1,h1,h2⟩:=ha _ rfl S0 e F S hs
  cases w with
  | nx s=>
   obtain ⟨e1,F1,rfl,h2,h3⟩:=h2;obtain ⟨g2,S2,h4,h5⟩:=hb s f hf S0 e1 F1 S1 h2;exact ⟨g2,S2,(CF h1).trans h4,h5.up h3⟩
  | rt r=>
   cases hf;obtain ⟨d,rfl,h2,h3⟩:=h2;exact ⟨_,S1,RV h1,d,rfl,h2,h3⟩
  | bk s=>cases hf
  | ct s=>cases hf
theorem GV {R:Rk ρ} {B:σ->List Sl} {s:σ} (w:Wk A (B s)):VS A sNx R (some (.nx s)) B:=λf hf S0 e F S hs=>by
 cases hf;exact ⟨_,S,rfl,e,F,rfl,hs.weak w,Fle.refl F⟩
def Hu (g:σ->τ) (p:Option (Fw ρ σ)):Option (Fw ρ τ):=match p with
 | some (.nx s)=>some (.nx (g s))
 | some (.rt r)=>some (.rt r)
 | some (.bk s)=>some (.bk (g s))
 | some (.ct s)=>some (.ct (g s))
 | none=>none
theorem Eh {b:MS} {R:Rk ρ} {p:Option (Fw ρ σ)} {g:σ->τ} {B:σ->List Sl} {C:τ->List Sl} (h:VS A b R p B) (w:∀s,Wk (B s) (C (g s))):VS A b R (Hu g p) C:=λf hf S0 e F S hs=>by
 cases p with
 | none=>cases hf
 | some x=>
  obtain ⟨g,S1,h1,h2⟩:=h _ rfl S0 e F S hs
  cases x with
  | nx s=>cases hf;obtain ⟨e1,F1,rfl,h2,h3⟩:=h2;exact ⟨_,S1,h1,e1,F1,rfl,h2.weak (w s),h3⟩
  | rt r=>cases hf;exact ⟨_,S1,h1,h2⟩
  | bk s=>cases hf;obtain ⟨e1,F1,rfl,h2,h3⟩:=h2;exact ⟨_,S1,h1,e1,F1,rfl,h2.weak (w s),h3⟩
  | ct s=>cases hf;obtain ⟨e1,F1,rfl,h2,h3⟩:=h2;exact ⟨_,S1,h1,e1,F1,rfl,h2.weak (w s),h3⟩
theorem Il {m:ME} {enc:α->D} {R:Rk ρ} {p:Option α} {i:Nat} (h:VE A m (rV enc) p):VS A (Co i m) R (p.bind λv=>some (.nx v)) (λv=>A.set i (.v (enc v))):=λf hf S0 e F S hs=>by
 obtain ⟨v,h1,h2⟩:=A4 hf;cases h2;obtain ⟨d,S',h3,h4,rfl⟩:=h v h1 S0 e F S hs;exact ⟨_,S',Lk h3,_,_,rfl,(hs.grow h4).set i rfl,hs.fle S'⟩
theorem Et {m:ME} {ob:α->Ob} {R:Rk ρ} {p:Option α} {i:Nat} (h:VE A m (rN ob) p):VS A (Co i m) R (p.bind λv=>some (.nx v)) (λv=>A.set i (.y (ob v))):=λf hf S0 e F S hs=>by
 obtain ⟨v,h1,h2⟩:=A4 hf;cases h2;obtain ⟨d,S',h3,h4,n,rfl,h5,h6⟩:=h v h1 S0 e F S hs;exact ⟨_,S',Lk h3,_,_,rfl,(hs.grow h4).set (a:=.y (ob v)) i ⟨n,rfl,T5 h5 h6,Al hs.kp.1 h5⟩,hs.fle S'⟩
theorem JZ {m:ME} {ob:α->Ob} {R:Rk ρ} {p:Option α} {i:Nat} (h:VE A m (rN ob) p):VS A (Co i m) R (p.bind λv=>some (.nx v)) (λv=>A.set i (.w i (ob v))):=λf hf S0 e F S hs=>by
 obtain ⟨v,h1,h2⟩:=A4 hf;cases h2;obtain ⟨d,S',h3,h4,n,rfl,h5,h6⟩:=h v h1 S0 e F S hs;obtain ⟨F',h7,h8⟩:=hs.own h4 (i:=i) h5 h6;exact ⟨_,S',Lk h3,_,F',rfl,h7,h8⟩
theorem NE {o:Ob} {R:Rk ρ} {i j:Nat} (h:A[j]?=some (.y o)):VS A (Co i (AF j)) R (some (.nx ())) (λ_:Unit=>A.set i (.y o)):=λf hf S0 e F S hs=>by
 cases hf;obtain ⟨x,h1,n,rfl,h2,h3⟩:=hs.sl j _ h;exact ⟨_,S,Lk (d:=.ref n) (by unfold AF;rw [h1]),_,F,rfl,hs.set (a:=.y o) i ⟨n,rfl,h2,h3⟩,Fle.refl F⟩
theorem Uk {b:MS} {R:Rk ρ} {p:Option (Fw ρ σ)} {B:σ->List Sl} {o:Ob} (i:Nat) (ha:A[i]?=some (.w i o)) (ht:((A.set i .u).all (Sl.oth i))=true) (h:VS (A.set i (.y o)) b R p B):VS A b R p B:=λf hf S0 e F S hs=>by
 obtain ⟨F',h1,h2⟩:=hs.freeze ht ha;obtain ⟨g,S',h3,h4⟩:=h f hf S0 e F' S h1;exact ⟨g,S',h3,h4.up h2⟩
theorem FL {m:ME} {enc:ρ->D} {p:Option ρ} {B:σ->List Sl} (h:VE A m (rV enc) p):VS A (C5 m) (rV enc) (p.bind λv=>some (.rt v)) B:=λf hf S0 e F S hs=>by
 obtain ⟨v,h1,h2⟩:=A4 hf;cases h2;obtain ⟨d,S',h3,h4,rfl⟩:=h v h1 S0 e F S hs;exact ⟨_,S',NS h3,_,rfl,rfl,hs.kp.trans h4⟩
theorem EU {m:ME} {ob:ρ->Ob} {p:Option ρ} {B:σ->List Sl} (h:VE A m (rN ob) p):VS A (C5 m) (rN ob) (p.bind λv=>some (.rt v)) B:=λf hf S0 e F S hs=>by
 obtain ⟨v,h1,h2⟩:=A4 hf;cases h2;obtain ⟨d,S',h3,h4,n,rfl,h5,h6⟩:=h v h1 S0 e F S hs;exact ⟨_,S',NS h3,_,rfl,⟨n,rfl,Al hs.kp.1 h5,h6⟩,hs.kp.trans h4⟩
theorem cE {i:Nat} {ob:ρ->Ob} {v:ρ} {B:σ->List Sl} {k:Nat} (h:A[i]?=some (.w k (ob v))):VS A (C5 (AF i)) (rN ob) (some (.rt v)) B:=λf hf S0 e F S hs=>by
 cases hf;obtain ⟨x,h1,n,rfl,h2,h3⟩:=hs.sl i _ h;exact ⟨_,S,NS (d:=.ref n) (by unfold AF;rw [h1]),_,rfl,⟨n,rfl,(hs.ow _ _ h2).1,h3⟩,hs.kp⟩
theorem WK {i:Nat} {ob:ρ->Ob} {v:ρ} {B:σ->List Sl} (h:A[i]?=some (.y (ob v))):VS A (C5 (AF i)) (rN ob) (some (.rt v)) B:=λf hf S0 e F S hs=>by
 cases hf;obtain ⟨x,h1,n,rfl,h2,h3⟩:=hs.sl i _ h;exact ⟨_,S,NS (d:=.ref n) (by unfold AF;rw [h1]),_,rfl,⟨n,rfl,h3,hs.fz _ _ h2⟩,hs.kp⟩
theorem Fh {t:MT} {a b:MS} {R:Rk ρ} {pt:Option Bool} {p q:Option (Fw ρ σ)} {B:σ->List Sl} (ht:VB A t pt) (ha:VS A a R p B) (hb:VS A b R q B):VS A (sIf t a b) R (pt.bind λc=>if c=true then p else q) B:=λf hf S0 e F S hs=>by
 obtain ⟨c,h1,h2⟩:=A4 hf;obtain ⟨S1,h3,h4⟩:=ht c h1 S0 e F S hs
 cases c with
 | true=>
  obtain ⟨g,S2,h5,h6⟩:=ha f h2 S0 e _ S1 (hs.grow h4);exact ⟨g,S2,(FB h3).trans h5,h6.up (hs.fle S1)⟩
 | false=>
  obtain ⟨g,S2,h5,h6⟩:=hb f h2 S0 e _ S1 (hs.grow h4);exact ⟨g,S2,(FB h3).trans h5,h6.up (hs.fle S1)⟩
def Yb (l:List α) (x:α):Option (List α):=if l.length < 1000000 then some (l++[x]) else none
def KB (l k:List α):Option (List α):=if l.length+k.length<=1000000 then some (l++k) else none
theorem df {n:Nat} (h:n < 1000000):n < sizeLine:=Ad h (by decide)
theorem aP {n:Nat} (h:n<=1000000):n<=sizeLine:=Al h (by decide)
theorem Y3 {m:ME} {enc:α->D} {R:Rk ρ} {p:Option α} {i:Nat} {l:List α} (hi:A[i]?=some (.w i (oL enc l))) (h:VE A m (rV enc) p) (ht:((A.set i .u).all (Sl.oth i))=true) :
  VS A (EE (QN (AF i) m)) R (p.bind λv=>(Yb l v).bind λl'=>some (.nx l')) (λl'=>A.set i (.w i (oL enc l'))):=λf hf S0 e F S hs=>by
 obtain ⟨v,h1,h2⟩:=A4 hf;obtain ⟨l',h2,h0⟩:=A4 h2;cases h0;unfold Yb at h2;split at h2
 ·rename_i hl
  cases h2;obtain ⟨x,g1,n,rfl,g2,g3⟩:=hs.sl i _ hi;obtain ⟨d,S',h3,h4,rfl⟩:=h v h1 S0 e F S hs;have hg:=hs.grow h4;have hx:=V2 (mo:=AF i) (e:=e) (S:=S) (S1:=S) (n:=n) (by unfold AF;rw [g1]) g3 h3 (h4.at g3) (by rw [AH];exact df hl);rw [show l.map enc++[enc v]=(l++[v]).map enc by simp] at hx;exact ⟨_,_,LM hx,e,_,rfl,hg.put ht hi g1 (by rw [GF (Bf g3)];exact g2),hs.fle S'⟩
 ·cases h2
theorem Ul {m:ME} {enc:α->D} {R:Rk ρ} {p:Option (List α)} {i:Nat} {l:List α} (hi:A[i]?=some (.w i (oL enc l))) (h:VE A m (rN (oL enc)) p) (ht:((A.set i .u).all (Sl.oth i))=true) :
  VS A (EE (Jk (AF i) m)) R (p.bind λv=>(KB l v).bind λl'=>some (.nx l')) (λl'=>A.set i (.w i (oL enc l'))):=λf hf S0 e F S hs=>by
 obtain ⟨v,h1,h2⟩:=A4 hf;obtain ⟨l',h2,h0⟩:=A4 h2;cases h0;unfold KB at h2;split at h2
 ·rename_i hl
  cases h2;obtain ⟨x,g1,n,rfl,g2,g3⟩:=hs.sl i _ hi;obtain ⟨d,S',h3,h4,k,rfl,h5,h6⟩:=h v h1 S0 e F S hs;have hg:=hs.grow h4;have hx:=YK (mo:=AF i) (e:=e) (S:=S) (S1:=S) (n:=n) (by unfold AF;rw [g1]) g3 h3 (h4.at g3) h6 (λc=>by subst c;exact absurd (Bf g3) (Ik.mpr h5)) (by rw [AH,AH];exact aP hl);rw [<-Ch] at hx;exact ⟨_,_,LM hx,e,_,rfl,hg.put ht hi g1 (by rw [GF (Bf g3)];exact g2),hs.fle S'⟩
 ·cases h2
theorem WL {m:ME} {Rm:Rk α} {R:Rk ρ} {p:Option α} (h:VE A m Rm p):VS A (EE m) R (p.bind λ_=>some (.nx ())) (λ_:Unit=>A):=λf hf S0 e F S hs=>by
 obtain ⟨v,h1,h2⟩:=A4 hf;cases h2;obtain ⟨d,S',h3,h4,_⟩:=h v h1 S0 e F S hs;exact ⟨_,S',LM h3,e,_,rfl,hs.grow h4,hs.fle S'⟩
theorem gD {m:ME} {R:Rk ρ} {p:Option Int} {i:Nat} {g:Int->Int->Int} {x:Int} (hi:A[i]?=some (.v (D.int x))) (h:VE A m (rV D.int) p):VS A (Xq i g m) R (p.bind λy=>some (.nx (g x y))) (λz=>A.set i (.v (D.int z))):=λf hf S0 e F S hs=>by
 obtain ⟨v,h1,h2⟩:=A4 hf;cases h2;obtain ⟨d,S',h3,h4,rfl⟩:=h v h1 S0 e F S hs;obtain ⟨y,g1,g2⟩:=hs.sl i _ hi;cases g2;refine ⟨_,S',?_,_,_,rfl,(hs.grow h4).set (a:=.v (D.int (g x v))) i rfl,hs.fle S'⟩;unfold Xq;rw [g1];dsimp only;rw [h3];rfl
def VT (g:MG) (enc:α->D) (t:α->List Sl->List Sl):Prop:=∀x S0 A e F S,Vs S0 A e F S->∃e',g (enc x) e S=.ok e' S/\Vs S0 (t x A) e' F S
theorem FE {enc:α->D} {i:Nat}:VT (tgN i) enc (λx A=>A.set i (.v (enc x))):=λx S0 A e F S hs=>⟨_,rfl,hs.set (a:=.v (enc x)) i rfl⟩
theorem cD {a:α->D} {b:β->D} {i j:Nat}:VT (Mf 2 (FM (tgN i) (FM (tgN j) N2))) (eP a b) (λx A=>(A.set i (.v (a x.1))).set j (.v (b x.2))):=λx S0 A e F S hs=>⟨_,rfl,(hs.set (a:=.v (a x.1)) i rfl).set (a:=.v (b x.2)) j rfl⟩
def Fe:List α->σ->(σ->α->Option (Fw ρ σ))->Option (Fw ρ σ)
 | [],s,_=>some (.nx s)
 | x :: l,s,q=>match q s x with
  | some (.nx s')=>Fe l s' q
  | some (.ct s')=>Fe l s' q
  | some (.bk s')=>some (.nx s')
  | some (.rt r)=>some (.rt r)
  | none=>none
theorem cF {enc:α->D} {g:MG} {t:α->List Sl->List Sl} {b:MS} {R:Rk ρ} {q:σ->α->Option (Fw ρ σ)} {B:σ->List Sl} (hg:VT g enc t) (hb:∀s x,VS (t x (B s)) b R (q s x) B) {w:KD} {S0:Sto} {F1:Fz} {full:List α}
  (hw:∀F'' S'',Fle F1 F''->(∀n o,F'' n=.fz o->S''[n]?=some o)->w S''=some (full.map enc)):∀(l:List α) (k:Nat),full.drop k=l->∀(s:σ) (f:Fw ρ σ),Fe l s q=some f->∀e F S,Vs S0 (B s) e F S->Fle F1 F->∃h S',KA w g b (l.length) k e S=.ok h S'/\VG S0 F1 S' R B h f:=by
 intro l
 induction l with
 | nil=>
  intro k hk s f hf e F S hs hF;cases hf
  have:full.length<=k:=by
   have:=congrArg HQ hk;rw [E6,KS] at this;omega
  refine ⟨_,S,?_,e,F,rfl,hs,hF⟩;unfold KA;rw [hw F S hF hs.fz];dsimp only;rw [CN (by rw [AH];exact this)]
 | cons x l ih=>
  intro k hk s f hf e F S hs hF
  have hx:full[k]?=some x:=by
   have:=congrArg (λz=>z[0]?) hk;rw [IR] at this;simpa using this
  have hk':full.drop (k+1)=l:=by
   have e1:full.drop (k+1)=(full.drop k).drop 1:=by rw [Qb]
   exact e1.trans (congrArg (List.drop 1) hk)
  obtain ⟨e1,g1,g2⟩:=hg x S0 _ e F S hs
  have run:∀h S',b e1 S=.ok h S'->KA w g b ((x :: l).length) k e S=(match h with
    | .nx e2=>KA w g b l.length (k+1) e2 S'
    | .ct e2=>KA w g b l.length (k+1) e2 S'
    | .bk e2=>.ok (.nx e2) S'
    | .rt d=>.ok (.rt d) S'
    | .ex c e2=>.ok (.ex c e2) S'):=λh S' hb'=>by
   show KA w g b (l.length+1) k e S=_
   conv=>lhs;unfold KA
   rw [hw F S hF hs.fz];dsimp only;rw [Ap,hx];dsimp only [jo];rw [g1];dsimp only [Res.bind];rw [hb']
   all_goals (cases h <;> rfl)
  unfold Fe at hf;split at hf
  ·rename_i s' hq
   obtain ⟨h,S1,h1,e2,F2,rfl,h2,h3⟩:=hb s x _ hq S0 e1 F S g2;rw [run _ _ h1];exact ih (k+1) hk' s' f hf e2 F2 S1 h2 (hF.trans h3)
  ·rename_i s' hq
   obtain ⟨h,S1,h1,e2,F2,rfl,h2,h3⟩:=hb s x _ hq S0 e1 F S g2;rw [run _ _ h1];exact ih (k+1) hk' s' f hf e2 F2 S1 h2 (hF.trans h3)
  ·rename_i s' hq
   cases hf;obtain ⟨h,S1,h1,e2,F2,rfl,h2,h3⟩:=hb s x _ hq S0 e1 F S g2;rw [run _ _ h1];exact ⟨_,S1,rfl,e2,F2,rfl,h2,hF.trans h3⟩
  ·rename_i r hq
   cases hf;obtain ⟨h,S1,h1,d,rfl,h2,h3⟩:=hb s x _ hq S0 e1 F S g2;rw [run _ _ h1];exact ⟨_,S1,rfl,d,rfl,h2,h3⟩
  ·cases hf
theorem Gg {enc:α->D} {mi:MI} {g:MG} {t:α->List Sl->List Sl} {b:MS} {R:Rk ρ} {p:Option (List α)} {q:σ->α->Option (Fw ρ σ)} {B:σ->List Sl} {s0:σ} (hi:VI A mi enc p) (hg:VT g enc t) (w0:Wk A (B s0)) (hb:∀s x,VS (t x (B s)) b R (q s x) B) :
  VS A (HY mi g b) R (p.bind λl=>Fe l s0 q) B:=λf hf S0 e F S hs=>by
 obtain ⟨l,h1,h2⟩:=A4 hf;obtain ⟨w,S1,h3,h4,h5⟩:=hi l h1 S0 e F S hs;have hg1:=hs.grow h4
 have hl:DS w S1=l.length:=by unfold DS;rw [h5 _ S1 (Fle.refl _) hg1.fz];exact AH _
 obtain ⟨h,S2,h6,h7⟩:=cF hg hb h5 l 0 rfl s0 f h2 e _ S1 (hg1.weak w0) (Fle.refl _);refine ⟨h,S2,?_,h7.up (hs.fle S1)⟩;rw [Ki h3,hl];exact h6
def Pr (c:α->Option Bool) (m:α->Option β):List α->Option (List β)
 | []=>some []
 | x :: l=>(c x).bind λb=>if b=true then (m x).bind λy=>(Pr c m l).bind λys=>some (y :: ys) else Pr c m l
def Dk (l:List α) (c:α->Option Bool) (m:α->Option β):Option (List β):=if l.length<=1000000 then Pr c m l else none
theorem Y4 {enc:α->D} {eb:β->D} {g:MG} {P:List (Option D)->Prop} {T:α->List Sl} {c:MT} {m:ME} {pc:α->Option Bool} {pm:α->Option β}
  (hg:∀x S0 e F S pre,P pre->Vs S0 A e F S->∃pre',g (enc x) (pre++e) S=.ok (pre'++e) S/\P pre'/\Vs S0 (T x) (pre'++e) F S)
  (hc:∀x,VB (T x) c (pc x)) (hm:∀x,VE (T x) m (rV eb) (pm x)) {w:KD} {S0:Sto} {e:Lo} {full:List α} {S1:Sto} (hf:full.length<=1000000) (hw:∀S'',Keeps S1 S''->w S''=some (full.map enc)) :
  ∀(l:List α) (k:Nat),full.drop k=l->∀(r:List β),Pr pc pm l=some r->∀pre F S acc,P pre->Vs S0 A e F S->Keeps S1 S->acc.length<=k->∃S',FY w g c m l.length k (pre++e) S acc=.ok (acc++r.map eb) S'/\Keeps S S':=by
 intro l
 induction l with
 | nil=>
  intro k hk r hr pre F S acc hp hs hk1 ha;cases hr
  have:full.length<=k:=by
   have:=congrArg HQ hk;rw [E6,KS] at this;omega
  refine ⟨S,?_,Keeps.refl S⟩;unfold FY;rw [hw S hk1];dsimp only;rw [CN (by rw [AH];exact this),Nu,A5]
 | cons x l ih=>
  intro k hk r hr pre F S acc hp hs hk1 ha
  have hx:full[k]?=some x:=by
   have:=congrArg (λz=>z[0]?) hk;rw [IR] at this;simpa using this
  have hk':full.drop (k+1)=l:=by
   have e1:full.drop (k+1)=(full.drop k).drop 1:=by rw [Qb]
   exact e1.trans (congrArg (List.drop 1) hk)
  have hkl:k < full.length:=(AM.mp hx).1;obtain ⟨pre',g1,g2,g3⟩:=hg x S0 e F S pre hp hs;unfold Pr at hr;obtain ⟨b,h1,h2⟩:=A4 hr;obtain ⟨S2,h3,h4⟩:=hc x b h1 S0 _ F S g3;have hs2:=hs.grow h4
  show ∃S',FY w g c m (l.length+1) k (pre++e) S acc=_/\_
  conv=>arg 1;ext S';arg 1;lhs;unfold FY
  rw [hw S hk1];dsimp only;rw [Ap,hx];dsimp only [jo];rw [if_pos (BW ha (df (Ad hkl hf))),g1];dsimp only [okR,Res.bind];rw [h3];dsimp only [okR,Res.bind]
  cases b with
  | true=>
   rw [if_pos rfl] at h2 ⊢;obtain ⟨y,h5,h6⟩:=A4 h2;obtain ⟨ys,h6',h7⟩:=A4 h6;cases h7;obtain ⟨d,S3,h8,h9,rfl⟩:=hm x y h5 S0 _ _ S2 (g3.grow h4);rw [h8];obtain ⟨S4,q1,q2⟩:=ih (k+1) hk' ys h6' pre' _ S3 (acc++[eb y]) g2 (hs2.grow h9) (hk1.trans (h4.trans h9)) (by rw [AW,Av];omega);refine ⟨S4,?_,(h4.trans h9).trans q2⟩;show FY w g c m l.length (k+1) (pre'++e) S3 (acc++[eb y])=_;rw [q1,BP];rfl
  | false=>
   rw [if_neg AK] at h2 ⊢;obtain ⟨S4,q1,q2⟩:=ih (k+1) hk' r h2 pre' _ S2 acc g2 hs2 (hk1.trans h4) (by omega);exact ⟨S4,q1,h4.trans q2⟩
theorem cI {enc:α->D} {eb:β->D} {n:Nat} {mi:MI} {g:MG} {P:List (Option D)->Prop} {T:α->List Sl} {c:MT} {m:ME} {p:Option (List α)} {pc:α->Option Bool} {pm:α->Option β} (hi:VK A mi enc p) (h0:P (BL n none))
  (hg:∀x S0 e F S pre,P pre->Vs S0 A e F S->∃pre',g (enc x) (pre++e) S=.ok (pre'++e) S/\P pre'/\Vs S0 (T x) (pre'++e) F S)
  (hc:∀x,VB (T x) c (pc x)) (hm:∀x,VE (T x) m (rV eb) (pm x)):VL A (DC n mi g c m) eb (p.bind λl=>Dk l pc pm):=λr hr S0 e F S hs=>by
 obtain ⟨l,h1,h2⟩:=A4 hr;obtain ⟨w,S1,h3,h4,h5⟩:=hi l h1 S0 e F S hs;unfold Dk at h2;split at h2
 ·rename_i hl
  have hs1:=hs.grow h4;obtain ⟨S2,h6,h7⟩:=Y4 hg hc hm hl h5 l 0 rfl r h2 _ _ S1 [] h0 hs1 (Keeps.refl _) (AU _);refine ⟨S2,?_,h4.trans h7⟩;rw [SI h3,show DS w S1=l.length by unfold DS;rw [h5 S1 (Keeps.refl _)];exact AH _];exact h6
 ·cases h2
theorem CK {enc:α->D} {eb:β->D} {mi:MI} {c:MT} {m:ME} {p:Option (List α)} {pc:α->Option Bool} {pm:α->Option β} (hi:VK A mi enc p) (hc:∀x,VB (.v (enc x) :: A) c (pc x)) (hm:∀x,VE (.v (enc x) :: A) m (rV eb) (pm x)) :
  VL A (DC 1 mi (tgN 0) c m) eb (p.bind λl=>Dk l pc pm):=
 cI (P:=λpre=>∃z,pre=[z]) hi ⟨none,rfl⟩ (λx S0 e F S pre hp hs=>by
  obtain ⟨z,rfl⟩:=hp
  exact ⟨[some (enc x)],rfl,⟨_,rfl⟩,hs.cons (a:=.v (enc x)) rfl⟩) hc hm
theorem CA {ml:ML} {enc:α->D} {p:Option (List α)} (h:VL A ml enc p):VE A (DV ml) (rN (oL enc)) p:=λv hv S0 e F S hs=>by
 obtain ⟨S',h1,h2⟩:=h v hv S0 e F S hs;exact ⟨_,_,VV h1,h2.trans (Keeps.app _ _),_,rfl,h2.1,FO _ _⟩
inductive Ar where
 | v (d:D) | z (o:Ob)
def Ar.ok (S:Sto):Ar->D->Prop
 | .v d,x=>x=d
 | .z o,x=>∃n,x=.ref n/\S[n]?=some o
def Ar.sl:Ar->Sl
 | .v d=>.v d
 | .z o=>.z o
def Ld (S:Sto):List Ar->List D->Prop
 | [],[]=>True
 | a :: as,d :: ds=>a.ok S d/\Ld S as ds
 | _,_=>False
theorem Ld.len {S:Sto}:∀ {as:List Ar} {ds:List D},Ld S as ds->ds.length=as.length
 | [],[],_=>rfl
 | _ :: as,_ :: ds,h=>by rw [As,As,Ld.len h.2]
 | [],_ :: _,h=>h.elim
 | _ :: _,[],h=>h.elim
theorem Ld.at {S:Sto}:∀ {as:List Ar} {ds:List D},Ld S as ds->∀(i:Nat) (a:Ar),as[i]?=some a->∃d,ds[i]?=some d/\a.ok S d
 | [],[],_,i,a,h=>by simp at h
 | b :: as,d :: ds,h,0,a,q=>by cases q;exact ⟨d,rfl,h.1⟩
 | b :: as,d :: ds,h,i+1,a,q=>Ld.at h.2 i a q
 | [],_ :: _,h,_,_,_=>h.elim
 | _ :: _,[],h,_,_,_=>h.elim
def VF (f:List D->Sto->Res D) (as:List Ar) (R:Rk α) (p:Option α):Prop:=∀v,p=some v->∀S ds,Ld S as ds->∃d S',f ds S=.ok d S'/\Keeps S S'/\R v S d S'
def VA (A:List Sl) (ml:ML) (p:Option γ) (ar:γ->List Ar):Prop:=∀v,p=some v->∀S0 e F S,Vs S0 A e F S->∃ds S',ml e S=.ok ds S'/\Keeps S S'/\Ld S' (ar v) ds
theorem CS:VA A BE (some ()) (λ_=>[]):=λv hv S0 e F S hs=>⟨[],S,rfl,Keeps.refl S,trivial⟩
theorem Cj {m:ME} {ml:ML} {enc:α->D} {p:Option α} {q:Option γ} {ar:γ->List Ar} (h:VE A m (rV enc) p) (hl:VA A ml q ar):VA A (AN m ml) (p.bind λx=>q.bind λy=>some (x,y)) (λz=>.v (enc z.1) :: ar z.2):=λv hv S0 e F S hs=>by
 obtain ⟨x,h1,h2⟩:=A4 hv;obtain ⟨y,h2',h3⟩:=A4 h2;cases h3;obtain ⟨d,S1,h4,h5,rfl⟩:=h x h1 S0 e F S hs;obtain ⟨ds,S2,h6,h7,h8⟩:=hl y h2' S0 e _ S1 (hs.grow h5);exact ⟨_,S2,Cg h4 h6,h5.trans h7,rfl,h8⟩
theorem J7 {m:ME} {ml:ML} {ob:α->Ob} {p:Option α} {q:Option γ} {ar:γ->List Ar} (h:VE A m (rO ob) p) (hl:VA A ml q ar):VA A (AN m ml) (p.bind λx=>q.bind λy=>some (x,y)) (λz=>.z (ob z.1) :: ar z.2):=λv hv S0 e F S hs=>by
 obtain ⟨x,h1,h2⟩:=A4 hv;obtain ⟨y,h2',h3⟩:=A4 h2;cases h3;obtain ⟨d,S1,h4,h5,n,rfl,h0⟩:=h x h1 S0 e F S hs;obtain ⟨ds,S2,h6,h7,h8⟩:=hl y h2' S0 e _ S1 (hs.grow h5);exact ⟨_,S2,Cg h4 h6,h5.trans h7,⟨n,rfl,h7.at h0⟩,h8⟩
theorem Bu {f:List D->Sto->Res D} {n:Nat} {ml:ML} {p:Option γ} {ar:γ->List Ar} {R:Rk α} {q:γ->Option α} (ha:VA A ml p ar) (hf:∀z,VF f (ar z) R (q z)) (hn:∀z,(ar z).length=n) (hR:∀v S S1 d S',S.length<=S1.length->R v S1 d S'->R v S d S'):VE A (B3 n f ml) R (p.bind q):=λv hv S0 e F S hs=>by
 obtain ⟨z,h1,h2⟩:=A4 hv;obtain ⟨ds,S1,h3,h4,h5⟩:=ha z h1 S0 e F S hs;obtain ⟨d,S2,h6,h7,h8⟩:=hf z v h2 S1 ds h5;exact ⟨d,S2,(Jr h3 (h5.len.trans (hn z))).trans h6,h4.trans h7,hR _ _ _ _ _ h4.1 h8⟩
def UJ (S:Sto):Fz:=λn=>match S[n]? with
 | some o=>.fz o
 | none=>.no
theorem Vs.start {as:List Ar} {ds:List D} {n:Nat} (h:Ld S as ds):Vs S (as.map Ar.sl++BL (n - as.length) .u) (Fj n ds) (UJ S) S:=by
 refine ⟨Keeps.refl S,λn o q=>?_,λn i q=>?_,λn hn=>by unfold UJ;rw [CN hn],λi a ha=>?_⟩
 ·unfold UJ at q
  split at q
  ·rename_i o' ho;cases q;exact ho
  ·cases q
 ·unfold UJ at q
  split at q <;> cases q
 ·unfold Fj
  by_cases c:i < as.length
  ·rw [Ah (by rw [AH];exact c),Ap] at ha
   rw [Ah (by rw [AH,h.len];exact c),Ap]
   cases hq:as[i]? with
   | none=>rw [hq] at ha;cases ha
   | some b=>
    rw [hq] at ha;cases ha;obtain ⟨d,h1,h2⟩:=h.at i b hq;refine ⟨some d,by rw [h1];rfl,?_⟩
    cases b with
    | v x=>exact congrArg some h2
    | z o=>obtain ⟨m,h3,h4⟩:=h2;exact ⟨m,congrArg some h3,by unfold UJ;rw [h4]⟩
  ·rw [A8 (by rw [AH];omega)] at ha
   rw [AH,C2] at ha;split at ha
   ·rename_i hlt
    cases ha;refine ⟨none,?_,trivial⟩;rw [A8 (by rw [AH,h.len];omega),AH,h.len,C2,if_pos hlt]
   ·cases ha
def IL (p:Option (Fw ρ σ)):Option ρ:=match p with
 | some (.rt r)=>some r
 | _=>none
def Z1 (p:Option (Fw Unit σ)):Option Unit:=match p with
 | some (.rt r)=>some ()
 | some (.nx _)=>some ()
 | _=>none
end
end L4
namespace L4
open PySem L2
section
variable {S0 S S':Sto} {A B:List Sl} {e:Lo} {F:Fz} {α β γ δ ρ σ τ:Type}
section
variable {a b c:ME} {pa pb pc:Option Int}
theorem Hl (ha:VE A a (rV D.int) pa) (hb:VE A b (rV D.int) pb):VE A (m2 GR a b) (rV D.int) (pa.bind λx=>pb.bind λy=>some (x+y)):=HR ha hb λx y z S h=>by cases h;rfl
theorem NF (ha:VE A a (rV D.int) pa) (hb:VE A b (rV D.int) pb):VE A (m2 TD a b) (rV D.int) (pa.bind λx=>pb.bind λy=>some (x - y)):=HR ha hb λx y z S h=>by cases h;rfl
def VY (x y:Int):Option Int:=if 0 < y then some (x % y) else none
theorem Ur (ha:VE A a (rV D.int) pa) (hb:VE A b (rV D.int) pb):VE A (m2 Pc a b) (rV D.int) (pa.bind λx=>pb.bind λy=>VY x y):=HR ha hb λx y z S h=>by
 unfold VY at h;split at h
 ·rename_i hc;cases h;exact Wh hc
 ·cases h
theorem O5 {k:Int} (hk:(decide (0 < k)&&decide (k<=1000000))=true) (ha:VE A a (rV D.int) pa):VE A (m2 Qy a (mC (.int k))) (rV D.int) (pa.bind λx=>some (x / k)):=λv hv S0 e F S hs=>by
 obtain ⟨x,h1,h2⟩:=A4 hv;cases h2;obtain ⟨d,S',h3,h4,rfl⟩:=ha x h1 S0 e F S hs;have hk':=DR _ _▸hk;exact ⟨_,S',Dw h3 rfl (ax (of_decide_eq_true hk'.1) (of_decide_eq_true hk'.2)),h4,rfl⟩
theorem Oa {k:Int} (hk:decide (0 < k)=true) (ha:VE A a (rV D.int) pa):VE A (m2 Pc a (mC (.int k))) (rV D.int) (pa.bind λx=>some (x % k)):=λv hv S0 e F S hs=>by
 obtain ⟨x,h1,h2⟩:=A4 hv;cases h2;obtain ⟨d,S',h3,h4,rfl⟩:=ha x h1 S0 e F S hs;exact ⟨_,S',Dw h3 rfl (Wh (of_decide_eq_true hk)),h4,rfl⟩
theorem gR (ha:VE A a (rV D.int) pa):VE A (db a) (rV D.int) (pa.bind λx=>some (-x)):=λv hv S0 e F S hs=>by
 obtain ⟨x,h1,h2⟩:=A4 hv;cases h2;obtain ⟨d,S',h3,h4,rfl⟩:=ha x h1 S0 e F S hs;exact ⟨_,S',by unfold db;rw [h3];rfl,h4,rfl⟩
theorem kI (ha:VE A a (rV D.int) pa) (hb:VE A b (rV D.int) pb):VE A (m2 ltD a b) (rV D.bl) (pa.bind λx=>pb.bind λy=>some (decide (x < y))):=HR ha hb λx y z S h=>by cases h;rfl
theorem Sw {f g:D->D->Sto->Res D} {P Q:Int->Int->Bool} (hf:∀x y S,f (.int x) (.int y) S=.ok (.bl (P x y)) S) (hg:∀x y S,g (.int x) (.int y) S=.ok (.bl (Q x y)) S) (ha:VE A a (rV D.int) pa) (hb:VE A b (rV D.int) pb) (hc:VE A c (rV D.int) pc) :
  VE A (m3 f g a b c) (rV D.bl) (pa.bind λx=>pb.bind λy=>if P x y=true then pc.bind λz=>some (Q y z) else some false):=λv hv S0 e F S hs=>by
 obtain ⟨x,h1,hv⟩:=A4 hv;obtain ⟨y,h2,h3⟩:=A4 hv;obtain ⟨d1,S1,q1,k1,rfl⟩:=ha x h1 S0 e F S hs;obtain ⟨d2,S2,q2,k2,rfl⟩:=hb y h2 S0 e _ S1 (hs.grow k1);have e1:=hf x y S2
 cases hp:P x y with
 | false=>
  rw [hp] at h3 e1;cases h3;exact ⟨_,S2,lI q1 q2 e1,k1.trans k2,rfl⟩
 | true=>
  rw [hp] at h3 e1;rw [if_pos rfl] at h3;obtain ⟨w,h4,h5⟩:=A4 h3;cases h5;obtain ⟨d3,S3,q3,k3,rfl⟩:=hc w h4 S0 e _ S2 ((hs.grow k1).grow k2);exact ⟨_,S3,aN q1 q2 e1 q3 (hg y w S3),(k1.trans k2).trans k3,rfl⟩
theorem fS (x y:Int) (S:Sto):ltD (.int x) (.int y) S=.ok (.bl (decide (x < y))) S:=rfl
theorem fU (x y:Int) (S:Sto):leD (.int x) (.int y) S=.ok (.bl (decide (x<=y))) S:=rfl
theorem WO (ha:VE A a (rV D.int) pa) (hb:VE A b (rV D.int) pb):VE A (mQ Mq (AN a (AN b BE))) (rV D.int) (pa.bind λx=>pb.bind λy=>some (if y < x then y else x)):=λv hv S0 e F S hs=>by
 obtain ⟨x,h1,hv⟩:=A4 hv;obtain ⟨y,h2,h3⟩:=A4 hv;cases h3;obtain ⟨d1,S1,q1,k1,rfl⟩:=ha x h1 S0 e F S hs;obtain ⟨d2,S2,q2,k2,rfl⟩:=hb y h2 S0 e _ S1 (hs.grow k1);exact ⟨_,S2,Zj (Cg q1 (Cg q2 rfl)) rfl,k1.trans k2,rfl⟩
theorem gY {pb:Option Bool} (hb:VE A b (rV D.bl) pb):VE A (dc b) (rV D.int) (pb.bind λx=>some (if x=true then 1 else 0)):=λv hv S0 e F S hs=>by
 obtain ⟨x,h1,h2⟩:=A4 hv;cases h2;obtain ⟨d,S',h3,h4,rfl⟩:=hb x h1 S0 e F S hs;refine ⟨_,S',?_,h4,rfl⟩;unfold dc;rw [h3];rfl
theorem cR {pa pb:Option Bool} (ha:VE A a (rV D.bl) pa) (hb:VE A b (rV D.bl) pb):VE A (Tq a b) (rV D.bl) (pa.bind λx=>if x=true then pb else some false):=λv hv S0 e F S hs=>by
 obtain ⟨x,h1,h2⟩:=A4 hv;obtain ⟨d,S',h3,h4,rfl⟩:=ha x h1 S0 e F S hs
 cases x with
 | true=>
  obtain ⟨d,S2,h5,h6,rfl⟩:=hb v h2 S0 e _ S' (hs.grow h4);exact ⟨_,S2,by unfold Tq;rw [h3];exact h5,h4.trans h6,rfl⟩
 | false=>cases h2;exact ⟨_,S',by unfold Tq;rw [h3];rfl,h4,rfl⟩
theorem gP {pa pb:Option Bool} (ha:VE A a (rV D.bl) pa) (hb:VE A b (rV D.bl) pb):VE A (aK a b) (rV D.bl) (pa.bind λx=>if x=true then some true else pb):=λv hv S0 e F S hs=>by
 obtain ⟨x,h1,h2⟩:=A4 hv;obtain ⟨d,S',h3,h4,rfl⟩:=ha x h1 S0 e F S hs
 cases x with
 | false=>
  obtain ⟨d,S2,h5,h6,rfl⟩:=hb v h2 S0 e _ S' (hs.grow h4);exact ⟨_,S2,by unfold aK;rw [h3];exact h5,h4.trans h6,rfl⟩
 | true=>cases h2;exact ⟨_,S',by unfold aK;rw [h3];rfl,h4,rfl⟩
theorem WN {pa:Option Bool} (ha:VE A a (rV D.bl) pa):VE A (Tp a) (rV D.bl) (pa.bind λx=>some (!x)):=λv hv S0 e F S hs=>by
 obtain ⟨x,h1,h2⟩:=A4 hv;cases h2;obtain ⟨d,S',h3,h4,rfl⟩:=ha x h1 S0 e F S hs;exact ⟨_,S',by unfold Tp;rw [h3];rfl,h4,rfl⟩
end
def EqN (n:Nat) (enc:α->D) [DecidableEq α]:Prop:=∀x y,eqP n (enc x) (enc y)=some (decide (x=y))
def NL (enc:α->D):Prop:=∀x S,QO (enc x) S=none
theorem CQ {n:Nat}:EqN n D.int:=λx y=>by
 have:Kn (.int x) (.int y)=some (decide (x=y)):=rfl
 cases n <;> exact this
theorem W5 {n:Nat}:EqN n D.str:=λx y=>by
 have:Kn (.str x) (.str y)=some (decide (x=y)):=rfl
 cases n <;> exact this
theorem Oj {n:Nat} {enc:α->D} [DecidableEq α] (h:EqN n enc):EqN (n+1) (eT enc):=by
 have key:∀l k:List α,eqL (eqP n) (l.map enc) (k.map enc)=some (decide (l=k)):=by
  intro l
  induction l with
  | nil=>intro k;cases k <;> rfl
  | cons x l ih=>
   intro k
   cases k with
   | nil=>rfl
   | cons y k=>
    rw [A3,A3];unfold eqL;rw [h x y,ih k]
    by_cases c:x=y <;> by_cases d:l=k <;> simp [c,d]
 exact λl k=>key l k
theorem az {n:Nat} {a:α->D} {b:β->D} [DecidableEq α] [DecidableEq β] (ha:EqN n a) (hb:EqN n b):EqN (n+1) (eP a b):=λx y=>by
 show eqL (eqP n) [a x.1,b x.2] [a y.1,b y.2]=_;unfold eqL eqL eqL;rw [ha,hb];obtain ⟨x1,x2⟩:=x;obtain ⟨y1,y2⟩:=y
 by_cases c:x1=y1 <;> by_cases d:x2=y2 <;> simp [c,d]
theorem Lu:NL D.int:=λ_ _=>rfl
theorem aA:NL D.str:=λ_ _=>rfl
theorem ik {enc:α->D}:NL (eT enc):=λ_ _=>rfl
section
variable {a b:ME} {enc:α->D} [DecidableEq α] {pa pb:Option α}
theorem bA (h:EqN 8 enc) (n:NL enc) (neg:Bool) (x y:α) (S:Sto):eqD neg (enc x) (enc y) S=.ok (.bl (if neg then !decide (x=y) else decide (x=y))) S:=by
 unfold eqD eqB;rw [n x S,n y S];dsimp only;rw [h x y]
theorem Ma (h:EqN 8 enc) (n:NL enc) (ha:VE A a (rV enc) pa) (hb:VE A b (rV enc) pb):VE A (m2 (eqD false) a b) (rV D.bl) (pa.bind λx=>pb.bind λy=>some (decide (x=y))):=HR ha hb λx y z S q=>by cases q;exact bA h n false x y S
theorem kH (h:EqN 8 enc) (n:NL enc) (ha:VE A a (rV enc) pa) (hb:VE A b (rV enc) pb):VE A (m2 (eqD true) a b) (rV D.bl) (pa.bind λx=>pb.bind λy=>some (!decide (x=y))):=HR ha hb λx y z S q=>by cases q;exact bA h n true x y S
theorem UG (h:EqN 8 enc) (x:α):∀l:List α,Lc (enc x) (l.map enc)=some (decide (x∈l))
 | []=>by simp [Lc]
 | y :: l=>by
  rw [A3];unfold Lc;rw [h y x,UG h x l]
  by_cases c:y=x
  ·subst c;simp
  ·have:¬x=y:=λz=>c z.symm
   simp [c,this]
theorem Nc (h:EqN 8 enc) (neg:Bool) (x:α) {l:List α} {d:D} {S:Sto} (hs:Gi d S=some (l.map enc)):inA neg (enc x) d S=.ok (.bl (if neg then !decide (x∈l) else decide (x∈l))) S:=by
 show Hs (inD neg (enc x) d S) _=_
 have e:inD neg (enc x) d S=.ok (.bl (if neg then !decide (x∈l) else decide (x∈l))) S:=by
  unfold inD;rw [hs];dsimp only;rw [UG h]
 rw [e];rfl
theorem O4 {pl:Option (List α)} (h:EqN 8 enc) (ha:VE A a (rV enc) pa) (hb:VE A b (rV (eT enc)) pl):VE A (m2 (inA false) a b) (rV D.bl) (pa.bind λx=>pl.bind λl=>some (decide (x∈l))):=HR ha hb λx l z S q=>by cases q;exact Nc h false x rfl
theorem RM {pl:Option (List α)} (h:EqN 8 enc) (ha:VE A a (rV enc) pa) (hb:VE A b (rV (eT enc)) pl):VE A (m2 (inA true) a b) (rV D.bl) (pa.bind λx=>pl.bind λl=>some (!decide (x∈l))):=HR ha hb λx l z S q=>by cases q;exact Nc h true x rfl
theorem gb {pl:Option (List α)} (h:EqN 8 enc) (ha:VE A a (rV enc) pa) (hb:VE A b (rO (oL enc)) pl):VE A (m2 (inA false) a b) (rV D.bl) (pa.bind λx=>pl.bind λl=>some (decide (x∈l))):=O2 ha hb λx l z S n hn q=>by cases q;exact Nc h false x (FA hn)
theorem gZ (h:EqN 8 enc) {pl:Option (α×α)} (ha:VE A a (rV enc) pa) (hb:VE A b (rV (eP enc enc)) pl):VE A (m2 (inA false) a b) (rV D.bl) (pa.bind λx=>pl.bind λl=>some (decide (x∈[l.1,l.2]))):=HR ha hb λx l z S q=>by cases q;exact Nc h false x (l:=[l.1,l.2]) rfl
theorem jO {n:Nat} (h:EqN n enc):∀l k:List α,eqL (eqP n) (l.map enc) (k.map enc)=some (decide (l=k)):=by
 intro l
 induction l with
 | nil=>intro k;cases k <;> rfl
 | cons x l ih=>
  intro k
  cases k with
  | nil=>rfl
  | cons y k=>
   rw [A3,A3];unfold eqL;rw [h x y,ih k]
   by_cases c:x=y <;> by_cases d:l=k <;> simp [c,d]
theorem Qz (h:EqN 8 enc) {l k:List α} {n m:Nat} {S:Sto} (neg:Bool) (hn:S[n]?=some (oL enc l)) (hm:S[m]?=some (oL enc k)):eqD neg (.ref n) (.ref m) S=.ok (.bl (if neg then !decide (l=k) else decide (l=k))) S:=by
 unfold eqD eqB;rw [Mt hn,Mt hm];dsimp only;rw [AH,AH]
 by_cases c:l.length=k.length
 ·rw [if_pos c,jO h]
 ·rw [if_neg c,decide_eq_false λz=>c (by rw [z])]
theorem fD {f:D->D->Sto->Res D} {oa:β->Ob} {ob:γ->Ob} {ec:δ->D} {pa:Option β} {pb:Option γ} {g:β->γ->Option δ} (ha:VE A a (rO oa) pa) (hb:VE A b (rO ob) pb)
  (hf:∀x y z S (n m:Nat),S[n]?=some (oa x)->S[m]?=some (ob y)->g x y=some z->f (.ref n) (.ref m) S=.ok (ec z) S):VE A (m2 f a b) (rV ec) (pa.bind λx=>pb.bind λy=>g x y):=λv hv S0 e F S hs=>by
 obtain ⟨x,h1,hv⟩:=A4 hv;obtain ⟨y,h2,h3⟩:=A4 hv;obtain ⟨d1,S1,q1,k1,n,rfl,hn⟩:=ha x h1 S0 e F S hs;obtain ⟨d2,S2,q2,k2,m,rfl,hm⟩:=hb y h2 S0 e _ S1 (hs.grow k1);exact ⟨_,S2,Dw q1 q2 (hf x y v S2 n m (k2.at hn) hm h3),k1.trans k2,rfl⟩
theorem gd {pa pb:Option (List α)} (h:EqN 8 enc) (ha:VE A a (rO (oL enc)) pa) (hb:VE A b (rO (oL enc)) pb):VE A (m2 (eqD false) a b) (rV D.bl) (pa.bind λx=>pb.bind λy=>some (decide (x=y))):=fD ha hb λx y z S n m hn hm q=>by cases q;exact Qz h false hn hm
theorem ZB {pa pb:Option (List α)} (h:EqN 8 enc) (ha:VE A a (rO (oL enc)) pa) (hb:VE A b (rO (oL enc)) pb):VE A (m2 (eqD true) a b) (rV D.bl) (pa.bind λx=>pb.bind λy=>some (!decide (x=y))):=fD ha hb λx y z S n m hn hm q=>by cases q;exact Qz h true hn hm
end
section
variable {a b m mo:ME} {enc:α->D} {ml:ML} {pl pk:Option (List α)} {pi:Option Int}
theorem eX (l:List α) (i:Int) (f:α->β):atI (l.map f) i=(atI l i).map f:=by
 unfold atI;rw [AH]
 cases ixN l.length i with
 | none=>rfl
 | some j=>show (l.map f)[j]?=(l[j]?).map f;rw [Ap]
theorem Vh {l:List α} {d:D} {S:Sto} {i:Int} {x:α} (hs:Gi d S=some (l.map enc)) (h:atI l i=some x):ixA d (.int i) S=.ok (enc x) S:=by
 show Hs (ixD d (.int i) S) _=_
 have:ixD d (.int i) S=.ok (enc x) S:=by
  unfold ixD;rw [hs];dsimp only;rw [eX,h];rfl
 rw [this];rfl
theorem Us (ha:VE A a (rV (eT enc)) pl) (hb:VE A b (rV D.int) pi):VE A (m2 ixA a b) (rV enc) (pl.bind λl=>pi.bind λi=>atI l i):=HR ha hb λl i z S q=>Vh rfl q
theorem ZC {pl:Option (List Int)} (ha:VE A a (rV eF) pl) (hb:VE A b (rV D.int) pi):VE A (m2 ixA a b) (rV D.int) (pl.bind λl=>pi.bind λi=>atI l i):=HR ha hb λl i z S q=>Vh rfl q
theorem O3 (ha:VE A a (rO (oL enc)) pl) (hb:VE A b (rV D.int) pi):VE A (m2 ixA a b) (rV enc) (pl.bind λl=>pi.bind λi=>atI l i):=ZI ha hb λl i z S n hn q=>Vh (FA hn) q
theorem ZE {a':α->D} {b':β->D} {p:Option (α×β)} (ha:VE A a (rV (eP a' b')) p):VE A (m2 ixA a (mC (.int 0))) (rV a') (p.bind λx=>some x.1):=λv hv S0 e F S hs=>by
 obtain ⟨x,h1,h2⟩:=A4 hv;cases h2;obtain ⟨d,S',h3,h4,rfl⟩:=ha x h1 S0 e F S hs;exact ⟨_,S',Dw h3 rfl (Wp (ds:=[a' x.1,b' x.2]) rfl (by decide) rfl),h4,rfl⟩
theorem Y9 {a':α->D} {b':β->D} {p:Option (α×β)} (ha:VE A a (rV (eP a' b')) p):VE A (m2 ixA a (mC (.int 1))) (rV b') (p.bind λx=>some x.2):=λv hv S0 e F S hs=>by
 obtain ⟨x,h1,h2⟩:=A4 hv;cases h2;obtain ⟨d,S',h3,h4,rfl⟩:=ha x h1 S0 e F S hs;exact ⟨_,S',Dw h3 rfl (Wp (ds:=[a' x.1,b' x.2]) rfl (by decide) rfl),h4,rfl⟩
theorem cM (ha:VE A a (rV (eT enc)) pl):VE A (Mr a) (rV D.int) (pl.bind λl=>some (l.length:Int)):=λv hv S0 e F S hs=>by
 obtain ⟨l,h1,h2⟩:=A4 hv;cases h2;obtain ⟨d,S',h3,h4,rfl⟩:=ha l h1 S0 e F S hs;exact ⟨_,S',(Vd (ds:=l.map enc) h3 rfl).trans (by rw [AH]),h4,rfl⟩
theorem WP {pl:Option (List Int)} (ha:VE A a (rV eF) pl):VE A (Mr a) (rV D.int) (pl.bind λl=>some (l.length:Int)):=λv hv S0 e F S hs=>by
 obtain ⟨l,h1,h2⟩:=A4 hv;cases h2;obtain ⟨d,S',h3,h4,rfl⟩:=ha l h1 S0 e F S hs;exact ⟨_,S',(Vd (ds:=l.map D.int) h3 rfl).trans (by rw [AH]),h4,rfl⟩
theorem RN (ha:VE A a (rO (oL enc)) pl):VE A (Mr a) (rV D.int) (pl.bind λl=>some (l.length:Int)):=λv hv S0 e F S hs=>by
 obtain ⟨l,h1,h2⟩:=A4 hv;cases h2;obtain ⟨d,S',h3,h4,n,rfl,hn⟩:=ha l h1 S0 e F S hs;exact ⟨_,S',(Vd (ds:=l.map enc) h3 (FA hn)).trans (by rw [AH]),h4,rfl⟩
theorem Mw:∀ns:List Int,JK (ns.map D.int)=some ns
 | []=>rfl
 | x :: ns=>by rw [A3];unfold JK;rw [Mw ns];rfl
theorem Qe (ha:VE A a (rO (oL enc)) pl):VE A (Hv a) (rV (eT enc)) pl:=λl hv S0 e F S hs=>by
 obtain ⟨d,S',h3,h4,n,rfl,hn⟩:=ha l hv S0 e F S hs;exact ⟨_,S',Me h3 (FA hn),h4,rfl⟩
theorem MZ (ha:VE A a (rO (oL enc)) pl):VL A (LU a) enc pl:=λl hv S0 e F S hs=>by
 obtain ⟨d,S',h3,h4,n,rfl,hn⟩:=ha l hv S0 e F S hs;exact ⟨S',fF h3 (FA hn),h4⟩
theorem cH (ha:VE A a (rV (eT enc)) pl):VL A (LU a) enc pl:=λl hv S0 e F S hs=>by
 obtain ⟨d,S',h3,h4,rfl⟩:=ha l hv S0 e F S hs;exact ⟨S',fF h3 rfl,h4⟩
theorem WM (h:VL A ml enc pl):VL A (mN Tt ml) enc pl:=λl hv S0 e F S hs=>by
 obtain ⟨S',h3,h4⟩:=h l hv S0 e F S hs;exact ⟨S',by unfold mN;rw [h3];rfl,h4⟩
theorem SO:∀l:List Bool,Vy (l.map D.bl)=some l
 | []=>rfl
 | x :: l=>by rw [A3];unfold Vy;rw [SO l];rfl
theorem Ut {pl:Option (List Bool)} (h:VL A ml D.bl pl):VE A (mQ Yc ml) (rV D.bl) (pl.bind λl=>some (l.all id)):=λv hv S0 e F S hs=>by
 obtain ⟨l,h1,h2⟩:=A4 hv;cases h2;obtain ⟨S',h3,h4⟩:=h l h1 S0 e F S hs;refine ⟨_,S',Zj h3 ?_,h4,rfl⟩;unfold Yc Ya;rw [SO]
theorem ge {pl:Option (List Bool)} (h:VL A ml D.bl pl):VE A (mQ eZ ml) (rV D.bl) (pl.bind λl=>some (l.any id)):=λv hv S0 e F S hs=>by
 obtain ⟨l,h1,h2⟩:=A4 hv;cases h2;obtain ⟨S',h3,h4⟩:=h l h1 S0 e F S hs;refine ⟨_,S',Zj h3 ?_,h4,rfl⟩;unfold eZ Ya;rw [SO]
theorem Dp:VL A BE enc (some []):=λv hv S0 e F S hs=>by cases hv;exact ⟨S,rfl,Keeps.refl S⟩
theorem Gv {p:Option α} (h:VE A m (rV enc) p) (hl:VL A ml enc pl):VL A (AN m ml) enc (p.bind λx=>pl.bind λl=>some (x :: l)):=λv hv S0 e F S hs=>by
 obtain ⟨x,h1,h2⟩:=A4 hv;obtain ⟨l,h2',h3⟩:=A4 h2;cases h3;obtain ⟨d,S1,h4,h5,rfl⟩:=h x h1 S0 e F S hs;obtain ⟨S2,h6,h7⟩:=hl l h2' S0 e _ S1 (hs.grow h5);exact ⟨S2,Cg h4 h6,h5.trans h7⟩
def Gp (l:List α):Option (List α):=if l.length<=1000000 then some l else none
theorem Ei (h:VL A ml enc pl):VL A (Em ml) enc (pl.bind Gp):=λv hv S0 e F S hs=>by
 obtain ⟨l,h1,h2⟩:=A4 hv;unfold Gp at h2;split at h2
 ·rename_i hl
  cases h2;obtain ⟨S',h3,h4⟩:=h _ h1 S0 e F S hs;refine ⟨S',?_,h4⟩;unfold Em;rw [h3];dsimp only [Res.bind];rw [if_pos (by rw [AH];exact aP hl)]
 ·cases h2
theorem Ja (h:VL A ml enc pl):VE A (Hb ml) (rV (eT enc)) (pl.bind Gp):=λv hv S0 e F S hs=>by
 obtain ⟨l,h1,h2⟩:=A4 hv;unfold Gp at h2;split at h2
 ·rename_i hl
  cases h2;obtain ⟨S',h3,h4⟩:=h _ h1 S0 e F S hs;refine ⟨_,S',?_,h4,rfl⟩;unfold Hb;rw [h3];dsimp only [Res.bind];rw [if_pos (by rw [AH];exact aP hl)];rfl
 ·cases h2
theorem K5 {a':α->D} {b':β->D} {pa:Option α} {pb:Option β} (ha:VE A a (rV a') pa) (hb:VE A b (rV b') pb):VE A (Hb (AN a (AN b BE))) (rV (eP a' b')) (pa.bind λx=>pb.bind λy=>some (x,y)):=λv hv S0 e F S hs=>by
 obtain ⟨x,h1,hv⟩:=A4 hv;obtain ⟨y,h2,h3⟩:=A4 hv;cases h3;obtain ⟨d1,S1,q1,k1,rfl⟩:=ha x h1 S0 e F S hs;obtain ⟨d2,S2,q2,k2,rfl⟩:=hb y h2 S0 e _ S1 (hs.grow k1);exact ⟨_,S2,ZO (ds:=[a' x,b' y]) (Cg q1 (Cg q2 rfl)) (by simp),k1.trans k2,rfl⟩
theorem K6 (ha:VE A a (rV (eT enc)) pl) (hb:VE A b (rV (eT enc)) pk):VE A (m2 GR a b) (rV (eT enc)) (pl.bind λl=>pk.bind λk=>KB l k):=HR ha hb λl k z S q=>by
 unfold KB at q;split at q
 ·rename_i hl
  cases q;unfold eT;rw [Ch];exact cU (by rw [AH,AH];exact aP hl)
 ·cases q
theorem WQ (ha:VE A a (rO (oL enc)) pl) (hb:VE A b (rO (oL enc)) pk):VE A (m2 GR a b) (rN (oL enc)) (pl.bind λl=>pk.bind λk=>KB l k):=λv hv S0 e F S hs=>by
 obtain ⟨x,h1,hv⟩:=A4 hv;obtain ⟨y,h2,h3⟩:=A4 hv;obtain ⟨d1,S1,q1,k1,n,rfl,hn⟩:=ha x h1 S0 e F S hs;obtain ⟨d2,S2,q2,k2,m,rfl,hm⟩:=hb y h2 S0 e _ S1 (hs.grow k1);unfold KB at h3;split at h3
 ·rename_i hl
  cases h3;refine ⟨_,_,Dw q1 q2 (d:=.ref S2.length) (S3:=S2++[oL enc (x++y)]) ?_,(k1.trans k2).trans (Keeps.app _ _),_,rfl,(k1.trans k2).1,FO _ _⟩;unfold GR;dsimp only;rw [k2.at hn,hm];unfold oL;dsimp only;rw [if_pos (by rw [AH,AH];exact aP hl),Ch]
 ·cases h3
def VO (A:List Sl) (mo:MO) (p:Option (Option Int)):Prop:=∀v,p=some v->∀S0 e F S,Vs S0 A e F S->∃S',mo e S=.ok v S'/\Keeps S S'
theorem RK:VO A Th (some none):=λv hv S0 e F S hs=>by cases hv;exact ⟨S,rfl,Keeps.refl S⟩
theorem RJ {pi:Option Int} (h:VE A m (rV D.int) pi):VO A (Qp m) (pi.bind λi=>some (some i)):=λv hv S0 e F S hs=>by
 obtain ⟨x,h1,h2⟩:=A4 hv;cases h2;obtain ⟨d,S',h3,h4,rfl⟩:=h x h1 S0 e F S hs;exact ⟨S',by unfold Qp;rw [h3];rfl,h4⟩
theorem bI (l:List α) (f:α->β) (lo hi:Option Int):L6 (l.map f) lo hi=(L6 l lo hi).map f:=by
 unfold L6;rw [AH,<-List.map_drop,<-fm]
theorem RP {mlo mhi:MO} {po ph:Option (Option Int)} (ha:VE A a (rV (eT enc)) pl) (hl:VO A mlo po) (hh:VO A mhi ph):VE A (LF a mlo mhi) (rV (eT enc)) (pl.bind λl=>po.bind λx=>ph.bind λy=>some (L6 l x y)):=λv hv S0 e F S hs=>by
 obtain ⟨l,h1,hv⟩:=A4 hv;obtain ⟨x,h2,hv⟩:=A4 hv;obtain ⟨y,h3,h4⟩:=A4 hv;cases h4;obtain ⟨d1,S1,q1,k1,rfl⟩:=ha l h1 S0 e F S hs;obtain ⟨S2,q2,k2⟩:=hl x h2 S0 e _ S1 (hs.grow k1);obtain ⟨S3,q3,k3⟩:=hh y h3 S0 e _ S2 ((hs.grow k1).grow k2);refine ⟨_,S3,?_,(k1.trans k2).trans k3,rfl⟩;unfold LF;rw [q1];dsimp only [Res.bind];rw [q2];dsimp only;rw [q3];show Res.ok (D.tup (L6 (l.map enc) x y)) S3=_;rw [bI];rfl
theorem Y8 {pl:Option (List Int)} (ha:VE A a (rO (oL D.int)) pl):VE A (D9 a) (rN (oL D.int)) (pl.bind λl=>some (Db l)):=λv hv S0 e F S hs=>by
 obtain ⟨l,h1,h2⟩:=A4 hv;cases h2;obtain ⟨d,S',h3,h4,n,rfl,hn⟩:=ha l h1 S0 e F S hs;refine ⟨_,_,JE h3 (Lx hn) (es:=(Db l).map D.int) ?_,h4.trans (Keeps.app _ _),_,rfl,h4.1,FO _ _⟩;unfold Jz;rw [Mw]
def Lj (l:List (List Int)):Option (List (List Int)):=if l.all (λr=>!r.isEmpty)=true then some (Hm l) else none
theorem TV:∀rs:List (List Int),rs.all (λr=>!r.isEmpty)=true->LZ (rs.map LQ)=some rs
 | [],_=>rfl
 | [] :: rs,h=>by simp at h
 | (x :: r) :: rs,h=>by
  rw [fo,DR] at h;show LZ (.tup ((x :: r).map D.int) :: rs.map LQ)=_;unfold LZ;rw [Mw,TV rs h.2]
theorem O0 {pl:Option (List (List Int))} (ha:VE A a (rO (oL (eT D.int))) pl):VE A (D9 a) (rN (oL (eT D.int))) (pl.bind Lj):=λv hv S0 e F S hs=>by
 obtain ⟨l,h1,h2⟩:=A4 hv;obtain ⟨d,S',h3,h4,n,rfl,hn⟩:=ha l h1 S0 e F S hs;unfold Lj at h2;split at h2
 ·rename_i hl
  cases h2;refine ⟨_,_,JE h3 (Lx hn) (es:=(Hm l).map LQ) ?_,h4.trans (Keeps.app _ _),_,rfl,h4.1,FO _ _⟩
  cases l with
  | nil=>show some ((Db []).map D.int)=some ((Hm []).map LQ);rw [Xl];unfold Hm;rw [List.mergeSort_nil];rfl
  | cons x l=>
   unfold Jz;rw [show JK (QY (eT D.int) (x :: l))=none from rfl,show LZ (QY (eT D.int) (x :: l))=some (x :: l) from TV _ hl]
 ·cases h2
theorem KW (ha:VE A a (rV (eT enc)) pl):VI A (DX a) enc pl:=λl hv S0 e F S hs=>by
 obtain ⟨d,S',h3,h4,rfl⟩:=ha l hv S0 e F S hs;exact ⟨_,S',Pl (xs:=l.map enc) h3,h4,λ_ _ _ _=>rfl⟩
theorem Y5 (ha:VE A a (rN (oL enc)) pl):VI A (DX a) enc pl:=λl hv S0 e F S hs=>by
 obtain ⟨d,S',h3,h4,n,rfl,h5,h6⟩:=ha l hv S0 e F S hs;exact ⟨_,S',JL h3 h6,h4,λF2 S2 hF h=>Eu (h n _ (hF _ _ (T5 h5 h6)))⟩
theorem gK {i:Nat} {l:List α} (h:A[i]?=some (.z (oL enc l))):VI A (DX (AF i)) enc (some l):=λ_ hv S0 e F S hs=>by
 cases hv;obtain ⟨x,h1,n,rfl,h2⟩:=hs.sl i _ h;have hn:=hs.fz _ _ h2;exact ⟨_,S,JL (n:=n) (by unfold AF;rw [h1]) hn,Keeps.refl S,λF2 S2 hF h=>Eu (h n _ (hF _ _ (by rw [GF (Bf hn)];exact h2)))⟩
theorem HW {i:Nat} {l:List α} (h:A[i]?=some (.y (oL enc l))):VI A (DX (AF i)) enc (some l):=λ_ hv S0 e F S hs=>by
 cases hv;obtain ⟨x,h1,n,rfl,h2,_⟩:=hs.sl i _ h;have hn:=hs.fz _ _ h2;exact ⟨_,S,JL (n:=n) (by unfold AF;rw [h1]) hn,Keeps.refl S,λF2 S2 hF h=>Eu (h n _ (hF _ _ (by rw [GF (Bf hn)];exact h2)))⟩
theorem gH (ha:VE A a (rO (oL enc)) pl):VK A (DX a) enc pl:=λl hv S0 e F S hs=>by
 obtain ⟨d,S',h3,h4,n,rfl,h6⟩:=ha l hv S0 e F S hs;exact ⟨_,S',JL h3 h6,h4,λS2 k=>Eu (k.at h6)⟩
def LR (lo:Int) (n:Nat):List Int:=(Cc n).map λi:Nat=>lo+i
def QJ (j:Int):Option (List Int):=if -1000000<=j/\j<=1000000 then some (LR 0 j.toNat) else none
def U9 (i j:Int):Option (List Int):=if -1000000<=i/\i<=1000000/\-1000000<=j/\j<=1000000 then some (LR i (j - i).toNat) else none
theorem Ze (lo:Int) (n:Nat):Hq lo n=(LR lo n).map D.int:=by
 unfold Hq LR;rw [BX];rfl
theorem Gh (ha:VE A a (rV D.int) pi):VI A (iR1 (AN a BE)) D.int (pi.bind QJ):=λl hv S0 e F S hs=>by
 obtain ⟨j,h1,h2⟩:=A4 hv;obtain ⟨d,S',h3,h4,rfl⟩:=ha j h1 S0 e F S hs;unfold QJ at h2;split at h2
 ·rename_i hj
  cases h2;exact ⟨_,S',ag (j:=j) (Cg h3 rfl) hj.1 hj.2,h4,λ_ _ _ _=>congrArg some (Ze _ _)⟩
 ·cases h2
theorem K0 {pj:Option Int} (ha:VE A a (rV D.int) pi) (hb:VE A b (rV D.int) pj):VI A (iR2 (AN a (AN b BE))) D.int (pi.bind λi=>pj.bind λj=>U9 i j):=λl hv S0 e F S hs=>by
 obtain ⟨i,h1,hv⟩:=A4 hv;obtain ⟨j,h0,h2⟩:=A4 hv;obtain ⟨d,S1,h3,h4,rfl⟩:=ha i h1 S0 e F S hs;obtain ⟨d,S2,h5,h6,rfl⟩:=hb j h0 S0 e _ S1 (hs.grow h4);unfold U9 at h2;split at h2
 ·rename_i hj
  cases h2;exact ⟨_,S2,i4 (i:=i) (j:=j) (Cg h3 (Cg h5 rfl)) hj.1 hj.2.1 hj.2.2.1 hj.2.2.2,h4.trans h6,λ_ _ _ _=>congrArg some (Ze _ _)⟩
 ·cases h2
theorem gF (ha:VE A a (rO (oL enc)) pl):VK A (Wr a) enc (pl.bind λl=>some l.reverse):=λv hv S0 e F S hs=>by
 obtain ⟨l,h1,h2⟩:=A4 hv;cases h2;obtain ⟨d,S',h3,h4,n,rfl,hn⟩:=ha l h1 S0 e F S hs;refine ⟨Ss (.ref n) (l.map enc).length,S',?_,h4,λS2 k=>?_⟩
 ·unfold Wr
  rw [h3];dsimp only [Res.bind];rw [Mt hn]
 ·unfold Ss
  rw [Mt (k.at hn)];dsimp only;rw [if_pos rfl,OW]
end
end
end L4
namespace L4
open PySem L2
section
variable {S0 S S':Sto} {A B:List Sl} {e:Lo} {F:Fz} {α β γ δ ρ σ τ κ κ':Type}
def oDK (enc:α->D) (l:List (Int×α)):Ob:=.dK (l.map λx=>(E7 x.1,enc x.2))
def kP (x:Int×Int):List Key:=[E7 x.1,E7 x.2]
def oDP (enc:α->D) (l:List ((Int×Int)×α)):Ob:=.dT (l.map λx=>(kP x.1,enc x.2))
theorem Sy [DecidableEq κ] [DecidableEq κ'] {kk:κ->κ'} (hk:∀x y,kk x=kk y->x=y) (f:α->β) (l:List (κ×α)) (k:κ):A7 (l.map λx=>(kk x.1,f x.2)) (kk k)=(A7 l k).map f:=by
 unfold A7
 induction l with
 | nil=>rfl
 | cons x l ih=>
  rw [A3,Bx,Bx]
  by_cases c:x.1=k
  ·rw [decide_eq_true c,decide_eq_true (show kk x.1=kk k by rw [c])]
   rfl
  ·rw [decide_eq_false c,decide_eq_false λz=>c (hk _ _ z)]
   exact ih
theorem Ta [DecidableEq κ] [DecidableEq κ'] {kk:κ->κ'} (hk:∀x y,kk x=kk y->x=y) (f:α->β) (l:List (κ×α)) (k:κ) (v:α):CL (l.map λx=>(kk x.1,f x.2)) (kk k) (f v)=(CL l k v).map λx=>(kk x.1,f x.2):=by
 have any:((l.map λx=>(kk x.1,f x.2)).any λkv=>decide (kv.1=kk k))=l.any λkv=>decide (kv.1=k):=by
  rw [UR]
  congr 1
  funext x
  exact decide_eq_decide.mpr ⟨hk _ _,λz=>congrArg kk z⟩
 unfold CL;rw [any];split
 ·rw [BX,BX]
  refine Cd λx _=>?_
  show (if kk x.1=kk k then (kk x.1,f v) else (kk x.1,f x.2))=_
  by_cases c:x.1=k
  ·show _=(λx:κ×α=>(kk x.1,f x.2)) (if x.1=k then (x.1,v) else x)
   rw [if_pos c,if_pos (show kk x.1=kk k by rw [c])]
  ·show _=(λx:κ×α=>(kk x.1,f x.2)) (if x.1=k then (x.1,v) else x)
   rw [if_neg c,if_neg λz=>c (hk _ _ z)]
 ·rw [Ch]
  rfl
theorem Wq (x y:Int) (h:(E7 x:Key)=E7 y):x=y:=by cases h;rfl
theorem aW (x y:Int×Int) (h:kP x=kP y):x=y:=by
 obtain ⟨a,b⟩:=x;obtain ⟨c,d⟩:=y;unfold kP at h;cases h;rfl
theorem bH {enc:α->D} {l:List (Int×α)} {n:Nat} {S:Sto} (h:S[n]?=some (oDK enc l)) (k:Int):OS (.ref n) (.int k) S=some ((A7 l k).map enc):=by
 unfold OS;dsimp only;rw [h];show some (A7 _ (E7 k))=_;rw [Sy Wq]
theorem bG {enc:α->D} {l:List ((Int×Int)×α)} {n:Nat} {S:Sto} (h:S[n]?=some (oDP enc l)) (k:Int×Int):OS (.ref n) (eP D.int D.int k) S=some ((A7 l k).map enc):=by
 unfold OS;dsimp only;rw [h];show some (A7 _ (kP k))=_;rw [Sy aW]
theorem SF {n:Nat} {y:D} {S:Sto} {o:Option D} (hq:Gi (.ref n) S=none) (h:OS (.ref n) y S=some o) (neg:Bool):inA neg y (.ref n) S=.ok (.bl (if neg then !o.isSome else o.isSome)) S:=by
 show Hs (inD neg y (.ref n) S) (Kp neg y (.ref n) S)=_;rw [show inD neg y (.ref n) S=.bad by unfold inD;rw [hq]];show Kp neg y (.ref n) S=_;unfold Kp;rw [h]
theorem bF {n:Nat} {y:D} {S:Sto} {d:D} (hq:Gi (.ref n) S=none) (h:OS (.ref n) y S=some (some d)):ixA (.ref n) y S=.ok d S:=by
 show Hs (ixD (.ref n) y S) (Pp (.ref n) y S)=_;rw [show ixD (.ref n) y S=.bad by unfold ixD;rw [hq]];show Pp (.ref n) y S=_;unfold Pp;rw [h]
theorem g7 {enc:α->D} {l:List (Int×α)} {n:Nat} {S:Sto} (h:S[n]?=some (oDK enc l)):Gi (.ref n) S=none:=by unfold Gi;dsimp only;rw [h];rfl
theorem gz {enc:α->D} {l:List ((Int×Int)×α)} {n:Nat} {S:Sto} (h:S[n]?=some (oDP enc l)):Gi (.ref n) S=none:=by unfold Gi;dsimp only;rw [h];rfl
section
variable {a b m:ME} {enc:α->D}
theorem ZH:VE A Rr (rN (oDP enc)) (some []):=λv hv S0 e F S hs=>by cases hv;exact ⟨_,_,rfl,Keeps.app _ _,_,rfl,AU _,FO _ _⟩
theorem ZG {pk:Option Int} {pl:Option (List (Int×α))} (ha:VE A a (rV D.int) pk) (hb:VE A b (rO (oDK enc)) pl):VE A (m2 (inA true) a b) (rV D.bl) (pk.bind λx=>pl.bind λl=>some (!(A7 l x).isSome)):=O2 ha hb λx l z S n hn q=>by cases q;rw [SF (g7 hn) (bH hn x)];simp
theorem cO {pk:Option (Int×Int)} {pl:Option (List ((Int×Int)×α))} (ha:VE A a (rV (eP D.int D.int)) pk) (hb:VE A b (rO (oDP enc)) pl):VE A (m2 (inA false) a b) (rV D.bl) (pk.bind λx=>pl.bind λl=>some (A7 l x).isSome):=O2 ha hb λx l z S n hn q=>by cases q;rw [SF (gz hn) (bG hn x)];simp
theorem ZF {pk:Option (Int×Int)} {pl:Option (List ((Int×Int)×α))} (ha:VE A a (rV (eP D.int D.int)) pk) (hb:VE A b (rO (oDP enc)) pl):VE A (m2 (inA true) a b) (rV D.bl) (pk.bind λx=>pl.bind λl=>some (!(A7 l x).isSome)):=O2 ha hb λx l z S n hn q=>by cases q;rw [SF (gz hn) (bG hn x)];simp
theorem Sv {pk:Option (Int×Int)} {pl:Option (List ((Int×Int)×α))} (ha:VE A a (rO (oDP enc)) pl) (hb:VE A b (rV (eP D.int D.int)) pk):VE A (m2 ixA a b) (rV enc) (pl.bind λl=>pk.bind λx=>A7 l x):=ZI ha hb λl x z S n hn q=>bF (gz hn) (by rw [bG hn x,q];rfl)
def Kd [DecidableEq κ] (l:List (κ×α)) (k:κ) (v:α):Option (List (κ×α)):=if l.length < 1000000 then some (CL l k v) else none
theorem cG {ek:κ->D} [DecidableEq κ] {ob:List (κ×α)->Ob} {R:Rk ρ} {p:Option α} {pk:Option κ} {i:Nat} {l:List (κ×α)}
  (hput:∀(l:List (κ×α)) (k:κ) (v:α) (S:Sto) (n:Nat),S[n]?=some (ob l)->l.length < 1000000->UA (.ref n) (ek k) (enc v) S=some (S.set n (ob (CL l k v))))
  (hi:A[i]?=some (.w i (ob l))) (hk:VE A b (rV ek) pk) (h:VE A m (rV enc) p) (ht:((A.set i .u).all (Sl.oth i))=true) :
  VS A (De (AF i) b m) R (p.bind λv=>pk.bind λk=>(Kd l k v).bind λl'=>some (.nx l')) (λl'=>A.set i (.w i (ob l'))):=λf hf S0 e F S hs=>by
 obtain ⟨v,h1,h2⟩:=A4 hf;obtain ⟨k,h2',h3⟩:=A4 h2;obtain ⟨l',h4,h0⟩:=A4 h3;cases h0;unfold Kd at h4;split at h4
 ·rename_i hl
  cases h4;obtain ⟨x,g1,n,rfl,g2,g3⟩:=hs.sl i _ hi;obtain ⟨d,S1,h5,h6,rfl⟩:=h v h1 S0 e F S hs;obtain ⟨d,S2,h7,h8,rfl⟩:=hk k h2' S0 e _ S1 (hs.grow h6);have hg:=(hs.grow h6).grow h8;have hn:=(h6.trans h8).at g3
  have hx:De (AF i) b m e S=.ok (.nx e) (S2.set n (ob (CL l k v))):=by
   unfold De;rw [h5];dsimp only [Res.lift];rw [show AF i e S1=.ok (.ref n) S1 by unfold AF;rw [g1]];dsimp only;rw [h7];dsimp only;rw [hput l k v S2 n hn hl]
  have hF:Nn (Nn F S S1) S1 S2 n=.ow i:=by rw [GF (Bf (h6.at g3)),GF (Bf g3)];exact g2
  exact ⟨_,_,hx,e,_,rfl,hg.put ht hi g1 hF,(hs.fle S1).trans ((hs.grow h6).fle S2)⟩
 ·cases h4
theorem Sq {R:Rk ρ} {p:Option α} {pk:Option (Int×Int)} {i:Nat} {l:List ((Int×Int)×α)} (hi:A[i]?=some (.w i (oDP enc l))) (hk:VE A b (rV (eP D.int D.int)) pk) (h:VE A m (rV enc) p) (ht:((A.set i .u).all (Sl.oth i))=true) :
  VS A (De (AF i) b m) R (p.bind λv=>pk.bind λk=>(Kd l k v).bind λl'=>some (.nx l')) (λl'=>A.set i (.w i (oDP enc l'))):=
 cG (λl k v S n hn hl=>by
  unfold UA;dsimp only;rw [hn];show (if (l.map _).length < sizeLine then some (S.set n (.dT (CL (l.map λx=>(kP x.1,enc x.2)) (kP k) (enc v)))) else none)=_;rw [if_pos (by rw [AH];exact df hl),Ta aW]
  rfl) hi hk h ht
theorem Y2 {b:MS} {R:Rk ρ} {B:σ->List Sl}:VS A b R none B:=λf hf=>by cases hf
end
end
end L4
namespace L4
open PySem L2
section
variable {α β γ ρ σ τ:Type}
theorem Bm {s:σ} {q:σ->Option (Fw ρ τ)}:BV (some (.nx s)) q=q s:=rfl
theorem bQ {r:ρ} {q:σ->Option (Fw ρ τ)}:BV (some (.rt r)) q=some (.rt r):=rfl
theorem Wc {r:ρ}:IL (some (.rt r:Fw ρ σ))=some r:=rfl
theorem dO {s:σ}:Z1 (some (.nx s))=some ():=rfl
theorem SB {l:List α} {q:σ->α->Option (Fw ρ σ)} {s0:σ} (I:List α->σ->Prop) (h0:I [] s0) (h:∀pre x s,x∈l->pre++[x] <+: l->I pre s->∃s',q s x=some (.nx s')/\I (pre++[x]) s'):∃s,Fe l s0 q=some (.nx s)/\I l s:=by
 have key:∀(r pre:List α) (s:σ),l=pre++r->I pre s->∃s',Fe r s q=some (.nx s')/\I l s':=by
  intro r
  induction r with
  | nil=>intro pre s e hI;rw [A5] at e;subst e;exact ⟨s,rfl,hI⟩
  | cons x r ih=>
   intro pre s e hI;obtain ⟨s',h1,h2⟩:=h pre x s (by rw [e];simp) ⟨r,by rw [e];simp⟩ hI;obtain ⟨s2,h3,h4⟩:=ih (pre++[x]) s' (by rw [e];simp) h2;refine ⟨s2,?_,h4⟩;unfold Fe;rw [h1];exact h3
 exact key l [] s0 rfl h0
theorem aw {l:List α} {q:σ->α->Option (Fw ρ σ)} {s0:σ} (I:List α->σ->Prop) (R:ρ->Prop) (h0:I [] s0) (h:∀pre x s,x∈l->pre++[x] <+: l->I pre s->(∃s',q s x=some (.nx s')/\I (pre++[x]) s')∨∃r,q s x=some (.rt r)/\R r):(∃s,Fe l s0 q=some (.nx s)/\I l s)∨∃r,Fe l s0 q=some (.rt r)/\R r:=by
 have key:∀(r pre:List α) (s:σ),l=pre++r->I pre s->(∃s',Fe r s q=some (.nx s')/\I l s')∨∃y,Fe r s q=some (.rt y)/\R y:=by
  intro r
  induction r with
  | nil=>intro pre s e hI;rw [A5] at e;subst e;exact .inl ⟨s,rfl,hI⟩
  | cons x r ih=>
   intro pre s e hI
   rcases h pre x s (by rw [e];simp) ⟨r,by rw [e];simp⟩ hI with ⟨s',h1,h2⟩ | ⟨y,h1,h2⟩
   ·have e':Fe (x :: r) s q=Fe r s' q:=by
     conv=>lhs;unfold Fe
     rw [h1]
    rw [e'];exact ih (pre++[x]) s' (by rw [e];simp) h2
   ·refine .inr ⟨y,?_,h2⟩
    unfold Fe;rw [h1]
 exact key l [] s0 rfl h0
theorem bN {l:List α} {c:α->Option Bool} {m:α->Option β} {P:α->Bool} {f:α->β} (hc:∀x∈l,c x=some (P x)) (hm:∀x∈l,P x=true->m x=some (f x)):Pr c m l=some ((l.filter P).map f):=by
 induction l with
 | nil=>rfl
 | cons x l ih=>
  have ih:=ih (λy hy=>hc y (Aa _ hy)) λy hy=>hm y (Aa _ hy)
  unfold Pr;rw [hc x Ax];show (if P x=true then _ else _)=_
  cases hp:P x with
  | true=>
   rw [if_pos rfl,hm x Ax hp,ih,Sk hp];rfl
  | false=>
   rw [if_neg AK,ih,Sm (by rw [hp];exact AK)]
theorem M1 {l:List α} {c:α->Option Bool} {m:α->Option β} {P:α->Bool} {f:α->β} (hl:l.length<=1000000) (hc:∀x∈l,c x=some (P x)) (hm:∀x∈l,P x=true->m x=some (f x)):Dk l c m=some ((l.filter P).map f):=by
 unfold Dk;rw [if_pos hl,bN hc hm]
theorem FZ {l:List α} {m:α->Option β} {f:α->β} (hl:l.length<=1000000) (hm:∀x∈l,m x=some (f x)):Dk l (λ_=>some true) m=some (l.map f):=by
 rw [M1 (P:=λ_=>true) hl (λ_ _=>rfl) λx hx _=>hm x hx,List.filter_eq_self.mpr λ_ _=>rfl]
theorem IB {l:List α} {c:α->Option Bool} {P:α->Bool} (hl:l.length<=1000000) (hc:∀x∈l,c x=some (P x)):Dk l c (λx=>some x)=some (l.filter P):=by
 rw [M1 (f:=λx=>x) hl hc λx hx _=>rfl,jp]
theorem eY {l:List α} {x:α} (h:l.length < 1000000):Yb l x=some (l++[x]):=if_pos h
theorem LL {l k:List α} (h:l.length+k.length<=1000000):KB l k=some (l++k):=if_pos h
theorem eG {l:List α} (h:l.length<=1000000):Gp l=some l:=if_pos h
theorem lc:Gp ([]:List α)=some []:=rfl
theorem eI (a:α):Gp [a]=some [a]:=if_pos (by simp)
theorem WX {j:Int} (h0:-1000000<=j) (h1:j<=1000000):QJ j=some (LR 0 j.toNat):=if_pos ⟨h0,h1⟩
theorem cr {i j:Int} (h0:-1000000<=i) (h1:i<=1000000) (h2:-1000000<=j) (h3:j<=1000000):U9 i j=some (LR i (j - i).toNat):=if_pos ⟨h0,h1,h2,h3⟩
theorem Ht {lo:Int} {n:Nat} {x:Int}:x∈LR lo n↔lo<=x/\x < lo+n:=by
 unfold LR;rw [A9]
 constructor
 ·rintro ⟨k,hk,rfl⟩
  have:=QX.mp hk;omega
 ·rintro ⟨h1,h2⟩
  exact ⟨(x - lo).toNat,QX.mpr (by omega),by omega⟩
theorem Ho (lo:Int) (n:Nat):(LR lo n).length=n:=by unfold LR;rw [AH,List.length_range]
theorem V1 {l:List α} {i:Int} (h0:0<=i) (h1:i < l.length):∃x,atI l i=some x/\l[i.toNat]?=some x:=by
 have hlt:i.toNat < l.length:=by omega
 exact ⟨l[i.toNat],Px h0 (B0 hlt),B0 hlt⟩
theorem XF {l:List α} {i:Int} {x:α} (h:atI l i=some x):x∈l:=by
 unfold atI at h;obtain ⟨j,_,h2⟩:=A4 h;exact CT h2
theorem XD {l:List α} (k:Int) (h:l≠[]):∃x,atI l (k % (l.length:Int))=some x/\x∈l:=by
 have hl:0 < (l.length:Int):=by have:=MN.mpr h;omega
 obtain ⟨x,h1,_⟩:=V1 (l:=l) (i:=k % (l.length:Int)) (fC _ (by omega)) (Yz _ hl);exact ⟨x,h1,XF h1⟩
theorem Rq {x y:Int} (h:0 < y):VY x y=some (x % y):=if_pos h
theorem T4 (P:α->Bool) (l:List α) (x:α):(l++[x]).filter P=if P x=true then l.filter P++[x] else l.filter P:=by
 rw [List.filter_append]
 cases c:P x with
 | true=>rw [if_pos rfl,Sk c];rfl
 | false=>rw [if_neg AK,Sm (by rw [c];exact AK)];simp
theorem NY [DecidableEq α]:∀ {l k:List α},l.Nodup->(∀x∈l,x∈k)->l.length<=k.length
 | [],_,_,_=>C0 _
 | x :: l,k,nd,h=>by
  have hx:=h x Ax;obtain ⟨n1,n2⟩:=Bw.mp nd
  have:=NY (l:=l) (k:=k.erase x) n2 λy hy=>(List.mem_erase_of_ne (λz:y=x=>n1 (by rw [<-z];exact hy))).mpr (h y (Aa _ hy))
  rw [List.length_erase_of_mem hx] at this;have:=List.length_pos_of_mem hx;rw [As];omega
def Ok (p:Option α) (P:α->Prop):Prop:=∃v,p=some v/\P v
theorem Ok.pure {v:α} {P:α->Prop} (h:P v):Ok (some v) P:=⟨v,rfl,h⟩
theorem Ok.is {p:Option α} {v:α} (h:Ok p λr=>r=v):p=some v:=by
 obtain ⟨_,h1,rfl⟩:=h;exact h1
theorem Ok.bind {p:Option α} {q:α->Option β} {P:α->Prop} {Q:β->Prop} (h:Ok p P) (hq:∀v,P v->Ok (q v) Q):Ok (p.bind q) Q:=by
 obtain ⟨v,rfl,h⟩:=h;exact hq v h
theorem Ok.imp {p:Option α} {P Q:α->Prop} (h:Ok p P) (i:∀v,P v->Q v):Ok p Q:=by
 obtain ⟨v,rfl,h⟩:=h;exact ⟨v,rfl,i v h⟩
def OkF (p:Option (Fw ρ σ)) (N:σ->Prop) (R:ρ->Prop):Prop:=(∃s,p=some (.nx s)/\N s)∨∃r,p=some (.rt r)/\R r
theorem OkF.nx {s:σ} {N:σ->Prop} {R:ρ->Prop} (h:N s):OkF (some (.nx s)) N R:=.inl ⟨s,rfl,h⟩
theorem OkF.rt {r:ρ} {N:σ->Prop} {R:ρ->Prop} (h:R r):OkF (some (.rt r)) N R:=.inr ⟨r,rfl,h⟩
theorem OkF.seq {p:Option (Fw ρ σ)} {q:σ->Option (Fw ρ τ)} {N:σ->Prop} {N':τ->Prop} {R:ρ->Prop} (h:OkF p N R) (hq:∀s,N s->OkF (q s) N' R):OkF (BV p q) N' R:=by
 rcases h with ⟨s,rfl,h⟩ | ⟨r,rfl,h⟩
 ·exact hq s h
 ·exact .inr ⟨r,rfl,h⟩
theorem OkF.map {p:Option (Fw ρ σ)} {g:σ->τ} {N:σ->Prop} {N':τ->Prop} {R:ρ->Prop} (h:OkF p N R) (hg:∀s,N s->N' (g s)):OkF (Hu g p) N' R:=by
 rcases h with ⟨s,rfl,h⟩ | ⟨r,rfl,h⟩
 ·exact .inl ⟨_,rfl,hg s h⟩
 ·exact .inr ⟨r,rfl,h⟩
theorem OkF.for {l:List α} {q:σ->α->Option (Fw ρ σ)} {s0:σ} {R:ρ->Prop} (I:List α->σ->Prop) (h0:I [] s0) (h:∀pre x s,x∈l->pre++[x] <+: l->I pre s->OkF (q s x) (I (pre++[x])) R):OkF (Fe l s0 q) (I l) R:=aw I R h0 h
theorem OkF.out {p:Option (Fw ρ σ)} {R:ρ->Prop} (h:OkF p (λ_=>False) R):Ok (IL p) R:=by
 rcases h with ⟨s,rfl,h⟩ | ⟨r,rfl,h⟩
 ·exact h.elim
 ·exact ⟨r,rfl,h⟩
theorem VF.law {f:List D->Sto->Res D} {ns:List Int} (h:VF f [.v (eF ns)] (rV D.bl) (some true)):∃S',f [.fro (ns.map D.int)] []=.ok (.bl true) S':=by
 obtain ⟨d,S',h1,_,rfl⟩:=h true rfl [] [.fro (ns.map D.int)] ⟨rfl,trivial⟩;exact ⟨S',h1⟩
end
end L4
namespace L4
open PySem L2
section
variable {A:List Sl} {a b m:ME} {pa pb:Option Int}
def ZZ (x y:Int):Option Int:=if ej x y then some (x * 2 ^ y.toNat) else none
def ci (x y:Int):Option Int:=if 0<=y then some (x / 2 ^ y.toNat) else none
theorem ZA (ha:VE A a (rV D.int) pa) (hb:VE A b (rV D.int) pb):VE A (m2 cj a b) (rV D.int) (pa.bind λx=>pb.bind λy=>ZZ x y):=HR ha hb λx y z S h=>by
 unfold ZZ at h;split at h
 ·rename_i hc;cases h;exact if_pos hc
 ·cases h
theorem gN (ha:VE A a (rV D.int) pa) (hb:VE A b (rV D.int) pb):VE A (m2 TK a b) (rV D.int) (pa.bind λx=>pb.bind λy=>ci x y):=HR ha hb λx y z S h=>by
 unfold ci at h;split at h
 ·rename_i hc;cases h;exact if_pos hc
 ·cases h
theorem cQ (ha:VE A a (rV D.int) pa) (hb:VE A b (rV D.int) pb):VE A (m2 UI a b) (rV D.int) (pa.bind λx=>pb.bind λy=>some (Fg x y)):=HR ha hb λx y z S h=>by cases h;rfl
theorem cP (ha:VE A a (rV D.int) pa) (hb:VE A b (rV D.int) pb):VE A (m2 fx a b) (rV D.int) (pa.bind λx=>pb.bind λy=>some (DN x y)):=HR ha hb λx y z S h=>by cases h;rfl
theorem cS (h:VE A m (rV D.int) pa):VB A (HI m) (pa.bind λx=>some (x != 0)):=λv hv S0 e F S hs=>by
 obtain ⟨l,h1,h2⟩:=A4 hv;cases h2;obtain ⟨d,S',h3,h4,rfl⟩:=h l h1 S0 e F S hs;refine ⟨S',?_,h4⟩;unfold HI;rw [h3];rfl
end
section
variable {A:List Sl} {a m:ME} {α ρ:Type} {enc:α->D}
def Ko (l:List α):List (Int×α):=l.zipIdx.map λx=>(((x.2+1:Nat):Int),x.1)
theorem Vu (l:List α):Ic (l.map enc)=(Ko l).map (eP D.int enc):=by
 unfold Ic Ko;rw [List.zipIdx_map,BX,BX];rfl
theorem Y6 {pl:Option (List α)} (ha:VE A a (rV (eT enc)) pl):VI A (Oh a) (eP D.int enc) (pl.bind λl=>some (Ko l)):=λv hv S0 e F S hs=>by
 obtain ⟨l,h1,h2⟩:=A4 hv;cases h2;obtain ⟨d,S',h3,h4,rfl⟩:=ha l h1 S0 e F S hs;refine ⟨GX (Ic (l.map enc)),S',?_,h4,λF2 S2 hF h=>?_⟩
 ·unfold Oh
  rw [h3];rfl
 ·show some (Ic (l.map enc))=_
  rw [Vu]
theorem Xa {pl:Option (List Int)} (ha:VE A a (rV (eT D.int)) pl):VE A (D9 a) (rN (oL D.int)) (pl.bind λl=>some (Db l)):=λv hv S0 e F S hs=>by
 obtain ⟨l,h1,h2⟩:=A4 hv;cases h2;obtain ⟨d,S',h3,h4,rfl⟩:=ha l h1 S0 e F S hs;refine ⟨_,_,JE h3 (ds:=l.map D.int) rfl (es:=(Db l).map D.int) ?_,h4.trans (Keeps.app _ _),_,rfl,h4.1,FO _ _⟩;unfold Jz;rw [Mw]
def aH (x:List Int) (l:List (List Int)):Bool:=decide (x∈l)
theorem cN {a b:ME} {pa:Option (List Int)} {pl:Option (List (List Int))} (ha:VE A a (rV (eT D.int)) pa) (hb:VE A b (rO (oL (eT D.int))) pl):VE A (m2 (inA false) a b) (rV D.bl) (pa.bind λx=>pl.bind λl=>some (aH x l)):=O2 ha hb λx l z S n hn q=>by
 cases q;rw [Nc (enc:=eT D.int) (Oj CQ) false x (FA hn)];refine congrArg (λz=>Res.ok (D.bl z) S) ?_;rw [if_neg AK];unfold aH;rw [P3];simp
theorem gC {R:Rk ρ} {i:Nat} {l:List α} (hi:A[i]?=some (.w i (oL enc l))) (ht:((A.set i .u).all (Sl.oth i))=true) :
  VS A (EE (aJ (AF i))) R (some (.nx l.reverse)) (λl'=>A.set i (.w i (oL enc l'))):=λf hf S0 e F S hs=>by
 cases hf;obtain ⟨x,g1,n,rfl,g2,g3⟩:=hs.sl i _ hi
 have hx:aJ (AF i) e S=.ok .non (S.set n (oL enc l.reverse)):=by
  unfold aJ;rw [show AF i e S=.ok (.ref n) S by unfold AF;rw [g1]];dsimp only [Res.bind];rw [show atL (.ref n) S=some (n,l.map enc) by unfold atL;dsimp only;rw [g3];rfl];show Res.ok D.non (S.set n (Ob.lst (l.map enc).reverse))=_;rw [<-OW];rfl
 exact ⟨_,_,LM hx,e,F,rfl,hs.put ht hi g1 g2,Fle.refl F⟩
end
end L4
namespace L4
open PySem L2
section
variable {S0 S S':Sto} {A B:List Sl} {e:Lo} {F:Fz} {α β γ ρ σ τ:Type} {a:ME} {enc:α->D}
theorem GY {n:Nat} {b:MS} {as:List Ar} {R:Rk ρ} {p:Option (Fw ρ σ)} {B:σ->List Sl} (h:VS (as.map Ar.sl++BL (n - as.length) .u) b R p B):VF (ER n b) as R (IL p):=λv hv S ds ha=>by
 cases p with
 | none=>cases hv
 | some x=>
  obtain ⟨g,S',h1,h2⟩:=h _ rfl S _ _ S (Vs.start ha)
  cases x with
  | rt r=>cases hv;obtain ⟨d,rfl,h2,h3⟩:=h2;exact ⟨d,S',L2.Ln h1,h3,h2⟩
  | nx s=>cases hv
  | bk s=>cases hv
  | ct s=>cases hv
theorem Y7 {n:Nat} {b:MS} {as:List Ar} {p:Option (Fw Unit σ)} {B:σ->List Sl} (h:VS (as.map Ar.sl++BL (n - as.length) .u) b (rV eU) p B):VF (ER n b) as (rV eU) (Z1 p):=λv hv S ds ha=>by
 cases p with
 | none=>cases hv
 | some x=>
  obtain ⟨g,S',h1,h2⟩:=h _ rfl S _ _ S (Vs.start ha)
  cases x with
  | rt r=>obtain ⟨d,rfl,h2,h3⟩:=h2;exact ⟨d,S',L2.Ln h1,h3,h2⟩
  | nx s=>obtain ⟨e',F',rfl,h2,h3⟩:=h2;exact ⟨.non,S',L2.Zb h1,h2.kp,rfl⟩
  | bk s=>cases hv
  | ct s=>cases hv
theorem ZD {t T:String} {r:Bool} {p:Option α} (ha:VE A a (rV enc) p) (ht:∀x S,tyD (enc x) S=some T) (hb:isB t T=some r):VE A (L2.mIs (isB t) (λ_=>none) a) (rV D.bl) (p.bind λ_=>some r):=λv hv S0 e F S hs=>by
 obtain ⟨x,h1,h2⟩:=A4 hv;cases h2;obtain ⟨d,S',h3,h4,rfl⟩:=ha x h1 S0 e F S hs;exact ⟨_,S',L2.fN h3 (ht x S') hb,h4,rfl⟩
theorem gX {t:String} {r:Bool} {p:Option (List α)} (ha:VE A a (rO (oL enc)) p) (hb:isB t "list" = some r):VE A (L2.mIs (isB t) (λ_=>none) a) (rV D.bl) (p.bind λ_=>some r):=λv hv S0 e F S hs=>by
 obtain ⟨x,h1,h2⟩:=A4 hv;cases h2;obtain ⟨d,S',h3,h4,n,rfl,hn⟩:=ha x h1 S0 e F S hs;exact ⟨_,S',L2.fN (T:="list") h3 (by unfold tyD;dsimp only;rw [hn];rfl) hb,h4,rfl⟩
end
end L4
namespace L4
open PySem L2
section
variable {κ α:Type} [DecidableEq κ]
theorem C4 (l:List (κ×α)) (k:κ) (v:α) (k':κ):A7 (CL l k v) k'=if k'=k then some v else A7 l k':=by
 have key:∀l:List (κ×α),A7 (l.map λkv=>if kv.1=k then (kv.1,v) else kv) k'=if k'=k then (A7 l k').map (λ_=>v) else A7 l k':=by
  intro l
  induction l with
  | nil=>unfold A7;simp
  | cons x l ih=>
   unfold A7 at ih ⊢;rw [A3,Bx,Bx]
   by_cases c:x.1=k
   ·rw [if_pos c]
    by_cases d:x.1=k'
    ·rw [decide_eq_true d,if_pos (show k'=k from d▸c)]
     rfl
    ·rw [decide_eq_false d]
     exact ih
   ·rw [if_neg c]
    by_cases d:x.1=k'
    ·rw [decide_eq_true d,if_neg (λz:k'=k=>c (d.trans z))]
    ·rw [decide_eq_false d]
     exact ih
 unfold CL;split
 ·rename_i h
  rw [key]
  by_cases c:k'=k
  ·rw [if_pos c,if_pos c]
   subst c
   have:(A7 l k').isSome=true:=by
    unfold A7;rw [GN,Yv];obtain ⟨x,hx,hk⟩:=HC.mp h;exact ⟨x,hx,hk⟩
   obtain ⟨b,hb⟩:=Iu.mp this;rw [hb];rfl
  ·rw [if_neg c,if_neg c]
 ·rename_i h
  unfold A7;rw [List.find?_append]
  by_cases c:k'=k
  ·subst c
   rw [if_pos rfl]
   have:l.find? (λkv=>decide (kv.1=k'))=none:=by
    rw [IS];intro x hx hk;exact h (HC.mpr ⟨x,hx,hk⟩)
   rw [this];simp
  ·rw [if_neg c]
   have:[(k,v)].find? (λkv=>decide (kv.1=k'))=none:=by
    rw [IS];intro x hx;rw [Ag.mp hx];simp
    exact λz=>c z.symm
   rw [this];simp
theorem Kg (l:List (κ×α)) (k:κ) (v:α):(CL l k v).map (·.1)=if k∈l.map (·.1) then l.map (·.1) else l.map (·.1)++[k]:=by
 have h1:(l.any λkv=>decide (kv.1=k))=true↔k∈l.map (·.1):=by
  rw [HC,A9];exact ⟨λ⟨x,hx,e⟩=>⟨x,hx,of_decide_eq_true e⟩,λ⟨x,hx,e⟩=>⟨x,hx,decide_eq_true e⟩⟩
 unfold CL
 by_cases c:k∈l.map (·.1)
 ·rw [if_pos c,if_pos (h1.mpr c),BX]
  refine Cd λx _=>?_
  show (if x.1=k then (x.1,v) else x).1=x.1
  split <;> rfl
 ·rw [if_neg c,if_neg λz=>c (h1.mp z),Ch]
  rfl
theorem JD (l:List (κ×α)) (k:κ):(A7 l k).isSome=true↔k∈l.map (·.1):=by
 unfold A7;rw [GN,Yv,A9];exact ⟨λ⟨x,hx,e⟩=>⟨x,hx,of_decide_eq_true e⟩,λ⟨x,hx,e⟩=>⟨x,hx,decide_eq_true e⟩⟩
end
def hb (bits x:Int):Bool:=Fg (bits / 2 ^ x.toNat) 1 != 0
abbrev HL:=List (Int×Int)
abbrev QL:=List (Int×Bool)
def Lb (st:HL->Int->QL->Option (Bool×HL×QL)) (g:Int):List Int->HL->QL->Option (Bool×HL×QL)
 | [],H,Q=>some (false,H,Q)
 | x :: r,H,Q=>if (A7 Q x).isSome=true then Lb st g r H Q else (Kd Q x true).bind λQ1=>(A7 H x).bind λg2=>(st H g2 Q1).bind λz=>if z.1=true then (Kd z.2.1 x g).bind λH'=>some (true,H',z.2.2) else Lb st g r z.2.1 z.2.2
def Gx (T:Int->List Int) (bits:Int):Nat->HL->Int->QL->Option (Bool×HL×QL)
 | 0,_,_,_=>none
 | n+1,H,g,Q=>match ((T g).filter λx=>hb bits x&&!(A7 Q x).isSome).find? (λx=>!(A7 H x).isSome) with
  | some x=>(Kd H x g).bind λH'=>some (true,H',Q)
  | none=>Lb (Gx T bits n) g ((T g).filter λx=>hb bits x&&!(A7 Q x).isSome) H Q
section
variable {T:Int->List Int} {bits:Int} {U:List Int} {Gd:Int->Prop}
abbrev w0 (T:Int->List Int) (bits g:Int):List Int:=(T g).filter (hb bits)
structure KOk {α:Type} (U:List Int) (l:List (Int×α)):Prop where
 nd:(l.map (·.1)).Nodup
 sub:∀x∈l.map (·.1),x∈U
theorem KOk.len {α:Type} {l:List (Int×α)} (h:KOk U l):l.length<=U.length:=by
 have:=NY h.nd h.sub;rwa [AH] at this
theorem KOk.put {α:Type} {l:List (Int×α)} (h:KOk U l) {x:Int} (hx:x∈U) (v:α):KOk U (CL l x v):=by
 by_cases c:x∈l.map (·.1)
 ·exact ⟨by rw [Kg,if_pos c];exact h.nd,by rw [Kg,if_pos c];exact h.sub⟩
 ·refine ⟨?_,?_⟩
  ·rw [Kg,if_neg c]
   unfold HD;rw [BG];exact ⟨h.nd,by simp,λa ha b hb' z=>c (by rw [Ag.mp hb'] at z;rw [<-z];exact ha)⟩
  ·rw [Kg,if_neg c]
   intro y hy
   rcases BB.mp hy with hy | hy
   ·exact h.sub y hy
   ·rw [Ag.mp hy];exact hx
theorem KOk.more {α:Type} {l:List (Int×α)} {x:Int} (c:(A7 l x).isSome=false) (v:α):(CL l x v).length=l.length+1:=by
 have h1:x∉l.map (·.1):=λz=>by rw [(JD l x).mpr z] at c;cases c
 have:=congrArg HQ (Kg l x v);rw [if_neg h1,AH,AW,AH] at this;exact this
def MOn (T:Int->List Int) (bits:Int) (P:Int->Prop) (H:HL):Prop:=(∀x,P x->∀a,A7 H x=some a->x∈w0 T bits a)/\∀x y a,P x->P y->A7 H x=some a->A7 H y=some a->x=y
abbrev sn (Q:QL) (x:Int):Prop:=(A7 Q x).isSome=true
def Good (T:Int->List Int) (bits:Int) (H:HL) (g:Int) (Q:QL) (H':HL):Prop:=
 (∀x,sn Q x->A7 H' x=A7 H x)/\(MOn T bits (λx=>¬sn Q x) H->(∀x,¬sn Q x->A7 H x≠some g)->MOn T bits (λx=>¬sn Q x) H'/\∀a,(∃x,¬sn Q x/\A7 H' x=some a)↔a=g∨∃x,¬sn Q x/\A7 H x=some a)
def Clo (T:Int->List Int) (bits:Int) (H:HL) (Q Q':QL):Prop:=∀x,sn Q' x->sn Q x∨∃a,A7 H x=some a/\∀y∈w0 T bits a,sn Q' y
structure lr (T:Int->List Int) (bits:Int) (U:List Int) (Gd:Int->Prop) (H:HL) (g:Int) (Q:QL) (z:Bool×HL×QL):Prop where
 h1:KOk U z.2.1
 h2:KOk U z.2.2
 h3:∀x a,A7 z.2.1 x=some a->Gd a
 h4:∀x,sn Q x->sn z.2.2 x
 h5:z.1=false->z.2.1=H/\(∀x∈w0 T bits g,sn z.2.2 x)/\Clo T bits H Q z.2.2
 h6:z.1=true->Good T bits H g Q z.2.1
theorem Re {α:Type} {l:List (Int×α)} (h:KOk U l) (hU:U.length < 1000000) (x:Int) (v:α):Kd l x v=some (CL l x v):=if_pos (BW h.len hU)
theorem Io {Q:QL} {x y:Int}:sn (CL Q x true) y↔y=x∨sn Q y:=by
 unfold sn;rw [C4]
 by_cases c:y=x
 ·rw [if_pos c];simp [c]
 ·rw [if_neg c];simp [c]
theorem TM (hT:∀g,Gd g->∀x∈T g,x∈U) (hU:U.length < 1000000):∀(n:Nat) (H:HL) (g:Int) (Q:QL),KOk U H->KOk U Q->(∀x a,A7 H x=some a->Gd a)->Gd g->U.length < n+Q.length->Ok (Gx T bits n H g Q) (lr T bits U Gd H g Q):=by
 intro n
 induction n with
 | zero=>intro H g Q hH hQ hG hg hn;exact absurd hQ.len (by omega)
 | succ n ih=>
  intro H g Q hH hQ hG hg hn;unfold Gx
  have wm:∀x,x∈(T g).filter (λx=>hb bits x&&!(A7 Q x).isSome)↔x∈w0 T bits g/\¬sn Q x:=by
   intro x;unfold w0 sn;rw [BA,BA]
   cases A7 Q x <;> simp
  generalize (T g).filter (λx=>hb bits x&&!(A7 Q x).isSome)=w at wm
  have wU:∀x∈w,x∈U:=λx hx=>hT g hg x (BA.mp ((wm x).mp hx).1).1
  cases hf:w.find? (λx=>!(A7 H x).isSome) with
  | some x=>
   have hx:=List.mem_of_find?_eq_some hf
   have hfree:A7 H x=none:=by
    have:=List.find?_some hf
    cases q:A7 H x with
    | none=>rfl
    | some a=>rw [q] at this;cases this
   obtain ⟨x1,x2⟩:=(wm x).mp hx;show Ok ((Kd H x g).bind _) _;rw [Re hH hU];refine .pure ⟨hH.put (wU x hx) g,hQ,λy a hy=>?_,λ_ h=>h,λz=>(by cases z),λ_=>⟨λy hy=>?_,λm ng=>⟨⟨λy hy a e=>?_,λy z a hy hz e1 e2=>?_⟩,λa=>⟨?_,?_⟩⟩⟩⟩
   ·rw [show A7 (true,CL H x g,Q).2.1 y=if y=x then some g else A7 H y from C4 _ _ _ _] at hy
    split at hy
    ·cases hy;exact hg
    ·exact hG y a hy
   ·show A7 (CL H x g) y=_
    rw [C4,if_neg λc:y=x=>x2 (by rw [<-c];exact hy)]
   ·rw [show A7 (true,CL H x g,Q).2.1 y=if y=x then some g else A7 H y from C4 _ _ _ _] at e
    split at e
    ·rename_i c;cases e;rw [c];exact x1
    ·exact m.1 y hy a e
   ·rw [show A7 (true,CL H x g,Q).2.1 y=if y=x then some g else A7 H y from C4 _ _ _ _] at e1
    rw [show A7 (true,CL H x g,Q).2.1 z=if z=x then some g else A7 H z from C4 _ _ _ _] at e2;split at e1
    ·rename_i c
     cases e1;split at e2
     ·rename_i d;rw [c,d]
     ·exact absurd e2 (ng z hz)
    ·split at e2
     ·cases e2;exact absurd e1 (ng y hy)
     ·exact m.2 y z a hy hz e1 e2
   ·rintro ⟨y,hy,e⟩
    rw [show A7 (true,CL H x g,Q).2.1 y=if y=x then some g else A7 H y from C4 _ _ _ _] at e;split at e
    ·cases e;exact .inl rfl
    ·exact .inr ⟨y,hy,e⟩
   ·rintro (rfl | ⟨y,hy,e⟩)
    ·exact ⟨x,x2,by show A7 (CL H x a) x=_;rw [C4,if_pos rfl]⟩
    ·refine ⟨y,hy,?_⟩
     show A7 (CL H x g) y=_;rw [C4,if_neg λc=>by rw [c,hfree] at e;cases e];exact e
  | none=>
   have held:∀x∈w,∃a,A7 H x=some a:=by
    intro x hx;have:=IS.mp hf x hx
    cases q:A7 H x with
    | none=>rw [q] at this;exact absurd rfl this
    | some a=>exact ⟨a,rfl⟩
   have key:∀(r:List Int) (Qc:QL),(∀x∈r,x∈w)->KOk U Qc->(∀x,sn Q x->sn Qc x)->Q.length<=Qc.length->Clo T bits H Q Qc->(∀x∈w,x∈r∨sn Qc x)->Ok (Lb (Gx T bits n) g r H Qc) (lr T bits U Gd H g Q):=by
    intro r
    induction r with
    | nil=>
     intro Qc _ hQc hs hl hc hw;refine .pure ⟨hH,hQc,hG,hs,λ_=>⟨rfl,λx hx=>?_,hc⟩,λz=>(by cases z)⟩
     by_cases c:sn Q x
     ·exact hs x c
     ·rcases hw x ((wm x).mpr ⟨hx,c⟩) with h | h
      ·cases h
      ·exact h
    | cons x r ih2=>
     intro Qc hr hQc hs hl hc hw;unfold Lb
     by_cases c:(A7 Qc x).isSome=true
     ·rw [if_pos c]
      refine ih2 Qc (λy hy=>hr y (Aa _ hy)) hQc hs hl hc λy hy=>?_
      rcases hw y hy with h | h
      ·rcases Ay.mp h with rfl | h
       ·exact .inr c
       ·exact .inl h
      ·exact .inr h
     ·rw [if_neg c,Re hQc hU]
      have hxw:=hr x Ax;obtain ⟨x1,x2⟩:=(wm x).mp hxw;obtain ⟨a,ha⟩:=held x hxw;have hQ1:=hQc.put (wU x hxw) true;have Ve:=KOk.more (l:=Qc) (x:=x) (by cases q:(A7 Qc x).isSome;rfl;exact absurd q c) true;obtain ⟨z,ez,hz⟩:=ih H a (CL Qc x true) hH hQ1 hG (hG x a ha) (by omega);show Ok ((A7 H x).bind _) _;rw [ha];show Ok ((Gx T bits n H a (CL Qc x true)).bind _) _;rw [ez];show Ok (if z.1=true then _ else _) _
      cases hb':z.1 with
      | true=>
       rw [if_pos rfl,Re hz.h1 hU];obtain ⟨g1,g2⟩:=hz.h6 hb';refine .pure ⟨hz.h1.put (wU x hxw) g,hz.h2,λy b hy=>?_,λy hy=>hz.h4 y (Io.mpr (.inr (hs y hy))),λq=>(by cases q),λ_=>⟨λy hy=>?_,λm ng=>?_⟩⟩
       ·rw [show A7 (true,CL z.2.1 x g,z.2.2).2.1 y=if y=x then some g else A7 z.2.1 y from C4 _ _ _ _] at hy
        split at hy
        ·cases hy;exact hg
        ·exact hz.h3 y b hy
       ·show A7 (CL z.2.1 x g) y=_
        rw [C4,if_neg λq:y=x=>x2 (by rw [<-q];exact hy)];exact g1 y (Io.mpr (.inr (hs y hy)))
       ·have R1:∀y,¬sn (CL Qc x true) y->¬sn Q y/\y≠x/\¬sn Qc y:=λy hy=>⟨λq=>hy (Io.mpr (.inr (hs y q))),λq=>hy (Io.mpr (.inl q)),λq=>hy (Io.mpr (.inr q))⟩
        obtain ⟨m1,m2⟩:=g2 ⟨λy hy b e=>m.1 y (R1 y hy).1 b e,λy y' b hy hy' e e'=>m.2 y y' b (R1 y hy).1 (R1 y' hy').1 e e'⟩ λy hy e=>(R1 y hy).2.1 (m.2 y x a (R1 y hy).1 x2 e ha)
        have three:∀y,y=x∨(y≠x/\A7 z.2.1 y=A7 H y/\sn Qc y)∨¬sn (CL Qc x true) y:=λy=>by
         by_cases q:y=x
         ·exact .inl q
         ·by_cases q2:sn Qc y
          ·exact .inr (.inl ⟨q,g1 y (Io.mpr (.inr q2)),q2⟩)
          ·exact .inr (.inr λq3=>(Io.mp q3).elim q q2)
        have hv:∀y,y≠x->A7 (CL z.2.1 x g) y=A7 z.2.1 y:=λy q=>by rw [C4,if_neg q]
        have hvx:A7 (CL z.2.1 x g) x=some g:=by rw [C4,if_pos rfl]
        show MOn T bits _ (CL z.2.1 x g)/\∀b,(∃y,_/\A7 (CL z.2.1 x g) y=some b)↔_
        refine ⟨⟨λy hy b e=>?_,λy y' b hy hy' e e'=>?_⟩,λb=>⟨?_,?_⟩⟩
        ·rcases three y with rfl | ⟨q,q1,q2⟩ | q
         ·rw [hvx] at e;cases e;exact x1
         ·rw [hv y q,q1] at e;exact m.1 y hy b e
         ·rw [hv y (R1 y q).2.1] at e;exact m1.1 y q b e
        ·rcases three y with rfl | ⟨q,q1,q2⟩ | q
         ·rw [hvx] at e
          cases e
          rcases three y' with rfl | ⟨p,p1,p2⟩ | p
          ·rfl
          ·rw [hv y' p,p1] at e';exact absurd e' (ng y' hy')
          ·rw [hv y' (R1 y' p).2.1] at e'
           rcases (m2 g).mp ⟨y',p,e'⟩ with rfl | ⟨y2,p2,e2⟩
           ·exact absurd ha (ng y hy)
           ·exact absurd e2 (ng y2 (R1 y2 p2).1)
         ·rw [hv y q,q1] at e
          rcases three y' with rfl | ⟨p,p1,p2⟩ | p
          ·rw [hvx] at e';cases e';exact absurd e (ng y hy)
          ·rw [hv y' p,p1] at e';exact m.2 y y' b hy hy' e e'
          ·rw [hv y' (R1 y' p).2.1] at e'
           rcases (m2 b).mp ⟨y',p,e'⟩ with rfl | ⟨y2,p2,e2⟩
           ·exact absurd (m.2 y x b hy x2 e ha) q
           ·have:=m.2 y y2 b hy (R1 y2 p2).1 e e2
            rw [<-this] at p2;exact absurd q2 (R1 y p2).2.2
         ·rw [hv y (R1 y q).2.1] at e
          rcases three y' with rfl | ⟨p,p1,p2⟩ | p
          ·rw [hvx] at e'
           cases e'
           rcases (m2 g).mp ⟨y,q,e⟩ with rfl | ⟨y2,p2,e2⟩
           ·exact absurd ha (ng y' hy')
           ·exact absurd e2 (ng y2 (R1 y2 p2).1)
          ·rw [hv y' p,p1] at e'
           rcases (m2 b).mp ⟨y,q,e⟩ with rfl | ⟨y2,p3,e2⟩
           ·exact absurd (m.2 y' x b hy' x2 e' ha) p
           ·have:=m.2 y' y2 b hy' (R1 y2 p3).1 e' e2
            rw [<-this] at p3;exact absurd p2 (R1 y' p3).2.2
          ·rw [hv y' (R1 y' p).2.1] at e'
           exact m1.2 y y' b q p e e'
        ·rintro ⟨y,hy,e⟩
         rcases three y with rfl | ⟨q,q1,q2⟩ | q
         ·rw [hvx] at e;cases e;exact .inl rfl
         ·rw [hv y q,q1] at e;exact .inr ⟨y,hy,e⟩
         ·rw [hv y (R1 y q).2.1] at e
          rcases (m2 b).mp ⟨y,q,e⟩ with rfl | ⟨y2,p2,e2⟩
          ·exact .inr ⟨x,x2,ha⟩
          ·exact .inr ⟨y2,(R1 y2 p2).1,e2⟩
        ·rintro (rfl | ⟨y,hy,e⟩)
         ·exact ⟨x,x2,hvx⟩
         ·rcases three y with rfl | ⟨q,q1,q2⟩ | q
          ·rw [ha] at e
           cases e;obtain ⟨y',p,e'⟩:=(m2 a).mpr (.inl rfl);exact ⟨y',(R1 y' p).1,by rw [hv y' (R1 y' p).2.1];exact e'⟩
          ·exact ⟨y,hy,by rw [hv y q,q1];exact e⟩
          ·obtain ⟨y',p,e'⟩:=(m2 b).mpr (.inr ⟨y,q,e⟩)
           exact ⟨y',(R1 y' p).1,by rw [hv y' (R1 y' p).2.1];exact e'⟩
      | false=>
       rw [if_neg AK];obtain ⟨f1,f2,f3⟩:=hz.h5 hb';rw [f1]
       have up:∀y,sn Qc y->sn z.2.2 y:=λy hy=>hz.h4 y (Io.mpr (.inr hy))
       refine ih2 z.2.2 (λy hy=>hr y (Aa _ hy)) hz.h2 (λy hy=>up y (hs y hy)) ?_ (λy hy=>?_) λy hy=>?_
       ·have h1:∀k∈Qc.map (·.1),k∈z.2.2.map (·.1):=λk hk=>(JD _ _).mp (up k ((JD _ _).mpr hk))
        have:=NY hQc.nd h1;rw [AH,AH] at this;omega
       ·rcases f3 y hy with h | h
        ·rcases Io.mp h with rfl | h
         ·exact .inr ⟨a,ha,f2⟩
         ·rcases hc y h with h | ⟨b,e,k⟩
          ·exact .inl h
          ·exact .inr ⟨b,e,λy' hy'=>up y' (k y' hy')⟩
        ·exact .inr h
       ·rcases hw y hy with h | h
        ·rcases Ay.mp h with rfl | h
         ·exact .inr (hz.h4 _ (Io.mpr (.inl rfl)))
         ·exact .inl h
        ·exact .inr (up y h)
   exact key w Q (λ_ h=>h) hQ (λ_ h=>h) (AU _) (λx hx=>.inl hx) λx hx=>.inl hx
end
end L4
namespace L4
open PySem L2
def PJ (bits:Int):List Int->HL->Option HL
 | [],H=>some H
 | g :: r,H=>if hb bits g=true then (Kd H g g).bind λH'=>PJ bits r H' else PJ bits r H
def PN (T:Int->List Int) (bits:Int) (n:Nat):List Int->HL->Option Bool
 | [],_=>some true
 | g :: r,H=>if hb bits g=true then PN T bits n r H else (Gx T bits n H g []).bind λz=>if z.1=true then PN T bits n r z.2.1 else some false
def Qx (T:Int->List Int) (bits:Int) (n:Nat) (gs:List Int):Option Bool:=(PJ bits gs []).bind λH=>PN T bits n gs H
def Sdr (T:Int->List Int) (bits:Int) (gs:List Int):Prop:=∃f:Int->Int,(∀g∈gs,f g∈w0 T bits g)/\∀a∈gs,∀b∈gs,f a=f b->a=b
section
variable {T:Int->List Int} {bits:Int} {U:List Int} {Gd:Int->Prop}
theorem Xi (hU:U.length < 1000000):∀(gs:List Int) (H:HL),(∀g∈gs,g∈U)->KOk U H->Ok (PJ bits gs H) λH'=>KOk U H'/\∀x,A7 H' x=if x∈gs/\hb bits x=true then some x else A7 H x:=by
 intro gs
 induction gs with
 | nil=>intro H _ h;exact .pure ⟨h,λx=>by rw [if_neg (by simp)]⟩
 | cons g gs ih=>
  intro H hg h;unfold PJ
  cases c:hb bits g with
  | true=>
   rw [if_pos rfl,Re h hU]
   refine (ih (CL H g g) (λy hy=>hg y (Aa _ hy)) (h.put (hg g Ax) g)).imp λH' ⟨h1,h2⟩=>⟨h1,λx=>?_⟩
   rw [h2 x,C4]
   by_cases d:x=g
   ·subst d
    rw [if_pos rfl,if_pos (show x∈x :: gs/\hb bits x=true from ⟨Ax,c⟩)]
    split <;> rfl
   ·rw [if_neg d]
    have:(x∈g :: gs/\hb bits x=true)↔(x∈gs/\hb bits x=true):=by rw [Ay];simp [d]
    by_cases q:x∈gs/\hb bits x=true
    ·rw [if_pos q,if_pos (this.mpr q)]
    ·rw [if_neg q,if_neg λz=>q (this.mp z)]
  | false=>
   rw [if_neg AK]
   refine (ih H (λy hy=>hg y (Aa _ hy)) h).imp λH' ⟨h1,h2⟩=>⟨h1,λx=>?_⟩
   rw [h2 x]
   have:(x∈g :: gs/\hb bits x=true)↔(x∈gs/\hb bits x=true):=by
    rw [Ay];refine ⟨λ⟨z,y⟩=>⟨z.elim (λe=>?_) id,y⟩,λ⟨z,y⟩=>⟨.inr z,y⟩⟩;rw [e,c] at y;cases y
   by_cases q:x∈gs/\hb bits x=true
   ·rw [if_pos q,if_pos (this.mpr q)]
   ·rw [if_neg q,if_neg λz=>q (this.mp z)]
theorem aB {α:Type}:KOk U ([]:List (Int×α)):=⟨IQ,λ_ h=>(nomatch h)⟩
theorem Xv (hT:∀g,Gd g->∀x∈T g,x∈U) (hU:U.length < 1000000) {n:Nat} (hn:U.length < n) {gs:List Int} (hg:∀g∈gs,Gd g) (hnd:gs.Nodup):∀(r pre:List Int) (H:HL),gs=pre++r->KOk U H->(∀x a,A7 H x=some a->Gd a)->MOn T bits (λ_=>True) H->(∀a,(∃x,A7 H x=some a)↔a∈gs/\(a∈pre∨hb bits a=true))->Ok (PN T bits n r H) λb=>b=true↔Sdr T bits gs:=by
 intro r
 induction r with
 | nil=>
  intro pre H e hH hG hM hI;rw [A5] at e;subst e;refine .pure ⟨λ_=>?_,λ_=>rfl⟩
  have ex:∀a:Int,∃x:Int,a∈gs->A7 H x=some a:=λa=>by
   by_cases c:a∈gs
   ·obtain ⟨x,hx⟩:=(hI a).mpr ⟨c,.inl c⟩
    exact ⟨x,λ_=>hx⟩
   ·exact ⟨0,λz=>absurd z c⟩
  refine ⟨λa=>Dm (ex a),λa ha=>hM.1 _ trivial a (ED (ex a) ha),λa ha b hb' e=>?_⟩;have h1:=ED (ex a) ha;have h2:=ED (ex b) hb';have e:Dm (ex a)=Dm (ex b):=e;rw [e,h2] at h1;cases h1;rfl
 | cons g r ih=>
  intro pre H e hH hG hM hI
  have hgm:g∈gs:=by rw [e];simp
  have hgp:g∉pre:=λz=>by
   rw [e] at hnd;exact (Ee.mp hnd).2.2 g z g Ax rfl
  unfold PN
  cases c:hb bits g with
  | true=>
   rw [if_pos rfl]
   refine ih (pre++[g]) H (by rw [e];simp) hH hG hM λa=>?_
   rw [hI a];refine ⟨λ⟨z,y⟩=>⟨z,y.elim (λy=>.inl (Bq _ y)) .inr⟩,λ⟨z,y⟩=>⟨z,y.elim (λy=>?_) .inr⟩⟩
   rcases BB.mp y with y | y
   ·exact .inl y
   ·rw [Ag.mp y];exact .inr c
  | false=>
   rw [if_neg AK];obtain ⟨z,ez,hz⟩:=TM (bits:=bits) hT hU n H g [] hH aB hG (hg g hgm) (by simpa using hn);rw [ez];show Ok (if z.1=true then _ else _) _
   have no:∀x,¬sn ([]:QL) x:=λx h=>by unfold sn at h;cases h
   have ng:∀x,A7 H x≠some g:=λx q=>by
    have:=((hI g).mp ⟨x,q⟩).2
    rcases this with h | h
    ·exact hgp h
    ·rw [c] at h;cases h
   cases hb':z.1 with
   | true=>
    rw [if_pos rfl];obtain ⟨-,g2⟩:=hz.h6 hb'
    obtain ⟨m1,m2⟩:=g2 ⟨λx _ a q=>hM.1 x trivial a q,λx y a _ _ q q'=>hM.2 x y a trivial trivial q q'⟩ λx _=>ng x
    refine ih (pre++[g]) z.2.1 (by rw [e];simp) hz.h1 hz.h3 ⟨λx _ a q=>m1.1 x (no x) a q,λx y a _ _ q q'=>m1.2 x y a (no x) (no y) q q'⟩ λa=>?_
    constructor
    ·rintro ⟨x,hx⟩
     rcases (m2 a).mp ⟨x,no x,hx⟩ with rfl | ⟨y,_,hy⟩
     ·exact ⟨hgm,.inl (by simp)⟩
     ·obtain ⟨q1,q2⟩:=(hI a).mp ⟨y,hy⟩
      exact ⟨q1,q2.elim (λq=>.inl (Bq _ q)) .inr⟩
    ·rintro ⟨q1,q2⟩
     have:a=g∨∃x,¬sn ([]:QL) x/\A7 H x=some a:=by
      rcases q2 with q2 | q2
      ·rcases BB.mp q2 with q2 | q2
       ·obtain ⟨x,hx⟩:=(hI a).mpr ⟨q1,.inl q2⟩
        exact .inr ⟨x,no x,hx⟩
       ·exact .inl (Ag.mp q2)
      ·obtain ⟨x,hx⟩:=(hI a).mpr ⟨q1,.inr q2⟩
       exact .inr ⟨x,no x,hx⟩
     obtain ⟨x,_,hx⟩:=(m2 a).mpr this;exact ⟨x,hx⟩
   | false=>
    rw [if_neg AK];obtain ⟨f1,f2,f3⟩:=hz.h5 hb';refine .pure ⟨λq=>(by cases q),?_⟩;rintro ⟨f,fw,fi⟩
    exfalso
    have X:=z.2.2.map (·.1)
    have hold:∀x∈z.2.2.map (·.1),∃a,A7 H x=some a/\∀y∈w0 T bits a,sn z.2.2 y:=λx hx=>by
     rcases f3 x ((JD _ _).mpr hx) with h | h
     ·exact absurd h (no x)
     ·exact h
    have ex:∀x:Int,∃a:Int,x∈z.2.2.map (·.1)->A7 H x=some a/\∀y∈w0 T bits a,sn z.2.2 y:=λx=>by
     by_cases q:x∈z.2.2.map (·.1)
     ·obtain ⟨a,h⟩:=hold x q
      exact ⟨a,λ_=>h⟩
     ·exact ⟨0,λq'=>absurd q' q⟩
    have hc:=λx=>ED (ex x)
    generalize hh:(λx=>Dm (ex x))=h at hc
    have hc':∀x∈z.2.2.map (·.1),A7 H x=some (h x)/\∀y∈w0 T bits (h x),sn z.2.2 y:=λx hx=>by rw [<-hh];exact hc x hx
    have nd:(f g :: (z.2.2.map (·.1)).map λx=>f (h x)).Nodup:=by
     rw [Bw]
     have hmem:∀x∈z.2.2.map (·.1),h x∈gs:=λx hx=>((hI (h x)).mp ⟨x,(hc' x hx).1⟩).1
     refine ⟨λq=>?_,?_⟩
     ·obtain ⟨x,hx,e1⟩:=A9.mp q
      have:=fi (h x) (hmem x hx) g hgm e1;exact ng x (by rw [(hc' x hx).1,this])
     ·unfold HD
      rw [Bk]
      refine hz.h2.nd.imp_of_mem λ{x y} hx hy ne e1=>ne ?_
      have:=fi (h x) (hmem x hx) (h y) (hmem y hy) e1;exact hM.2 x y (h x) trivial trivial (hc' x hx).1 (by rw [this];exact (hc' y hy).1)
    have sub:∀y∈(f g :: (z.2.2.map (·.1)).map λx=>f (h x)),y∈z.2.2.map (·.1):=by
     intro y hy
     rcases Ay.mp hy with rfl | hy
     ·exact (JD _ _).mp (f2 _ (fw g hgm))
     ·obtain ⟨x,hx,rfl⟩:=A9.mp hy
      exact (JD _ _).mp ((hc' x hx).2 _ (fw _ ((hI (h x)).mp ⟨x,(hc' x hx).1⟩).1))
    have:=NY nd sub;rw [As,AH] at this;omega
theorem YH (hT:∀g,Gd g->∀x∈T g,x∈U) (hU:U.length < 1000000) {n:Nat} (hn:U.length < n) {gs:List Int} (hg:∀g∈gs,Gd g/\g∈T g) (hnd:gs.Nodup):Ok (Qx T bits n gs) λb=>b=true↔Sdr T bits gs:=by
 unfold Qx
 refine (Xi hU gs [] (λg h=>hT g (hg g h).1 g (hg g h).2) aB).bind λH ⟨h1,h2⟩=>?_
 have hv:∀x a,A7 H x=some a->a=x/\x∈gs/\hb bits x=true:=λx a e=>by
  rw [h2 x] at e;split at e
  ·rename_i q;cases e;exact ⟨rfl,q⟩
  ·cases e
 refine Xv hT hU hn (λg h=>(hg g h).1) hnd gs [] H rfl h1 (λx a e=>?_) ⟨λx _ a e=>?_,λx y a _ _ e e'=>?_⟩ λa=>⟨?_,?_⟩
 ·obtain ⟨rfl,q,_⟩:=hv x a e;exact (hg _ q).1
 ·obtain ⟨rfl,q1,q2⟩:=hv x a e
  exact BA.mpr ⟨(hg _ q1).2,q2⟩
 ·rw [<-(hv x a e).1,<-(hv y a e').1]
 ·rintro ⟨x,e⟩
  obtain ⟨rfl,q1,q2⟩:=hv x a e;exact ⟨q1,.inr q2⟩
 ·rintro ⟨q1,q2⟩
  refine ⟨a,?_⟩;rw [h2 a,if_pos ⟨q1,q2.elim (λq=>(nomatch q)) id⟩]
end
end L4
namespace M
open PySem PySem.Spec PyProof.Rows L2
def top (i:Nat):Cn:=fk.main.body.getD i (.Pass ⟨0,0,0,0⟩)
structure Wd where
 BadPlaces:AI
 BadTie:AI
 NoPlace:AI
 NoCall:AI
 Web:AI
def Wd.excs (W:Wd):List AI:=[W.BadPlaces,W.BadTie,W.NoPlace,W.NoCall]
abbrev Dr:Cn:=top 9
abbrev Dq:Cn:=top 10
abbrev Gk:Cn:=dn (top 8) 0
abbrev Cw:Cn:=top 11
abbrev NQ:Cn:=top 12
abbrev Gj:Cn:=top 14
abbrev Hi:Cn:=top 15
abbrev JG:Cn:=top 16
abbrev NR:Cn:=top 17
abbrev DF:Cn:=top 19
abbrev Hh:Cn:=top 23
abbrev DG:Cn:=top 22
abbrev FQ:Cn:=top 21
abbrev Hj:Cn:=top 20
abbrev Dt:Cn:=top 25
abbrev Ex:Cn:=top 26
abbrev Cy:Cn:=top 27
abbrev FR:Cn:=top 28
abbrev EL:Cn:=top 29
abbrev FT:Cn:=top 30
abbrev FS:Cn:=top 31
abbrev Da:Cn:=top 32
abbrev Du:Cn:=top 33
abbrev Ds:Cn:=top 34
abbrev Ew:Cn:=top 35
abbrev Qj:Cn:=top 36
def Pv (W:Wd):MS:=
  (BU (Co 2 Rr)
  (BU (HY (DX (AF 1)) (Mf 2 (FM (tgN 3) (FM (tgN 4) N2)))
  (BU (Co 5 (Hb (AN (mQ Mq (AN (AF 3) (AN (AF 4) BE))) (AN (mQ Qs (AN (AF 3) (AN (AF 4) BE))) BE))))
  (BU (sIf (mB (m2 (eqD false) (m2 ixA (AF 5) (mC (.int 0))) (m2 ixA (AF 5) (mC (.int 1))))) (EQ W.BadTie (AN (mC (.str "a tie has one place twice")) BE)) sNx)
  (BU (sIf (mOr (mB (m2 ltD (m2 ixA (AF 5) (mC (.int 0))) (mC (.int 0)))) (mB (m2 geD (m2 ixA (AF 5) (mC (.int 1))) (AF 0)))) (EQ W.BadTie (AN (mC (.str "a tie has a place that is not there")) BE)) sNx)
  (BU (sIf (mB (m2 (inA false) (AF 5) (AF 2))) (EQ W.BadTie (AN (mC (.str "a tie is there twice")) BE)) sNx)
  (De (AF 2) (AF 5) (mC (.bl true))))))))
  (C5 (Hv (D9 (AF 2))))))
def GC (W:Wd):List D->Sto->Res D:=ER 6 (Pv W)
def Ks (W:Wd):MS:=
  (BU (Co 2 (DV (DC 1 (iR1 (AN (AF 0) BE)) (tgN 0) FD (DV (Em BE)))))
  (BU (HY (DX (AF 1)) (Mf 2 (FM (tgN 3) (FM (tgN 4) N2)))
  (BU (EE (QN (m2 ixA (AF 2) (AF 3)) (AF 4)))
  (EE (QN (m2 ixA (AF 2) (AF 4)) (AF 3)))))
  (C5 (Hv (DV (DC 1 (DX (AF 2)) (tgN 0) FD (Hv (D9 (AF 0)))))))))
def GB (W:Wd):List D->Sto->Res D:=ER 5 (Ks W)
def Pw (W:Wd):MS:=
  (BU (sIf (Jj (mB (m3 leD leD (mC (.int 1)) (AF 1) (mC (.int 60))))) (EQ W.BadPlaces (AN (fK (Wn (mC (.str "a web has 1 to ")) (Wn (lH (mC (.int 60))) (Wn (mC (.str " places")) iz)))) BE)) sNx)
  (BU (Qk W.Web "places" (AF 0) (AF 1))
  (BU (Qk W.Web "ties" (AF 0) (B3 2 (GC W) (AN (AF 1) (AN (AF 2) BE))))
  (Qk W.Web "near_sets" (AF 0) (B3 2 (GB W) (AN (AF 1) (AN (Lv W.Web "ties" (AF 0)) BE)))))))
def Jo (W:Wd):List D->Sto->Res D:=ER 3 (Pw W)
def GH (W:Wd):MS:=
  (sIf (Jj (mB (m3 leD ltD (mC (.int 0)) (AF 1) (Lv W.Web "places" (AF 0))))) (EQ W.NoPlace (AN (mC (.str "the web has no such place")) BE)) sNx)
def F0 (W:Wd):List D->Sto->Res D:=ER 2 (GH W)
def Vz (W:Wd):MS:=
  (BU (EE (B3 2 (F0 W) (AN (AF 0) (AN (AF 1) BE))))
  (C5 (m2 ixA (Lv W.Web "near_sets" (AF 0)) (AF 1))))
def SD (W:Wd):List D->Sto->Res D:=ER 2 (Vz W)
def L8 (W:Wd):MS:=
  (C5 (DV (DC 1 (iR1 (AN (Lv W.Web "places" (AF 0)) BE)) (tgN 0) FD (Hv (D9 (m2 GR (Hb (AN (AF 0) BE)) (B3 2 (SD W) (AN (AF 1) (AN (AF 0) BE)))))))))
def Lz (W:Wd):List D->Sto->Res D:=ER 1 (L8 W)
def Np (W:Wd):MS:=
  (BU (Co 1 (mC (.int 0)))
  (BU (HY (DX (AF 0)) (tgN 2)
  (Xq 1 (λa b=>LY a b) (m2 cj (mC (.int 1)) (AF 2))))
  (C5 (AF 1))))
def Nm (W:Wd):List D->Sto->Res D:=ER 3 (Np W)
def UE (W:Wd) (fr:List D->Sto->Res D):MS:=
  (BU (Co 5 (DV (DC 1 (DX (m2 ixA (AF 0) (AF 3))) (tgN 0) (Na (HI (m2 UI (m2 TK (AF 2) (AF 0)) (mC (.int 1)))) (mB (m2 (inA true) (AF 0) (AF 5)))) (AF 0))))
  (BU (HY (DX (AF 5)) (tgN 6)
  (sIf (mB (m2 (inA true) (AF 6) (AF 2))) (BU (De (AF 2) (AF 6) (AF 3))
  (C5 (mC (.bl true)))) sNx))
  (BU (HY (DX (AF 5)) (tgN 6)
  (sIf (mB (m2 (inA true) (AF 6) (AF 4))) (BU (De (AF 4) (AF 6) (mC (.bl true)))
  (sIf (HI (B3 5 fr (AN (AF 0) (AN (AF 1) (AN (AF 2) (AN (m2 ixA (AF 2) (AF 6)) (AN (AF 4) BE))))))) (BU (De (AF 2) (AF 6) (AF 3))
  (C5 (mC (.bl true)))) sNx)) sNx))
  (C5 (mC (.bl false))))))
def FC (W:Wd):Nat->List D->Sto->Res D
 | 0=>λ_ _=>.bad
 | n+1=>ER 7 (UE W (FC W n))
def V0 (W:Wd):MS:=
  (BU (Co 3 NZ)
  (BU (HY (DX (AF 1)) (tgN 4)
  (sIf (HI (m2 UI (m2 TK (AF 2) (AF 4)) (mC (.int 1)))) (De (AF 3) (AF 4) (AF 4)) sNx))
  (BU (HY (DX (AF 1)) (tgN 4)
  (sIf (Na (Jj (HI (m2 UI (m2 TK (AF 2) (AF 4)) (mC (.int 1))))) (Jj (HI (B3 5 (FC W 9) (AN (AF 0) (AN (AF 2) (AN (AF 3) (AN (AF 4) (AN NZ BE))))))))) (C5 (mC (.bl false))) sNx))
  (C5 (mC (.bl true))))))
def SE (W:Wd):List D->Sto->Res D:=ER 5 (V0 W)
def Dy (W:Wd):MS:=
  (sIf (mOr (Jj (mB (m3 leD ltD (mC (.int 0)) (AF 2) (Lv W.Web "places" (AF 0))))) (mB (m2 (inA false) (AF 2) (AF 1)))) (EQ W.NoCall (AN (mC (.str "a call comes from a place of the web without a guard")) BE)) sNx)
def DH (W:Wd):List D->Sto->Res D:=ER 3 (Dy W)
def No (W:Wd):MS:=
  (BU (sIf (Na (mB (m2 (inA true) (AF 3) (AF 1))) (Jj (mB (mQ eZ (LU (DV (DC 1 (DX (AF 2)) (tgN 0) FD (m2 (inA false) (AF 4) (m2 ixA (AF 1) (AF 0)))))))))) (C5 (mC (.bl false))) sNx)
  (BU (Co 4 (m2 TD (m2 cj (mC (.int 1)) (Mr (AF 0))) (mC (.int 1))))
  (C5 (B3 3 (SE W) (AN (AF 0) (AN (AF 2) (AN (m2 fx (AF 4) (B3 1 (Nm W) (AN (AF 1) BE))) BE)))))))
def Nl (W:Wd):List D->Sto->Res D:=ER 5 (No W)
def Gr (W:Wd):MS:=
  (BU (Co 3 (B3 1 (Lz W) (AN (AF 0) BE)))
  (BU (Co 4 (DV (Em (AN (Hb BE) BE))))
  (BU (HY (Oh (AF 1)) (Mf 2 (FM (tgN 5) (FM (tgN 6) N2)))
  (BU (Co 7 (LF (AF 1) (Qp (AF 5)) Th))
  (BU (Co 8 (DV (Em BE)))
  (BU (HY (DX (AF 4)) (tgN 9)
  (BU (Co 10 (DV (DC 1 (DX (m2 ixA (AF 3) (AF 6))) (tgN 0) (mB (m2 (inA true) (AF 0) (AF 10))) (m2 GR (AF 10) (Hb (AN (AF 0) BE))))))
  (EE (Jk (AF 8) (DV (DC 1 (DX (AF 10)) (tgN 0) (HI (B3 4 (Nl W) (AN (AF 4) (AN (AF 0) (AN (AF 8) (AN (AF 3) BE)))))) (AF 0)))))))
  (Co 4 (AF 8))))))
  (C5 (AF 4)))))
def Gq (W:Wd):List D->Sto->Res D:=ER 11 (Gr W)
def Kr (W:Wd):MS:=
  (C5 (Hv (DV (DC 1 (DX (AF 0)) (tgN 0) FD (aL (mB (m2 (eqD false) (AF 0) (AF 2))) (AF 3) (AF 0))))))
def Kj (W:Wd):List D->Sto->Res D:=ER 3 (Kr W)
def JP (W:Wd):MS:=
  (BU (EE (B3 3 (DH W) (AN (AF 0) (AN (AF 1) (AN (AF 2) BE)))))
  (BU (sIf (mB (m2 (eqD false) (AF 3) (mC (.str "one")))) (BU (Co 4 (DV (DC 1 (DX (AF 1)) (tgN 0) (mB (m2 (inA false) (AF 0) (B3 2 (SD W) (AN (AF 1) (AN (AF 3) BE))))) (AF 0))))
  (C5 (D9 (DV (DC 1 (DX (AF 4)) (tgN 0) FD (B3 3 (Kj W) (AN (AF 2) (AN (AF 0) (AN (AF 3) BE))))))))) sNx)
  (C5 (B3 3 (Gq W) (AN (AF 0) (AN (AF 1) (AN (AF 2) BE)))))))
def EM (W:Wd):List D->Sto->Res D:=ER 5 (JP W)
def ID (W:Wd):MS:=
  (BU (sIf (mB (m2 ltD (AF 1) (Mr (AF 0)))) (C5 (m2 ixA (AF 0) (AF 1))) sNx)
  (C5 (mC (.int 0))))
def DP (W:Wd):List D->Sto->Res D:=ER 2 (ID W)
def Jt (W:Wd):MS:=
  (BU (Co 1 (DV (Em BE)))
  (BU (HY (iR1 (AN (AF 0) BE)) (tgN 2)
  (HY (iR2 (AN (m2 GR (AF 2) (mC (.int 1))) (AN (AF 0) BE))) (tgN 3)
  (EE (QN (AF 1) (Hb (AN (AF 2) (AN (AF 3) BE)))))))
  (C5 (AF 1))))
def Hd (W:Wd):List D->Sto->Res D:=ER 4 (Jt W)
def GK (W:Wd):MS:=
  (BU (sIf (mB (m2 (eqD false) (AF 1) (mC (.int 1)))) (C5 (DV (DC 1 (iR1 (AN (m2 TD (AF 0) (mC (.int 1))) BE)) (tgN 0) FD (Hb (AN (AF 0) (AN (m2 GR (AF 0) (mC (.int 1))) BE)))))) sNx)
  (BU (sIf (mB (m2 (eqD false) (AF 1) (mC (.int 2)))) (C5 (m2 GR (DV (DC 1 (iR1 (AN (m2 TD (AF 0) (mC (.int 1))) BE)) (tgN 0) FD (Hb (AN (AF 0) (AN (m2 GR (AF 0) (mC (.int 1))) BE))))) (DV (Em (AN (Hb (AN (mC (.int 0)) (AN (m2 TD (AF 0) (mC (.int 1))) BE))) BE))))) sNx)
  (BU (sIf (mB (m2 (eqD false) (AF 1) (mC (.int 3)))) (C5 (B3 1 (Hd W) (AN (AF 0) BE))) sNx)
  (BU (sIf (mB (m2 (eqD false) (AF 1) (mC (.int 4)))) (C5 (DV (DC 1 (iR2 (AN (mC (.int 1)) (AN (AF 0) BE))) (tgN 0) FD (Hb (AN (mC (.int 0)) (AN (AF 0) BE)))))) sNx)
  (C5 (DV (Em BE)))))))
def GD (W:Wd):List D->Sto->Res D:=ER 2 (GK W)
def Kt (W:Wd):MS:=
  (BU (Co 3 (B3 1 (Hd W) (AN (AF 2) BE)))
  (BU (Co 4 Rr)
  (BU (HY (DX (B3 2 (GD W) (AN (AF 2) (AN (m2 Pc (m2 Qy (B3 2 (DP W) (AN (AF 0) (AN (mC (.int 0)) BE))) (mC (.int 7))) (mC (.int 6))) BE)))) (tgN 5)
  (De (AF 4) (AF 5) (mC (.bl true))))
  (BU (HY (iR2 (AN (AF 1) (AN (mQ Mq (AN (Mr (AF 0)) (AN (mC (.int 63)) BE))) BE))) (tgN 6)
  (BU (Co 5 (m2 ixA (AF 3) (m2 Pc (m2 ixA (AF 0) (AF 6)) (Mr (AF 3)))))
  (De (AF 4) (AF 5) (aK (m2 (inA true) (AF 5) (AF 4)) (Tp (m2 ixA (AF 4) (AF 5)))))))
  (C5 (DV (DC 1 (DX (AF 3)) (tgN 0) (Na (mB (m2 (inA false) (AF 0) (AF 5))) (HI (m2 ixA (AF 5) (AF 0)))) (AF 0))))))))
def Kk (W:Wd):List D->Sto->Res D:=ER 7 (Kt W)
def Iq (W:Wd):MS:=
  (BU (sIf (mB (m2 (eqD false) (m2 Pc (m2 Qy (B3 2 (DP W) (AN (AF 0) (AN (mC (.int 0)) BE))) (mC (.int 42))) (mC (.int 2))) (mC (.int 0)))) (C5 (DV (mN Tt (LU (AF 1))))) sNx)
  (C5 (DV (DC 1 (Wr (AF 1)) (tgN 0) FD (Hb (AN (m2 ixA (AF 0) (mC (.int 1))) (AN (m2 ixA (AF 0) (mC (.int 0))) BE)))))))
def Ip (W:Wd):List D->Sto->Res D:=ER 2 (Iq W)
def Kv (W:Wd):MS:=
  (BU (Co 2 (DV (Em BE)))
  (BU (HY (DX (AF 0)) (tgN 3)
  (sIf (mB (m2 (inA false) (AF 1) (AF 3))) (EE (QN (AF 2) (m2 TD (m2 GR (m2 ixA (AF 3) (mC (.int 0))) (m2 ixA (AF 3) (mC (.int 1)))) (AF 1)))) sNx))
  (C5 (D9 (AF 2)))))
def Ib (W:Wd):List D->Sto->Res D:=ER 4 (Kv W)
def Ku (W:Wd):MS:=
  (BU (Co 2 (DV (Em (AN (Hb BE) BE))))
  (BU (HY (iR1 (AN (AF 1) BE)) (tgN 3)
  (BU (Co 4 (DV (Em BE)))
  (BU (HY (DX (AF 2)) (tgN 5)
  (BU (Co 6 (mC (.int 0)))
  (BU (sIf (mB (m2 (eqD true) (AF 5) (Hb BE))) (Co 6 (m2 GR (m2 ixA (AF 5) (db (mC (.int 1)))) (mC (.int 1)))) sNx)
  (EE (Jk (AF 4) (DV (DC 1 (iR2 (AN (AF 6) (AN (m2 GR (m2 GR (m2 TD (AF 0) (AF 1)) (AF 3)) (mC (.int 1))) BE))) (tgN 0) FD (m2 GR (AF 6) (Hb (AN (AF 0) BE))))))))))
  (Co 2 (AF 4)))))
  (C5 (AF 2))))
def Kl (W:Wd):List D->Sto->Res D:=ER 7 (Ku W)
def HM (W:Wd):MS:=
  (BU (sIf (Jj (mB (mIs (isB "tuple") (λ_=>none) (AF 0)))) (C5 (mC (.bl false))) sNx)
  (C5 (mQ Yc (LU (DV (DC 1 (DX (AF 0)) (tgN 0) FD (Tq (mIs (isB "int") (λ_=>none) (AF 0)) (Tp (mIs (isB "bool") (λ_=>none) (AF 0))))))))))
def HK (W:Wd):List D->Sto->Res D:=ER 1 (HM W)
def IE (W:Wd):MS:=
  (BU (sIf (mB (m2 (eqD false) (AF 3) (mC (.str "one")))) (BU (Co 4 (DV (DC 1 (iR1 (AN (Mr (AF 1)) BE)) (tgN 0) (mB (m2 (inA false) (AF 3) (B3 2 (Ib W) (AN (AF 1) (AN (m2 ixA (AF 2) (AF 0)) BE))))) (AF 0))))
  (C5 (D9 (DV (DC 1 (DX (AF 4)) (tgN 0) FD (m2 GR (m2 GR (LF (AF 2) Th (Qp (AF 0))) (Hb (AN (AF 3) BE))) (LF (AF 2) (Qp (m2 GR (AF 0) (mC (.int 1)))) Th))))))) sNx)
  (BU (Co 5 (DV (Em (AN (Hb BE) BE))))
  (BU (HY (DX (AF 1)) (tgN 6)
  (BU (Co 7 (m2 GR (DV (Em (AN (AF 6) BE))) (B3 2 (Ib W) (AN (AF 0) (AN (AF 6) BE)))))
  (BU (Co 8 (DV (Em BE)))
  (BU (HY (DX (AF 5)) (tgN 9)
  (EE (Jk (AF 8) (DV (DC 1 (DX (AF 7)) (tgN 0) (mB (m2 (inA true) (AF 0) (AF 10))) (m2 GR (AF 10) (Hb (AN (AF 0) BE))))))))
  (Co 5 (AF 8))))))
  (C5 (D9 (DV (DC 1 (DX (AF 5)) (tgN 0) (mB (m2 (inA false) (AF 3) (AF 0))) (AF 0))))))))
def Hz (W:Wd):List D->Sto->Res D:=ER 10 (IE W)
def IC (W:Wd):MS:=
  (BU (Co 3 (mC (.bl false)))
  (BU (WW [W.NoCall] (EE (B3 4 (EM W) (AN (AF 0) (AN (AF 1) (AN (AF 2) (AN (mC (.str "all")) BE)))))) (Co 3 (mC (.bl true))))
  (C5 (AF 3))))
def Hy (W:Wd):List D->Sto->Res D:=ER 4 (IC W)
def Js (W:Wd):MS:=
  (BU (Co 4 (B3 4 (EM W) (AN (AF 0) (AN (AF 2) (AN (AF 3) (AN (mC (.str "all")) BE))))))
  (BU (Co 5 (B3 4 (Hz W) (AN (AF 1) (AN (AF 2) (AN (AF 3) (AN (mC (.str "all")) BE))))))
  (BU (sIf (mOr (Jj (mB (mIs (isB "list") (λ_=>none) (AF 4)))) (mOr (mB (m2 (eqD true) (AF 4) (AF 5))) (Jj (mB (mQ Yc (LU (DV (DC 1 (DX (AF 4)) (tgN 0) FD (B3 1 (HK W) (AN (AF 0) BE)))))))))) (C5 (mC (.bl false))) sNx)
  (BU (EE (aJ (AF 4)))
  (BU (sIf (mB (m2 (eqD true) (B3 4 (EM W) (AN (AF 0) (AN (AF 2) (AN (AF 3) (AN (mC (.str "all")) BE))))) (AF 5))) (C5 (mC (.bl false))) sNx)
  (C5 (mQ Yc (LU (DV (DC 1 (DX (B3 4 (EM W) (AN (AF 0) (AN (AF 2) (AN (AF 3) (AN (mC (.str "one")) BE)))))) (tgN 0) FD (m2 (inA false) (AF 0) (AF 6))))))))))))
def Jn (W:Wd):List D->Sto->Res D:=ER 6 (Js W)
def bR (W:Wd):MS:=
  (BU (Co 1 (B3 2 (DP W) (AN (AF 0) (AN (mC (.int 0)) BE))))
  (BU (Co 2 (m2 GR (m2 GR (mC (.int 2)) (m2 Pc (AF 1) (mC (.int 5)))) (dc (m2 (eqD false) (m2 Pc (m2 Qy (AF 1) (mC (.int 84))) (mC (.int 8))) (mC (.int 1))))))
  (BU (Co 3 (B3 3 (Kk W) (AN (AF 0) (AN (mC (.int 3)) (AN (AF 2) BE)))))
  (BU (Co 4 (Qt W.Web 3 (Jo W) (AN (AF 2) (AN (B3 2 (Ip W) (AN (AF 0) (AN (AF 3) BE))) BE))))
  (BU (Co 5 (m2 GR (mC (.int 1)) (m2 Pc (B3 2 (DP W) (AN (AF 0) (AN (mC (.int 1)) BE))) (mQ Mq (AN (AF 2) (AN (mC (.int 5)) BE))))))
  (BU (Co 6 (B3 2 (Kl W) (AN (AF 2) (AN (AF 5) BE))))
  (BU (Co 7 (m2 ixA (AF 6) (m2 Pc (B3 2 (DP W) (AN (AF 0) (AN (mC (.int 2)) BE))) (Mr (AF 6)))))
  (BU (HY (iR1 (AN (AF 2) BE)) (tgN 8)
  (sIf (mB (m2 (inA false) (AF 8) (AF 7))) (sIf (Jj (HI (B3 3 (Hy W) (AN (AF 4) (AN (AF 7) (AN (AF 8) BE)))))) (C5 (mC (.bl false))) sNx) (sIf (Jj (HI (B3 4 (Jn W) (AN (AF 4) (AN (AF 3) (AN (AF 7) (AN (AF 8) BE))))))) (C5 (mC (.bl false))) sNx)))
  (C5 (m2 (eqD false) (DV (mN Tt (LU (Lv W.Web "ties" (AF 4))))) (AF 3)))))))))))
def W1 (W:Wd):List D->Sto->Res D:=ER 9 (bR W)
structure Txt (K:AB) (mg:Str->Option AC) (W:Wd) where
 d_checked_ties:Dfn K mg "checked_ties" "checked_ties" Dr ["places", "ties"]
 d_near_sets_of:Dfn K mg "near_sets_of" "near_sets_of" Dq ["places", "ties"]
 d_Web_init:Mtd K "__init__" "Web.__init__" Gk ["self", "places", "ties"]
 d_refuse_no_place:Dfn K mg "refuse_no_place" "refuse_no_place" Cw ["web", "place"]
 d_near:Dfn K mg "near" "near" NQ ["web", "place"]
 d_takes_of:Dfn K mg "takes_of" "takes_of" Gj ["web"]
 d_bits_of:Dfn K mg "bits_of" "bits_of" Hi ["some"]
 d_settle:Dfn K mg "settle" "settle" JG ["takes", "bits", "holders", "guard", "seen"]
 d_fits:Dfn K mg "fits" "fits" NR ["takes", "guards", "bits"]
 d_refuse_no_call:Dfn K mg "refuse_no_call" "refuse_no_call" DF ["web", "standing", "call"]
 d_can_end:Dfn K mg "can_end" "can_end" Hh ["takes", "told", "rest", "call"]
 d_answers_of_all:Dfn K mg "answers_of_all" "answers_of_all" DG ["web", "standing", "call"]
 d_with_step:Dfn K mg "with_step" "with_step" FQ ["standing", "guard", "place"]
 d_answers:Dfn K mg "answers" "answers" Hj ["web", "standing", "call", "kind"]
 d__law_cell_at:Dfn K mg "_law_cell_at" "_law_cell_at" Dt ["script", "k"]
 d__law_pairs:Dfn K mg "_law_pairs" "_law_pairs" Ex ["places"]
 d__law_first_ties:Dfn K mg "_law_first_ties" "_law_first_ties" Cy ["places", "style"]
 d__law_ties:Dfn K mg "_law_ties" "_law_ties" FR ["script", "first", "places"]
 d__law_handed:Dfn K mg "_law_handed" "_law_handed" EL ["script", "ties"]
 d__law_near:Dfn K mg "_law_near" "_law_near" FT ["ties", "place"]
 d__law_sets:Dfn K mg "_law_sets" "_law_sets" FS ["places", "guards"]
 d__law_set_told:Dfn K mg "_law_set_told" "_law_set_told" Da ["found"]
 d__law_answers:Dfn K mg "_law_answers" "_law_answers" Du ["ties", "standing", "call", "kind"]
 d__law_refused:Dfn K mg "_law_refused" "_law_refused" Ds ["web", "standing", "call"]
 d__law_right:Dfn K mg "_law_right" "_law_right" Ew ["web", "ties", "standing", "call"]
 d_law:Dfn K mg "law" "law" Qj ["script"]
 c_Web:Own K mg "Web" W.Web d_Web_init.f
 n_Web_places:IF K W.Web "places"
 n_Web_ties:IF K W.Web "ties"
 n_Web_near_sets:IF K W.Web "near_sets"
 x_BadPlaces:Xcl K mg "BadPlaces" W.BadPlaces
 x_BadTie:Xcl K mg "BadTie" W.BadTie
 x_NoPlace:Xcl K mg "NoPlace" W.NoPlace
 x_NoCall:Xcl K mg "NoCall" W.NoCall
 nd:W.excs.Nodup
 caught_NoCall:∀c∈[W.NoCall],V9 K c W.NoCall
 b_all:mg "all" = none
 b_any:mg "any" = none
 b_bool:mg "bool" = none
 b_enumerate:mg "enumerate" = none
 b_int:mg "int" = none
 b_isinstance:mg "isinstance" = none
 b_len:mg "len" = none
 b_list:mg "list" = none
 b_max:mg "max" = none
 b_min:mg "min" = none
 b_range:mg "range" = none
 b_reversed:mg "reversed" = none
 b_sorted:mg "sorted" = none
 b_tuple:mg "tuple" = none
 g_MOST_PLACES:∃tk,mg "MOST_PLACES" = some (.int 60 tk)
section
variable {P:An} {w:BH} {K:AB} {mg:Str->Option AC} {base:Bl} {W:Wd}
theorem OI:Bp ["places", "ties", "found", "one", "other", "tie"] ["places", "ties"] (Ai Dr):=G9
theorem OO (T:Txt K mg W):Dh P w K mg base (CXG P w) 1 T.d_checked_ties.f T.d_checked_ties.fd ["places", "ties"] (spM K 2 (GC W)):=by
 refine CI (k:=0) T.d_checked_ties.F OI rfl λ_ _ _ _ _ _ hr O hu nd pn E'=>?_
 exact (Ab (Ct 2 nd T1)
  (Ab (EA (BM O).own rfl (Ce (AD (pv 1))) (Vm rfl (JO (CD 3 nd) (JO (CD 4 nd) R7)))
  (Ab (Ct 5 nd (E3 (AL (R9 rfl rfl T.b_min (AL (AD (pv 3)) (AL (AD (pv 4)) Ao))) (AL (dw rfl rfl T.b_max (AL (AD (pv 3)) (AL (AD (pv 4)) Ao))) Ao))))
  (Ab (Dj (En (Ke hu) (Eo hu (AD (pv 5)) ge_int) (Eo hu (AD (pv 5)) ge_int) (El _)) (Am (JN (BM O) rfl T.x_BadTie.xc rfl T.x_BadTie.m (AL Fy Ao))) CB)
  (Ab (Dj (Vk (Ws (En Wf (Eo hu (AD (pv 5)) ge_int) ge_int (El _)) (Vj (En lB (Eo hu (AD (pv 5)) ge_int) (AD (pv 0)) (El _))))) (Am (JN (BM O) rfl T.x_BadTie.xc rfl T.x_BadTie.m (AL Fy Ao))) CB)
  (Ab (Dj (N7 hu (AD (pv 5)) (AD (pv 2))) (Am (JN (BM O) rfl T.x_BadTie.xc rfl T.x_BadTie.m (AL Fy Ao))) CB)
  (Am (Jm (BW (DE (by decide:1<=64) _) hu) (AD (pv 2)) (AD (pv 5)) HS rfl)))))))
  (Am (Bj (Kh rfl T.b_tuple (Go rfl rfl T.b_sorted (AD (pv 2))))))))
theorem OH:Bp ["places", "ties", "rows", "one", "other"] ["places", "ties"] (Ai Dq):=G9
theorem ON (T:Txt K mg W):Dh P w K mg base (CXG P w) 1 T.d_near_sets_of.f T.d_near_sets_of.fd ["places", "ties"] (spM K 2 (GB W)):=by
 refine CI (k:=0) T.d_near_sets_of.F OH rfl λ_ _ _ _ _ _ hr O hu nd pn E'=>?_
 exact (Ab (Mx (i:=2) (own:=["place"]) (N':=["place", "·1", "·2", "·3", "·4", "·5"]) rfl rfl nd rfl (by first | exact MH rfl | exact Kw rfl) (CZ (by kernel_rfl)) (FX rfl T.b_range (AL (AD (pv 0)) Ao)) (λ_ _ _ _ _ _=>(CD 0 (by decide +kernel:(["place", "·1", "·2", "·3", "·4", "·5"]:List Str).Nodup))) (λ_ _ _ _ _ _=>DO) (λ_ _ _ _ _ _=>(CP (HJ Ao))))
  (Ab (EA (BM O).own rfl (Ce (AD (pv 1))) (Vm rfl (JO (CD 3 nd) (JO (CD 4 nd) R7)))
  (Ab (Fx (LJ (Eo hu (AD (pv 2)) (AD (pv 3))) (AD (pv 4))))
  (Am (Fx (LJ (Eo hu (AD (pv 2)) (AD (pv 4))) (AD (pv 3)))))))
  (Am (Bj (Kh rfl T.b_tuple (CP (DT (own:=["row"]) (N':=["row", "·1", "·2", "·3", "·4", "·5"]) rfl (CZ (by kernel_rfl)) (Ce (AD (pv 2))) (λ_ _ _ _ _ _=>(CD 0 (by decide +kernel:(["row", "·1", "·2", "·3", "·4", "·5"]:List Str).Nodup))) (λ_ _ _ _ _ _=>DO) (λ_ _ _ _ _ _=>(Kh rfl T.b_tuple (Go rfl rfl T.b_sorted (AD (pv 0))))))))))))
theorem TQ:Bp ["self", "places", "ties"] ["self", "places", "ties"] (Ai Gk):=G9
theorem Td (T:Txt K mg W):Dh P w K mg base (CXG P w) 2 T.d_Web_init.f T.d_Web_init.fd ["self", "places", "ties"] (spM K 3 (Jo W)):=by
 refine CI (k:=1) T.d_Web_init.F TQ rfl λ_ _ _ _ _ _ hr O hu nd pn E'=>?_
 exact (Ab (Dj (Hw (Pm Wg Wg ge_int (AD (pv 1)) (T0 rfl T.g_MOST_PLACES.choose_spec))) (Am (JN (BM O) rfl T.x_BadPlaces.xc rfl T.x_BadPlaces.m (AL (dz (R6 Fy (R6 (jG (T0 rfl T.g_MOST_PLACES.choose_spec)) (R6 Fy jA)))) Ao))) CB)
  (Ab (Vl T.c_Web.cl T.n_Web_places (AD (pv 0)) (AD (pv 1)) rfl)
  (Ab (Vl T.c_Web.cl T.n_Web_ties (AD (pv 0)) (Ba (OO T) (BM O).pass (hr.mono (by decide)) rfl T.d_checked_ties.m T.d_checked_ties.kp T.d_checked_ties.b (AL (AD (pv 1)) (AL (AD (pv 2)) Ao))) rfl)
  (Am (Vl T.c_Web.cl T.n_Web_near_sets (AD (pv 0)) (Ba (ON T) (BM O).pass (hr.mono (by decide)) rfl T.d_near_sets_of.m T.d_near_sets_of.kp T.d_near_sets_of.b (AL (AD (pv 1)) (AL (Ng T.c_Web.cl T.n_Web_ties (AD (pv 0)) rfl) Ao))) rfl)))))
theorem Ll:Bp ["web", "place"] ["web", "place"] (Ai Cw):=G9
theorem Lq (T:Txt K mg W):Dh P w K mg base (CXG P w) 1 T.d_refuse_no_place.f T.d_refuse_no_place.fd ["web", "place"] (spM K 2 (F0 W)):=by
 refine CI (k:=0) T.d_refuse_no_place.F Ll rfl λ_ _ _ _ _ _ hr O hu nd pn E'=>?_
 exact (Am (Dj (Hw (Pm Wg Wf ge_int (AD (pv 1)) (Ng T.c_Web.cl T.n_Web_places (AD (pv 0)) rfl))) (Am (JN (BM O) rfl T.x_NoPlace.xc rfl T.x_NoPlace.m (AL Fy Ao))) CB))
theorem cn:Bp ["web", "place"] ["web", "place"] (Ai NQ):=G9
theorem We (T:Txt K mg W):Dh P w K mg base (CXG P w) 2 T.d_near.f T.d_near.fd ["web", "place"] (spM K 2 (SD W)):=by
 refine CI (k:=1) T.d_near.F cn rfl λ_ _ _ _ _ _ hr O hu nd pn E'=>?_
 exact (Ab (Fx (Ba (Lq T) (BM O).pass (hr.mono (by decide)) rfl T.d_refuse_no_place.m T.d_refuse_no_place.kp T.d_refuse_no_place.b (AL (AD (pv 0)) (AL (AD (pv 1)) Ao))))
  (Am (Bj (Eo hu (Ng T.c_Web.cl T.n_Web_near_sets (AD (pv 0)) rfl) (AD (pv 1))))))
theorem TN:Bp ["web"] ["web"] (Ai Gj):=G9
theorem Tc (T:Txt K mg W):Dh P w K mg base (CXG P w) 3 T.d_takes_of.f T.d_takes_of.fd ["web"] (spM K 1 (Lz W)):=by
 refine CI (k:=2) T.d_takes_of.F TN rfl λ_ _ _ _ _ _ hr O hu nd pn E'=>?_
 exact (Am (Bj (CP (DT (own:=["place"]) (N':=["place", "web"]) rfl (CZ (by kernel_rfl)) (FX rfl T.b_range (AL (Ng T.c_Web.cl T.n_Web_places (AD (pv 0)) rfl) Ao)) (λ_ _ _ _ _ _=>(CD 0 (by decide +kernel:(["place", "web"]:List Str).Nodup))) (λ_ _ _ _ _ _=>DO) (λ_ _ _ _ _ _=>(Kh rfl T.b_tuple (Go rfl rfl T.b_sorted (Bb D7 (E3 (AL (AD (pv 0)) Ao)) (Ba (We T) (good_none rfl).pass (hr.mono (by decide)) rfl T.d_near.m T.d_near.kp T.d_near.b (AL (AD (pv 1)) (AL (AD (pv 0)) Ao)))))))))))
theorem U7:Bp ["some", "bits", "place"] ["some"] (Ai Hi):=G9
theorem VP (T:Txt K mg W):Dh P w K mg base (CXG P w) 1 T.d_bits_of.f T.d_bits_of.fd ["some"] (spM K 1 (Nm W)):=by
 refine CI (k:=0) T.d_bits_of.F U7 rfl λ_ _ _ _ _ _ hr O hu nd pn E'=>?_
 exact (Ab (Ct 1 nd ge_int)
  (Ab (EA (BM O).own rfl (Ce (AD (pv 0))) (CD 2 nd)
  (Am (lV 1 nd lO (Bb Z6 ge_int (AD (pv 2))))))
  (Am (Bj (AD (pv 1))))))
theorem Xp:Bp ["takes", "bits", "holders", "guard", "seen", "wanted", "place"] ["takes", "bits", "holders", "guard", "seen"] (Ai JG):=G9
theorem Qo (T:Txt K mg W):∀n:Nat,Dh P w K mg base (CXG P w) (0+n) T.d_settle.f T.d_settle.fd ["takes", "bits", "holders", "guard", "seen"] (spM K 5 (FC W n))
 | 0=>jN
 | n+1=>by
  refine CI (k:=0+n) T.d_settle.F Xp rfl λ_ _ _ _ _ _ hr O hu nd pn E'=>?_
  exact (Ab (Mx (i:=5) (own:=["place"]) (N':=["place", "·1", "bits", "·3", "·4", "seen", "·6", "·7"]) rfl rfl nd rfl (by first | exact MH rfl | exact Kw rfl) (CZ (by kernel_rfl)) (Ce (Eo hu (AD (pv 0)) (AD (pv 3)))) (λ_ _ _ _ _ _=>(CD 0 (by decide +kernel:(["place", "·1", "bits", "·3", "·4", "seen", "·6", "·7"]:List Str).Nodup))) (λ_ _ _ _ _ _=>(HA (Vk (R0 (Fv (Bb VR (Bb VQ (AD (pv 2)) (AD (pv 0))) ge_int)) (Oi (JM hu (AD (pv 0)) (AD (pv 5)))))))) (λ_ _ _ _ _ _=>(AD (pv 0))))
  (Ab (EA (BM O).own rfl (Ce (AD (pv 5))) (CD 6 nd)
  (Am (Dj (JM hu (AD (pv 6)) (AD (pv 2))) (Ab (Jm (BW (DE (by decide:1<=64) _) hu) (AD (pv 2)) (AD (pv 6)) (AD (pv 3)) rfl)
  (Am (Bj HS))) CB)))
  (Ab (EA (BM O).own rfl (Ce (AD (pv 5))) (CD 6 nd)
  (Am (Dj (JM hu (AD (pv 6)) (AD (pv 4))) (Ab (Jm (BW (DE (by decide:1<=64) _) hu) (AD (pv 4)) (AD (pv 6)) HS rfl)
  (Am (Dj (Fv (Ba (Qo T n) (BM O).pass (hr.mono (AU _)) rfl T.d_settle.m T.d_settle.kp T.d_settle.b (AL (AD (pv 0)) (AL (AD (pv 1)) (AL (AD (pv 2)) (AL (Eo hu (AD (pv 2)) (AD (pv 6))) (AL (AD (pv 4)) Ao))))))) (Ab (Jm (BW (DE (by decide:1<=64) _) hu) (AD (pv 2)) (AD (pv 6)) (AD (pv 3)) rfl)
  (Am (Bj HS))) CB))) CB)))
  (Am (Bj HS)))))
theorem cp:Bp ["takes", "guards", "bits", "holders", "guard"] ["takes", "guards", "bits"] (Ai NR):=G9
theorem dW (T:Txt K mg W):Dh P w K mg base (CXG P w) 11 T.d_fits.f T.d_fits.fd ["takes", "guards", "bits"] (spM K 3 (SE W)):=by
 refine CI (k:=10) T.d_fits.F cp rfl λ_ _ _ _ _ _ hr O hu nd pn E'=>?_
 exact (Ab (Ct 3 nd T3)
  (Ab (EA (BM O).own rfl (Ce (AD (pv 1))) (CD 4 nd)
  (Am (Dj (Fv (Bb VR (Bb VQ (AD (pv 2)) (AD (pv 4))) ge_int)) (Am (Jm (BW (DE (by decide:1<=64) _) hu) (AD (pv 3)) (AD (pv 4)) (AD (pv 4)) rfl)) CB)))
  (Ab (EA (BM O).own rfl (Ce (AD (pv 1))) (CD 4 nd)
  (Am (Dj (Vk (R0 (Hw (Fv (Bb VR (Bb VQ (AD (pv 2)) (AD (pv 4))) ge_int))) (Oi (Hw (Fv (Ba (Qo T 9) (BM O).pass (hr.mono (by decide)) rfl T.d_settle.m T.d_settle.kp T.d_settle.b (AL (AD (pv 0)) (AL (AD (pv 2)) (AL (AD (pv 3)) (AL (AD (pv 4)) (AL T3 Ao))))))))))) (Am (Bj HS)) CB)))
  (Am (Bj HS)))))
theorem Mg:Bp ["web", "standing", "call"] ["web", "standing", "call"] (Ai DF):=G9
theorem Mm (T:Txt K mg W):Dh P w K mg base (CXG P w) 1 T.d_refuse_no_call.f T.d_refuse_no_call.fd ["web", "standing", "call"] (spM K 3 (DH W)):=by
 refine CI (k:=0) T.d_refuse_no_call.F Mg rfl λ_ _ _ _ _ _ hr O hu nd pn E'=>?_
 exact (Am (Dj (Vk (Ws (Hw (Pm Wg Wf ge_int (AD (pv 2)) (Ng T.c_Web.cl T.n_Web_places (AD (pv 0)) rfl))) (Vj (N7 hu (AD (pv 2)) (AD (pv 1)))))) (Am (JN (BM O) rfl T.x_NoCall.xc rfl T.x_NoCall.m (AL Fy Ao))) CB))
theorem U6:Bp ["takes", "told", "rest", "call", "everywhere"] ["takes", "told", "rest", "call"] (Ai Hh):=G9
theorem VN (T:Txt K mg W):Dh P w K mg base (CXG P w) 12 T.d_can_end.f T.d_can_end.fd ["takes", "told", "rest", "call"] (spM K 4 (Nl W)):=by
 refine CI (k:=11) T.d_can_end.F U6 rfl λ_ _ _ _ _ _ hr O hu nd pn E'=>?_
 exact (Ab (Dj (Vk (R0 (JM hu (AD (pv 3)) (AD (pv 1))) (Oi (Hw (R3 (jI rfl rfl T.b_any (CP (DT (own:=["guard"]) (N':=["guard", "takes", "·2", "·3", "call", "·5"]) rfl (CZ (by kernel_rfl)) (Ce (AD (pv 2))) (λ_ _ _ _ _ _=>(CD 0 (by decide +kernel:(["guard", "takes", "·2", "·3", "call", "·5"]:List Str).Nodup))) (λ_ _ _ _ _ _=>DO) (λ_ _ _ _ _ _=>(fR hu (AD (pv 4)) (Eo hu (AD (pv 1)) (AD (pv 0))))))))))))) (Am (Bj HS)) CB)
  (Ab (Ct 4 nd (Bb NV (Bb Z6 ge_int (Nf rfl T.b_len (AD (pv 0)))) ge_int))
  (Am (Bj (Ba (dW T) (BM O).pass (hr.mono (by decide)) rfl T.d_fits.m T.d_fits.kp T.d_fits.b (AL (AD (pv 0)) (AL (AD (pv 2)) (AL (Bb ii (AD (pv 4)) (Ba (VP T) (BM O).pass (hr.mono (by decide)) rfl T.d_bits_of.m T.d_bits_of.kp T.d_bits_of.b (AL (AD (pv 1)) Ao))) Ao))))))))
theorem Mh:Bp ["web", "standing", "call", "takes", "begun", "number", "guard", "rest", "longer", "told", "steps"] ["web", "standing", "call"] (Ai DG):=G9
theorem Mn (T:Txt K mg W):Dh P w K mg base (CXG P w) 13 T.d_answers_of_all.f T.d_answers_of_all.fd ["web", "standing", "call"] (spM K 3 (Gq W)):=by
 refine CI (k:=12) T.d_answers_of_all.F Mh rfl λ_ _ _ _ _ _ hr O hu nd pn E'=>?_
 exact (Ab (Ct 3 nd (Ba (Tc T) (BM O).pass (hr.mono (by decide)) rfl T.d_takes_of.m T.d_takes_of.kp T.d_takes_of.b (AL (AD (pv 0)) Ao)))
  (Ab (Ct 4 nd (CP (HJ (AL (E3 Ao) Ao))))
  (Ab (EA (BM O).own rfl (am rfl T.b_enumerate (AD (pv 1))) (Vm rfl (JO (CD 5 nd) (JO (CD 6 nd) R7)))
  (Ab (Ct 7 nd (Nd (AD (pv 1)) (R4 (AD (pv 5))) R5))
  (Ab (Ct 8 nd (CP (HJ Ao)))
  (Ab (EA (BM O).own rfl (Ce (AD (pv 4))) (CD 9 nd)
  (Ab (Mx (i:=10) (own:=["place"]) (N':=["place", "·1", "·2", "·3", "·4", "·5", "·6", "·7", "·8", "·9", "told", "·11"]) rfl rfl nd rfl (by first | exact MH rfl | exact Kw rfl) (CZ (by kernel_rfl)) (Ce (Eo hu (AD (pv 3)) (AD (pv 6)))) (λ_ _ _ _ _ _=>(CD 0 (by decide +kernel:(["place", "·1", "·2", "·3", "·4", "·5", "·6", "·7", "·8", "·9", "told", "·11"]:List Str).Nodup))) (λ_ _ _ _ _ _=>(HA (JM hu (AD (pv 0)) (AD (pv 10))))) (λ_ _ _ _ _ _=>(Bb D7 (AD (pv 10)) (E3 (AL (AD (pv 0)) Ao)))))
  (Am (Fx (Nh (AD (pv 8)) (CP (DT (own:=["step"]) (N':=["step", "·1", "·2", "call", "takes", "·5", "·6", "·7", "rest", "·9", "·10", "·11"]) rfl (CZ (by kernel_rfl)) (Ce (AD (pv 10))) (λ_ _ _ _ _ _=>(CD 0 (by decide +kernel:(["step", "·1", "·2", "call", "takes", "·5", "·6", "·7", "rest", "·9", "·10", "·11"]:List Str).Nodup))) (λ_ _ _ _ _ _=>(HA (Fv (Ba (VN T) (good_none rfl).pass (hr.mono (by decide)) rfl T.d_can_end.m T.d_can_end.kp T.d_can_end.b (AL (AD (pv 4)) (AL (AD (pv 0)) (AL (AD (pv 8)) (AL (AD (pv 3)) Ao)))))))) (λ_ _ _ _ _ _=>(AD (pv 0))))))))))
  (Am (Ct 4 nd (AD (pv 8))))))))
  (Am (Bj (AD (pv 4)))))))
theorem RY:Bp ["standing", "guard", "place"] ["standing", "guard", "place"] (Ai FQ):=G9
theorem Rh (T:Txt K mg W):Dh P w K mg base (CXG P w) 1 T.d_with_step.f T.d_with_step.fd ["standing", "guard", "place"] (spM K 3 (Kj W)):=by
 refine CI (k:=0) T.d_with_step.F RY rfl λ_ _ _ _ _ _ hr O hu nd pn E'=>?_
 exact (Am (Bj (Kh rfl T.b_tuple (CP (DT (own:=["other"]) (N':=["other", "·1", "guard", "place"]) rfl (CZ (by kernel_rfl)) (Ce (AD (pv 0))) (λ_ _ _ _ _ _=>(CD 0 (by decide +kernel:(["other", "·1", "guard", "place"]:List Str).Nodup))) (λ_ _ _ _ _ _=>DO) (λ_ _ _ _ _ _=>(au (En (Ke hu) (AD (pv 0)) (AD (pv 2)) (El _)) (AD (pv 3)) (AD (pv 0)))))))))
theorem U8:Bp ["web", "standing", "call", "kind", "movers"] ["web", "standing", "call", "kind"] (Ai Hj):=G9
theorem Jh (T:Txt K mg W):Dh P w K mg base (CXG P w) 14 T.d_answers.f T.d_answers.fd ["web", "standing", "call", "kind"] (spM K 4 (EM W)):=by
 refine CI (k:=13) T.d_answers.F U8 rfl λ_ _ _ _ _ _ hr O hu nd pn E'=>?_
 exact (Ab (Fx (Ba (Mm T) (BM O).pass (hr.mono (by decide)) rfl T.d_refuse_no_call.m T.d_refuse_no_call.kp T.d_refuse_no_call.b (AL (AD (pv 0)) (AL (AD (pv 1)) (AL (AD (pv 2)) Ao)))))
  (Ab (Dj (En (Ke hu) (AD (pv 3)) Fy (El _)) (Ab (Mx (i:=4) (own:=["guard"]) (N':=["guard", "web", "·2", "call", "·4", "·5"]) rfl rfl nd rfl (by first | exact MH rfl | exact Kw rfl) (CZ (by kernel_rfl)) (Ce (AD (pv 1))) (λ_ _ _ _ _ _=>(CD 0 (by decide +kernel:(["guard", "web", "·2", "call", "·4", "·5"]:List Str).Nodup))) (λ_ _ _ _ _ _=>(HA (N7 hu (AD (pv 0)) (Ba (We T) (good_none rfl).pass (hr.mono (by decide)) rfl T.d_near.m T.d_near.kp T.d_near.b (AL (AD (pv 1)) (AL (AD (pv 3)) Ao)))))) (λ_ _ _ _ _ _=>(AD (pv 0))))
  (Am (Bj (Go rfl rfl T.b_sorted (CP (DT (own:=["guard"]) (N':=["guard", "·1", "standing", "call", "·4", "·5"]) rfl (CZ (by kernel_rfl)) (Ce (AD (pv 4))) (λ_ _ _ _ _ _=>(CD 0 (by decide +kernel:(["guard", "·1", "standing", "call", "·4", "·5"]:List Str).Nodup))) (λ_ _ _ _ _ _=>DO) (λ_ _ _ _ _ _=>(Ba (Rh T) (good_none rfl).pass (hr.mono (by decide)) rfl T.d_with_step.m T.d_with_step.kp T.d_with_step.b (AL (AD (pv 2)) (AL (AD (pv 0)) (AL (AD (pv 3)) Ao))))))))))) CB)
  (Am (Bj (Ba (Mn T) (BM O).pass (hr.mono (by decide)) rfl T.d_answers_of_all.m T.d_answers_of_all.kp T.d_answers_of_all.b (AL (AD (pv 0)) (AL (AD (pv 1)) (AL (AD (pv 2)) Ao))))))))
theorem OK:Bp ["script", "k"] ["script", "k"] (Ai Dt):=G9
theorem EF (T:Txt K mg W):Dh P w K mg base (CXG P w) 1 T.d__law_cell_at.f T.d__law_cell_at.fd ["script", "k"] (spM K 2 (DP W)):=by
 refine CI (k:=0) T.d__law_cell_at.F OK rfl λ_ _ _ _ _ _ hr O hu nd pn E'=>?_
 exact (Ab (Dj (En Wf (AD (pv 1)) (Nf rfl T.b_len (AD (pv 0))) (El _)) (Am (Bj (Eo hu (AD (pv 0)) (AD (pv 1))))) CB)
  (Am (Bj ge_int)))
theorem QH:Bp ["places", "found", "one", "other"] ["places"] (Ai Ex):=G9
theorem La (T:Txt K mg W):Dh P w K mg base (CXG P w) 1 T.d__law_pairs.f T.d__law_pairs.fd ["places"] (spM K 1 (Hd W)):=by
 refine CI (k:=0) T.d__law_pairs.F QH rfl λ_ _ _ _ _ _ hr O hu nd pn E'=>?_
 exact (Ab (Ct 1 nd (CP (HJ Ao)))
  (Ab (EA (BM O).own rfl (FX rfl T.b_range (AL (AD (pv 0)) Ao)) (CD 2 nd)
  (Am (EA (BM O).own rfl (LH rfl T.b_range (AL (Bb D7 (AD (pv 2)) ge_int) (AL (AD (pv 0)) Ao))) (CD 3 nd)
  (Am (Fx (LJ (AD (pv 1)) (E3 (AL (AD (pv 2)) (AL (AD (pv 3)) Ao)))))))))
  (Am (Bj (AD (pv 1))))))
theorem Lm:Bp ["places", "style"] ["places", "style"] (Ai Cy):=G9
theorem Lr (T:Txt K mg W):Dh P w K mg base (CXG P w) 2 T.d__law_first_ties.f T.d__law_first_ties.fd ["places", "style"] (spM K 2 (GD W)):=by
 refine CI (k:=1) T.d__law_first_ties.F Lm rfl λ_ _ _ _ _ _ hr O hu nd pn E'=>?_
 exact (Ab (Dj (En (Ke hu) (AD (pv 1)) ge_int (El _)) (Am (Bj (CP (DT (own:=["k"]) (N':=["k", "·1", "·2"]) rfl (CZ (by kernel_rfl)) (FX rfl T.b_range (AL (Bb NV (AD (pv 0)) ge_int) Ao)) (λ_ _ _ _ _ _=>(CD 0 (by decide +kernel:(["k", "·1", "·2"]:List Str).Nodup))) (λ_ _ _ _ _ _=>DO) (λ_ _ _ _ _ _=>(E3 (AL (AD (pv 0)) (AL (Bb D7 (AD (pv 0)) ge_int) Ao)))))))) CB)
  (Ab (Dj (En (Ke hu) (AD (pv 1)) ge_int (El _)) (Am (Bj (Bb D7 (CP (DT (own:=["k"]) (N':=["k", "·1", "·2"]) rfl (CZ (by kernel_rfl)) (FX rfl T.b_range (AL (Bb NV (AD (pv 0)) ge_int) Ao)) (λ_ _ _ _ _ _=>(CD 0 (by decide +kernel:(["k", "·1", "·2"]:List Str).Nodup))) (λ_ _ _ _ _ _=>DO) (λ_ _ _ _ _ _=>(E3 (AL (AD (pv 0)) (AL (Bb D7 (AD (pv 0)) ge_int) Ao)))))) (CP (HJ (AL (E3 (AL ge_int (AL (Bb NV (AD (pv 0)) ge_int) Ao))) Ao)))))) CB)
  (Ab (Dj (En (Ke hu) (AD (pv 1)) ge_int (El _)) (Am (Bj (Ba (La T) (BM O).pass (hr.mono (by decide)) rfl T.d__law_pairs.m T.d__law_pairs.kp T.d__law_pairs.b (AL (AD (pv 0)) Ao)))) CB)
  (Ab (Dj (En (Ke hu) (AD (pv 1)) ge_int (El _)) (Am (Bj (CP (DT (own:=["k"]) (N':=["k", "·1", "·2"]) rfl (CZ (by kernel_rfl)) (LH rfl T.b_range (AL ge_int (AL (AD (pv 0)) Ao))) (λ_ _ _ _ _ _=>(CD 0 (by decide +kernel:(["k", "·1", "·2"]:List Str).Nodup))) (λ_ _ _ _ _ _=>DO) (λ_ _ _ _ _ _=>(E3 (AL ge_int (AL (AD (pv 0)) Ao)))))))) CB)
  (Am (Bj (CP (HJ Ao))))))))
theorem RZ:Bp ["script", "first", "places", "pairs", "there", "tie", "k"] ["script", "first", "places"] (Ai FR):=G9
theorem Ri (T:Txt K mg W):Dh P w K mg base (CXG P w) 3 T.d__law_ties.f T.d__law_ties.fd ["script", "first", "places"] (spM K 3 (Kk W)):=by
 refine CI (k:=2) T.d__law_ties.F RZ rfl λ_ _ _ _ _ _ hr O hu nd pn E'=>?_
 exact (Ab (Ct 3 nd (Ba (La T) (BM O).pass (hr.mono (by decide)) rfl T.d__law_pairs.m T.d__law_pairs.kp T.d__law_pairs.b (AL (AD (pv 2)) Ao)))
  (Ab (Ct 4 nd T1)
  (Ab (EA (BM O).own rfl (Ce (Ba (Lr T) (BM O).pass (hr.mono (by decide)) rfl T.d__law_first_ties.m T.d__law_first_ties.kp T.d__law_first_ties.b (AL (AD (pv 2)) (AL (Bb Ls (Bb Rn (Ba (EF T) (BM O).pass (hr.mono (by decide)) rfl T.d__law_cell_at.m T.d__law_cell_at.kp T.d__law_cell_at.b (AL (AD (pv 0)) (AL ge_int Ao))) ge_int) ge_int) Ao)))) (CD 5 nd)
  (Am (Jm (BW (DE (by decide:1<=64) _) hu) (AD (pv 4)) (AD (pv 5)) HS rfl)))
  (Ab (EA (BM O).own rfl (LH rfl T.b_range (AL (AD (pv 1)) (AL (R9 rfl rfl T.b_min (AL (Nf rfl T.b_len (AD (pv 0))) (AL ge_int Ao))) Ao))) (CD 6 nd)
  (Ab (Ct 5 nd (Eo hu (AD (pv 3)) (Bb Ls (Eo hu (AD (pv 0)) (AD (pv 6))) (Nf rfl T.b_len (AD (pv 3))))))
  (Am (Jm (BW (DE (by decide:1<=64) _) hu) (AD (pv 4)) (AD (pv 5)) (L2.lW (ap hu (AD (pv 5)) (AD (pv 4))) (ao (aq (Eo hu (AD (pv 4)) (AD (pv 5)))))) rfl))))
  (Am (Bj (CP (DT (own:=["tie"]) (N':=["tie", "·1", "·2", "·3", "·4", "there", "·6", "·7"]) rfl (CZ (by kernel_rfl)) (Ce (AD (pv 3))) (λ_ _ _ _ _ _=>(CD 0 (by decide +kernel:(["tie", "·1", "·2", "·3", "·4", "there", "·6", "·7"]:List Str).Nodup))) (λ_ _ _ _ _ _=>(HA (Vk (R0 (N7 hu (AD (pv 0)) (AD (pv 5))) (Oi (Fv (Eo hu (AD (pv 5)) (AD (pv 0))))))))) (λ_ _ _ _ _ _=>(AD (pv 0)))))))))))
theorem PL:Bp ["script", "ties"] ["script", "ties"] (Ai EL):=G9
theorem PU (T:Txt K mg W):Dh P w K mg base (CXG P w) 2 T.d__law_handed.f T.d__law_handed.fd ["script", "ties"] (spM K 2 (Ip W)):=by
 refine CI (k:=1) T.d__law_handed.F PL rfl λ_ _ _ _ _ _ hr O hu nd pn E'=>?_
 exact (Ab (Dj (En (Ke hu) (Bb Ls (Bb Rn (Ba (EF T) (BM O).pass (hr.mono (by decide)) rfl T.d__law_cell_at.m T.d__law_cell_at.kp T.d__law_cell_at.b (AL (AD (pv 0)) (AL ge_int Ao))) ge_int) ge_int) ge_int (El _)) (Am (Bj (Wv rfl T.b_list (AD (pv 1))))) CB)
  (Am (Bj (CP (DT (own:=["tie"]) (N':=["tie", "·1", "·2"]) rfl (CZ (by kernel_rfl)) (jC rfl T.b_reversed (AD (pv 1))) (λ_ _ _ _ _ _=>(CD 0 (by decide +kernel:(["tie", "·1", "·2"]:List Str).Nodup))) (λ_ _ _ _ _ _=>DO) (λ_ _ _ _ _ _=>(E3 (AL (Eo hu (AD (pv 0)) ge_int) (AL (Eo hu (AD (pv 0)) ge_int) Ao)))))))))
theorem Rb:Bp ["ties", "place", "found", "tie"] ["ties", "place"] (Ai FT):=G9
theorem Mo (T:Txt K mg W):Dh P w K mg base (CXG P w) 1 T.d__law_near.f T.d__law_near.fd ["ties", "place"] (spM K 2 (Ib W)):=by
 refine CI (k:=0) T.d__law_near.F Rb rfl λ_ _ _ _ _ _ hr O hu nd pn E'=>?_
 exact (Ab (Ct 2 nd (CP (HJ Ao)))
  (Ab (EA (BM O).own rfl (Ce (AD (pv 0))) (CD 3 nd)
  (Am (Dj (N7 hu (AD (pv 1)) (AD (pv 3))) (Am (Fx (LJ (AD (pv 2)) (Bb NV (Bb D7 (Eo hu (AD (pv 3)) ge_int) (Eo hu (AD (pv 3)) ge_int)) (AD (pv 1)))))) CB)))
  (Am (Bj (Go rfl rfl T.b_sorted (AD (pv 2)))))))
theorem Ra:Bp ["places", "guards", "rows", "k", "longer", "row", "least"] ["places", "guards"] (Ai FS):=G9
theorem Rj (T:Txt K mg W):Dh P w K mg base (CXG P w) 1 T.d__law_sets.f T.d__law_sets.fd ["places", "guards"] (spM K 2 (Kl W)):=by
 refine CI (k:=0) T.d__law_sets.F Ra rfl λ_ _ _ _ _ _ hr O hu nd pn E'=>?_
 exact (Ab (Ct 2 nd (CP (HJ (AL (E3 Ao) Ao))))
  (Ab (EA (BM O).own rfl (FX rfl T.b_range (AL (AD (pv 1)) Ao)) (CD 3 nd)
  (Ab (Ct 4 nd (CP (HJ Ao)))
  (Ab (EA (BM O).own rfl (Ce (AD (pv 2))) (CD 5 nd)
  (Ab (Ct 6 nd ge_int)
  (Ab (Dj (En (Z7 hu) (AD (pv 5)) (E3 Ao) (El _)) (Am (Ct 6 nd (Bb D7 (Eo hu (AD (pv 5)) (jF ge_int)) ge_int))) CB)
  (Am (Fx (Nh (AD (pv 4)) (CP (DT (own:=["place"]) (N':=["place", "·1", "·2", "·3", "·4", "·5", "row", "·7"]) rfl (CZ (by kernel_rfl)) (LH rfl T.b_range (AL (AD (pv 6)) (AL (Bb D7 (Bb D7 (Bb NV (AD (pv 0)) (AD (pv 1))) (AD (pv 3))) ge_int) Ao))) (λ_ _ _ _ _ _=>(CD 0 (by decide +kernel:(["place", "·1", "·2", "·3", "·4", "·5", "row", "·7"]:List Str).Nodup))) (λ_ _ _ _ _ _=>DO) (λ_ _ _ _ _ _=>(Bb D7 (AD (pv 6)) (E3 (AL (AD (pv 0)) Ao))))))))))))
  (Am (Ct 2 nd (AD (pv 4)))))))
  (Am (Bj (AD (pv 2))))))
theorem NP:Bp ["found"] ["found"] (Ai Da):=G9
theorem NU (T:Txt K mg W):Dh P w K mg base (CXG P w) 1 T.d__law_set_told.f T.d__law_set_told.fd ["found"] (spM K 1 (HK W)):=by
 refine CI (k:=0) T.d__law_set_told.F NP rfl λ_ _ _ _ _ _ hr O hu nd pn E'=>?_
 exact (Ab (Dj (Hw (R3 (Ww (c:=.ty "tuple") (cv:=.type "tuple") (λ_ r=>r) YA (λ_ _ z=>nomatch z) rfl T.b_isinstance (AD (pv 0)) (Od rfl T.b_tuple OD rfl)))) (Am (Bj HS)) CB)
  (Am (Bj (Vq rfl rfl T.b_all (CP (DT (own:=["place"]) (N':=["place", "·1"]) rfl (CZ (by kernel_rfl)) (Ce (AD (pv 0))) (λ_ _ _ _ _ _=>(CD 0 (by decide +kernel:(["place", "·1"]:List Str).Nodup))) (λ_ _ _ _ _ _=>DO) (λ_ _ _ _ _ _=>(L2.jJ (Ww (c:=.ty "int") (cv:=.type "int") (λ_ r=>r) dm (λ_ _ z=>nomatch z) rfl T.b_isinstance (AD (pv 0)) (Od rfl T.b_int Ot rfl)) (ao (aq (Ww (c:=.ty "bool") (cv:=.type "bool") (λ_ r=>r) aa (λ_ _ z=>nomatch z) rfl T.b_isinstance (AD (pv 0)) (Od rfl T.b_bool mE rfl))))))))))))
theorem OL:Bp ["ties", "standing", "call", "kind", "some", "rows", "guard", "steps", "longer", "row"] ["ties", "standing", "call", "kind"] (Ai Du):=G9
theorem OQ (T:Txt K mg W):Dh P w K mg base (CXG P w) 2 T.d__law_answers.f T.d__law_answers.fd ["ties", "standing", "call", "kind"] (spM K 4 (Hz W)):=by
 refine CI (k:=1) T.d__law_answers.F OL rfl λ_ _ _ _ _ _ hr O hu nd pn E'=>?_
 exact (Ab (Dj (En (Ke hu) (AD (pv 3)) Fy (El _)) (Ab (Mx (i:=4) (own:=["k"]) (N':=["k", "ties", "standing", "call", "·4", "·5", "·6", "·7", "·8", "·9", "·10"]) rfl rfl nd rfl (by first | exact MH rfl | exact Kw rfl) (CZ (by kernel_rfl)) (FX rfl T.b_range (AL (Nf rfl T.b_len (AD (pv 1))) Ao)) (λ_ _ _ _ _ _=>(CD 0 (by decide +kernel:(["k", "ties", "standing", "call", "·4", "·5", "·6", "·7", "·8", "·9", "·10"]:List Str).Nodup))) (λ_ _ _ _ _ _=>(HA (N7 hu (AD (pv 3)) (Ba (Mo T) (good_none rfl).pass (hr.mono (by decide)) rfl T.d__law_near.m T.d__law_near.kp T.d__law_near.b (AL (AD (pv 1)) (AL (Eo hu (AD (pv 2)) (AD (pv 0))) Ao)))))) (λ_ _ _ _ _ _=>(AD (pv 0))))
  (Am (Bj (Go rfl rfl T.b_sorted (CP (DT (own:=["k"]) (N':=["k", "·1", "standing", "call", "·4", "·5", "·6", "·7", "·8", "·9", "·10"]) rfl (CZ (by kernel_rfl)) (Ce (AD (pv 4))) (λ_ _ _ _ _ _=>(CD 0 (by decide +kernel:(["k", "·1", "standing", "call", "·4", "·5", "·6", "·7", "·8", "·9", "·10"]:List Str).Nodup))) (λ_ _ _ _ _ _=>DO) (λ_ _ _ _ _ _=>(Bb D7 (Bb D7 (Nd (AD (pv 2)) R5 (R4 (AD (pv 0)))) (E3 (AL (AD (pv 3)) Ao))) (Nd (AD (pv 2)) (R4 (Bb D7 (AD (pv 0)) ge_int)) R5))))))))) CB)
  (Ab (Ct 5 nd (CP (HJ (AL (E3 Ao) Ao))))
  (Ab (EA (BM O).own rfl (Ce (AD (pv 1))) (CD 6 nd)
  (Ab (Ct 7 nd (Bb D7 (CP (HJ (AL (AD (pv 6)) Ao))) (Ba (Mo T) (BM O).pass (hr.mono (by decide)) rfl T.d__law_near.m T.d__law_near.kp T.d__law_near.b (AL (AD (pv 0)) (AL (AD (pv 6)) Ao)))))
  (Ab (Ct 8 nd (CP (HJ Ao)))
  (Ab (EA (BM O).own rfl (Ce (AD (pv 5))) (CD 9 nd)
  (Am (Fx (Nh (AD (pv 8)) (CP (DT (own:=["place"]) (N':=["place", "·1", "·2", "·3", "·4", "·5", "·6", "·7", "·8", "·9", "row"]) rfl (CZ (by kernel_rfl)) (Ce (AD (pv 7))) (λ_ _ _ _ _ _=>(CD 0 (by decide +kernel:(["place", "·1", "·2", "·3", "·4", "·5", "·6", "·7", "·8", "·9", "row"]:List Str).Nodup))) (λ_ _ _ _ _ _=>(HA (JM hu (AD (pv 0)) (AD (pv 10))))) (λ_ _ _ _ _ _=>(Bb D7 (AD (pv 10)) (E3 (AL (AD (pv 0)) Ao))))))))))
  (Am (Ct 5 nd (AD (pv 8))))))))
  (Am (Bj (Go rfl rfl T.b_sorted (CP (DT (own:=["row"]) (N':=["row", "·1", "·2", "call", "·4", "·5", "·6", "·7", "·8", "·9", "·10"]) rfl (CZ (by kernel_rfl)) (Ce (AD (pv 5))) (λ_ _ _ _ _ _=>(CD 0 (by decide +kernel:(["row", "·1", "·2", "call", "·4", "·5", "·6", "·7", "·8", "·9", "·10"]:List Str).Nodup))) (λ_ _ _ _ _ _=>(HA (N7 hu (AD (pv 3)) (AD (pv 0))))) (λ_ _ _ _ _ _=>(AD (pv 0)))))))))))
theorem OJ:Bp ["web", "standing", "call", "refused"] ["web", "standing", "call"] (Ai Ds):=G9
theorem OP (T:Txt K mg W):Dh P w K mg base (CXG P w) 15 T.d__law_refused.f T.d__law_refused.fd ["web", "standing", "call"] (spM K 3 (Hy W)):=by
 refine CI (k:=14) T.d__law_refused.F OJ rfl λ_ _ _ _ _ _ hr O hu nd pn E'=>?_
 exact (Ab (Ct 3 nd HS)
  (Ab (dq O rfl T.x_NoCall.m T.caught_NoCall (λpn' E'=>(Am (Fx (Ba (Jh T) (BM O).pass (hr.mono (by decide)) rfl T.d_answers.m T.d_answers.kp T.d_answers.b (AL (AD (pv 0)) (AL (AD (pv 1)) (AL (AD (pv 2)) (AL Fy Ao)))))))) (λpn' ea=>(Am (Ct 3 nd HS))))
  (Am (Bj (AD (pv 3))))))
theorem QG:Bp ["web", "ties", "standing", "call", "found", "due"] ["web", "ties", "standing", "call"] (Ai Ew):=G9
theorem QK (T:Txt K mg W):Dh P w K mg base (CXG P w) 15 T.d__law_right.f T.d__law_right.fd ["web", "ties", "standing", "call"] (spM K 4 (Jn W)):=by
 refine CI (k:=14) T.d__law_right.F QG rfl λ_ _ _ _ _ _ hr O hu nd pn E'=>?_
 exact (Ab (Ct 4 nd (Ba (Jh T) (BM O).pass (hr.mono (by decide)) rfl T.d_answers.m T.d_answers.kp T.d_answers.b (AL (AD (pv 0)) (AL (AD (pv 2)) (AL (AD (pv 3)) (AL Fy Ao))))))
  (Ab (Ct 5 nd (Ba (OQ T) (BM O).pass (hr.mono (by decide)) rfl T.d__law_answers.m T.d__law_answers.kp T.d__law_answers.b (AL (AD (pv 1)) (AL (AD (pv 2)) (AL (AD (pv 3)) (AL Fy Ao))))))
  (Ab (Dj (Vk (Ws (Hw (R3 (Ww (c:=.ty "list") (cv:=.type "list") (λ_ r=>r) aZ (λ_ _ z=>nomatch z) rfl T.b_isinstance (AD (pv 4)) (Od rfl T.b_list OV rfl)))) (Ws (En (Z7 hu) (AD (pv 4)) (AD (pv 5)) (El _)) (Vj (Hw (R3 (Vq rfl rfl T.b_all (CP (DT (own:=["one"]) (N':=["one", "·1", "·2", "·3", "·4", "·5", "·6"]) rfl (CZ (by kernel_rfl)) (Ce (AD (pv 4))) (λ_ _ _ _ _ _=>(CD 0 (by decide +kernel:(["one", "·1", "·2", "·3", "·4", "·5", "·6"]:List Str).Nodup))) (λ_ _ _ _ _ _=>DO) (λ_ _ _ _ _ _=>(Ba (NU T) (good_none rfl).pass (hr.mono (by decide)) rfl T.d__law_set_told.m T.d__law_set_told.kp T.d__law_set_told.b (AL (AD (pv 0)) Ao)))))))))))) (Am (Bj HS)) CB)
  (Ab (Fx (Vo (AD (pv 4))))
  (Ab (Dj (En (Z7 hu) (Ba (Jh T) (BM O).pass (hr.mono (by decide)) rfl T.d_answers.m T.d_answers.kp T.d_answers.b (AL (AD (pv 0)) (AL (AD (pv 2)) (AL (AD (pv 3)) (AL Fy Ao))))) (AD (pv 5)) (El _)) (Am (Bj HS)) CB)
  (Am (Bj (Vq rfl rfl T.b_all (CP (DT (own:=["one"]) (N':=["one", "·1", "·2", "·3", "·4", "·5", "due"]) rfl (CZ (by kernel_rfl)) (Ce (Ba (Jh T) (BM O).pass (hr.mono (by decide)) rfl T.d_answers.m T.d_answers.kp T.d_answers.b (AL (AD (pv 0)) (AL (AD (pv 2)) (AL (AD (pv 3)) (AL Fy Ao)))))) (λ_ _ _ _ _ _=>(CD 0 (by decide +kernel:(["one", "·1", "·2", "·3", "·4", "·5", "due"]:List Str).Nodup))) (λ_ _ _ _ _ _=>DO) (λ_ _ _ _ _ _=>(fR hu (AD (pv 0)) (AD (pv 6))))))))))))))
theorem g8:Bp ["script", "head", "places", "ties", "web", "guards", "some", "standing", "call"] ["script"] (Ai Qj):=G9
theorem ig (T:Txt K mg W):Dh P w K mg base (CXG P w) 16 T.d_law.f T.d_law.fd ["script"] (spM K 1 (W1 W)):=by
 refine CI (k:=15) T.d_law.F g8 rfl λ_ _ _ _ _ _ hr O hu nd pn E'=>?_
 exact (Ab (Ct 1 nd (Ba (EF T) (BM O).pass (hr.mono (by decide)) rfl T.d__law_cell_at.m T.d__law_cell_at.kp T.d__law_cell_at.b (AL (AD (pv 0)) (AL ge_int Ao))))
  (Ab (Ct 2 nd (Bb D7 (Bb D7 ge_int (Bb Ls (AD (pv 1)) ge_int)) (d6 rfl T.b_int (SA (Ke hu) (Bb Ls (Bb Rn (AD (pv 1)) ge_int) ge_int) ge_int (El _)))))
  (Ab (Ct 3 nd (Ba (Ri T) (BM O).pass (hr.mono (by decide)) rfl T.d__law_ties.m T.d__law_ties.kp T.d__law_ties.b (AL (AD (pv 0)) (AL ge_int (AL (AD (pv 2)) Ao)))))
  (Ab (Ct 4 nd (dy T.c_Web.mk' (Td T) (BM O).pass (hr.mono (by decide)) rfl T.c_Web.m T.d_Web_init.b (AL (AD (pv 2)) (AL (Ba (PU T) (BM O).pass (hr.mono (by decide)) rfl T.d__law_handed.m T.d__law_handed.kp T.d__law_handed.b (AL (AD (pv 0)) (AL (AD (pv 3)) Ao))) Ao))))
  (Ab (Ct 5 nd (Bb D7 ge_int (Bb Ls (Ba (EF T) (BM O).pass (hr.mono (by decide)) rfl T.d__law_cell_at.m T.d__law_cell_at.kp T.d__law_cell_at.b (AL (AD (pv 0)) (AL ge_int Ao))) (R9 rfl rfl T.b_min (AL (AD (pv 2)) (AL ge_int Ao))))))
  (Ab (Ct 6 nd (Ba (Rj T) (BM O).pass (hr.mono (by decide)) rfl T.d__law_sets.m T.d__law_sets.kp T.d__law_sets.b (AL (AD (pv 2)) (AL (AD (pv 5)) Ao))))
  (Ab (Ct 7 nd (Eo hu (AD (pv 6)) (Bb Ls (Ba (EF T) (BM O).pass (hr.mono (by decide)) rfl T.d__law_cell_at.m T.d__law_cell_at.kp T.d__law_cell_at.b (AL (AD (pv 0)) (AL ge_int Ao))) (Nf rfl T.b_len (AD (pv 6))))))
  (Ab (EA (BM O).own rfl (FX rfl T.b_range (AL (AD (pv 2)) Ao)) (CD 8 nd)
  (Am (Dj (N7 hu (AD (pv 8)) (AD (pv 7))) (Am (Dj (Hw (Fv (Ba (OP T) (BM O).pass (hr.mono (by decide)) rfl T.d__law_refused.m T.d__law_refused.kp T.d__law_refused.b (AL (AD (pv 4)) (AL (AD (pv 7)) (AL (AD (pv 8)) Ao)))))) (Am (Bj HS)) CB)) (Am (Dj (Hw (Fv (Ba (QK T) (BM O).pass (hr.mono (by decide)) rfl T.d__law_right.m T.d__law_right.kp T.d__law_right.b (AL (AD (pv 4)) (AL (AD (pv 3)) (AL (AD (pv 7)) (AL (AD (pv 8)) Ao))))))) (Am (Bj HS)) CB)))))
  (Am (Bj (SA (Ke hu) (Wv rfl T.b_list (Ng T.c_Web.cl T.n_Web_ties (AD (pv 4)) rfl)) (AD (pv 3)) (El _))))))))))))
end
end M
namespace M
open PySem L2
open Srt (ltL)
def pairD (x:Int×Int):D:=.tup [.int x.1,.int x.2]
def nrm (x:Int×Int):Int×Int:=(if x.2 < x.1 then x.2 else x.1,if x.2 > x.1 then x.2 else x.1)
def Lp (x:Int×Int):List Int:=[x.1,x.2]
def Mv (x:Int×Int):List Key:=[.inl x.1,.inl x.2]
theorem Tx {x y:Int×Int} (h:Mv x=Mv y):x=y:=by
 unfold Mv at h;simp at h;exact QW h.1 h.2
theorem Ly:∀ns:List Int,JK (ns.map D.int)=some ns
 | []=>rfl
 | n :: ns=>by
  rw [A3];unfold JK;rw [Ly ns];rfl
theorem PM:∀rs:List (List Int),(∀r∈rs,r≠[])->LZ (rs.map LQ)=some rs
 | [],_=>rfl
 | [] :: rs,h=>absurd rfl (h [] Ax)
 | (n :: ns) :: rs,h=>by
  rw [A3];unfold LQ LZ;rw [Ly,show QY (λr:List Int=>D.tup (r.map D.int)) rs=rs.map LQ from rfl,PM rs λr hr=>h r (Aa _ hr)]
theorem U2 (rs:List (List Int)) (h:∀r∈rs,r≠[]):Jz (rs.map LQ)=some ((Hm rs).map LQ):=by
 unfold Jz
 cases rs with
 | nil=>simp [JK,Hm]
 | cons r rs=>
  have:JK ((r :: rs).map LQ)=none:=rfl;rw [this,PM _ h]
theorem U3 (ns:List Int):Jz (ns.map D.int)=some ((Db ns).map D.int):=by
 unfold Jz;rw [Ly]
def LS (ps:List (Int×Int)):List (List Key×D):=ps.map λx=>(Mv (nrm x),.bl true)
theorem aG (ps:List (Int×Int)) (x:Int×Int):(A7 (LS ps) (Mv (nrm x))).isSome=decide (nrm x∈ps.map nrm):=by
 unfold A7 LS
 induction ps with
 | nil=>rfl
 | cons y ps ih=>
  rw [A3,Bx]
  by_cases e:Mv (nrm y)=Mv (nrm x)
  ·rw [decide_eq_true e]
   simp [Tx e]
  ·rw [decide_eq_false e]
   have e':nrm x≠nrm y:=λz=>e (by rw [z])
   simp only [A3,Ay,e',false_or];exact ih
theorem aF (ps:List (Int×Int)) (x:Int×Int) (h:nrm x∉ps.map nrm):CL (LS ps) (Mv (nrm x)) (.bl true)=LS (ps++[x]):=by
 unfold CL;rw [if_neg]
 ·simp [LS]
 ·intro z
  obtain ⟨y,hy,e⟩:=HC.mp z;obtain ⟨a,ha,rfl⟩:=A9.mp hy;exact h (by rw [<-Tx (of_decide_eq_true e)];exact XU ha)
theorem lP {S:Sto} {n:Nat} {kvs:List (List Key×D)} {x:Int×Int} (h:S[n]?=some (.dT kvs)) (neg:Bool):inA neg (pairD x) (.ref n) S=.ok (.bl (if neg then !(A7 kvs (Mv x)).isSome else (A7 kvs (Mv x)).isSome)) S:=by
 show Hs (inD neg (pairD x) (.ref n) S) (Kp neg (pairD x) (.ref n) S)=_
 have e:inD neg (pairD x) (.ref n) S=.bad:=by
  unfold inD Gi;dsimp only;rw [h]
 have e2:OS (.ref n) (pairD x) S=some (A7 kvs (Mv x)):=by
  unfold OS pairD;dsimp only;rw [h];rfl
 rw [e];show Kp neg (pairD x) (.ref n) S=_;unfold Kp;rw [e2]
theorem bD {mo mi mv:ME} {e:Lo} {S:Sto} {d:Nat} {kvs:List (List Key×D)} {x:Int×Int} {v:D} (hv:mv e S=.ok v S) (ho:mo e S=.ok (.ref d) S) (hi:mi e S=.ok (pairD x) S) (h:S[d]?=some (.dT kvs)) (hl:kvs.length < sizeLine) :
  De mo mi mv e S=.ok (.nx e) (S.set d (.dT (CL kvs (Mv x) v))):=by
 unfold De;rw [hv];dsimp only [Res.lift];rw [ho];dsimp only [Res.lift];rw [hi];dsimp only [Res.lift]
 have:UA (.ref d) (pairD x) v S=some (S.set d (.dT (CL kvs (Mv x) v))):=by
  unfold UA pairD;dsimp only;rw [h];show (if kvs.length < sizeLine then some (S.set d (.dT (CL kvs (Mv x) v))) else none)=_;rw [if_pos hl]
 rw [this]
theorem ix0 (x:Int×Int) (S:Sto):ixA (pairD x) (.int 0) S=.ok (.int x.1) S:=rfl
theorem ix1 (x:Int×Int) (S:Sto):ixA (pairD x) (.int 1) S=.ok (.int x.2) S:=rfl
def Fit (p:Int) (x:Int×Int):Prop:=(nrm x).1≠(nrm x).2/\0<=(nrm x).1/\(nrm x).2 < p
abbrev bS (W:Wd):MS:=BU (Co 5 (Hb (AN (mQ Mq (AN (AF 3) (AN (AF 4) BE))) (AN (mQ Qs (AN (AF 3) (AN (AF 4) BE))) BE))))
  (BU (sIf (mB (m2 (eqD false) (m2 ixA (AF 5) (mC (.int 0))) (m2 ixA (AF 5) (mC (.int 1))))) (EQ W.BadTie (AN (mC (.str "a tie has one place twice")) BE)) sNx)
  (BU (sIf (mOr (mB (m2 ltD (m2 ixA (AF 5) (mC (.int 0))) (mC (.int 0)))) (mB (m2 geD (m2 ixA (AF 5) (mC (.int 1))) (AF 0)))) (EQ W.BadTie (AN (mC (.str "a tie has a place that is not there")) BE)) sNx)
  (BU (sIf (mB (m2 (inA false) (AF 5) (AF 2))) (EQ W.BadTie (AN (mC (.str "a tie is there twice")) BE)) sNx)
  (De (AF 2) (AF 5) (mC (.bl true))))))
theorem ZS {W:Wd} {p:Int} {t:D} {n:Nat} {S:Sto} {x:Int×Int} {z5:Option D} {ps:List (Int×Int)} (hn:S[n]?=some (.dT (LS ps))) (hl:ps.length<=100000) :
  (Fit p x/\nrm x∉ps.map nrm->bS W [some (.int p),some t,some (.ref n),some (.int x.1),some (.int x.2),z5] S=.ok (.nx [some (.int p),some t,some (.ref n),some (.int x.1),some (.int x.2),some (pairD (nrm x))]) (S.set n (.dT (LS (ps++[x]))))) /\
  (¬(Fit p x/\nrm x∉ps.map nrm)->bS W [some (.int p),some t,some (.ref n),some (.int x.1),some (.int x.2),z5] S=.ok (.ex W.BadTie [some (.int p),some t,some (.ref n),some (.int x.1),some (.int x.2),some (pairD (nrm x))]) S):=by
 have e0:Co 5 (Hb (AN (mQ Mq (AN (AF 3) (AN (AF 4) BE))) (AN (mQ Qs (AN (AF 3) (AN (AF 4) BE))) BE))) [some (.int p),some t,some (.ref n),some (.int x.1),some (.int x.2),z5] S =
   .ok (.nx [some (.int p),some t,some (.ref n),some (.int x.1),some (.int x.2),some (pairD (nrm x))]) S:=
  Lk (i:=5) (ZO (ds:=[.int (nrm x).1,.int (nrm x).2]) (Cg (Zj (ds:=[.int x.1,.int x.2]) (S1:=S) rfl rfl) (Cg (Zj (ds:=[.int x.1,.int x.2]) (S1:=S) rfl rfl) rfl)) (by simp))
 have t1:=FB (t:=mB (m2 (eqD false) (m2 ixA (AF 5) (mC (.int 0))) (m2 ixA (AF 5) (mC (.int 1))))) (a:=EQ W.BadTie (AN (mC (.str "a tie has one place twice")) BE)) (b:=sNx) (e:=[some (.int p),some t,some (.ref n),some (.int x.1),some (.int x.2),some (pairD (nrm x))]) (S:=S) (S1:=S)
  (Pz (Dw (Dw rfl rfl (ix0 _ _)) (Dw rfl rfl (ix1 _ _)) (jP (b:=decide ((nrm x).1=(nrm x).2)) rfl)))
 have t2:mOr (mB (m2 ltD (m2 ixA (AF 5) (mC (.int 0))) (mC (.int 0)))) (mB (m2 geD (m2 ixA (AF 5) (mC (.int 1))) (AF 0))) [some (.int p),some t,some (.ref n),some (.int x.1),some (.int x.2),some (pairD (nrm x))] S=.ok (decide ((nrm x).1 < 0∨p<=(nrm x).2)) S:=by
  by_cases c:(nrm x).1 < 0
  ·rw [Z4 (Pz (Dw (Dw rfl rfl (ix0 _ _)) rfl (Vc (decide_eq_true c))))]
   simp [c]
  ·rw [VJ (Pz (Dw (Dw rfl rfl (ix0 _ _)) rfl (Vc (decide_eq_false c)))),Pz (Dw (Dw rfl rfl (ix1 _ _)) rfl (jK (b:=decide (p<=(nrm x).2)) rfl))]
   simp [c]
 have t3:mB (m2 (inA false) (AF 5) (AF 2)) [some (.int p),some t,some (.ref n),some (.int x.1),some (.int x.2),some (pairD (nrm x))] S=.ok (decide (nrm x∈ps.map nrm)) S:=by
  refine Pz (Dw rfl rfl ?_);rw [lP hn,<-aG];rfl
 have rz:∀s:Str,EQ W.BadTie (AN (mC (.str s)) BE) [some (.int p),some t,some (.ref n),some (.int x.1),some (.int x.2),some (pairD (nrm x))] S=.ok (.ex W.BadTie [some (.int p),some t,some (.ref n),some (.int x.1),some (.int x.2),some (pairD (nrm x))]) S:=λs=>TZ rfl (by simp)
 constructor
 ·rintro ⟨⟨f1,f2,f3⟩,f4⟩
  rw [decide_eq_false f1,if_neg AK] at t1;have t2':=FB (a:=EQ W.BadTie (AN (mC (.str "a tie has a place that is not there")) BE)) (b:=sNx) t2;rw [decide_eq_false (by lia),if_neg AK] at t2';have t3':=FB (a:=EQ W.BadTie (AN (mC (.str "a tie is there twice")) BE)) (b:=sNx) t3;rw [decide_eq_false f4,if_neg AK] at t3';unfold bS;rw [CF e0,CF (t1.trans rfl),CF (t2'.trans rfl),CF (t3'.trans rfl),bD (x:=nrm x) rfl rfl rfl hn (by unfold LS;rw [AH];exact BW hl (by decide)),aF _ _ f4]
 ·intro nf
  unfold bS;rw [CF e0]
  by_cases f1:(nrm x).1=(nrm x).2
  ·rw [decide_eq_true f1,if_pos rfl] at t1
   exact RW (t1.trans (rz _))
  rw [decide_eq_false f1,if_neg AK] at t1;rw [CF (t1.trans rfl)];have t2':=FB (a:=EQ W.BadTie (AN (mC (.str "a tie has a place that is not there")) BE)) (b:=sNx) t2
  by_cases f2:(nrm x).1 < 0∨p<=(nrm x).2
  ·rw [decide_eq_true f2,if_pos rfl] at t2'
   exact RW (t2'.trans (rz _))
  rw [decide_eq_false f2,if_neg AK] at t2';rw [CF (t2'.trans rfl)];have t3':=FB (a:=EQ W.BadTie (AN (mC (.str "a tie is there twice")) BE)) (b:=sNx) t3
  by_cases f3:nrm x∈ps.map nrm
  ·rw [decide_eq_true f3,if_pos rfl] at t3'
   exact RW (t3'.trans (rz _))
  ·exact absurd ⟨⟨f1,by lia,by lia⟩,f3⟩ nf
end M
namespace M
open PySem L2
open Srt (ltL)
theorem YC {m:ME} {e:Lo} {S S1:Sto} {d:D} {xs:List D} (h:m e S=.ok d S1) (hx:IV d S1=some xs):DX m e S=.ok (IV d) S1:=by
 unfold DX;rw [h];dsimp only [Res.bind];rw [hx]
def Di (p:Int) (ps:List (Int×Int)):Prop:=(∀x∈ps,Fit p x)/\(ps.map nrm).Nodup
theorem Di.snoc {p:Int} {ps:List (Int×Int)} {x:Int×Int}:Di p (ps++[x])↔Di p ps/\Fit p x/\nrm x∉ps.map nrm:=by
 unfold Di;rw [Ch,Ee]
 constructor
 ·rintro ⟨h1,h2,h3,h4⟩
  exact ⟨⟨λy hy=>h1 y (by simp [hy]),h2⟩,h1 x (by simp),λz=>h4 _ z _ (by simp) rfl⟩
 ·rintro ⟨⟨h1,h2⟩,h3,h4⟩
  refine ⟨λy hy=>?_,h2,by simp,λa ha b hb e=>?_⟩
  ·rcases BB.mp hy with hy | hy
   ·exact h1 y hy
   ·rw [Ag.mp hy];exact h3
  ·simp at hb
   subst hb;subst e;exact h4 ha
theorem Di.take {p:Int} {ps:List (Int×Int)} (h:Di p ps) (i:Nat):Di p (ps.take i):=by
 refine ⟨λx hx=>h.1 x (List.mem_of_mem_take hx),?_⟩;rw [fm];exact h.2.sublist (Yt _ _)
theorem take_snoc {α:Type} {l:List α} {i:Nat} {x:α} (h:l[i]?=some x):l.take (i+1)=l.take i++[x]:=by
 rw [Nt,h];rfl
theorem SK (W:Wd) {p:Int} {d:D} {S:Sto} {ps:List (Int×Int)} (hv:∀S',Keeps S S'->IV d S'=some (ps.map pairD)) (hl:ps.length<=100000) :
  ∃f S',HY (DX (AF 1)) (Mf 2 (FM (tgN 3) (FM (tgN 4) N2))) (bS W) [some (.int p),some d,some (.ref S.length),none,none,none] (S++[.dT []])=.ok f S' /\
   ((Di p ps/\(∃z3 z4 z5,f=.nx [some (.int p),some d,some (.ref S.length),z3,z4,z5])/\S'=S++[.dT (LS ps)])∨(¬Di p ps/\∃e',f=.ex W.BadTie e'/\Keeps S S')):=by
 rw [Ki (YC (m:=AF 1) (d:=d) (S1:=S++[.dT []]) rfl (hv _ (Keeps.app _ _)))];refine Nj (xs:=ps.map pairD) (λi e S'=>(∃z3 z4 z5,e=[some (.int p),some d,some (.ref S.length),z3,z4,z5])/\S'=S++[.dT (LS (ps.take i))]/\Di p (ps.take i)) _ ⟨⟨none,none,none,rfl⟩,by simp [LS],by simp [Di]⟩ ?_ ?_ ?_
 ·rintro i e S' ⟨_,rfl,_⟩
  exact hv _ (Keeps.app _ _)
 ·rintro i y e S' hy ⟨⟨z3,z4,z5,rfl⟩,rfl,af⟩
  rw [Ap] at hy
  cases hx:ps[i]? with
  | none=>rw [hx] at hy;cases hy
  | some x=>
   rw [hx] at hy;cases hy;have hlt:=(AM.mp hx).1;refine ⟨[some (.int p),some d,some (.ref S.length),some (.int x.1),some (.int x.2),z5],_,rfl,?_⟩;obtain ⟨s1,s2⟩:=ZS (W:=W) (p:=p) (t:=d) (z5:=z5) (x:=x) (FO S (.dT (LS (ps.take i)))) (by rw [DQ];lia)
   by_cases c:Fit p x/\nrm x∉(ps.take i).map nrm
   ·refine ⟨_,_,s1 c,⟨⟨_,_,_,rfl⟩,?_,?_⟩⟩
    ·rw [take_snoc hx];simp
    ·rw [take_snoc hx];exact Di.snoc.mpr ⟨af,c⟩
   ·refine ⟨_,_,s2 c,.inr ⟨λa=>c ?_,_,rfl,Keeps.app _ _⟩⟩
    have:=a.take (i+1);rw [take_snoc hx] at this;exact (Di.snoc.mp this).2
 ·rintro e S' ⟨z,rfl,af⟩
  rw [AH,bV] at *
  obtain ⟨z3,z4,z5,rfl⟩:=z;exact .inl ⟨af,⟨_,_,_,rfl⟩,rfl⟩
def Im (ps:List (Int×Int)):List (List Int):=Hm (ps.map λx=>Lp (nrm x))
theorem SL (W:Wd) {p:Int} {d:D} {S:Sto} {ps:List (Int×Int)} (hv:∀S',Keeps S S'->IV d S'=some (ps.map pairD)) (hl:ps.length<=100000) (hf:Di p ps) :
  ∃S',GC W [.int p,d] S=.ok (.tup ((Im ps).map LQ)) S'/\Keeps S S':=by
 obtain ⟨f,S1,h1,⟨_,⟨z3,z4,z5,rfl⟩,rfl⟩ | ⟨h,_⟩⟩:=SK W hv hl (p:=p)
 ·have hi:Jl (.ref S.length) (S++[.dT (LS ps)])=some ((ps.map λx=>Lp (nrm x)).map LQ):=by
   unfold Jl;dsimp only;rw [FO];dsimp only;unfold LS;rw [BX,BX];rfl
  have hs:=JE (m:=AF 2) (e:=[some (.int p),some d,some (.ref S.length),z3,z4,z5]) (S:=S++[.dT (LS ps)]) rfl hi (U2 _ (by intro r hr;obtain ⟨x,_,rfl⟩:=A9.mp hr;simp [Lp]));refine ⟨S++[.dT (LS ps)]++[.lst ((Im ps).map LQ)],Ln ?_,(Keeps.app S _).trans (Keeps.app _ _)⟩;refine OX (CF (e:=[some (.int p),some d,none,none,none,none]) (e1:=[some (.int p),some d,some (.ref S.length),none,none,none]) (S:=S) (S1:=S++[.dT []]) rfl) ?_;refine OX (CF h1) ?_;exact NS (Me hs (FA (FO _ _)))
 ·exact absurd hf h
end M
namespace M
open PySem L2
def CY (ts:List (Int×Int)) (x:Nat):List Int:=ts.flatMap λt=>(if t.1=(x:Int) then [t.2] else [])++(if t.2=(x:Int) then [t.1] else [])
theorem Tj (ts:List (Int×Int)) (t:Int×Int) (x:Nat):CY (ts++[t]) x=CY ts x++((if t.1=(x:Int) then [t.2] else [])++(if t.2=(x:Int) then [t.1] else [])):=by
 unfold CY;rw [MP];simp
def Fk (p:Nat) (F:Nat->List Int):Sto:=(Cc p).map λx=>Ob.lst ((F x).map D.int)
def Ek (k p:Nat):List D:=(Cc p).map λx=>D.ref (k+x)
def stN (S:Sto) (p:Nat) (F:Nat->List Int):Sto:=S++Fk p F++[.lst (Ek S.length p)]
theorem Hn (p:Nat) (F:Nat->List Int):(Fk p F).length=p:=by simp [Fk]
theorem RT (S:Sto) (p:Nat) (F:Nat->List Int):(stN S p F).length=S.length+p+1:=by simp [stN,Hn];lia
theorem NN (S:Sto) (p:Nat) (F:Nat->List Int):Keeps S (stN S p F):=(Keeps.app S _).trans (Keeps.app _ _)
theorem Ka (S:Sto) (p:Nat) (F:Nat->List Int):(stN S p F)[S.length+p]?=some (.lst (Ek S.length p)):=by
 have:S.length+p=(S++Fk p F).length:=by simp [Hn]
 unfold stN;rw [this];exact FO _ _
theorem Jb (S:Sto) {p a:Nat} (F:Nat->List Int) (h:a < p):(stN S p F)[S.length+a]?=some (.lst ((F a).map D.int)):=by
 unfold stN;rw [BP,A8 (by lia),Ah (by rw [Hn];lia),show S.length+a - S.length=a by lia];unfold Fk;rw [Ap,DB h];rfl
theorem WV (S:Sto) {p a:Nat} (F:Nat->List Int) (ys:List Int) (h:a < p):(stN S p F).set (S.length+a) (.lst (ys.map D.int))=stN S p (λx=>if x=a then ys else F x):=by
 apply JB
 intro j
 by_cases e:S.length+a=j
 ·subst e
  rw [BC (by rw [RT];lia),Jb _ _ h,if_pos rfl]
 ·rw [Au e]
  by_cases h1:j < S.length
  ·rw [(NN S p F).2 j h1,(NN S p _).2 j h1]
  by_cases h2:j - S.length < p
  ·have e2:j=S.length+(j - S.length):=by lia
   rw [e2,Jb S F h2,Jb S _ h2,if_neg (by lia)]
  by_cases h3:j=S.length+p
  ·subst h3
   rw [Ka,Ka]
  ·rw [CN (by rw [RT];lia),CN (by rw [RT];lia)]
theorem Wo {S:Sto} {p a:Nat} (F:Nat->List Int) (h:a < p):ixA (.ref (S.length+p)) (.int a) (stN S p F)=.ok (.ref (S.length+a)) (stN S p F):=by
 show Hs (ixD _ _ _) _=_;have e1:Gi (.ref (S.length+p)) (stN S p F)=some (Ek S.length p):=FA (Ka S p F)
 have e2:atI (Ek S.length p) (a:Int)=some (.ref (S.length+a)):=by
  unfold atI ixN;rw [show (Ek S.length p).length=p by simp [Ek],if_pos (by lia),if_pos (by lia)];simp only [AG,CM];unfold Ek;rw [Ap,DB h];rfl
 have:ixD (.ref (S.length+p)) (.int a) (stN S p F)=.ok (.ref (S.length+a)) (stN S p F):=by
  unfold ixD;rw [e1];dsimp only;rw [e2]
 rw [this];rfl
theorem ZV (S:Sto):∀p:Nat,S++Fk (p+1) (λ_=>[])=S++Fk p (λ_=>[])++[.lst []]:=λp=>by
 unfold Fk;rw [P1,Ch,BP];rfl
theorem Xs {p:Nat} (hp:p<=60) {mp:ME} {e:Lo} {S:Sto} (h0:mp e S=.ok (.int p) S) :
  DC 1 (iR1 (AN mp BE)) (tgN 0) FD (DV (Em BE)) e S=.ok (Ek S.length p) (S++Fk p λ_=>[]):=by
 have hi:iR1 (AN mp BE) e S=.ok (GX (Hq 0 p)) S:=by
  have:=ag (ml:=AN mp BE) (e:=e) (S:=S) (S1:=S) (j:=p) (Cg h0 rfl) (by lia) (by lia);simpa using this
 obtain ⟨r,S1,q1,e',⟨z,_⟩,rfl,rfl⟩:=W8 (v:=GX (Hq 0 p)) (g:=tgN 0) (c:=FD) (m:=DV (Em BE)) (xs:=Hq 0 p) (e:=none :: e) (S:=S)
  (λi e' S' acc=>(∃z,e'=z :: e)/\S'=S++Fk i (λ_=>[])/\acc=Ek S.length i)
  ⟨⟨none,rfl⟩,by simp [Fk],rfl⟩ (λ_ _ _ _ _=>rfl)
  (by
   rintro i d e' S' acc hd ⟨⟨z,rfl⟩,rfl,rfl⟩;obtain ⟨hi,rfl⟩:=Zf hd;refine ⟨by simp [Ek];exact BW (m:=60) (by lia) (by decide),some (.int (0+i)) :: e,_,rfl,true,_,rfl,.inl ⟨rfl,.ref (S++Fk i λ_=>[]).length,_,rfl,⟨_,rfl⟩,(ZV S i).symm,?_⟩⟩;unfold Ek;rw [P1,Ch,AW,Hn]
   rfl)
 rw [Xu] at q1;exact (SI hi).trans q1
abbrev XC:MS:=BU (EE (QN (m2 ixA (AF 2) (AF 3)) (AF 4))) (EE (QN (m2 ixA (AF 2) (AF 4)) (AF 3)))
def In (p:Nat) (t:Int×Int):Prop:=0<=t.1/\t.1 < p/\0<=t.2/\t.2 < p/\t.1≠t.2
theorem Xr {p:Nat} {S:Sto} {F:Nat->List Int} {t:Int×Int} {d0 d1:D} (ht:In p t) (hF:∀x,(F x).length < 200000) :
  XC [some d0,some d1,some (.ref (S.length+p)),some (.int t.1),some (.int t.2)] (stN S p F)=.ok (.nx [some d0,some d1,some (.ref (S.length+p)),some (.int t.1),some (.int t.2)])
   (stN S p λx=>F x++((if t.1=(x:Int) then [t.2] else [])++(if t.2=(x:Int) then [t.1] else []))):=by
 obtain ⟨a,ha⟩:∃a:Nat,t.1=a:=⟨t.1.toNat,by have:=ht.1;lia⟩
 obtain ⟨b,hb⟩:∃b:Nat,t.2=b:=⟨t.2.toNat,by have:=ht.2.2.1;lia⟩
 obtain ⟨_,h2,_,h4,h5⟩:=ht
 have hab:a≠b:=λe=>h5 (by rw [ha,hb,e])
 rw [ha,hb]
 have hz:∀x,((F x).map D.int).length < sizeLine:=λx=>by rw [AH];exact j7 (hF x) (by decide)
 have s1:=V2 (mo:=m2 ixA (AF 2) (AF 3)) (ma:=AF 4) (e:=[some d0,some d1,some (.ref (S.length+p)),some (.int a),some (.int b)]) (S:=stN S p F) (S1:=stN S p F) (S2:=stN S p F) (n:=S.length+a) (y:=.int b) (Dw rfl rfl (Wo F (by lia))) (Jb S F (by lia)) rfl (Jb S F (by lia)) (hz a);rw [show (F a).map D.int++[D.int b]=(F a++[(b:Int)]).map D.int by simp,WV S F _ (by lia)] at s1
 have hrow:(stN S p λx=>if x=a then F a++[(b:Int)] else F x)[S.length+b]?=some (.lst ((F b).map D.int)):=by
  rw [Jb S _ (by lia),if_neg (B5 hab)]
 have s2:=V2 (mo:=m2 ixA (AF 2) (AF 4)) (ma:=AF 3) (e:=[some d0,some d1,some (.ref (S.length+p)),some (.int a),some (.int b)]) (S:=stN S p λx=>if x=a then F a++[(b:Int)] else F x) (S1:=stN S p λx=>if x=a then F a++[(b:Int)] else F x) (S2:=stN S p λx=>if x=a then F a++[(b:Int)] else F x) (n:=S.length+b) (y:=.int a) (Dw rfl rfl (Wo _ (by lia))) hrow rfl hrow (hz b);rw [show (F b).map D.int++[D.int a]=(F b++[(a:Int)]).map D.int by simp,WV S _ _ (by lia)] at s2;unfold XC;rw [CF (LM s1),LM s2]
 congr 2
 funext x
 by_cases e1:x=b
 ·subst e1
  have:¬((a:Int)=(x:Int)):=by lia
  simp [this]
 ·by_cases e2:x=a
  ·subst e2
   have:¬((b:Int)=(x:Int)):=by lia
   simp [e1,this]
  ·have h1:¬((a:Int)=(x:Int)):=by lia
   have h2:¬((b:Int)=(x:Int)):=by lia
   simp [e1,e2,h1,h2]
end M
namespace M
open PySem L2
theorem VW (ts:List (Int×Int)) (x:Nat):(CY ts x).length<=2 * ts.length:=by
 unfold CY
 induction ts with
 | nil=>simp
 | cons t ts ih=>
  rw [C3,AW,As]
  have:((if t.1=(x:Int) then [t.2] else [])++(if t.2=(x:Int) then [t.1] else [])).length<=2:=by split <;> split <;> simp
  lia
def NO (p:Nat) (ts:List (Int×Int)):List D:=(Cc p).map λx=>.tup ((Db (CY ts x)).map D.int)
theorem dZ (W:Wd) {p:Nat} (hp:p<=60) {ts:List (Int×Int)} (ht:∀t∈ts,In p t) (hl:ts.length<=90000) (S:Sto) :
  ∃S',GB W [.int p,.tup (ts.map pairD)] S=.ok (.tup (NO p ts)) S'/\Keeps S S':=by
 have a1:=Lk (i:=2) (VV (Xs hp (mp:=AF 0) (e:=[some (.int p),some (.tup (ts.map pairD)),none,none,none]) (S:=S) rfl));have e1:(S++Fk p λ_=>[])++[.lst (Ek S.length p)]=stN S p (CY []):=rfl
 have e2:(S++Fk p λ_=>[]).length=S.length+p:=by simp [Hn]
 rw [e1,e2] at a1
 obtain ⟨f,S1,h1,⟨z3,z4,rfl⟩,rfl⟩:=Nj (v:=GX (ts.map pairD)) (g:=Mf 2 (FM (tgN 3) (FM (tgN 4) N2))) (b:=XC) (xs:=ts.map pairD) (e:=[some (.int p),some (.tup (ts.map pairD)),some (.ref (S.length+p)),none,none]) (S:=stN S p (CY []))
  (λi e S'=>(∃z3 z4,e=[some (.int p),some (.tup (ts.map pairD)),some (.ref (S.length+p)),z3,z4])/\S'=stN S p (CY (ts.take i)))
  (λf S'=>(∃z3 z4,f=.nx [some (.int p),some (.tup (ts.map pairD)),some (.ref (S.length+p)),z3,z4])/\S'=stN S p (CY ts))
  ⟨⟨none,none,rfl⟩,rfl⟩ (λ_ _ _ _=>rfl)
  (by
   rintro i y e S' hy ⟨⟨z3,z4,rfl⟩,rfl⟩;rw [Ap] at hy
   cases hx:ts[i]? with
   | none=>rw [hx] at hy;cases hy
   | some t=>
    rw [hx] at hy;cases hy;refine ⟨[some (.int p),some (.tup (ts.map pairD)),some (.ref (S.length+p)),some (.int t.1),some (.int t.2)],_,rfl,_,_,Xr (ht t (CT hx)) (λx=>?_),⟨_,_,rfl⟩,?_⟩
    ·have:=VW (ts.take i) x
     rw [DQ] at this;exact BW (Al this (Nat.mul_le_mul_left 2 (Al (bo _ _) hl))) (by decide)
    ·rw [take_snoc hx,show CY (ts.take i++[t])=_ from funext λx=>Tj _ _ x])
  (by
   rintro e S' ⟨⟨z3,z4,rfl⟩,rfl⟩;rw [AH,bV]
   exact ⟨⟨_,_,rfl⟩,rfl⟩)
 have a2:=(Ki (g:=Mf 2 (FM (tgN 3) (FM (tgN 4) N2))) (b:=XC) (Pl (m:=AF 1) (e:=[some (.int p),some (.tup (ts.map pairD)),some (.ref (S.length+p)),none,none]) (S:=stN S p (CY [])) (S1:=stN S p (CY [])) (xs:=ts.map pairD) rfl)).trans h1
 obtain ⟨r,S2,q1,e',⟨z,_⟩,K,rfl⟩:=W8 (v:=IV (.ref (S.length+p))) (g:=tgN 0) (c:=FD) (m:=Hv (D9 (AF 0))) (xs:=Ek S.length p) (e:=[none,some (.int p),some (.tup (ts.map pairD)),some (.ref (S.length+p)),z3,z4]) (S:=stN S p (CY ts))
  (λi e' S' acc=>(∃z,e'=[z,some (.int p),some (.tup (ts.map pairD)),some (.ref (S.length+p)),z3,z4])/\Keeps (stN S p (CY ts)) S'/\acc=(Cc i).map λx=>.tup ((Db (CY ts x)).map D.int))
  ⟨⟨none,rfl⟩,.refl _,rfl⟩ (λi e' S' acc h=>Eu (h.2.1.at (Ka S p _)))
  (by
   rintro i d e' S' acc hd ⟨⟨z,rfl⟩,K,rfl⟩
   have hi:i < p:=by
    have:=(AM.mp hd).1;simpa [Ek] using this
   unfold Ek at hd;rw [Ap,DB hi] at hd;cases hd;have hit:Jl (.ref (S.length+i)) S'=some ((CY ts i).map D.int):=Lx (K.at (Jb S _ hi));have hs:=JE (m:=AF 0) (e:=[some (.ref (S.length+i)),some (.int p),some (.tup (ts.map pairD)),some (.ref (S.length+p)),z3,z4]) (S:=S') (S1:=S') rfl hit (U3 _);refine ⟨by simp;exact BW (m:=60) (by lia) (by decide),[some (.ref (S.length+i)),some (.int p),some (.tup (ts.map pairD)),some (.ref (S.length+p)),z3,z4],_,rfl,true,_,rfl,.inl ⟨rfl,_,_,Me hs (FA (FO _ _)),⟨_,rfl⟩,K.trans (Keeps.app _ _),?_⟩⟩;rw [P1,Ch]
   rfl)
 have a3:=(SI (n:=1) (g:=tgN 0) (c:=FD) (m:=Hv (D9 (AF 0))) (JL (m:=AF 2) (e:=[some (.int p),some (.tup (ts.map pairD)),some (.ref (S.length+p)),z3,z4]) (S:=stN S p (CY ts)) (S1:=stN S p (CY ts)) rfl (Ka S p _))).trans q1;rw [show (Ek S.length p).length=p by simp [Ek]] at a3;refine ⟨S2++[.lst (NO p ts)],Ln ?_,((NN S p _).trans K).trans (Keeps.app _ _)⟩;unfold Ks;refine OX (CF a1) ?_;refine OX (CF a2) ?_;exact NS (Me (VV a3) (FA (FO _ _)))
end M
namespace M
open PySem L2
open Srt (ltL)
def toP (r:List Int):Int×Int:=(r.getD 0 0,r.getD 1 0)
theorem cX (x:Int×Int):toP (Lp x)=x:=rfl
def Fd (ps:List (Int×Int)):List (Int×Int):=(Im ps).map toP
theorem PB {ps:List (Int×Int)} {r:List Int} (h:r∈Im ps):∃x∈ps,r=Lp (nrm x):=by
 have:=(D6 _).mem_iff.mp h;obtain ⟨x,hx,rfl⟩:=A9.mp this;exact ⟨x,hx,rfl⟩
theorem Xf (ps:List (Int×Int)):(Fd ps).map Lp=Im ps:=by
 unfold Fd;rw [BX]
 conv=>rhs;rw [<-Ov (Im ps)]
 refine Cd λr hr=>?_
 obtain ⟨x,_,rfl⟩:=PB hr;rfl
theorem U0 (ps:List (Int×Int)):(Im ps).map LQ=(Fd ps).map pairD:=by
 rw [<-Xf,BX];rfl
theorem ZP {ps:List (Int×Int)} {t:Int×Int} (h:t∈Fd ps):∃x∈ps,t=nrm x:=by
 obtain ⟨r,hr,rfl⟩:=A9.mp h;obtain ⟨x,hx,rfl⟩:=PB hr;exact ⟨x,hx,rfl⟩
theorem NM (ps:List (Int×Int)):(Fd ps).Perm (ps.map nrm):=by
 unfold Fd Im;have:=(D6 (ps.map λx=>Lp (nrm x))).map toP;refine this.trans ?_;rw [BX];exact WG rfl
theorem ij (x:Int×Int):(nrm x).1<=(nrm x).2:=by
 unfold nrm;dsimp only
 split <;> split <;> lia
theorem Fit.in {p:Nat} {x:Int×Int} (h:Fit p x):In p (nrm x):=by
 obtain ⟨h1,h2,h3⟩:=h;have:=ij x;exact ⟨h2,by lia,by lia,h3,h1⟩
theorem lD:¬(("places" : Str) = "ties"):=by decide +kernel
theorem lE:¬(("places" : Str) = "near_sets"):=by decide +kernel
theorem lC:¬(("ties" : Str) = "near_sets"):=by decide +kernel
theorem put2 (a b:D):OM "ties" b [(("places" : Str),a)]=([("places",a),("ties",b)]:List (Str×D)):=by
 show (if ("places" : Str) = "ties" then _ else _)=_;rw [if_neg lD];rfl
theorem put3 (a b c:D):OM "near_sets" c [(("places" : Str),a),("ties",b)]=([("places",a),("ties",b),("near_sets",c)]:List (Str×D)):=by
 show (if ("places" : Str) = "near_sets" then _ else _)=_;rw [if_neg lE]
 have:OM "near_sets" c [(("ties" : Str),b)]=([("ties",b),("near_sets",c)]:List (Str×D)):=by
  show (if ("ties" : Str) = "near_sets" then _ else _)=_;rw [if_neg lC];rfl
 rw [this]
theorem fM (a b c:D):([("places",a),("ties",b),("near_sets",c)]:List (Str×D)).lookup ("places" : Str)=some a:=by
 rw [Bz,show (("places" : Str)=="places")=true by decide +kernel]
theorem lK (a b c:D):([("places",a),("ties",b),("near_sets",c)]:List (Str×D)).lookup ("ties" : Str)=some b:=by
 rw [Bz,show (("ties" : Str)=="places")=false by decide +kernel];dsimp only;rw [Bz,show (("ties" : Str)=="ties")=true by decide +kernel]
theorem lJ (a b c:D):([("places",a),("ties",b),("near_sets",c)]:List (Str×D)).lookup ("near_sets" : Str)=some c:=by
 rw [Bz,show (("near_sets" : Str)=="places")=false by decide +kernel];dsimp only;rw [Bz,show (("near_sets" : Str)=="ties")=false by decide +kernel];dsimp only;rw [Bz,show (("near_sets" : Str)=="near_sets")=true by decide +kernel]
theorem im (a b:D):([("places",a),("ties",b)]:List (Str×D)).lookup ("ties" : Str)=some b:=by
 rw [Bz,show (("ties" : Str)=="places")=false by decide +kernel];dsimp only;rw [Bz,show (("ties" : Str)=="ties")=true by decide +kernel]
end M
namespace M
open PySem L2 L4
def EX (W:Wd) (w:Nat×List (Int×Int)):Ob:=.ins W.Web [("places",.int w.1),("ties",.tup (w.2.map pairD)),("near_sets",.tup (NO w.1 w.2))]
def NX (p:Nat) (ts:List (Int×Int)):List (List Int):=(Cc p).map λx=>Db (CY ts x)
theorem aD (p:Nat) (ts:List (Int×Int)):D.tup (NO p ts)=eT (eT D.int) (NX p ts):=by
 unfold NO NX eT;rw [BX];rfl
open Classical in
def Y1 (x:Int) (l:List (Int×Int)):Option (Nat×List (Int×Int)):=if 1<=x/\x<=60/\Di x l/\l.length<=90000 then some (x.toNat,Fd l) else none
section
variable {W:Wd} {A:List Sl} {a b m:ME} {p:Option (Nat×List (Int×Int))}
theorem RO {α:Type} {f:Str} {enc:α->D} {g:Nat×List (Int×Int)->α} (h:VE A m (rO (EX W)) p) (hl:∀w,([("places",D.int w.1),("ties",.tup (w.2.map pairD)),("near_sets",.tup (NO w.1 w.2))]:List (Str×D)).lookup f=some (enc (g w))):VE A (Lv W.Web f m) (rV enc) (p.bind λw=>some (g w)):=λv hv S0 e F S hs=>by
 obtain ⟨w,h1,h2⟩:=A4 hv;cases h2;obtain ⟨d,S',h3,h4,n,rfl,hn⟩:=h w h1 S0 e F S hs;exact ⟨_,S',Vr h3 hn (hl w),h4,rfl⟩
theorem NG (h:VE A m (rO (EX W)) p):VE A (Lv W.Web "places" m) (rV D.int) (p.bind λw=>some (w.1:Int)):=RO h λw=>fM _ _ _
theorem cK (h:VE A m (rO (EX W)) p):VE A (Lv W.Web "ties" m) (rV (eT (eP D.int D.int))) (p.bind λw=>some w.2):=RO h λw=>lK _ _ _
theorem cL (h:VE A m (rO (EX W)) p):VE A (Lv W.Web "near_sets" m) (rV (eT (eT D.int))) (p.bind λw=>some (NX w.1 w.2)):=RO h λw=>by rw [<-aD];exact lJ _ _ _
theorem gB (W:Wd) {p:Nat} (h1:1<=p) (hp:p<=60) {d:D} {S:Sto} {ps:List (Int×Int)} (hv:∀S',Keeps S S'->IV d S'=some (ps.map pairD)) (hl:ps.length<=90000) (hf:Di p ps) {e:Lo} {ml:ML} {S0:Sto} (ha:ml e S0=.ok [.int p,d] S) :
  ∃S',Qt W.Web 3 (Jo W) ml e S0=.ok (.ref S.length) S'/\Keeps S S'/\S'[S.length]?=some (EX W (p,Fd ps)):=by
 have t0:Jj (mB (m3 leD leD (mC (.int 1)) (AF 1) (mC (.int 60)))) [some (.ref S.length),some (.int p),some d] (S++[.ins W.Web []])=.ok false (S++[.ins W.Web []]):=
  Kf (b:=true) (Pz (aN (S3:=S++[.ins W.Web []]) rfl rfl (Vf (decide_eq_true (by omega))) rfl (Vf (decide_eq_true (by omega)))))
 have hq0:(S++[Ob.ins W.Web []])[S.length]?=some (.ins W.Web []):=FO _ _;have e1:=RU (C:=W.Web) (f:="places") (mo:=AF 0) (mv:=AF 1) (e:=[some (.ref S.length),some (.int p),some d]) (S:=S++[.ins W.Web []]) (v:=.int p) rfl rfl hq0 (by decide);have K1:Keeps S ((S++[Ob.ins W.Web []]).set S.length (.ins W.Web (OM "places" (.int p) []))):=(Keeps.app S _).set (AU _) _;generalize hS1:(S++[Ob.ins W.Web []]).set S.length (.ins W.Web (OM "places" (.int p) []))=S1 at e1 K1
 have hq1:S1[S.length]?=some (.ins W.Web [("places",.int p)]):=by rw [<-hS1];exact BC (by simp)
 obtain ⟨S2,c2,K2⟩:=SL W (p:=p) (d:=d) (S:=S1) (ps:=ps) (λS' k=>hv S' (K1.trans k)) (Al hl (by decide)) hf;rw [U0] at c2;have e2:=RU (C:=W.Web) (f:="ties") (mo:=AF 0) (mv:=B3 2 (GC W) (AN (AF 1) (AN (AF 2) BE))) (e:=[some (.ref S.length),some (.int p),some d]) (S:=S1) ((Jr rfl rfl).trans c2) rfl (K2.at hq1) (by simp);have K3:Keeps S (S2.set S.length (.ins W.Web (OM "ties" (.tup ((Fd ps).map pairD)) [("places",.int p)]))):=(K1.trans K2).set (AU _) _;rw [put2] at e2 K3;have hlt2:S.length < S2.length:=(AM.mp (K2.at hq1)).1;generalize hS3:S2.set S.length (.ins W.Web [("places",.int p),("ties",.tup ((Fd ps).map pairD))])=S3 at e2 K3
 have hq3:S3[S.length]?=some (.ins W.Web [("places",.int p),("ties",.tup ((Fd ps).map pairD))]):=by rw [<-hS3];exact BC hlt2
 obtain ⟨S4,c4,K4⟩:=dZ W hp (ts:=Fd ps) (λt ht=>by
  obtain ⟨x,hx,rfl⟩:=ZP ht
  exact (hf.1 x hx).in) (by rw [(NM ps).length_eq,AH];exact hl) S3
 have e3:=RU (C:=W.Web) (f:="near_sets") (mo:=AF 0) (mv:=B3 2 (GB W) (AN (AF 1) (AN (Lv W.Web "ties" (AF 0)) BE))) (e:=[some (.ref S.length),some (.int p),some d]) (S:=S3)
  ((Jr (Cg (S1:=S3) rfl (Cg (Vr rfl hq3 (im _ _)) rfl)) rfl).trans c4) rfl (K4.at hq3) (by simp)
 have hlt4:S.length < S4.length:=(AM.mp (K4.at hq3)).1;rw [put3] at e3;refine ⟨_,da ha rfl (Zb (e:=[some (.ref S.length),some (.int p),some d]) ?_),(K3.trans K4).set (AU _) _,BC hlt4⟩;unfold Pw;refine OX (CF (e:=[some (.ref S.length),some (.int p),some d]) (e1:=[some (.ref S.length),some (.int p),some d]) (S1:=S++[.ins W.Web []]) (OX (FB t0) rfl)) ?_;rw [CF e1,CF e2];exact e3
theorem gM {pa:Option Int} {pl:Option (List (Int×Int))} (ha:VE A a (rV D.int) pa) (hb:VE A b (rO (oL (eP D.int D.int))) pl):VE A (Qt W.Web 3 (Jo W) (AN a (AN b BE))) (rN (EX W)) (pa.bind λx=>pl.bind λl=>Y1 x l):=λv hv S0 e F S hs=>by
 obtain ⟨x,h1,hv⟩:=A4 hv;obtain ⟨l,h2,h3⟩:=A4 hv;obtain ⟨d1,S1,q1,k1,rfl⟩:=ha x h1 S0 e F S hs;obtain ⟨d2,S2,q2,k2,n,rfl,hn⟩:=hb l h2 S0 e _ S1 (hs.grow k1);unfold Y1 at h3;split at h3
 ·rename_i hc
  cases h3;obtain ⟨c1,c2,c3,c4⟩:=hc;have hx:((x.toNat:Nat):Int)=x:=D1 (by omega);obtain ⟨S3,h5,h6,h7⟩:=gB W (p:=x.toNat) (d:=.ref n) (S:=S2) (ps:=l) (by omega) (by omega) (λS' k=>Eu (k.at hn)) c4 (by rw [hx];exact c3) (ml:=AN a (AN b BE)) (e:=e) (S0:=S) (by rw [hx];exact Cg q1 (Cg q2 rfl));exact ⟨_,S3,h5,(k1.trans k2).trans h6,_,rfl,(k1.trans k2).1,h7⟩
 ·cases h3
end
end M
namespace M
open PySem L2 L4
def K2 (h s:Nat) (S S':Sto):Prop:=S.length<=S'.length/\∀j,j < S.length->j≠h->j≠s->S'[j]?=S[j]?
theorem K2.trans {h s:Nat} {S S1 S2:Sto} (a:K2 h s S S1) (b:K2 h s S1 S2):K2 h s S S2:=⟨Al a.1 b.1,λj q q1 q2=>(b.2 j (Ad q a.1) q1 q2).trans (a.2 j q q1 q2)⟩
theorem K2.of {h s:Nat} {S S1:Sto} (a:Keeps S S1):K2 h s S S1:=⟨a.1,λj q _ _=>a.2 j q⟩
theorem K2.seth {h s:Nat} {S S1:Sto} (a:K2 h s S S1) (o:Ob):K2 h s S (S1.set h o):=⟨by rw [KR];exact a.1,λj q q1 q2=>by rw [Au (B5 q1)];exact a.2 j q q1 q2⟩
theorem K2.sets {h s:Nat} {S S1:Sto} (a:K2 h s S S1) (o:Ob):K2 h s S (S1.set s o):=⟨by rw [KR];exact a.1,λj q q1 q2=>by rw [Au (B5 q2)];exact a.2 j q q1 q2⟩
theorem K2.at {h s j:Nat} {S S1:Sto} {o:Ob} (a:K2 h s S S1) (hj:S[j]?=some o) (h1:j≠h) (h2:j≠s):S1[j]?=some o:=by rw [a.2 j (Bf hj) h1 h2];exact hj
def Tk (takes:List (List Int)) (g:Int):List Int:=(atI takes g).getD []
theorem jQ {κv:Type} {enc:κv->D} {l:List (Int×κv)} {S:Sto} {n:Nat} (hn:S[n]?=some (oDK enc l)) (hl:l.length < 1000000) (k:Int) (v:κv):UA (.ref n) (.int k) (enc v) S=some (S.set n (oDK enc (CL l k v))):=by
 unfold UA;dsimp only;rw [hn];show (if (l.map _).length < sizeLine then some (S.set n (.dK (CL (l.map λx=>(E7 x.1,enc x.2)) (E7 k) (enc v)))) else none)=_;rw [if_pos (by rw [AH];exact df hl),Ta Wq];rfl
theorem Om {κv:Type} {enc:κv->D} {l:List (Int×κv)} {mo mi mv:ME} {e:Lo} {S:Sto} {n:Nat} {k:Int} {v:κv} (hv:mv e S=.ok (enc v) S) (ho:mo e S=.ok (.ref n) S) (hi:mi e S=.ok (.int k) S) (hn:S[n]?=some (oDK enc l)) (hl:l.length < 1000000):De mo mi mv e S=.ok (.nx e) (S.set n (oDK enc (CL l k v))):=by
 unfold De;rw [hv];dsimp only [Res.lift];rw [ho];dsimp only;rw [hi];dsimp only;rw [jQ hn hl]
theorem Je {κ α:Type} [DecidableEq κ] {l l':List (κ×α)} {k:κ} {v:α} (h:Kd l k v=some l'):l.length < 1000000/\l'=CL l k v:=by
 unfold Kd at h;split at h
 ·rename_i c;cases h;exact ⟨c,rfl⟩
 ·cases h
theorem XZ {S:Sto} {tN hN sN:Nat} {takes:List (List Int)} {bits g:Int} {H:HL} {Q:QL} (ht:S[tN]?=some (oL (eT D.int) takes)) (hh:S[hN]?=some (oDK D.int H)) (hs:S[sN]?=some (oDK D.bl Q)) (hne:hN≠sN) :
  ∃F,Vs [] [.z (oL (eT D.int) takes),.v (D.int bits),.w 2 (oDK D.int H),.v (D.int g),.w 4 (oDK D.bl Q),.u,.u] [some (.ref tN),some (.int bits),some (.ref hN),some (.int g),some (.ref sN),none,none] F S:=by
 have t1:tN≠hN:=λc=>by rw [c,hh] at ht;cases ht
 have t2:tN≠sN:=λc=>by rw [c,hs] at ht;cases ht
 refine ⟨λn=>if n=hN then .ow 2 else if n=sN then .ow 4 else match S[n]? with | some o=>.fz o | none=>.no,⟨C0 _,λj h=>(nomatch h)⟩,λn o q=>?_,λn i q=>?_,λn hn=>?_,λi a ha=>?_⟩
 ·split at q
  ·cases q
  ·split at q
   ·cases q
   ·cases w:S[n]? with
    | none=>rw [w] at q;cases q
    | some o'=>rw [w] at q;cases q;rfl
 ·refine ⟨C0 _,?_⟩
  split at q
  ·rename_i c;rw [c];exact Bf hh
  ·split at q
   ·rename_i c;rw [c];exact Bf hs
   ·cases w:S[n]? with
    | none=>rw [w] at q;cases q
    | some o'=>rw [w] at q;cases q
 ·show (if n=hN then Cel.ow 2 else if n=sN then .ow 4 else match S[n]? with | some o=>.fz o | none=>.no)=_
  rw [if_neg λc=>absurd (Bf hh) (by rw [<-c];omega),if_neg λc=>absurd (Bf hs) (by rw [<-c];omega),CN hn]
 ·match i,ha with
  | 0,ha=>cases ha;exact ⟨_,rfl,tN,rfl,by show (if tN=hN then Cel.ow 2 else if tN=sN then .ow 4 else match S[tN]? with | some o=>.fz o | none=>.no)=_;rw [if_neg t1,if_neg t2,ht]⟩
  | 1,ha=>cases ha;exact ⟨_,rfl,rfl⟩
  | 2,ha=>cases ha;exact ⟨_,rfl,hN,rfl,if_pos rfl,hh⟩
  | 3,ha=>cases ha;exact ⟨_,rfl,rfl⟩
  | 4,ha=>cases ha;exact ⟨_,rfl,sN,rfl,by show (if sN=hN then Cel.ow 2 else if sN=sN then .ow 4 else match S[sN]? with | some o=>.fz o | none=>.no)=_;rw [if_neg (B5 hne),if_pos rfl],hs⟩
  | 5,ha=>cases ha;exact ⟨_,rfl,trivial⟩
  | 6,ha=>cases ha;exact ⟨_,rfl,trivial⟩
  | i+7,ha=>cases ha
abbrev fJ:ME:=DV (DC 1 (DX (m2 ixA (AF 0) (AF 3))) (tgN 0) (Na (HI (m2 UI (m2 TK (AF 2) (AF 0)) (mC (.int 1)))) (mB (m2 (inA true) (AF 0) (AF 5)))) (AF 0))
theorem cB {S:Sto} {tN hN sN:Nat} {takes:List (List Int)} {bits g:Int} {H:HL} {Q:QL} (ht:S[tN]?=some (oL (eT D.int) takes)) (hh:S[hN]?=some (oDK D.int H)) (hs:S[sN]?=some (oDK D.bl Q)) (hne:hN≠sN) (hg:0<=g/\g < takes.length) (hT:∀t∈takes,t.length<=1000/\∀x∈t,0<=x) :
  ∃n S',fJ [some (.ref tN),some (.int bits),some (.ref hN),some (.int g),some (.ref sN),none,none] S=.ok (.ref n) S'/\Keeps S S'/\S.length<=n/\S'[n]?=some (oL D.int ((Tk takes g).filter λx=>hb bits x&&!(A7 Q x).isSome)):=by
 obtain ⟨F,V⟩:=XZ (bits:=bits) (g:=g) ht hh hs hne;obtain ⟨t,e1,-⟩:=V1 (l:=takes) hg.1 hg.2;have tm:=hT t (XF e1)
 have key:=CA (CK (enc:=D.int) (eb:=D.int) (A:=[.z (oL (eT D.int) takes),.v (D.int bits),.w 2 (oDK D.int H),.v (D.int g),.w 4 (oDK D.bl Q),.u,.u]) (VI.k (KW (O3 (Cf (v:=takes) (i:=0) rfl) (AS (v:=g) (i:=3) rfl))))
  (λx=>Uu (cS (cQ (gN (AS (v:=bits) (i:=2) rfl) (AS (v:=x) (i:=0) rfl)) (C1 (v:=1) rfl))) (Fi (ZG (AS (v:=x) (i:=0) rfl) (HX (v:=Q) (i:=5) rfl)))) (λx=>AS (v:=x) (i:=0) rfl))
 simp only [AG] at key;rw [e1] at key;simp only [AG] at key
 have ec:Dk t (λx=>((ci bits x).bind λx_1=>some (Fg x_1 1)).bind (λx=>some (x != 0)) |>.bind λb=>if b=true then some (!(A7 Q x).isSome) else some false) (λx=>some x)=some (t.filter λx=>hb bits x&&!(A7 Q x).isSome):=IB (by omega) λx hx=>by
  rw [show ci bits x=some (bits / 2 ^ x.toNat) from if_pos (tm.2 x hx)];show (if (Fg (bits / 2 ^ x.toNat) 1 != 0)=true then _ else _)=_;show (if hb bits x=true then _ else _)=_
  cases hb bits x <;> rfl
 obtain ⟨d,S',h1,h2,n,rfl,h3,h4⟩:=key _ ec [] _ F S V;refine ⟨n,S',h1,h2,h3,?_⟩;unfold Tk;rw [e1];exact h4
end M
namespace M
open PySem L2 L4
theorem eE {w:List Int} {p:Int->Bool} {i:Nat} {x:Int} (h:∀j,j < i->∀y,w[j]?=some y->p y=false) (hx:w[i]?=some x) (hp:p x=true):w.find? p=some x:=by
 rw [List.find?_eq_some_iff_getElem];obtain ⟨hi,e⟩:=AM.mp hx;refine ⟨hp,i,hi,e,λj hj=>?_⟩;rw [h j hj _ (B0 (by omega))];rfl
theorem eD {w:List Int} {p:Int->Bool} (h:∀j,j < w.length->∀y,w[j]?=some y->p y=false):w.find? p=none:=by
 rw [IS];intro x hx hp;obtain ⟨i,hi,e⟩:=D0 hx;rw [h i hi x (by rw [B0 hi,e])] at hp;cases hp
abbrev e7 (tN:Nat) (bits:Int) (hN:Nat) (g:Int) (sN:Nat) (z5 z6:Option D):Lo:=[some (.ref tN),some (.int bits),some (.ref hN),some (.int g),some (.ref sN),z5,z6]
abbrev bS1:MS:=sIf (mB (m2 (inA true) (AF 6) (AF 2))) (BU (De (AF 2) (AF 6) (AF 3)) (C5 (mC (.bl true)))) sNx
abbrev bS2 (fr:List D->Sto->Res D):MS:=sIf (mB (m2 (inA true) (AF 6) (AF 4))) (BU (De (AF 4) (AF 6) (mC (.bl true)))
  (sIf (HI (B3 5 fr (AN (AF 0) (AN (AF 1) (AN (AF 2) (AN (m2 ixA (AF 2) (AF 6)) (AN (AF 4) BE))))))) (BU (De (AF 2) (AF 6) (AF 3)) (C5 (mC (.bl true)))) sNx)) sNx
theorem fP {κv:Type} {enc:κv->D} {l:List (Int×κv)} {S:Sto} {n:Nat} (hn:S[n]?=some (oDK enc l)) (x:Int):inA true (.int x) (.ref n) S=.ok (.bl (!(A7 l x).isSome)) S:=by
 rw [SF (g7 hn) (bH hn x)];simp
theorem lN {κv:Type} {enc:κv->D} {l:List (Int×κv)} {S:Sto} {n:Nat} {x:Int} {v:κv} (hn:S[n]?=some (oDK enc l)) (hv:A7 l x=some v):ixA (.ref n) (.int x) S=.ok (enc v) S:=bF (g7 hn) (by rw [bH hn x,hv];rfl)
theorem Xm (W:Wd) {takes:List (List Int)} {bits:Int} (hT:∀t∈takes,t.length<=1000/\∀x∈t,0<=x):∀(n:Nat) (H:HL) (g:Int) (Q:QL) (z:Bool×HL×QL),Gx (Tk takes) bits n H g Q=some z->0<=g/\g < takes.length->(∀x a,A7 H x=some a->0<=a/\a < takes.length)->(∀x a,A7 z.2.1 x=some a->0<=a/\a < takes.length) /\
  ∀(S:Sto) (tN hN sN:Nat),S[tN]?=some (oL (eT D.int) takes)->S[hN]?=some (oDK D.int H)->S[sN]?=some (oDK D.bl Q)->hN≠sN->∃S',FC W n [.ref tN,.int bits,.ref hN,.int g,.ref sN] S=.ok (.bl z.1) S'/\S'[hN]?=some (oDK D.int z.2.1)/\S'[sN]?=some (oDK D.bl z.2.2)/\K2 hN sN S S':=by
 intro n
 induction n with
 | zero=>intro H g Q z hz;cases hz
 | succ n ih=>
  intro H g Q z hz hg hG;unfold Gx at hz
  have hput:∀(H:HL) (x:Int),(∀x a,A7 H x=some a->0<=a/\a < takes.length)->∀y a,A7 (CL H x g) y=some a->0<=a/\a < takes.length:=λH x hG y a e=>by
   rw [C4] at e;split at e
   ·cases e;exact hg
   ·exact hG y a e
  have lp:∀(r:List Int) (Hc:HL) (Qc:QL),(∀x a,A7 Hc x=some a->0<=a/\a < takes.length)->Lb (Gx (Tk takes) bits n) g r Hc Qc=some z->∀x a,A7 z.2.1 x=some a->0<=a/\a < takes.length:=by
   intro r
   induction r with
   | nil=>intro Hc Qc hc e;cases e;exact hc
   | cons x r ih2=>
    intro Hc Qc hc e;unfold Lb at e;split at e
    ·exact ih2 Hc Qc hc e
    ·obtain ⟨Q1,-,e⟩:=A4 e
     obtain ⟨g2,e2,e⟩:=A4 e;obtain ⟨z2,e3,e⟩:=A4 e;have:=(ih Hc g2 Q1 z2 e3 (hc x g2 e2) hc).1;split at e
     ·obtain ⟨H',e4,e5⟩:=A4 e
      cases e5;rw [(Je e4).2];exact hput _ x this
     ·exact ih2 _ _ this e
  refine ⟨?_,λS tN hN sN ht hh hs hne=>?_⟩
  ·split at hz
   ·obtain ⟨H',e4,e5⟩:=A4 hz
    cases e5;rw [(Je e4).2];exact hput _ _ hG
   ·exact lp _ _ _ hG hz
  ·have t1:tN≠hN:=λc=>by rw [c,hh] at ht;cases ht
   have t2:tN≠sN:=λc=>by rw [c,hs] at ht;cases ht
   obtain ⟨wN,S1,w1,w2,w3,w4⟩:=cB (bits:=bits) ht hh hs hne hg hT;generalize (Tk takes g).filter (λx=>hb bits x&&!(A7 Q x).isSome)=w at hz w4
   have wh:wN≠hN:=λc=>absurd (Bf hh) (by omega)
   have ws:wN≠sN:=λc=>absurd (Bf hs) (by omega)
   have s5:Co 5 fJ (Fj 7 [.ref tN,.int bits,.ref hN,.int g,.ref sN]) S=.ok (.nx (e7 tN bits hN g sN (some (.ref wN)) none)) S1:=Lk (i:=5) w1;have hh1:=w2.at hh;have hs1:=w2.at hs;have ht1:=w2.at ht;have k1:K2 hN sN S S1:=K2.of w2
   have it:∀z6 S',S'[wN]?=some (oL D.int w)->DX (AF 5) (e7 tN bits hN g sN (some (.ref wN)) z6) S'=.ok (IV (.ref wN)) S':=λz6 S' h=>JL (n:=wN) rfl h
   obtain ⟨f,S2,q1,q2⟩:=Nj (v:=IV (.ref wN)) (g:=tgN 6) (b:=bS1) (xs:=w.map D.int) (e:=e7 tN bits hN g sN (some (.ref wN)) none) (S:=S1)
    (λi e S'=>(∃z6,e=e7 tN bits hN g sN (some (.ref wN)) z6)/\S'=S1/\∀j,j < i->∀y,w[j]?=some y->(!(A7 H y).isSome)=false)
    (λf S'=>((∃z6,f=.nx (e7 tN bits hN g sN (some (.ref wN)) z6))/\S'=S1/\w.find? (λx=>!(A7 H x).isSome)=none)∨∃x,w.find? (λx=>!(A7 H x).isSome)=some x/\f=.rt (.bl true)/\S'=S1.set hN (oDK D.int (CL H x g)))
    ⟨⟨none,rfl⟩,rfl,λj hj=>absurd hj (Nat.not_lt_zero j)⟩ (by rintro i e S' ⟨_,rfl,_⟩;exact Eu w4)
    (by
     rintro i d e S' hd ⟨⟨z6,rfl⟩,rfl,hb'⟩;rw [Ap] at hd
     cases hx:w[i]? with
     | none=>rw [hx] at hd;cases hd
     | some x=>
      rw [hx] at hd;cases hd;refine ⟨e7 tN bits hN g sN (some (.ref wN)) (some (.int x)),S',rfl,?_⟩;have tst:mB (m2 (inA true) (AF 6) (AF 2)) (e7 tN bits hN g sN (some (.ref wN)) (some (.int x))) S'=.ok (!(A7 H x).isSome) S':=Pz (Dw rfl rfl (fP hh1 x))
      cases c:(A7 H x).isSome with
      | true=>
       rw [c] at tst;refine ⟨_,S',(FB tst).trans rfl,⟨_,rfl⟩,rfl,λj hj y hy=>?_⟩
       by_cases q:j=i
       ·subst q;rw [hx] at hy;cases hy;rw [c];rfl
       ·exact hb' j (by omega) y hy
      | false=>
       rw [c] at tst;have hf:w.find? (λx=>!(A7 H x).isSome)=some x:=eE hb' hx (by rw [c];rfl);rw [hf] at hz;obtain ⟨H',e4,e5⟩:=A4 hz;obtain ⟨hl,-⟩:=Je e4;have dp:=Om (mo:=AF 2) (mi:=AF 6) (mv:=AF 3) (e:=e7 tN bits hN g sN (some (.ref wN)) (some (.int x))) (k:=x) (v:=g) rfl rfl rfl hh1 hl
       exact ⟨.rt (.bl true),_,(FB tst).trans ((if_pos rfl).trans ((CF dp).trans rfl)),.inr ⟨x,hf,rfl,rfl⟩⟩)
    (by
     rintro e S' ⟨⟨z6,rfl⟩,rfl,hb'⟩;rw [AH] at hb'
     exact .inl ⟨⟨z6,rfl⟩,rfl,eD hb'⟩)
   have run:∀ {S':Sto} {d:D},UE W (FC W n) (Fj 7 [.ref tN,.int bits,.ref hN,.int g,.ref sN]) S=.ok (.rt d) S'->FC W (n+1) [.ref tN,.int bits,.ref hN,.int g,.ref sN] S=.ok d S':=λh=>Ln h
   rcases q2 with ⟨⟨z6,rfl⟩,rfl,hf⟩ | ⟨x,hf,rfl,rfl⟩
   ·rw [hf] at hz
    dsimp only at hz
    obtain ⟨f,S3,p1,p2⟩:=Nj (v:=IV (.ref wN)) (g:=tgN 6) (b:=bS2 (FC W n)) (xs:=w.map D.int) (e:=e7 tN bits hN g sN (some (.ref wN)) z6) (S:=S2)
     (λi e S'=>(∃z6,e=e7 tN bits hN g sN (some (.ref wN)) z6)/\S'[wN]?=some (oL D.int w)/\K2 hN sN S S'/\∃Hc Qc,S'[hN]?=some (oDK D.int Hc)/\S'[sN]?=some (oDK D.bl Qc)/\(∀x a,A7 Hc x=some a->0<=a/\a < takes.length)/\Lb (Gx (Tk takes) bits n) g (w.drop i) Hc Qc=some z)
     (λf S'=>K2 hN sN S S'/\S'[hN]?=some (oDK D.int z.2.1)/\S'[sN]?=some (oDK D.bl z.2.2)/\((f=.rt (.bl true)/\z.1=true)∨((∃z6,f=.nx (e7 tN bits hN g sN (some (.ref wN)) z6))/\z.1=false)))
     ⟨⟨z6,rfl⟩,w4,k1,H,Q,hh1,hs1,hG,hz⟩ (by rintro i e S' ⟨_,h,_⟩;exact Eu h)
     (by
      rintro i d e S' hd ⟨⟨z6,rfl⟩,a1,a2,Hc,Qc,a3,a4,a5,a6⟩;rw [Ap] at hd
      cases hx:w[i]? with
      | none=>rw [hx] at hd;cases hd
      | some x=>
       rw [hx] at hd;cases hd;obtain ⟨hi,ex⟩:=AM.mp hx;rw [CH hi,ex] at a6;unfold Lb at a6;refine ⟨e7 tN bits hN g sN (some (.ref wN)) (some (.int x)),S',rfl,?_⟩;have tst:mB (m2 (inA true) (AF 6) (AF 4)) (e7 tN bits hN g sN (some (.ref wN)) (some (.int x))) S'=.ok (!(A7 Qc x).isSome) S':=Pz (Dw rfl rfl (fP a4 x))
       cases c:(A7 Qc x).isSome with
       | true=>
        rw [c] at tst;rw [if_pos c] at a6;exact ⟨_,S',(FB tst).trans rfl,⟨_,rfl⟩,a1,a2,Hc,Qc,a3,a4,a5,a6⟩
       | false=>
        rw [c] at tst;rw [if_neg (by rw [c];exact AK)] at a6;obtain ⟨Q1,b1,a7⟩:=A4 a6;obtain ⟨g2,b2,a8⟩:=A4 a7;obtain ⟨z2,b3,a9⟩:=A4 a8;obtain ⟨hl,rfl⟩:=Je b1
        clear a6 a7 a8
        have dp:=Om (enc:=D.bl) (mo:=AF 4) (mi:=AF 6) (mv:=mC (.bl true)) (e:=e7 tN bits hN g sN (some (.ref wN)) (some (.int x))) (k:=x) (v:=true) rfl rfl rfl a4 hl;have hsl:=Bf a4
        have c3:(S'.set sN (oDK D.bl (CL Qc x true)))[hN]?=some (oDK D.int Hc):=by rw [Au (B5 hne)];exact a3
        have c4:(S'.set sN (oDK D.bl (CL Qc x true)))[sN]?=some (oDK D.bl (CL Qc x true)):=BC hsl
        have c5:(S'.set sN (oDK D.bl (CL Qc x true)))[tN]?=some (oL (eT D.int) takes):=by rw [Au (B5 t2)];exact a2.at ht t1 t2
        have c1:(S'.set sN (oDK D.bl (CL Qc x true)))[wN]?=some (oL D.int w):=by rw [Au (B5 ws)];exact a1
        have c2:=a2.sets (oDK D.bl (CL Qc x true));generalize S'.set sN (oDK D.bl (CL Qc x true))=S4 at dp c1 c2 c3 c4 c5;obtain ⟨r1,r2⟩:=ih Hc g2 (CL Qc x true) z2 b3 (a5 x g2 b2) a5;obtain ⟨S5,r3,r4,r5,r6⟩:=r2 S4 tN hN sN c5 c3 c4 hne;have arg:AN (AF 0) (AN (AF 1) (AN (AF 2) (AN (m2 ixA (AF 2) (AF 6)) (AN (AF 4) BE)))) (e7 tN bits hN g sN (some (.ref wN)) (some (.int x))) S4=.ok [.ref tN,.int bits,.ref hN,.int g2,.ref sN] S4:=Cg rfl (Cg rfl (Cg rfl (Cg (Dw (x:=.ref hN) (y:=.int x) rfl rfl (lN c3 b2)) (Cg rfl rfl))))
        have cal:HI (B3 5 (FC W n) (AN (AF 0) (AN (AF 1) (AN (AF 2) (AN (m2 ixA (AF 2) (AF 6)) (AN (AF 4) BE)))))) (e7 tN bits hN g sN (some (.ref wN)) (some (.int x))) S4=.ok z2.1 S5:=by
         unfold HI;rw [(Jr (n:=5) arg rfl).trans r3];rfl
        have d1:=r6.at c1 wh ws;have d2:=c2.trans r6
        cases hb2:z2.1 with
        | true=>
         rw [hb2] at cal;rw [if_pos hb2] at a9;obtain ⟨H',e4,e5⟩:=A4 a9;obtain ⟨hl2,rfl⟩:=Je e4;cases e5;have dp2:=Om (mo:=AF 2) (mi:=AF 6) (mv:=AF 3) (e:=e7 tN bits hN g sN (some (.ref wN)) (some (.int x))) (k:=x) (v:=g) rfl rfl rfl r4 hl2;refine ⟨.rt (.bl true),_,(FB tst).trans ((if_pos rfl).trans ((CF dp).trans ((FB cal).trans ((if_pos rfl).trans ((CF dp2).trans rfl))))),d2.seth _,BC (Bf r4),?_,.inl ⟨rfl,rfl⟩⟩;rw [Au hne];exact r5
        | false=>
         rw [hb2] at cal;rw [if_neg (by rw [hb2];exact AK)] at a9
         exact ⟨_,S5,(FB tst).trans ((if_pos rfl).trans ((CF dp).trans ((FB cal).trans rfl))),⟨_,rfl⟩,d1,d2,z2.2.1,z2.2.2,r4,r5,r1,a9⟩)
     (by
      rintro e S' ⟨⟨z6,rfl⟩,a1,a2,Hc,Qc,a3,a4,a5,a6⟩;rw [AH,KJ (AU _)] at a6;unfold Lb at a6;cases a6
      exact ⟨a2,a3,a4,.inr ⟨⟨z6,rfl⟩,rfl⟩⟩)
    obtain ⟨p3,p4,p5,p6⟩:=p2;have l1:=(Ki (g:=tgN 6) (b:=bS1) (it none S2 w4)).trans q1;have l2:=(Ki (g:=tgN 6) (b:=bS2 (FC W n)) (it z6 S2 w4)).trans p1
    rcases p6 with ⟨rfl,p6⟩ | ⟨⟨z7,rfl⟩,p6⟩
    ·rw [p6]
     exact ⟨S3,run ((CF s5).trans ((CF l1).trans (RV l2))),p4,p5,p3⟩
    ·rw [p6]
     exact ⟨S3,run ((CF s5).trans ((CF l1).trans ((CF l2).trans rfl))),p4,p5,p3⟩
   ·rw [hf] at hz
    obtain ⟨H',e4,e5⟩:=A4 hz;obtain ⟨hl,rfl⟩:=Je e4;cases e5;have l1:=(Ki (g:=tgN 6) (b:=bS1) (it none S1 w4)).trans q1;refine ⟨_,run ((CF s5).trans (RV l1)),BC (Bf hh1),?_,k1.seth _⟩;rw [Au hne];exact hs1
end M
namespace M
open PySem L2 L4
abbrev e5 (tN:Nat) (gs:List Int) (bits:Int) (hN:Nat) (z:Option D):Lo:=[some (.ref tN),some (eT D.int gs),some (.int bits),some (.ref hN),z]
abbrev il:MT:=HI (m2 UI (m2 TK (AF 2) (AF 4)) (mC (.int 1)))
theorem kL {m:ME} {e:Lo} {S S1:Sto} {b:Bool} (h:m e S=.ok (.bl b) S1):HI m e S=.ok b S1:=by
 unfold HI;rw [h];rfl
theorem kK {m:ME} {e:Lo} {S S1:Sto} {i:Int} (h:m e S=.ok (.int i) S1):HI m e S=.ok (i != 0) S1:=by
 unfold HI;rw [h];rfl
theorem bP {tN hN:Nat} {gs:List Int} {bits g:Int} {S:Sto} (h:0<=g):il (e5 tN gs bits hN (some (.int g))) S=.ok (hb bits g) S:=by
 have h1:m2 TK (AF 2) (AF 4) (e5 tN gs bits hN (some (.int g))) S=.ok (.int (bits / 2 ^ g.toNat)) S:=Dw rfl rfl (if_pos h);exact kK (Dw (f:=UI) (mb:=mC (.int 1)) (y:=.int 1) h1 rfl rfl)
abbrev bF1:MS:=sIf il (De (AF 3) (AF 4) (AF 4)) sNx
abbrev lG (W:Wd) (n:Nat):ME:=B3 5 (FC W n) (AN (AF 0) (AN (AF 2) (AN (AF 3) (AN (AF 4) (AN NZ BE)))))
abbrev bF2 (W:Wd) (n:Nat):MS:=sIf (Na (Jj il) (Jj (HI (lG W n)))) (C5 (mC (.bl false))) sNx
theorem eC (W:Wd) {takes:List (List Int)} {gs:List Int} {bits:Int} {b:Bool} (hT:∀t∈takes,t.length<=1000/\∀x∈t,0<=x) (hg:∀g∈gs,0<=g/\g < takes.length) (hb':Qx (Tk takes) bits 9 gs=some b) {S:Sto} {tN:Nat} (ht:S[tN]?=some (oL (eT D.int) takes)) :
  ∃S',SE W [.ref tN,eT D.int gs,.int bits] S=.ok (.bl b) S'/\Keeps S S':=by
 unfold Qx at hb';obtain ⟨Hf,hs,hr⟩:=A4 hb';have s3:Co 3 NZ (Fj 5 [.ref tN,eT D.int gs,.int bits]) S=.ok (.nx (e5 tN gs bits S.length none)) (S++[.dK []]):=rfl;have h0:(S++[Ob.dK []])[S.length]?=some (oDK D.int []):=FO _ _;have k0:=Keeps.app S [.dK []];have tl:=Bf ht;generalize S++[Ob.dK []]=S0 at s3 h0 k0
 obtain ⟨f,S1,q1,⟨z1,rfl⟩,q2,q3,q4⟩:=Nj (v:=GX (gs.map D.int)) (g:=tgN 4) (b:=bF1) (xs:=gs.map D.int) (e:=e5 tN gs bits S.length none) (S:=S0)
  (λi e S'=>(∃z,e=e5 tN gs bits S.length z)/\Keeps S S'/\∃Hc,S'[S.length]?=some (oDK D.int Hc)/\(∀x a,A7 Hc x=some a->0<=a/\a < takes.length)/\PJ bits (gs.drop i) Hc=some Hf)
  (λf S'=>(∃z,f=.nx (e5 tN gs bits S.length z))/\Keeps S S'/\S'[S.length]?=some (oDK D.int Hf)/\∀x a,A7 Hf x=some a->0<=a/\a < takes.length)
  ⟨⟨none,rfl⟩,k0,[],h0,λx a e=>(nomatch e),hs⟩ (λ_ _ _ _=>rfl)
  (by
   rintro i d e S' hd ⟨⟨z,rfl⟩,a1,Hc,a2,a3,a4⟩;rw [Ap] at hd
   cases hx:gs[i]? with
   | none=>rw [hx] at hd;cases hd
   | some g=>
    rw [hx] at hd;cases hd;have hgg:=hg g (CT hx);obtain ⟨hi,ex⟩:=AM.mp hx;rw [CH hi,ex] at a4;unfold PJ at a4;refine ⟨e5 tN gs bits S.length (some (.int g)),S',rfl,?_⟩;have tst:=bP (tN:=tN) (hN:=S.length) (gs:=gs) (bits:=bits) (S:=S') hgg.1
    cases c:hb bits g with
    | true=>
     rw [c] at tst;rw [if_pos c] at a4;obtain ⟨H',e1,e2⟩:=A4 a4;obtain ⟨hl,rfl⟩:=Je e1;have dp:=Om (mo:=AF 3) (mi:=AF 4) (mv:=AF 4) (e:=e5 tN gs bits S.length (some (.int g))) (k:=g) (v:=g) rfl rfl rfl a2 hl;refine ⟨_,_,(FB tst).trans ((if_pos rfl).trans dp),⟨_,rfl⟩,a1.set (AU _) _,_,BC (Bf a2),λx a e=>?_,e2⟩;rw [C4] at e;split at e
     ·cases e;exact hgg
     ·exact a3 x a e
    | false=>
     rw [c] at tst;rw [if_neg (by rw [c];exact AK)] at a4
     exact ⟨_,S',(FB tst).trans rfl,⟨_,rfl⟩,a1,Hc,a2,a3,a4⟩)
  (by
   rintro e S' ⟨⟨z,rfl⟩,a1,Hc,a2,a3,a4⟩;rw [AH,KJ (AU _)] at a4;cases a4
   exact ⟨⟨z,rfl⟩,a1,a2,a3⟩)
 obtain ⟨f,S2,p1,p2,p3⟩:=Nj (v:=GX (gs.map D.int)) (g:=tgN 4) (b:=bF2 W 9) (xs:=gs.map D.int) (e:=e5 tN gs bits S.length z1) (S:=S1)
  (λi e S'=>(∃z,e=e5 tN gs bits S.length z)/\Keeps S S'/\∃Hc,S'[S.length]?=some (oDK D.int Hc)/\(∀x a,A7 Hc x=some a->0<=a/\a < takes.length)/\PN (Tk takes) bits 9 (gs.drop i) Hc=some b)
  (λf S'=>Keeps S S'/\((f=.rt (.bl false)/\b=false)∨((∃z,f=.nx (e5 tN gs bits S.length z))/\b=true)))
  ⟨⟨z1,rfl⟩,q2,Hf,q3,q4,hr⟩ (λ_ _ _ _=>rfl)
  (by
   rintro i d e S' hd ⟨⟨z,rfl⟩,a1,Hc,a2,a3,a4⟩;rw [Ap] at hd
   cases hx:gs[i]? with
   | none=>rw [hx] at hd;cases hd
   | some g=>
    rw [hx] at hd;cases hd;have hgg:=hg g (CT hx);obtain ⟨hi,ex⟩:=AM.mp hx;rw [CH hi,ex] at a4;unfold PN at a4;refine ⟨e5 tN gs bits S.length (some (.int g)),S',rfl,?_⟩;have tst:=bP (tN:=tN) (hN:=S.length) (gs:=gs) (bits:=bits) (S:=S') hgg.1
    cases c:hb bits g with
    | true=>
     rw [c] at tst;rw [if_pos c] at a4;exact ⟨_,S',(FB (XH (Kf tst))).trans rfl,⟨_,rfl⟩,a1,Hc,a2,a3,a4⟩
    | false=>
     rw [c] at tst;rw [if_neg (by rw [c];exact AK)] at a4;obtain ⟨w,e1,e2⟩:=A4 a4
     clear a4
     have hl:=Bf a2;have b0:(S'++[Ob.dK []])[S'.length]?=some (oDK D.bl []):=FO _ _;have kk:=Keeps.app S' [.dK []];have arg:AN (AF 0) (AN (AF 2) (AN (AF 3) (AN (AF 4) (AN NZ BE)))) (e5 tN gs bits S.length (some (.int g))) S'=.ok [.ref tN,.int bits,.ref S.length,.int g,.ref S'.length] (S'++[.dK []]):=rfl;generalize S'++[Ob.dK []]=S4 at b0 kk arg;obtain ⟨r1,r2⟩:=Xm W (bits:=bits) hT 9 Hc g [] w e1 hgg a3;obtain ⟨S5,r3,r4,r5,r6⟩:=r2 S4 tN S.length S'.length (kk.at (a1.at ht)) (kk.at a2) b0 (by omega);have cal:HI (lG W 9) (e5 tN gs bits S.length (some (.int g))) S'=.ok w.1 S5:=kL ((Jr (n:=5) arg rfl).trans r3)
     have kS:Keeps S S5:=⟨Al (Al a1.1 kk.1) r6.1,λj hj=>by
      have h4:j < S4.length:=Ad hj (Al a1.1 kk.1)
      rw [r6.2 j h4 (by omega) (by have:=a1.1;omega),kk.2 j (Ad hj a1.1),a1.2 j hj]⟩
     cases hw:w.1 with
     | true=>
      rw [hw] at cal;rw [if_pos hw] at e2;exact ⟨_,S5,(FB ((SR (Kf tst)).trans (Kf cal))).trans rfl,⟨_,rfl⟩,kS,w.2.1,r4,r1,e2⟩
     | false=>
      rw [hw] at cal;rw [if_neg (by rw [hw];exact AK)] at e2;cases e2
      exact ⟨.rt (.bl false),S5,(FB ((SR (Kf tst)).trans (Kf cal))).trans rfl,kS,.inl ⟨rfl,rfl⟩⟩)
  (by
   rintro e S' ⟨⟨z,rfl⟩,a1,Hc,a2,a3,a4⟩;rw [AH,KJ (AU _)] at a4;cases a4
   exact ⟨a1,.inr ⟨⟨z,rfl⟩,rfl⟩⟩)
 have it:∀z S',DX (AF 1) (e5 tN gs bits S.length z) S'=.ok (GX (gs.map D.int)) S':=λz S'=>Pl (xs:=gs.map D.int) rfl
 have l1:=(Ki (g:=tgN 4) (b:=bF1) (it none S0)).trans q1;have l2:=(Ki (g:=tgN 4) (b:=bF2 W 9) (it z1 S1)).trans p1;refine ⟨S2,Ln (n:=5) (mb:=V0 W) ?_,p2⟩;unfold V0
 rcases p3 with ⟨rfl,rfl⟩ | ⟨⟨z,rfl⟩,rfl⟩
 ·exact (CF s3).trans ((CF l1).trans (RV l2))
 ·exact (CF s3).trans ((CF l1).trans ((CF l2).trans rfl))
open Classical in
def Rf (takes:List (List Int)) (gs:List Int) (bits:Int):Option Bool:=if (∀t∈takes,t.length<=1000/\∀x∈t,0<=x)/\∀g∈gs,0<=g/\g < takes.length then Qx (Tk takes) bits 9 gs else none
theorem gf (W:Wd) (takes:List (List Int)) (gs:List Int) (bits:Int):VF (SE W) [.z (oL (eT D.int) takes),.v (eT D.int gs),.v (D.int bits)] (rV D.bl) (Rf takes gs bits):=λv hv S ds ha=>by
 unfold Rf at hv;split at hv
 ·rename_i hc
  match ds,ha with
  | [d1,d2,d3],⟨⟨n,h1,h2⟩,h3,h4,_⟩=>
   cases h1;cases h3;cases h4;obtain ⟨S',h5,h6⟩:=eC W hc.1 hc.2 hv h2;exact ⟨_,S',h5,h6,rfl⟩
 ·cases hv
end M
namespace M
open PySem L2 L4
def Fn (A1:(List Int)) (bb:Int):Option (Fw Int Unit):=
 BV (((some bb).bind λx1=>((some A1).bind λx3=>some (x3.length:Int)).bind λx2=>some (decide (x1 < x2))).bind λx7=>if x7=true then ((some A1).bind λl4=>(some bb).bind λx5=>atI l4 x5).bind λx6=>some (.rt x6) else some (.nx ())) λ_=>(some (0:Int)).bind λx10=>some (.rt x10)
def Be (A1:(List Int)) (bb:Int):Option Int:=IL (Fn A1 bb)
theorem Ej (W:Wd) (A1:(List Int)) (bb:Int):VF (DP W) [.v (eF A1),.v (D.int bb)] (rV D.int) (Be A1 bb):=by
 refine GY (n:=2) (b:=ID W) (p:=Fn A1 bb) (B:=λ_=>[]) ?_;show VS [.v (eF A1),.v (D.int bb)] _ _ _ _;unfold ID Fn;exact (BK (Fh (B:=(λ(_:Unit)=>[.v (eF A1),.v (D.int bb)])) (Fi (kI (AS rfl) (WP (AS rfl)))) (FL (ZC (AS rfl) (AS rfl))) (GV (.same (.same .nil)))) (λ_=>(FL (C1 rfl))))
def Jd (Aw:Int):Option (Fw (List (Int×Int)) Unit):=
 BV (((some []).bind Gp).bind λx2=>some (.nx x2)) λv1=>BV (((some Aw).bind QJ).bind λl20=>Fe l20 v1 λ(s3:(List (Int×Int))) x4=>Hu (λs18=>s18) ((((some x4).bind λx6=>(some (1:Int)).bind λx7=>some (x6+x7)).bind λx8=>(some Aw).bind λx9=>U9 x8 x9).bind λl17=>Fe l17 s3 λ(s10:(List (Int×Int))) x11=>Hu (λv12=>v12) (((some x4).bind λx15=>(some x11).bind λx16=>some (x15,x16)).bind λx13=>(Yb s10 x13).bind λl14=>some (.nx l14)))) λs21=>some (.rt s21)
def Fs (Aw:Int):Option (List (Int×Int)):=IL (Jd Aw)
theorem Mc (W:Wd) (Aw:Int):VF (Hd W) [.v (D.int Aw)] (rN (oL (eP D.int D.int))) (Fs Aw):=by
 refine GY (n:=4) (b:=Jt W) (p:=Jd Aw) (B:=λ_=>[]) ?_;show VS [.v (D.int Aw),.u,.u,.u] _ _ _ _;unfold Jt Jd;exact (BK (JZ (CA (Ei Dp))) (λv1=>(BK (Gg (s0:=v1) (B:=(λ(s22:(List (Int×Int)))=>[.v (D.int Aw),.w 1 ((oL (eP D.int D.int)) s22),.u,.u])) (Gh (AS rfl)) FE (.same (.same (.same (.same .nil)))) (λs3 x4=>(Eh (Gg (s0:=s3) (B:=(λ(s19:(List (Int×Int)))=>[.v (D.int Aw),.w 1 ((oL (eP D.int D.int)) s19),.v (D.int x4),.u])) (K0 (Hl (AS rfl) (C1 rfl)) (AS rfl)) FE (.same (.same (.same (.same .nil)))) (λs10 x11=>(Eh (Y3 rfl (K5 (AS rfl) (AS rfl)) rfl) (λv12=>(.same (.same (.same (.drop .nil)))))))) (λs18=>(.same (.same (.drop (.same .nil)))))))) (λs21=>(cE rfl)))))
def Fm (Aw:Int) (EB:Int):Option (Fw (List (Int×Int)) Unit):=
 BV (((some EB).bind λx1=>(some (1:Int)).bind λx2=>some (decide (x1=x2))).bind λx14=>if x14=true then ((((some Aw).bind λx4=>(some (1:Int)).bind λx5=>some (x4 - x5)).bind QJ).bind λl12=>Dk l12 (λx6=>some true) (λx6=>(some x6).bind λx10=>((some x6).bind λx8=>(some (1:Int)).bind λx9=>some (x8+x9)).bind λx11=>some (x10,x11))).bind λx13=>some (.rt x13) else some (.nx ())) λ_=>BV (((some EB).bind λx17=>(some (2:Int)).bind λx18=>some (decide (x17=x18))).bind λx39=>if x39=true then (((((some Aw).bind λx20=>(some (1:Int)).bind λx21=>some (x20 - x21)).bind QJ).bind λl28=>Dk l28 (λx22=>some true) (λx22=>(some x22).bind λx26=>((some x22).bind λx24=>(some (1:Int)).bind λx25=>some (x24+x25)).bind λx27=>some (x26,x27))).bind λx36=>((((some (0:Int)).bind λx32=>((some Aw).bind λx30=>(some (1:Int)).bind λx31=>some (x30 - x31)).bind λx33=>some (x32,x33)).bind λx34=>(some []).bind λl35=>some (x34 :: l35)).bind Gp).bind λx37=>KB x36 x37).bind λx38=>some (.rt x38) else some (.nx ())) λ_=>BV (((some EB).bind λx42=>(some (3:Int)).bind λx43=>some (decide (x42=x43))).bind λx48=>if x48=true then (((some Aw).bind λx44=>(some ()).bind λx45=>some (x44,x45)).bind λz46=>Fs z46.1).bind λx47=>some (.rt x47) else some (.nx ())) λ_=>BV (((some EB).bind λx51=>(some (4:Int)).bind λx52=>some (decide (x51=x52))).bind λx60=>if x60=true then (((some (1:Int)).bind λx53=>(some Aw).bind λx54=>U9 x53 x54).bind λl58=>Dk l58 (λx55=>some true) (λx55=>(some (0:Int)).bind λx56=>(some x55).bind λx57=>some (x56,x57))).bind λx59=>some (.rt x59) else some (.nx ())) λ_=>((some []).bind Gp).bind λx63=>some (.rt x63)
def Dc (Aw:Int) (EB:Int):Option (List (Int×Int)):=IL (Fm Aw EB)
theorem Md (W:Wd) (Aw:Int) (EB:Int):VF (GD W) [.v (D.int Aw),.v (D.int EB)] (rN (oL (eP D.int D.int))) (Dc Aw EB):=by
 refine GY (n:=2) (b:=GK W) (p:=Fm Aw EB) (B:=λ_=>[]) ?_;show VS [.v (D.int Aw),.v (D.int EB)] _ _ _ _;unfold GK Fm;exact (BK (Fh (B:=(λ(_:Unit)=>[.v (D.int Aw),.v (D.int EB)])) (Fi (Ma CQ Lu (AS rfl) (C1 rfl))) (EU (CA (CK (VI.k (Gh (NF (AS rfl) (C1 rfl)))) (λx6=>Ev) (λx6=>(K5 (AS rfl) (Hl (AS rfl) (C1 rfl))))))) (GV (.same (.same .nil)))) (λ_=>(BK (Fh (B:=(λ(_:Unit)=>[.v (D.int Aw),.v (D.int EB)])) (Fi (Ma CQ Lu (AS rfl) (C1 rfl))) (EU (WQ (G4 (CA (CK (VI.k (Gh (NF (AS rfl) (C1 rfl)))) (λx22=>Ev) (λx22=>(K5 (AS rfl) (Hl (AS rfl) (C1 rfl))))))) (G4 (CA (Ei (Gv (K5 (C1 rfl) (NF (AS rfl) (C1 rfl))) Dp)))))) (GV (.same (.same .nil)))) (λ_=>(BK (Fh (B:=(λ(_:Unit)=>[.v (D.int Aw),.v (D.int EB)])) (Fi (Ma CQ Lu (AS rfl) (C1 rfl))) (EU (Bu (Cj (AS rfl) CS) (λz46=>Mc W z46.1) (λ_=>rfl) IW)) (GV (.same (.same .nil)))) (λ_=>(BK (Fh (B:=(λ(_:Unit)=>[.v (D.int Aw),.v (D.int EB)])) (Fi (Ma CQ Lu (AS rfl) (C1 rfl))) (EU (CA (CK (VI.k (K0 (C1 rfl) (AS rfl))) (λx55=>Ev) (λx55=>(K5 (C1 rfl) (AS rfl)))))) (GV (.same (.same .nil)))) (λ_=>(EU (CA (Ei Dp)))))))))))
def IY (A1:(List Int)) (G1:Int) (Aw:Int):Option (Fw (List (Int×Int)) Unit):=
 BV ((((some Aw).bind λx2=>(some ()).bind λx3=>some (x2,x3)).bind λz4=>Fs z4.1).bind λx5=>some (.nx x5)) λv1=>BV ((some []).bind λx7=>some (.nx x7)) λv6=>BV ((((some Aw).bind λx15=>((((((some A1).bind λx8=>((some (0:Int)).bind λx9=>(some ()).bind λx10=>some (x9,x10)).bind λx11=>some (x8,x11)).bind λz12=>Be z12.1 z12.2.1).bind λx13=>some (x13 / 7)).bind λx14=>some (x14 % 6)).bind λx16=>(some ()).bind λx17=>some (x16,x17)).bind λx18=>some (x15,x18)).bind λz19=>Dc z19.1 z19.2.1).bind λl26=>Fe l26 v6 λ(s20:(List ((Int×Int)×Bool))) x21=>Hu (λv22=>v22) ((some true).bind λx23=>(some x21).bind λx24=>(Kd s20 x24 x23).bind λl25=>some (.nx l25))) λs27=>BV (((some G1).bind λx32=>(((some A1).bind λx29=>some (x29.length:Int)).bind λx30=>(some (63:Int)).bind λx31=>some (if x31 < x30 then x31 else x30)).bind λx33=>U9 x32 x33).bind λl55=>Fe l55 s27 λ(s34:(List ((Int×Int)×Bool))) x35=>BV (((some v1).bind λl42=>(((some A1).bind λl37=>(some x35).bind λx38=>atI l37 x38).bind λx40=>((some v1).bind λx39=>some (x39.length:Int)).bind λx41=>VY x40 x41).bind λx43=>atI l42 x43).bind λx44=>some (.nx x44)) λv36=>Hu (λv51=>v51) ((((some v36).bind λx45=>(some s34).bind λx46=>some (!(A7 x46 x45).isSome)).bind λx50=>if x50=true then some true else ((some s34).bind λl47=>(some v36).bind λx48=>A7 l47 x48).bind λx49=>some (!x49)).bind λx52=>(some v36).bind λx53=>(Kd s34 x53 x52).bind λl54=>some (.nx l54))) λs56=>((some v1).bind λl64=>Dk l64 (λx58=>((some x58).bind λx59=>(some s56).bind λx60=>some ((A7 x60 x59).isSome)).bind λx63=>if x63=true then (some s56).bind λl61=>(some x58).bind λx62=>A7 l61 x62 else some false) (λx58=>some x58)).bind λx65=>some (.rt x65)
def G6 (A1:(List Int)) (G1:Int) (Aw:Int):Option (List (Int×Int)):=IL (IY A1 G1 Aw)
theorem S6 (W:Wd) (A1:(List Int)) (G1:Int) (Aw:Int):VF (Kk W) [.v (eF A1),.v (D.int G1),.v (D.int Aw)] (rN (oL (eP D.int D.int))) (G6 A1 G1 Aw):=by
 refine GY (n:=7) (b:=Kt W) (p:=IY A1 G1 Aw) (B:=λ_=>[]) ?_;show VS [.v (eF A1),.v (D.int G1),.v (D.int Aw),.u,.u,.u,.u] _ _ _ _;unfold Kt IY;exact (BK (Et (Bu (Cj (AS rfl) CS) (λz4=>Mc W z4.1) (λ_=>rfl) IW)) (λv1=>(BK (JZ ZH) (λv6=>(BK (Gg (s0:=v6) (B:=(λ(s28:(List ((Int×Int)×Bool)))=>[.v (eF A1),.v (D.int G1),.v (D.int Aw),.y ((oL (eP D.int D.int)) v1),.w 4 ((oDP D.bl) s28),.u,.u])) (Y5 (Bu (Cj (AS rfl) (Cj (Oa rfl (O5 rfl (Bu (Cj (AS rfl) (Cj (C1 rfl) CS)) (λz12=>Ej W z12.1 z12.2.1) (λ_=>rfl) G5))) CS)) (λz19=>Md W z19.1 z19.2.1) (λ_=>rfl) IW)) FE (.same (.same (.same (.same (.same (.same (.same .nil))))))) (λs20 x21=>(Eh (Sq rfl (AS rfl) (C1 rfl) rfl) (λv22=>(.same (.same (.same (.same (.same (.drop (.same .nil))))))))))) (λs27=>(BK (Gg (s0:=s27) (B:=(λ(s57:(List ((Int×Int)×Bool)))=>[.v (eF A1),.v (D.int G1),.v (D.int Aw),.y ((oL (eP D.int D.int)) v1),.w 4 ((oDP D.bl) s57),.u,.u])) (K0 (AS rfl) (WO (WP (AS rfl)) (C1 rfl))) FE (.same (.same (.same (.same (.same (.same (.same .nil))))))) (λs34 x35=>(BK (Il (O3 (D5 rfl) (Ur (ZC (AS rfl) (AS rfl)) (RN (D5 rfl))))) (λv36=>(Eh (Sq rfl (AS rfl) (gP (ZF (AS rfl) (HX rfl)) (WN (Sv (HX rfl) (AS rfl)))) rfl) (λv51=>(.same (.same (.same (.same (.same (.drop (.drop .nil))))))))))))) (λs56=>(EU (CA (CK (VI.k (HW rfl)) (λx58=>(Uu (Fi (cO (AS rfl) (HX rfl))) (RQ (Sv (HX rfl) (AS rfl))))) (λx58=>(AS rfl)))))))))))))
def Gy (A1:(List Int)) (BZ:(List (Int×Int))):Option (Fw (List (Int×Int)) Unit):=
 BV (((((((some A1).bind λx3=>((some (0:Int)).bind λx4=>(some ()).bind λx5=>some (x4,x5)).bind λx6=>some (x3,x6)).bind λz7=>Be z7.1 z7.2.1).bind λx8=>some (x8 / 42)).bind λx9=>some (x9 % 2)).bind λx1=>(some (0:Int)).bind λx2=>some (decide (x1=x2))).bind λx11=>if x11=true then (some BZ).bind λx10=>some (.rt x10) else some (.nx ())) λ_=>(((some BZ).bind λx14=>some x14.reverse).bind λl20=>Dk l20 (λx15=>some true) (λx15=>((some x15).bind λx16=>some x16.2).bind λx18=>((some x15).bind λx17=>some x17.1).bind λx19=>some (x18,x19))).bind λx21=>some (.rt x21)
def Gz (A1:(List Int)) (BZ:(List (Int×Int))):Option (List (Int×Int)):=IL (Gy A1 BZ)
theorem QF (W:Wd) (A1:(List Int)) (BZ:(List (Int×Int))):VF (Ip W) [.v (eF A1),.z ((oL (eP D.int D.int)) BZ)] (rN (oL (eP D.int D.int))) (Gz A1 BZ):=by
 refine GY (n:=2) (b:=Iq W) (p:=Gy A1 BZ) (B:=λ_=>[]) ?_;show VS [.v (eF A1),.z ((oL (eP D.int D.int)) BZ)] _ _ _ _;unfold Iq Gy;exact (BK (Fh (B:=(λ(_:Unit)=>[.v (eF A1),.z ((oL (eP D.int D.int)) BZ)])) (Fi (Ma CQ Lu (Oa rfl (O5 rfl (Bu (Cj (AS rfl) (Cj (C1 rfl) CS)) (λz7=>Ej W z7.1 z7.2.1) (λ_=>rfl) G5))) (C1 rfl))) (EU (CA (WM (MZ (Cf rfl))))) (GV (.same (.same .nil)))) (λ_=>(EU (CA (CK (gF (Cf rfl)) (λx15=>Ev) (λx15=>(K5 (Y9 (AS rfl)) (ZE (AS rfl)))))))))
def IZ (BZ:(List (Int×Int))) (BO:Int):Option (Fw (List Int) Unit):=
 BV (((some []).bind Gp).bind λx2=>some (.nx x2)) λv1=>BV ((some BZ).bind λl19=>Fe l19 v1 λ(s3:(List Int)) x4=>Hu (λs17=>s17) (((some BO).bind λx5=>(some x4).bind λx6=>some (decide (x5∈[x6.1,x6.2]))).bind λx16=>if x16=true then Hu (λv7=>v7) (((((some x4).bind λx10=>some x10.1).bind λx12=>((some x4).bind λx11=>some x11.2).bind λx13=>some (x12+x13)).bind λx14=>(some BO).bind λx15=>some (x14 - x15)).bind λx8=>(Yb s3 x8).bind λl9=>some (.nx l9)) else some (.nx s3))) λs20=>((some s20).bind λx22=>some (Db x22)).bind λx23=>some (.rt x23)
def G8 (BZ:(List (Int×Int))) (BO:Int):Option (List Int):=IL (IZ BZ BO)
theorem N1 (W:Wd) (BZ:(List (Int×Int))) (BO:Int):VF (Ib W) [.z ((oL (eP D.int D.int)) BZ),.v (D.int BO)] (rN (oL D.int)) (G8 BZ BO):=by
 refine GY (n:=4) (b:=Kv W) (p:=IZ BZ BO) (B:=λ_=>[]) ?_;show VS [.z ((oL (eP D.int D.int)) BZ),.v (D.int BO),.u,.u] _ _ _ _;unfold Kv IZ;exact (BK (JZ (CA (Ei Dp))) (λv1=>(BK (Gg (s0:=v1) (B:=(λ(s21:(List Int))=>[.z ((oL (eP D.int D.int)) BZ),.v (D.int BO),.w 2 ((oL D.int) s21),.u])) (gK rfl) FE (.same (.same (.same (.same .nil)))) (λs3 x4=>(Eh (Fh (B:=(λ(s18:(List Int))=>[.z ((oL (eP D.int D.int)) BZ),.v (D.int BO),.w 2 ((oL D.int) s18),.v ((eP D.int D.int) x4)])) (Fi (gZ CQ (AS rfl) (AS rfl))) (Eh (Y3 rfl (NF (Hl (ZE (AS rfl)) (Y9 (AS rfl))) (AS rfl)) rfl) (λv7=>(.same (.same (.same (.same .nil)))))) (GV (.same (.same (.same (.same .nil)))))) (λs17=>(.same (.same (.same (.drop .nil)))))))) (λs20=>(EU (Y8 (HX rfl)))))))
def Kc (Aw:Int) (EG:Int):Option (Fw (List (List Int)) Unit):=
 BV (((((some []).bind Gp).bind λx2=>(some []).bind λl3=>some (x2 :: l3)).bind Gp).bind λx4=>some (.nx x4)) λv1=>BV (((some EG).bind QJ).bind λl48=>Fe l48 v1 λ(s5:(List (List Int))) x6=>BV (((some []).bind Gp).bind λx8=>some (.nx x8)) λv7=>BV ((some s5).bind λl44=>Fe l44 v7 λ(s9:(List (List Int))) x10=>BV ((some (0:Int)).bind λx12=>some (.nx x12)) λv11=>BV (((some x10).bind λx13=>((some []).bind Gp).bind λx14=>some (!decide (x13=x14))).bind λx23=>if x23=true then Hu (λv15=>v15) ((((some x10).bind λl17=>((some (1:Int)).bind λx16=>some (-x16)).bind λx18=>atI l17 x18).bind λx20=>(some (1:Int)).bind λx21=>some (x20+x21)).bind λx22=>some (.nx x22)) else some (.nx v11)) λs24=>Hu (λv26=>v26) ((((some s24).bind λx36=>((((some Aw).bind λx29=>(some EG).bind λx30=>some (x29 - x30)).bind λx31=>(some x6).bind λx32=>some (x31+x32)).bind λx34=>(some (1:Int)).bind λx35=>some (x34+x35)).bind λx37=>U9 x36 x37).bind λl43=>Dk l43 (λx38=>some true) (λx38=>(some x10).bind λx41=>(((some x38).bind λx39=>(some []).bind λl40=>some (x39 :: l40)).bind Gp).bind λx42=>KB x41 x42)).bind λx27=>(KB s9 x27).bind λl28=>some (.nx l28))) λs45=>Hu (λ_=>s45) (some (.nx ()))) λs49=>some (.rt s49)
def G7 (Aw:Int) (EG:Int):Option (List (List Int)):=IL (Kc Aw EG)
theorem S7 (W:Wd) (Aw:Int) (EG:Int):VF (Kl W) [.v (D.int Aw),.v (D.int EG)] (rN (oL (eT D.int))) (G7 Aw EG):=by
 refine GY (n:=7) (b:=Ku W) (p:=Kc Aw EG) (B:=λ_=>[]) ?_;show VS [.v (D.int Aw),.v (D.int EG),.u,.u,.u,.u,.u] _ _ _ _;unfold Ku Kc;exact (BK (Et (CA (Ei (Gv (Ja Dp) Dp)))) (λv1=>(BK (Gg (s0:=v1) (B:=(λ(s50:(List (List Int)))=>[.v (D.int Aw),.v (D.int EG),.y ((oL (eT D.int)) s50),.u,.u,.u,.u])) (Gh (AS rfl)) FE (.same (.same (.same (.same (.same (.same (.same .nil))))))) (λs5 x6=>(BK (JZ (CA (Ei Dp))) (λv7=>(BK (Gg (s0:=v7) (B:=(λ(s46:(List (List Int)))=>[.v (D.int Aw),.v (D.int EG),.y ((oL (eT D.int)) s5),.v (D.int x6),.w 4 ((oL (eT D.int)) s46),.u,.u])) (HW rfl) FE (.same (.same (.same (.same (.same (.same (.same .nil))))))) (λs9 x10=>(BK (Il (C1 rfl)) (λv11=>(BK (Fh (B:=(λ(s25:Int)=>[.v (D.int Aw),.v (D.int EG),.y ((oL (eT D.int)) s5),.v (D.int x6),.w 4 ((oL (eT D.int)) s9),.v ((eT D.int) x10),.v (D.int s25)])) (Fi (kH (Oj CQ) ik (AS rfl) (Ja Dp))) (Eh (Il (Hl (Us (AS rfl) (gR (C1 rfl))) (C1 rfl))) (λv15=>(.same (.same (.same (.same (.same (.same (.same .nil))))))))) (GV (.same (.same (.same (.same (.same (.same (.same .nil))))))))) (λs24=>(Eh (Ul rfl (CA (CK (VI.k (K0 (AS rfl) (Hl (Hl (NF (AS rfl) (AS rfl)) (AS rfl)) (C1 rfl)))) (λx38=>Ev) (λx38=>(K6 (AS rfl) (Ja (Gv (AS rfl) Dp)))))) rfl) (λv26=>(.same (.same (.same (.same (.same (.drop (.drop .nil))))))))))))))) (λs45=>(Eh (Uk 4 rfl rfl (NE rfl)) (λ_=>(.same (.same (.same (.drop (.drop (.same (.same .nil))))))))))))))) (λs49=>(WK rfl)))))
end M
namespace M
open PySem L2 L4
def FF (G0:(List Int)):Option (Fw Bool Unit):=
 BV ((((some G0).bind λx1=>some true).bind λx2=>some (!x2)).bind λx4=>if x4=true then (some false).bind λx3=>some (.rt x3) else some (.nx ())) λ_=>(((some G0).bind λl12=>Dk l12 (λx7=>some true) (λx7=>((some x7).bind λx8=>some true).bind λx11=>if x11=true then ((some x7).bind λx9=>some false).bind λx10=>some (!x10) else some false)).bind λx13=>some (x13.all id)).bind λx14=>some (.rt x14)
def FH (G0:(List Int)):Option Bool:=IL (FF G0)
theorem OG (W:Wd) (G0:(List Int)):VF (HK W) [.v ((eT D.int) G0)] (rV D.bl) (FH G0):=by
 refine GY (n:=1) (b:=HM W) (p:=FF G0) (B:=λ_=>[]) ?_;show VS [.v ((eT D.int) G0)] _ _ _ _;unfold HM FF;exact (BK (Fh (B:=(λ(_:Unit)=>[.v ((eT D.int) G0)])) (KY (Fi (ZD (T:="tuple") (AS rfl) (λ_ _=>rfl) (by decide +kernel)))) (FL (C1 rfl)) (GV (.same .nil))) (λ_=>(FL (Ut (MZ (G4 (CA (CK (VI.k (KW (AS rfl))) (λx7=>Ev) (λx7=>(cR (ZD (T:="int") (AS rfl) (λ_ _=>rfl) (by decide +kernel)) (WN (ZD (T:="int") (AS rfl) (λ_ _=>rfl) (by decide +kernel)))))))))))))
def Fo (BZ:(List (Int×Int))) (AT:(List Int)) (A2:Int) (Dg:Str):Option (Fw (List (List Int)) Unit):=
 BV (((some Dg).bind λx1=>(some ("one" : Str)).bind λx2=>some (decide (x1=x2))).bind λx37=>if x37=true then BV (((((some AT).bind λx4=>some (x4.length:Int)).bind QJ).bind λl15=>Dk l15 (λx5=>(some A2).bind λx6=>(((some BZ).bind λx10=>(((some AT).bind λl8=>(some x5).bind λx9=>atI l8 x9).bind λx11=>(some ()).bind λx12=>some (x11,x12)).bind λx13=>some (x10,x13)).bind λz14=>G8 z14.1 z14.2.1).bind λx7=>some (decide (x6∈x7))) (λx5=>some x5)).bind λx16=>some (.nx x16)) λv3=>(((some v3).bind λl35=>Dk l35 (λx17=>some true) (λx17=>(((some AT).bind λl19=>(some none).bind λx20=>((some x17).bind λx18=>some (some x18)).bind λx21=>some (L6 l19 x20 x21)).bind λx24=>(((some A2).bind λx22=>(some []).bind λl23=>some (x22 :: l23)).bind Gp).bind λx25=>KB x24 x25).bind λx33=>((some AT).bind λl30=>(((some x17).bind λx27=>(some (1:Int)).bind λx28=>some (x27+x28)).bind λx29=>some (some x29)).bind λx31=>(some none).bind λx32=>some (L6 l30 x31 x32)).bind λx34=>KB x33 x34)).bind Lj).bind λx36=>some (.rt x36) else some (.nx ())) λ_=>BV (((((some []).bind Gp).bind λx41=>(some []).bind λl42=>some (x41 :: l42)).bind Gp).bind λx43=>some (.nx x43)) λv40=>BV ((some AT).bind λl76=>Fe l76 v40 λ(s44:(List (List Int))) x45=>BV (((((some x45).bind λx47=>(some []).bind λl48=>some (x47 :: l48)).bind Gp).bind λx54=>(((some BZ).bind λx49=>((some x45).bind λx50=>(some ()).bind λx51=>some (x50,x51)).bind λx52=>some (x49,x52)).bind λz53=>G8 z53.1 z53.2.1).bind λx55=>KB x54 x55).bind λx56=>some (.nx x56)) λv46=>BV (((some []).bind Gp).bind λx58=>some (.nx x58)) λv57=>BV ((some s44).bind λl72=>Fe l72 v57 λ(s59:(List (List Int))) x60=>Hu (λv61=>v61) (((some v46).bind λl71=>Dk l71 (λx64=>(some x64).bind λx65=>(some x60).bind λx66=>some (!decide (x65∈x66))) (λx64=>(some x60).bind λx69=>(((some x64).bind λx67=>(some []).bind λl68=>some (x67 :: l68)).bind Gp).bind λx70=>KB x69 x70)).bind λx62=>(KB s59 x62).bind λl63=>some (.nx l63))) λs73=>Hu (λ_=>s73) (some (.nx ()))) λs77=>(((some s77).bind λl82=>Dk l82 (λx79=>(some A2).bind λx80=>(some x79).bind λx81=>some (decide (x80∈x81))) (λx79=>some x79)).bind Lj).bind λx83=>some (.rt x83)
def Ft (BZ:(List (Int×Int))) (AT:(List Int)) (A2:Int) (Dg:Str):Option (List (List Int)):=IL (Fo BZ AT A2 Dg)
theorem O9 (W:Wd) (BZ:(List (Int×Int))) (AT:(List Int)) (A2:Int) (Dg:Str):VF (Hz W) [.z ((oL (eP D.int D.int)) BZ),.v ((eT D.int) AT),.v (D.int A2),.v (D.str Dg)] (rN (oL (eT D.int))) (Ft BZ AT A2 Dg):=by
 refine GY (n:=10) (b:=IE W) (p:=Fo BZ AT A2 Dg) (B:=λ_=>[]) ?_;show VS [.z ((oL (eP D.int D.int)) BZ),.v ((eT D.int) AT),.v (D.int A2),.v (D.str Dg),.u,.u,.u,.u,.u,.u] _ _ _ _;unfold IE Fo;exact (BK (Fh (B:=(λ(_:Unit)=>[.z ((oL (eP D.int D.int)) BZ),.v ((eT D.int) AT),.v (D.int A2),.v (D.str Dg),.u,.u,.u,.u,.u,.u])) (Fi (Ma W5 aA (AS rfl) (C1 rfl))) (BK (Et (CA (CK (VI.k (Gh (cM (AS rfl)))) (λx5=>(Fi (gb CQ (AS rfl) (G4 (Bu (J7 (Cf rfl) (Cj (Us (AS rfl) (AS rfl)) CS)) (λz14=>N1 W z14.1 z14.2.1) (λ_=>rfl) IW))))) (λx5=>(AS rfl))))) (λv3=>(EU (O0 (G4 (CA (CK (VI.k (HW rfl)) (λx17=>Ev) (λx17=>(K6 (K6 (RP (AS rfl) RK (RJ (AS rfl))) (Ja (Gv (AS rfl) Dp))) (RP (AS rfl) (RJ (Hl (AS rfl) (C1 rfl))) RK)))))))))) (GV (.same (.same (.same (.same (.same (.same (.same (.same (.same (.same .nil)))))))))))) (λ_=>(BK (Et (CA (Ei (Gv (Ja Dp) Dp)))) (λv40=>(BK (Gg (s0:=v40) (B:=(λ(s78:(List (List Int)))=>[.z ((oL (eP D.int D.int)) BZ),.v ((eT D.int) AT),.v (D.int A2),.v (D.str Dg),.u,.y ((oL (eT D.int)) s78),.u,.u,.u,.u])) (KW (AS rfl)) FE (.same (.same (.same (.same (.same (.same (.same (.same (.same (.same .nil)))))))))) (λs44 x45=>(BK (Et (WQ (G4 (CA (Ei (Gv (AS rfl) Dp)))) (G4 (Bu (J7 (Cf rfl) (Cj (AS rfl) CS)) (λz53=>N1 W z53.1 z53.2.1) (λ_=>rfl) IW)))) (λv46=>(BK (JZ (CA (Ei Dp))) (λv57=>(BK (Gg (s0:=v57) (B:=(λ(s74:(List (List Int)))=>[.z ((oL (eP D.int D.int)) BZ),.v ((eT D.int) AT),.v (D.int A2),.v (D.str Dg),.u,.y ((oL (eT D.int)) s44),.v (D.int x45),.y ((oL D.int) v46),.w 8 ((oL (eT D.int)) s74),.u])) (HW rfl) FE (.same (.same (.same (.same (.same (.same (.same (.same (.same (.same .nil)))))))))) (λs59 x60=>(Eh (Ul rfl (CA (CK (VI.k (HW rfl)) (λx64=>(Fi (RM CQ (AS rfl) (AS rfl)))) (λx64=>(K6 (AS rfl) (Ja (Gv (AS rfl) Dp)))))) rfl) (λv61=>(.same (.same (.same (.same (.same (.same (.same (.same (.same (.drop .nil)))))))))))))) (λs73=>(Eh (Uk 8 rfl rfl (NE rfl)) (λ_=>(.same (.same (.same (.same (.same (.same (.drop (.drop (.drop (.same .nil)))))))))))))))))))) (λs77=>(EU (O0 (G4 (CA (CK (VI.k (HW rfl)) (λx79=>(Fi (O4 CQ (AS rfl) (AS rfl)))) (λx79=>(AS rfl)))))))))))))
def EV (BJ:(Nat×List (Int×Int))) (BO:Int):Option (Fw Unit Unit):=
 (((some (0:Int)).bind λx2=>(some BO).bind λx3=>if decide (x2<=x3)=true then ((some BJ).bind λx1=>some (x1.1:Int)).bind λx4=>some (decide (x3 < x4)) else some false).bind λx5=>some (!x5)).bind λx6=>if x6=true then none else some (.nx ())
def Fp (BJ:(Nat×List (Int×Int))) (BO:Int):Option Unit:=Z1 (EV BJ BO)
theorem Mb (W:Wd) (BJ:(Nat×List (Int×Int))) (BO:Int):VF (F0 W) [.z ((EX W) BJ),.v (D.int BO)] (rV eU) (Fp BJ BO):=by
 refine Y7 (n:=2) (b:=GH W) (p:=EV BJ BO) (B:=λ_=>[.z ((EX W) BJ),.v (D.int BO)]) ?_;show VS [.z ((EX W) BJ),.v (D.int BO)] _ _ _ _;unfold GH EV;exact (Fh (B:=(λ(_:Unit)=>[.z ((EX W) BJ),.v (D.int BO)])) (KY (Fi (Sw fU fS (C1 rfl) (AS rfl) (NG (Cf rfl))))) Y2 (GV (.same (.same .nil))))
def Rc (BJ:(Nat×List (Int×Int))) (BO:Int):Option (Fw (List Int) Unit):=
 BV ((((some BJ).bind λx1=>((some BO).bind λx2=>(some ()).bind λx3=>some (x2,x3)).bind λx4=>some (x1,x4)).bind λz5=>Fp z5.1 z5.2.1).bind λ_=>some (.nx ())) λ_=>(((some BJ).bind λx6=>some (NX x6.1 x6.2)).bind λl7=>(some BO).bind λx8=>atI l7 x8).bind λx9=>some (.rt x9)
def PR (BJ:(Nat×List (Int×Int))) (BO:Int):Option (List Int):=IL (Rc BJ BO)
theorem ZK (W:Wd) (BJ:(Nat×List (Int×Int))) (BO:Int):VF (SD W) [.z ((EX W) BJ),.v (D.int BO)] (rV (eT D.int)) (PR BJ BO):=by
 refine GY (n:=2) (b:=Vz W) (p:=Rc BJ BO) (B:=λ_=>[]) ?_;show VS [.z ((EX W) BJ),.v (D.int BO)] _ _ _ _;unfold Vz Rc;exact (BK (WL (Bu (J7 (Cf rfl) (Cj (AS rfl) CS)) (λz5=>Mb W z5.1 z5.2.1) (λ_=>rfl) G5)) (λ_=>(FL (Us (cL (Cf rfl)) (AS rfl)))))
def Jc (BJ:(Nat×List (Int×Int))):Option (Fw (List (List Int)) Unit):=
 ((((some BJ).bind λx1=>some (x1.1:Int)).bind QJ).bind λl13=>Dk l13 (λx2=>some true) (λx2=>((((some x2).bind λx3=>(some []).bind λl4=>some (x3 :: l4)).bind Gp).bind λx10=>(((some BJ).bind λx5=>((some x2).bind λx6=>(some ()).bind λx7=>some (x6,x7)).bind λx8=>some (x5,x8)).bind λz9=>PR z9.1 z9.2.1).bind λx11=>KB x10 x11).bind λx12=>some (Db x12))).bind λx14=>some (.rt x14)
def Jf (BJ:(Nat×List (Int×Int))):Option (List (List Int)):=IL (Jc BJ)
theorem Uv (W:Wd) (BJ:(Nat×List (Int×Int))):VF (Lz W) [.z ((EX W) BJ)] (rN (oL (eT D.int))) (Jf BJ):=by
 refine GY (n:=1) (b:=L8 W) (p:=Jc BJ) (B:=λ_=>[]) ?_;show VS [.z ((EX W) BJ)] _ _ _ _;unfold L8 Jc;exact (EU (CA (CK (VI.k (Gh (NG (Cf rfl)))) (λx2=>Ev) (λx2=>(Qe (G4 (Xa (K6 (Ja (Gv (AS rfl) Dp)) (Bu (J7 (Cf rfl) (Cj (AS rfl) CS)) (λz9=>ZK W z9.1 z9.2.1) (λ_=>rfl) G5)))))))))
def LA (Ju:(List Int)):Option (Fw Int Unit):=
 BV ((some (0:Int)).bind λx2=>some (.nx x2)) λv1=>BV ((some Ju).bind λl9=>Fe l9 v1 λ(s3:Int) x4=>Hu (λv7=>v7) (((some (1:Int)).bind λx5=>(some x4).bind λx6=>ZZ x5 x6).bind λx8=>some (.nx (LY s3 x8)))) λs10=>(some s10).bind λx12=>some (.rt x12)
def LC (Ju:(List Int)):Option Int:=IL (LA Ju)
theorem Xc (W:Wd) (Ju:(List Int)):VF (Nm W) [.v ((eT D.int) Ju)] (rV D.int) (LC Ju):=by
 refine GY (n:=3) (b:=Np W) (p:=LA Ju) (B:=λ_=>[]) ?_;show VS [.v ((eT D.int) Ju),.u,.u] _ _ _ _;unfold Np LA;exact (BK (Il (C1 rfl)) (λv1=>(BK (Gg (s0:=v1) (B:=(λ(s11:Int)=>[.v ((eT D.int) Ju),.v (D.int s11),.u])) (KW (AS rfl)) FE (.same (.same (.same .nil))) (λs3 x4=>(Eh (gD rfl (ZA (C1 rfl) (AS rfl))) (λv7=>(.same (.same (.drop .nil))))))) (λs10=>(FL (AS rfl))))))
def K9 (GM:(List (List Int))) (Ir:(List Int)) (Is:(List Int)) (A2:Int):Option (Fw Bool Unit):=
 BV ((((some A2).bind λx1=>(some Ir).bind λx2=>some (!decide (x1∈x2))).bind λx11=>if x11=true then (((some Is).bind λl8=>Dk l8 (λx3=>some true) (λx3=>(some A2).bind λx4=>((some GM).bind λl6=>(some x3).bind λx7=>atI l6 x7).bind λx5=>some (decide (x4∈x5)))).bind λx9=>some (x9.any id)).bind λx10=>some (!x10) else some false).bind λx13=>if x13=true then (some false).bind λx12=>some (.rt x12) else some (.nx ())) λ_=>BV ((((some (1:Int)).bind λx18=>((some GM).bind λx17=>some (x17.length:Int)).bind λx19=>ZZ x18 x19).bind λx21=>(some (1:Int)).bind λx22=>some (x21 - x22)).bind λx23=>some (.nx x23)) λv16=>(((some GM).bind λx29=>((some Is).bind λx30=>(((some v16).bind λx27=>(((some Ir).bind λx24=>(some ()).bind λx25=>some (x24,x25)).bind λz26=>LC z26.1).bind λx28=>some (DN x27 x28)).bind λx31=>(some ()).bind λx32=>some (x31,x32)).bind λx33=>some (x30,x33)).bind λx34=>some (x29,x34)).bind λz35=>Rf z35.1 z35.2.1 z35.2.2.1).bind λx36=>some (.rt x36)
def LB (GM:(List (List Int))) (Ir:(List Int)) (Is:(List Int)) (A2:Int):Option Bool:=IL (K9 GM Ir Is A2)
theorem Xb (W:Wd) (GM:(List (List Int))) (Ir:(List Int)) (Is:(List Int)) (A2:Int):VF (Nl W) [.z ((oL (eT D.int)) GM),.v ((eT D.int) Ir),.v ((eT D.int) Is),.v (D.int A2)] (rV D.bl) (LB GM Ir Is A2):=by
 refine GY (n:=5) (b:=No W) (p:=K9 GM Ir Is A2) (B:=λ_=>[]) ?_;show VS [.z ((oL (eT D.int)) GM),.v ((eT D.int) Ir),.v ((eT D.int) Is),.v (D.int A2),.u] _ _ _ _;unfold No K9;exact (BK (Fh (B:=(λ(_:Unit)=>[.z ((oL (eT D.int)) GM),.v ((eT D.int) Ir),.v ((eT D.int) Is),.v (D.int A2),.u])) (Uu (Fi (RM CQ (AS rfl) (AS rfl))) (KY (Fi (ge (MZ (G4 (CA (CK (VI.k (KW (AS rfl))) (λx3=>Ev) (λx3=>(O4 CQ (AS rfl) (O3 (Cf rfl) (AS rfl)))))))))))) (FL (C1 rfl)) (GV (.same (.same (.same (.same (.same .nil))))))) (λ_=>(BK (Il (NF (ZA (C1 rfl) (RN (Cf rfl))) (C1 rfl))) (λv16=>(FL (Bu (J7 (Cf rfl) (Cj (AS rfl) (Cj (cP (AS rfl) (Bu (Cj (AS rfl) CS) (λz26=>Xc W z26.1) (λ_=>rfl) G5)) CS))) (λz35=>gf W z35.1 z35.2.1 z35.2.2.1) (λ_=>rfl) G5))))))
def Ez (BJ:(Nat×List (Int×Int))) (AT:(List Int)) (A2:Int):Option (Fw (List (List Int)) Unit):=
 BV ((((some BJ).bind λx2=>(some ()).bind λx3=>some (x2,x3)).bind λz4=>Jf z4.1).bind λx5=>some (.nx x5)) λv1=>BV (((((some []).bind Gp).bind λx7=>(some []).bind λl8=>some (x7 :: l8)).bind Gp).bind λx9=>some (.nx x9)) λv6=>BV (((some AT).bind λx10=>some (Ko x10)).bind λl53=>Fe l53 v6 λ(s11:(List (List Int))) x12=>BV (((some AT).bind λl15=>((some x12.1).bind λx14=>some (some x14)).bind λx16=>(some none).bind λx17=>some (L6 l15 x16 x17)).bind λx18=>some (.nx x18)) λv13=>BV (((some []).bind Gp).bind λx20=>some (.nx x20)) λv19=>BV ((some s11).bind λl49=>Fe l49 v19 λ(s21:(List (List Int))) x22=>BV ((((some v1).bind λl24=>(some x12.2).bind λx25=>atI l24 x25).bind λl33=>Dk l33 (λx26=>(some x26).bind λx27=>(some x22).bind λx28=>some (!decide (x27∈x28))) (λx26=>(some x22).bind λx31=>(((some x26).bind λx29=>(some []).bind λl30=>some (x29 :: l30)).bind Gp).bind λx32=>KB x31 x32)).bind λx34=>some (.nx x34)) λv23=>Hu (λv35=>v35) (((some v23).bind λl48=>Dk l48 (λx38=>((some v1).bind λx39=>((some x38).bind λx40=>((some v13).bind λx41=>((some A2).bind λx42=>(some ()).bind λx43=>some (x42,x43)).bind λx44=>some (x41,x44)).bind λx45=>some (x40,x45)).bind λx46=>some (x39,x46)).bind λz47=>LB z47.1 z47.2.1 z47.2.2.1 z47.2.2.2.1) (λx38=>some x38)).bind λx36=>(KB s21 x36).bind λl37=>some (.nx l37))) λs50=>Hu (λ_=>s50) (some (.nx ()))) λs54=>some (.rt s54)
def Dv (BJ:(Nat×List (Int×Int))) (AT:(List Int)) (A2:Int):Option (List (List Int)):=IL (Ez BJ AT A2)
theorem NI (W:Wd) (BJ:(Nat×List (Int×Int))) (AT:(List Int)) (A2:Int):VF (Gq W) [.z ((EX W) BJ),.v ((eT D.int) AT),.v (D.int A2)] (rN (oL (eT D.int))) (Dv BJ AT A2):=by
 refine GY (n:=11) (b:=Gr W) (p:=Ez BJ AT A2) (B:=λ_=>[]) ?_;show VS [.z ((EX W) BJ),.v ((eT D.int) AT),.v (D.int A2),.u,.u,.u,.u,.u,.u,.u,.u] _ _ _ _;unfold Gr Ez;exact (BK (Et (Bu (J7 (Cf rfl) CS) (λz4=>Uv W z4.1) (λ_=>rfl) IW)) (λv1=>(BK (Et (CA (Ei (Gv (Ja Dp) Dp)))) (λv6=>(BK (Gg (s0:=v6) (B:=(λ(s55:(List (List Int)))=>[.z ((EX W) BJ),.v ((eT D.int) AT),.v (D.int A2),.y ((oL (eT D.int)) v1),.y ((oL (eT D.int)) s55),.u,.u,.u,.u,.u,.u])) (Y6 (AS rfl)) cD (.same (.same (.same (.same (.same (.same (.same (.same (.same (.same (.same .nil))))))))))) (λs11 x12=>(BK (Il (RP (AS rfl) (RJ (AS rfl)) RK)) (λv13=>(BK (JZ (CA (Ei Dp))) (λv19=>(BK (Gg (s0:=v19) (B:=(λ(s51:(List (List Int)))=>[.z ((EX W) BJ),.v ((eT D.int) AT),.v (D.int A2),.y ((oL (eT D.int)) v1),.y ((oL (eT D.int)) s11),.v (D.int x12.1),.v (D.int x12.2),.v ((eT D.int) v13),.w 8 ((oL (eT D.int)) s51),.u,.u])) (HW rfl) FE (.same (.same (.same (.same (.same (.same (.same (.same (.same (.same (.same .nil))))))))))) (λs21 x22=>(BK (Et (CA (CK (VI.k (KW (O3 (D5 rfl) (AS rfl)))) (λx26=>(Fi (RM CQ (AS rfl) (AS rfl)))) (λx26=>(K6 (AS rfl) (Ja (Gv (AS rfl) Dp))))))) (λv23=>(Eh (Ul rfl (CA (CK (VI.k (HW rfl)) (λx38=>(RQ (Bu (J7 (D5 rfl) (Cj (AS rfl) (Cj (AS rfl) (Cj (AS rfl) CS)))) (λz47=>Xb W z47.1 z47.2.1 z47.2.2.1 z47.2.2.2.1) (λ_=>rfl) G5))) (λx38=>(AS rfl)))) rfl) (λv35=>(.same (.same (.same (.same (.same (.same (.same (.same (.same (.drop (.drop .nil))))))))))))))))) (λs50=>(Eh (Uk 8 rfl rfl (NE rfl)) (λ_=>(.same (.same (.same (.same (.same (.drop (.drop (.drop (.drop (.same (.same .nil))))))))))))))))))))) (λs54=>(WK rfl)))))))
def IX (AT:(List Int)) (Ie:Int) (BO:Int):Option (Fw (List Int) Unit):=
 ((some AT).bind λl5=>Dk l5 (λx1=>some true) (λx1=>((some x1).bind λx2=>(some Ie).bind λx3=>some (decide (x2=x3))).bind λx4=>if x4=true then some BO else some x1)).bind λx6=>some (.rt x6)
def Ia (AT:(List Int)) (Ie:Int) (BO:Int):Option (List Int):=IL (IX AT Ie BO)
theorem Sz (W:Wd) (AT:(List Int)) (Ie:Int) (BO:Int):VF (Kj W) [.v ((eT D.int) AT),.v (D.int Ie),.v (D.int BO)] (rV (eT D.int)) (Ia AT Ie BO):=by
 refine GY (n:=3) (b:=Kr W) (p:=IX AT Ie BO) (B:=λ_=>[]) ?_;show VS [.v ((eT D.int) AT),.v (D.int Ie),.v (D.int BO)] _ _ _ _;unfold Kr IX;exact (FL (Qe (G4 (CA (CK (VI.k (KW (AS rfl))) (λx1=>Ev) (λx1=>(gW (Fi (Ma CQ Lu (AS rfl) (AS rfl))) (AS rfl) (AS rfl) G5)))))))
def Ey (BJ:(Nat×List (Int×Int))) (AT:(List Int)) (A2:Int):Option (Fw Unit Unit):=
 ((((some (0:Int)).bind λx2=>(some A2).bind λx3=>if decide (x2<=x3)=true then ((some BJ).bind λx1=>some (x1.1:Int)).bind λx4=>some (decide (x3 < x4)) else some false).bind λx5=>some (!x5)).bind λx8=>if x8=true then some true else (some A2).bind λx6=>(some AT).bind λx7=>some (decide (x6∈x7))).bind λx9=>if x9=true then none else some (.nx ())
def E0 (BJ:(Nat×List (Int×Int))) (AT:(List Int)) (A2:Int):Option Unit:=Z1 (Ey BJ AT A2)
theorem NH (W:Wd) (BJ:(Nat×List (Int×Int))) (AT:(List Int)) (A2:Int):VF (DH W) [.z ((EX W) BJ),.v ((eT D.int) AT),.v (D.int A2)] (rV eU) (E0 BJ AT A2):=by
 refine Y7 (n:=3) (b:=Dy W) (p:=Ey BJ AT A2) (B:=λ_=>[.z ((EX W) BJ),.v ((eT D.int) AT),.v (D.int A2)]) ?_;show VS [.z ((EX W) BJ),.v ((eT D.int) AT),.v (D.int A2)] _ _ _ _;unfold Dy Ey;exact (Fh (B:=(λ(_:Unit)=>[.z ((EX W) BJ),.v ((eT D.int) AT),.v (D.int A2)])) (ZJ (KY (Fi (Sw fU fS (C1 rfl) (AS rfl) (NG (Cf rfl))))) (Fi (O4 CQ (AS rfl) (AS rfl)))) Y2 (GV (.same (.same (.same .nil)))))
def JH (BJ:(Nat×List (Int×Int))) (AT:(List Int)) (A2:Int) (Dg:Str):Option (Fw (List (List Int)) Unit):=
 BV ((((some BJ).bind λx1=>((some AT).bind λx2=>((some A2).bind λx3=>(some ()).bind λx4=>some (x3,x4)).bind λx5=>some (x2,x5)).bind λx6=>some (x1,x6)).bind λz7=>E0 z7.1 z7.2.1 z7.2.2.1).bind λ_=>some (.nx ())) λ_=>BV (((some Dg).bind λx8=>(some ("one" : Str)).bind λx9=>some (decide (x8=x9))).bind λx31=>if x31=true then BV (((some AT).bind λl19=>Dk l19 (λx11=>(some x11).bind λx12=>(((some BJ).bind λx14=>((some A2).bind λx15=>(some ()).bind λx16=>some (x15,x16)).bind λx17=>some (x14,x17)).bind λz18=>PR z18.1 z18.2.1).bind λx13=>some (decide (x12∈x13))) (λx11=>some x11)).bind λx20=>some (.nx x20)) λv10=>(((some v10).bind λl29=>Dk l29 (λx21=>some true) (λx21=>((some AT).bind λx22=>((some x21).bind λx23=>((some A2).bind λx24=>(some ()).bind λx25=>some (x24,x25)).bind λx26=>some (x23,x26)).bind λx27=>some (x22,x27)).bind λz28=>Ia z28.1 z28.2.1 z28.2.2.1)).bind Lj).bind λx30=>some (.rt x30) else some (.nx ())) λ_=>(((some BJ).bind λx34=>((some AT).bind λx35=>((some A2).bind λx36=>(some ()).bind λx37=>some (x36,x37)).bind λx38=>some (x35,x38)).bind λx39=>some (x34,x39)).bind λz40=>Dv z40.1 z40.2.1 z40.2.2.1).bind λx41=>some (.rt x41)
def FU (BJ:(Nat×List (Int×Int))) (AT:(List Int)) (A2:Int) (Dg:Str):Option (List (List Int)):=IL (JH BJ AT A2 Dg)
theorem NJ (W:Wd) (BJ:(Nat×List (Int×Int))) (AT:(List Int)) (A2:Int) (Dg:Str):VF (EM W) [.z ((EX W) BJ),.v ((eT D.int) AT),.v (D.int A2),.v (D.str Dg)] (rN (oL (eT D.int))) (FU BJ AT A2 Dg):=by
 refine GY (n:=5) (b:=JP W) (p:=JH BJ AT A2 Dg) (B:=λ_=>[]) ?_;show VS [.z ((EX W) BJ),.v ((eT D.int) AT),.v (D.int A2),.v (D.str Dg),.u] _ _ _ _;unfold JP JH;exact (BK (WL (Bu (J7 (Cf rfl) (Cj (AS rfl) (Cj (AS rfl) CS))) (λz7=>NH W z7.1 z7.2.1 z7.2.2.1) (λ_=>rfl) G5)) (λ_=>(BK (Fh (B:=(λ(_:Unit)=>[.z ((EX W) BJ),.v ((eT D.int) AT),.v (D.int A2),.v (D.str Dg),.u])) (Fi (Ma W5 aA (AS rfl) (C1 rfl))) (BK (Et (CA (CK (VI.k (KW (AS rfl))) (λx11=>(Fi (O4 CQ (AS rfl) (Bu (J7 (Cf rfl) (Cj (AS rfl) CS)) (λz18=>ZK W z18.1 z18.2.1) (λ_=>rfl) G5)))) (λx11=>(AS rfl))))) (λv10=>(EU (O0 (G4 (CA (CK (VI.k (HW rfl)) (λx21=>Ev) (λx21=>(Bu (Cj (AS rfl) (Cj (AS rfl) (Cj (AS rfl) CS))) (λz28=>Sz W z28.1 z28.2.1 z28.2.2.1) (λ_=>rfl) G5))))))))) (GV (.same (.same (.same (.same (.same .nil))))))) (λ_=>(EU (Bu (J7 (Cf rfl) (Cj (AS rfl) (Cj (AS rfl) CS))) (λz40=>NI W z40.1 z40.2.1 z40.2.2.1) (λ_=>rfl) IW))))))
end M
namespace M
open PySem L2 L4
theorem VC (W:Wd) {S:Sto} {q:Nat} {w:Nat×List (Int×Int)} {gs:List Int} {c:Int} (hq:S[q]?=some (EX W w)) (h0:0<=c) (h1:c < w.1) (hc:c∈gs):DH W [.ref q,eT D.int gs,.int c] S=.err W.NoCall S:=by
 have t1:Jj (mB (m3 leD ltD (mC (.int 0)) (AF 2) (Lv W.Web "places" (AF 0)))) [some (.ref q),some (eT D.int gs),some (.int c)] S=.ok false S:=
  Kf (b:=true) (Pz (aN (S3:=S) rfl rfl (Vf (decide_eq_true h0)) (Vr (n:=q) rfl hq (fM _ _ _)) (Vc (decide_eq_true h1))))
 have t2:mB (m2 (inA false) (AF 2) (AF 1)) [some (.ref q),some (eT D.int gs),some (.int c)] S=.ok true S:=Pz ((Dw rfl rfl (Nc (enc:=D.int) CQ false c (l:=gs) (d:=eT D.int gs) rfl)).trans (by rw [decide_eq_true hc];rfl));refine L2.Zd (n:=3) (mb:=Dy W) (e:=[some (.ref q),some (eT D.int gs),some (.int c)]) ?_;unfold Dy;refine (FB ((VJ t1).trans t2)).trans ((if_pos rfl).trans ?_);exact TZ (ds:=[.str "a call comes from a place of the web without a guard"]) rfl (by simp)
theorem UH (W:Wd) {S:Sto} {q:Nat} {w:Nat×List (Int×Int)} {gs:List Int} {c:Int} {kd:Str} (hq:S[q]?=some (EX W w)) (h0:0<=c) (h1:c < w.1) (hc:c∈gs):EM W [.ref q,eT D.int gs,.int c,.str kd] S=.err W.NoCall S:=by
 refine L2.Zd (n:=5) (mb:=JP W) (e:=[some (.ref q),some (eT D.int gs),some (.int c),some (.str kd),none]) ?_;unfold JP;refine RW ?_;have:B3 3 (DH W) (AN (AF 0) (AN (AF 1) (AN (AF 2) BE))) [some (.ref q),some (eT D.int gs),some (.int c),some (.str kd),none] S=.err W.NoCall S:=(Jr (n:=3) (ds:=[.ref q,eT D.int gs,.int c]) (S1:=S) rfl rfl).trans (VC W hq h0 h1 hc);show EE _ _ S=_;unfold EE;rw [show B3 3 (DH W) (AN (AF 0) (AN (AF 1) (AN (AF 2) BE))) (Fj 5 [.ref q,eT D.int gs,.int c,.str kd]) S=.err W.NoCall S from this];rfl
open Classical in
def Fq (w:Nat×List (Int×Int)) (gs:List Int) (c:Int):Option Bool:=if 0<=c/\c < w.1/\c∈gs then some true else none
theorem O8 (W:Wd) (w:Nat×List (Int×Int)) (gs:List Int) (c:Int):VF (Hy W) [.z (EX W w),.v (eT D.int gs),.v (D.int c)] (rV D.bl) (Fq w gs c):=λv hv S ds ha=>by
 unfold Fq at hv;split at hv
 ·rename_i hc
  cases hv
  match ds,ha with
  | [d1,d2,d3],⟨⟨n,h1,h2⟩,h3,h4,_⟩=>
   cases h1;cases h3;cases h4;refine ⟨_,S,L2.Ln (n:=4) (mb:=IC W) (d:=.bl true) ?_,Keeps.refl S,rfl⟩;unfold IC
   have cal:EE (B3 4 (EM W) (AN (AF 0) (AN (AF 1) (AN (AF 2) (AN (mC (.str "all")) BE))))) [some (.ref n),some (eT D.int gs),some (.int c),some (.bl false)] S=.ok (.ex W.NoCall [some (.ref n),some (eT D.int gs),some (.int c),some (.bl false)]) S:=by
    have e:B3 4 (EM W) (AN (AF 0) (AN (AF 1) (AN (AF 2) (AN (mC (.str "all")) BE)))) [some (.ref n),some (eT D.int gs),some (.int c),some (.bl false)] S=.err W.NoCall S:=(Jr (n:=4) (ds:=[.ref n,eT D.int gs,.int c,.str "all"]) (S1:=S) rfl rfl).trans (UH W h2 hc.1 hc.2.1 hc.2.2);unfold EE;rw [e];rfl
   have tr:WW [W.NoCall] (EE (B3 4 (EM W) (AN (AF 0) (AN (AF 1) (AN (AF 2) (AN (mC (.str "all")) BE)))))) (Co 3 (mC (.bl true))) [some (.ref n),some (eT D.int gs),some (.int c),some (.bl false)] S=.ok (.nx [some (.ref n),some (eT D.int gs),some (.int c),some (.bl true)]) S:=by
    unfold WW;rw [cal];dsimp only [Res.bind];rw [if_pos (show W.NoCall∈[W.NoCall] by simp)];rfl
   exact (CF (e1:=[some (.ref n),some (eT D.int gs),some (.int c),some (.bl false)]) (S1:=S) rfl).trans ((CF tr).trans rfl)
 ·cases hv
end M
namespace M
open PySem L2 L4
def HZ (BJ:(Nat×List (Int×Int))) (BZ:(List (Int×Int))) (AT:(List Int)) (A2:Int):Option (Fw Bool Unit):=
 BV ((((some BJ).bind λx2=>((some AT).bind λx3=>((some A2).bind λx4=>((some ("all" : Str)).bind λx5=>(some ()).bind λx6=>some (x5,x6)).bind λx7=>some (x4,x7)).bind λx8=>some (x3,x8)).bind λx9=>some (x2,x9)).bind λz10=>FU z10.1 z10.2.1 z10.2.2.1 z10.2.2.2.1).bind λx11=>some (.nx x11)) λv1=>BV ((((some BZ).bind λx13=>((some AT).bind λx14=>((some A2).bind λx15=>((some ("all" : Str)).bind λx16=>(some ()).bind λx17=>some (x16,x17)).bind λx18=>some (x15,x18)).bind λx19=>some (x14,x19)).bind λx20=>some (x13,x20)).bind λz21=>Ft z21.1 z21.2.1 z21.2.2.1 z21.2.2.2.1).bind λx22=>some (.nx x22)) λv12=>BV (((((some v1).bind λx23=>some true).bind λx24=>some (!x24)).bind λx35=>if x35=true then some true else ((some v1).bind λx25=>(some v12).bind λx26=>some (!decide (x25=x26))).bind λx34=>if x34=true then some true else (((some v1).bind λl31=>Dk l31 (λx27=>some true) (λx27=>((some x27).bind λx28=>(some ()).bind λx29=>some (x28,x29)).bind λz30=>FH z30.1)).bind λx32=>some (x32.all id)).bind λx33=>some (!x33)).bind λx37=>if x37=true then (some false).bind λx36=>some (.rt x36) else some (.nx ())) λ_=>BV (some (.nx v1.reverse)) λv40=>BV (((((some BJ).bind λx45=>((some AT).bind λx46=>((some A2).bind λx47=>((some ("all" : Str)).bind λx48=>(some ()).bind λx49=>some (x48,x49)).bind λx50=>some (x47,x50)).bind λx51=>some (x46,x51)).bind λx52=>some (x45,x52)).bind λz53=>FU z53.1 z53.2.1 z53.2.2.1 z53.2.2.2.1).bind λx43=>(some v12).bind λx44=>some (!decide (x43=x44))).bind λx55=>if x55=true then (some false).bind λx54=>some (.rt x54) else some (.nx ())) λ_=>(((((some BJ).bind λx58=>((some AT).bind λx59=>((some A2).bind λx60=>((some ("one" : Str)).bind λx61=>(some ()).bind λx62=>some (x61,x62)).bind λx63=>some (x60,x63)).bind λx64=>some (x59,x64)).bind λx65=>some (x58,x65)).bind λz66=>FU z66.1 z66.2.1 z66.2.2.1 z66.2.2.2.1).bind λl70=>Dk l70 (λx67=>some true) (λx67=>(some x67).bind λx68=>(some v12).bind λx69=>some (aH x68 x69))).bind λx71=>some (x71.all id)).bind λx72=>some (.rt x72)
def Ha (BJ:(Nat×List (Int×Int))) (BZ:(List (Int×Int))) (AT:(List Int)) (A2:Int):Option Bool:=IL (HZ BJ BZ AT A2)
theorem RS (W:Wd) (BJ:(Nat×List (Int×Int))) (BZ:(List (Int×Int))) (AT:(List Int)) (A2:Int):VF (Jn W) [.z ((EX W) BJ),.z ((oL (eP D.int D.int)) BZ),.v ((eT D.int) AT),.v (D.int A2)] (rV D.bl) (Ha BJ BZ AT A2):=by
 refine GY (n:=6) (b:=Js W) (p:=HZ BJ BZ AT A2) (B:=λ_=>[]) ?_;show VS [.z ((EX W) BJ),.z ((oL (eP D.int D.int)) BZ),.v ((eT D.int) AT),.v (D.int A2),.u,.u] _ _ _ _;unfold Js HZ;exact (BK (JZ (Bu (J7 (Cf rfl) (Cj (AS rfl) (Cj (AS rfl) (Cj (C1 rfl) CS)))) (λz10=>NJ W z10.1 z10.2.1 z10.2.2.1 z10.2.2.2.1) (λ_=>rfl) IW)) (λv1=>(BK (Et (Bu (J7 (Cf rfl) (Cj (AS rfl) (Cj (AS rfl) (Cj (C1 rfl) CS)))) (λz21=>O9 W z21.1 z21.2.1 z21.2.2.1 z21.2.2.2.1) (λ_=>rfl) IW)) (λv12=>(BK (Fh (B:=(λ(_:Unit)=>[.z ((EX W) BJ),.z ((oL (eP D.int D.int)) BZ),.v ((eT D.int) AT),.v (D.int A2),.w 4 ((oL (eT D.int)) v1),.y ((oL (eT D.int)) v12)])) (ZJ (KY (Fi (gX (HX rfl) (by decide +kernel)))) (ZJ (Fi (ZB (Oj CQ) (HX rfl) (D5 rfl))) (KY (Fi (Ut (MZ (G4 (CA (CK (gH (HX rfl)) (λx27=>Ev) (λx27=>(Bu (Cj (AS rfl) CS) (λz30=>OG W z30.1) (λ_=>rfl) G5))))))))))) (FL (C1 rfl)) (GV (.same (.same (.same (.same (.same (.same .nil)))))))) (λ_=>(BK (gC rfl rfl) (λv40=>(BK (Fh (B:=(λ(_:Unit)=>[.z ((EX W) BJ),.z ((oL (eP D.int D.int)) BZ),.v ((eT D.int) AT),.v (D.int A2),.w 4 ((oL (eT D.int)) v40),.y ((oL (eT D.int)) v12)])) (Fi (ZB (Oj CQ) (G4 (Bu (J7 (Cf rfl) (Cj (AS rfl) (Cj (AS rfl) (Cj (C1 rfl) CS)))) (λz53=>NJ W z53.1 z53.2.1 z53.2.2.1 z53.2.2.2.1) (λ_=>rfl) IW)) (D5 rfl))) (FL (C1 rfl)) (GV (.same (.same (.same (.same (.same (.same .nil)))))))) (λ_=>(FL (Ut (MZ (G4 (CA (CK (VI.k (Y5 (Bu (J7 (Cf rfl) (Cj (AS rfl) (Cj (AS rfl) (Cj (C1 rfl) CS)))) (λz66=>NJ W z66.1 z66.2.1 z66.2.2.1 z66.2.2.2.1) (λ_=>rfl) IW))) (λx67=>Ev) (λx67=>(cN (AS rfl) (D5 rfl)))))))))))))))))))
def Wa (A1:(List Int)):Option (Fw Bool Unit):=
 BV ((((some A1).bind λx2=>((some (0:Int)).bind λx3=>(some ()).bind λx4=>some (x3,x4)).bind λx5=>some (x2,x5)).bind λz6=>Be z6.1 z6.2.1).bind λx7=>some (.nx x7)) λv1=>BV ((((some (2:Int)).bind λx10=>((some v1).bind λx9=>some (x9 % 5)).bind λx11=>some (x10+x11)).bind λx17=>(((((some v1).bind λx14=>some (x14 / 84)).bind λx15=>some (x15 % 8)).bind λx12=>(some (1:Int)).bind λx13=>some (decide (x12=x13))).bind λx16=>some (if x16=true then 1 else 0)).bind λx18=>some (x17+x18)).bind λx19=>some (.nx x19)) λv8=>BV ((((some A1).bind λx21=>((some (3:Int)).bind λx22=>((some v8).bind λx23=>(some ()).bind λx24=>some (x23,x24)).bind λx25=>some (x22,x25)).bind λx26=>some (x21,x26)).bind λz27=>G6 z27.1 z27.2.1 z27.2.2.1).bind λx28=>some (.nx x28)) λv20=>BV (((some v8).bind λx35=>(((some A1).bind λx30=>((some v20).bind λx31=>(some ()).bind λx32=>some (x31,x32)).bind λx33=>some (x30,x33)).bind λz34=>Gz z34.1 z34.2.1).bind λx36=>Y1 x35 x36).bind λx37=>some (.nx x37)) λv29=>BV (((some (1:Int)).bind λx48=>((((some A1).bind λx39=>((some (1:Int)).bind λx40=>(some ()).bind λx41=>some (x40,x41)).bind λx42=>some (x39,x42)).bind λz43=>Be z43.1 z43.2.1).bind λx46=>((some v8).bind λx44=>(some (5:Int)).bind λx45=>some (if x45 < x44 then x45 else x44)).bind λx47=>VY x46 x47).bind λx49=>some (x48+x49)).bind λx50=>some (.nx x50)) λv38=>BV ((((some v8).bind λx52=>((some v38).bind λx53=>(some ()).bind λx54=>some (x53,x54)).bind λx55=>some (x52,x55)).bind λz56=>G7 z56.1 z56.2.1).bind λx57=>some (.nx x57)) λv51=>BV (((some v51).bind λl67=>((((some A1).bind λx59=>((some (2:Int)).bind λx60=>(some ()).bind λx61=>some (x60,x61)).bind λx62=>some (x59,x62)).bind λz63=>Be z63.1 z63.2.1).bind λx65=>((some v51).bind λx64=>some (x64.length:Int)).bind λx66=>VY x65 x66).bind λx68=>atI l67 x68).bind λx69=>some (.nx x69)) λv58=>BV (((some v8).bind QJ).bind λl103=>Fe l103 () λ(_:Unit) x71=>Hu (λ_=>()) (((some x71).bind λx72=>(some v58).bind λx73=>some (decide (x72∈x73))).bind λx100=>if x100=true then Hu (λ_=>()) (((((some v29).bind λx74=>((some v58).bind λx75=>((some x71).bind λx76=>(some ()).bind λx77=>some (x76,x77)).bind λx78=>some (x75,x78)).bind λx79=>some (x74,x79)).bind λz80=>Fq z80.1 z80.2.1 z80.2.2.1).bind λx81=>some (!x81)).bind λx83=>if x83=true then (some false).bind λx82=>some (.rt x82) else some (.nx ())) else Hu (λ_=>()) (((((some v29).bind λx86=>((some v20).bind λx87=>((some v58).bind λx88=>((some x71).bind λx89=>(some ()).bind λx90=>some (x89,x90)).bind λx91=>some (x88,x91)).bind λx92=>some (x87,x92)).bind λx93=>some (x86,x93)).bind λz94=>Ha z94.1 z94.2.1 z94.2.2.1 z94.2.2.2.1).bind λx95=>some (!x95)).bind λx97=>if x97=true then (some false).bind λx96=>some (.rt x96) else some (.nx ())))) λ_=>(((some v29).bind λx108=>some x108.2).bind λx106=>(some v20).bind λx107=>some (decide (x106=x107))).bind λx109=>some (.rt x109)
def Z0 (A1:(List Int)):Option Bool:=IL (Wa A1)
theorem kJ (W:Wd) (A1:(List Int)):VF (W1 W) [.v (eF A1)] (rV D.bl) (Z0 A1):=by
 refine GY (n:=9) (b:=bR W) (p:=Wa A1) (B:=λ_=>[]) ?_;show VS [.v (eF A1),.u,.u,.u,.u,.u,.u,.u,.u] _ _ _ _;unfold bR Wa;exact (BK (Il (Bu (Cj (AS rfl) (Cj (C1 rfl) CS)) (λz6=>Ej W z6.1 z6.2.1) (λ_=>rfl) G5)) (λv1=>(BK (Il (Hl (Hl (C1 rfl) (Oa rfl (AS rfl))) (gY (Ma CQ Lu (Oa rfl (O5 rfl (AS rfl))) (C1 rfl))))) (λv8=>(BK (Et (Bu (Cj (AS rfl) (Cj (C1 rfl) (Cj (AS rfl) CS))) (λz27=>S6 W z27.1 z27.2.1 z27.2.2.1) (λ_=>rfl) IW)) (λv20=>(BK (Et (gM (AS rfl) (G4 (Bu (Cj (AS rfl) (J7 (D5 rfl) CS)) (λz34=>QF W z34.1 z34.2.1) (λ_=>rfl) IW)))) (λv29=>(BK (Il (Hl (C1 rfl) (Ur (Bu (Cj (AS rfl) (Cj (C1 rfl) CS)) (λz43=>Ej W z43.1 z43.2.1) (λ_=>rfl) G5) (WO (AS rfl) (C1 rfl))))) (λv38=>(BK (Et (Bu (Cj (AS rfl) (Cj (AS rfl) CS)) (λz56=>S7 W z56.1 z56.2.1) (λ_=>rfl) IW)) (λv51=>(BK (Il (O3 (D5 rfl) (Ur (Bu (Cj (AS rfl) (Cj (C1 rfl) CS)) (λz63=>Ej W z63.1 z63.2.1) (λ_=>rfl) G5) (RN (D5 rfl))))) (λv58=>(BK (Gg (s0:=()) (B:=(λ(_:Unit)=>[.v (eF A1),.v (D.int v1),.v (D.int v8),.y ((oL (eP D.int D.int)) v20),.y ((EX W) v29),.v (D.int v38),.y ((oL (eT D.int)) v51),.v ((eT D.int) v58),.u])) (Gh (AS rfl)) FE (.same (.same (.same (.same (.same (.same (.same (.same (.same .nil))))))))) (λ_ x71=>(Eh (Fh (B:=(λ(_:Unit)=>[.v (eF A1),.v (D.int v1),.v (D.int v8),.y ((oL (eP D.int D.int)) v20),.y ((EX W) v29),.v (D.int v38),.y ((oL (eT D.int)) v51),.v ((eT D.int) v58),.v (D.int x71)])) (Fi (O4 CQ (AS rfl) (AS rfl))) (Eh (Fh (B:=(λ(_:Unit)=>[.v (eF A1),.v (D.int v1),.v (D.int v8),.y ((oL (eP D.int D.int)) v20),.y ((EX W) v29),.v (D.int v38),.y ((oL (eT D.int)) v51),.v ((eT D.int) v58),.v (D.int x71)])) (KY (RQ (Bu (J7 (D5 rfl) (Cj (AS rfl) (Cj (AS rfl) CS))) (λz80=>O8 W z80.1 z80.2.1 z80.2.2.1) (λ_=>rfl) G5))) (FL (C1 rfl)) (GV (.same (.same (.same (.same (.same (.same (.same (.same (.same .nil))))))))))) (λ_=>(.same (.same (.same (.same (.same (.same (.same (.same (.same .nil))))))))))) (Eh (Fh (B:=(λ(_:Unit)=>[.v (eF A1),.v (D.int v1),.v (D.int v8),.y ((oL (eP D.int D.int)) v20),.y ((EX W) v29),.v (D.int v38),.y ((oL (eT D.int)) v51),.v ((eT D.int) v58),.v (D.int x71)])) (KY (RQ (Bu (J7 (D5 rfl) (J7 (D5 rfl) (Cj (AS rfl) (Cj (AS rfl) CS)))) (λz94=>RS W z94.1 z94.2.1 z94.2.2.1 z94.2.2.2.1) (λ_=>rfl) G5))) (FL (C1 rfl)) (GV (.same (.same (.same (.same (.same (.same (.same (.same (.same .nil))))))))))) (λ_=>(.same (.same (.same (.same (.same (.same (.same (.same (.same .nil)))))))))))) (λ_=>(.same (.same (.same (.same (.same (.same (.same (.same (.drop .nil))))))))))))) (λ_=>(FL (gd (az CQ CQ) (G4 (CA (WM (cH (cK (D5 rfl)))))) (D5 rfl)))))))))))))))))))
end M
namespace M
open PySem L2
end M
namespace M
open PySem L2
end M
namespace M
open PySem L2
theorem VU {x:Int×Int} (h:x.1 < x.2):nrm x=x:=by
 unfold nrm;rw [if_neg (by lia),if_pos (by omega)]
theorem Z8 (x:Int×Int):nrm (x.2,x.1)=nrm x:=by
 unfold nrm;dsimp only
 congr 1
 ·split <;> split <;> lia
 ·split <;> split <;> lia
theorem ZY {l l':List (List Int)} (h:l.Perm l'):Hm l=Hm l':=K7 ((D6 l).trans (h.trans (D6 l').symm)) (Kb l) (Kb l')
theorem cV {ps qs:List (Int×Int)} (h:(ps.map nrm).Perm (qs.map nrm)):Fd ps=Fd qs:=by
 unfold Fd Im;have:=h.map Lp;rw [BX,BX] at this;rw [show (λx=>Lp (nrm x))=Lp∘nrm from rfl,ZY this]
theorem Di.of {p:Int} {ps qs:List (Int×Int)} (h:(ps.map nrm).Perm (qs.map nrm)) (f:Di p qs):Di p ps:=by
 refine ⟨λx hx=>?_,h.nodup_iff.mpr f.2⟩;obtain ⟨y,hy,e⟩:=A9.mp (h.mem_iff.mp (XU hx));have:=f.1 y hy;unfold Fit at this ⊢;rw [<-e];exact this
def nr (ts:List (Int×Int)) (x:Nat):List Int:=Db (CY ts x)
theorem PY {ts:List (Int×Int)} {x:Nat} {z:Int}:z∈nr ts x↔((x:Int),z)∈ts∨(z,(x:Int))∈ts:=by
 unfold nr;rw [(FN _).mem_iff];unfold CY;rw [Jw]
 constructor
 ·rintro ⟨t,ht,h⟩
  rcases BB.mp h with h | h
  ·split at h
   ·rename_i e
    rw [Ag.mp h,<-e];exact .inl ht
   ·cases h
  ·split at h
   ·rename_i e
    rw [Ag.mp h,<-e];exact .inr ht
   ·cases h
 ·rintro (h | h)
  ·exact ⟨_,h,Bq _ (by simp)⟩
  ·exact ⟨_,h,A6 _ (by simp)⟩
end M
namespace M
open PySem L2 L4
theorem Ps (ns:List Int) (k:Nat):Be ns (k:Int)=some (ns.getD k 0):=by
 unfold Be Fn;simp only [AG]
 by_cases c:k < ns.length
 ·rw [decide_eq_true (show (k:Int) < (ns.length:Int) by omega),if_pos rfl,Px (x:=ns[k]) (by omega) (by rw [CM];exact B0 c)]
  simp only [AG,bQ,Wc];rw [QZ,B0 c];rfl
 ·rw [decide_eq_false (show ¬(k:Int) < (ns.length:Int) by omega),if_neg AK]
  simp only [Bm,Wc];rw [QZ,CN (by omega)];rfl
def prs (o:Nat):List (Int×Int):=(Fs o).getD []
theorem Qn:∀o:Nat,o < 8->Fs o=some (prs o)/\(∀x∈prs o,0<=x.1/\x.1 < x.2/\x.2 < o)/\(prs o).Nodup/\(prs o).length<=21/\(2<=o->prs o≠[])/\∀y:Nat,y < 7->((prs o).filter λx=>decide ((y:Int)∈[x.1,x.2])).length<=6:=by decide +kernel
theorem YJ:∀o:Nat,o < 8->∀s:Nat,s < 6->∃fs,Dc o s=some fs/\fs.length<=21:=by
 have h:∀o:Nat,o < 8->∀s:Nat,s < 6->(match Dc o s with | some fs=>decide (fs.length<=21) | none=>false)=true:=by decide +kernel
 intro o ho s hs;have:=h o ho s hs
 cases q:Dc o s with
 | none=>rw [q] at this;cases this
 | some fs=>rw [q] at this;exact ⟨fs,rfl,of_decide_eq_true this⟩
theorem N3 {κ β:Type} [DecidableEq κ] (kvs:List (κ×β)) (k:κ) (v:β):(CL kvs k v).length<=kvs.length+1:=by
 unfold CL;split
 ·rw [AH];omega
 ·rw [AW];simp
theorem gl (ns:List Int) (hns:ns.length<=63) (f:Nat) (hf:f<=1000) {o:Nat} (h2:2<=o) (ho:o < 8):∃P,G6 ns f o=some ((prs o).filter P):=by
 obtain ⟨e1,-,-,hl,hne,-⟩:=Qn o ho;obtain ⟨fs,e2,hfs⟩:=YJ o ho (ns.getD 0 0 / 7 % 6).toNat (by omega);rw [D1 (by omega)] at e2;unfold G6 IY;simp only [AG];rw [e1,show Be ns 0=some (ns.getD 0 0) from Ps ns 0];simp only [AG,Bm];rw [e2];simp only [AG]
 obtain ⟨s1,e3,l1⟩:=SB (ρ:=List (Int×Int)) (l:=fs) (s0:=([]:List ((Int×Int)×Bool))) (q:=λs20 x21=>Hu (λv22=>v22) ((Kd s20 x21 true).bind λl25=>some (.nx l25))) (λpre s=>s.length<=pre.length) (AU _) (by
  intro pre x s hx hp hs;have:=hp.length_le;rw [AW,Av] at this;refine ⟨CL s x true,?_,?_⟩
  ·rw [show Kd s x true=some (CL s x true) from if_pos (by omega)]
   rfl
  ·rw [AW,Av]
   exact Al (N3 _ _ _) (by omega))
 rw [e3];simp only [Bm];rw [cr (by omega) (by omega) (by split <;> omega) (by split <;> omega)];simp only [AG]
 have hpl:0 < ((prs o).length:Int):=by have:=MN.mpr (hne h2);omega
 obtain ⟨s2,e4,-⟩:=SB (ρ:=List (Int×Int)) (l:=LR (f:Int) ((if (63:Int) < (ns.length:Int) then (63:Int) else (ns.length:Int)) - (f:Int)).toNat) (s0:=s1) (q:=λs34 x35=>BV (((atI ns x35).bind λx40=>VY x40 ((prs o).length:Int)).bind (λx43=>atI (prs o) x43) |>.bind λx44=>some (.nx x44)) λv36=>Hu (λv51=>v51) ((if (!(A7 s34 v36).isSome)=true then some true else (A7 s34 v36).bind λx49=>some (!x49)).bind λx52=>(Kd s34 v36 x52).bind λl54=>some (.nx l54))) (λpre s=>s.length<=21+pre.length) (Al l1 hfs) (by
  intro pre x s hx hp hs;have hpl2:=hp.length_le;rw [AW,Av,Ho] at hpl2;obtain ⟨hx1,hx2⟩:=Ht.mp hx;obtain ⟨y,ey,-⟩:=V1 (l:=ns) (i:=x) (by omega) (by split at hx2 <;> omega);rw [ey];simp only [AG];rw [Rq hpl];simp only [AG];obtain ⟨t,et,-⟩:=XD (l:=prs o) y (hne h2);rw [et];simp only [AG,Bm]
  have hb:∃b,(if (!(A7 s t).isSome)=true then some true else (A7 s t).bind λx49=>some (!x49))=some b:=by
   cases A7 s t with
   | none=>exact ⟨true,rfl⟩
   | some b=>exact ⟨!b,rfl⟩
  obtain ⟨b,hb⟩:=hb;rw [hb];simp only [AG];refine ⟨CL s t b,?_,?_⟩
  ·rw [show Kd s t b=some (CL s t b) from if_pos (by split at hpl2 <;> omega)]
   rfl
  ·rw [AW,Av]
   exact Al (N3 _ _ _) (by omega))
 refine ⟨λx=>match A7 s2 x with | some b=>b | none=>false,?_⟩;have e4':=e4;simp only [Option.bind_assoc,AG] at e4' ⊢;rw [e4'];simp only [Bm]
 rw [IB (P:=λx=>match A7 s2 x with | some b=>b | none=>false) (by omega) (by
  intro x _
  cases A7 s2 x with
  | none=>rfl
  | some b=>rfl)]
 rfl
end M
namespace M
open PySem L2 L4
structure KF (o:Nat) (ts:List (Int×Int)):Prop where
 rg:∀x∈ts,0<=x.1/\x.1 < x.2/\x.2 < o
 nd:ts.Nodup
 ln:ts.length<=21
 dg:∀y:Nat,y < 7->(ts.filter λx=>decide ((y:Int)∈[x.1,x.2])).length<=6
theorem WR {o:Nat} (ho:o < 8) (P:Int×Int->Bool):KF o ((prs o).filter P):=by
 obtain ⟨-,h1,h2,h3,-,h4⟩:=Qn o ho;refine ⟨λx hx=>h1 x (BA.mp hx).1,h2.filter _,Al (Ck _ _) h3,λy hy=>?_⟩;refine Al ?_ (h4 y hy);exact (mH _ List.filter_sublist).length_le
theorem aj (ns:List Int) {ts:List (Int×Int)} (hl:ts.length<=1000):∃hs,Gz ns ts=some hs/\(hs=ts∨hs=ts.reverse.map λx=>(x.2,x.1)):=by
 unfold Gz Gy;simp only [AG];rw [show Be ns 0=some (ns.getD 0 0) from Ps ns 0];simp only [AG]
 by_cases c:ns.getD 0 0 / 42 % 2=0
 ·rw [decide_eq_true c,if_pos rfl]
  exact ⟨ts,rfl,.inl rfl⟩
 ·rw [decide_eq_false c,if_neg AK]
  simp only [Bm];rw [FZ (f:=λx:Int×Int=>(x.2,x.1)) (by rw [MM];omega) λx _=>rfl];exact ⟨_,rfl,.inr rfl⟩
theorem KF.nrm {o:Nat} {ts:List (Int×Int)} (h:KF o ts):ts.map nrm=ts:=by
 conv=>rhs;rw [<-Ov ts]
 exact Cd λx hx=>VU (h.rg x hx).2.1
theorem KF.fit {o:Nat} {ts:List (Int×Int)} (h:KF o ts):Di o ts:=by
 refine ⟨λx hx=>?_,by rw [h.nrm];exact h.nd⟩;have:=h.rg x hx;unfold Fit;rw [VU this.2.1];omega
theorem KF.mem {o:Nat} {ts:List (Int×Int)} (h:KF o ts) {t:Int×Int}:t∈Fd ts↔t∈ts:=by
 rw [(NM ts).mem_iff,h.nrm]
theorem KF.web {o:Nat} {ts hs:List (Int×Int)} (h:KF o ts) (h1:1<=o) (ho:o<=60) (e:hs=ts∨hs=ts.reverse.map λx=>(x.2,x.1)):Y1 (o:Int) hs=some (o,Fd ts):=by
 have pm:(hs.map M.nrm).Perm (ts.map M.nrm):=by
  rcases e with rfl | rfl
  ·exact List.Perm.refl _
  ·rw [BX,show (M.nrm∘λx:Int×Int=>(x.2,x.1))=M.nrm from funext λx=>Z8 x,OW]
   exact List.reverse_perm _
 have hl:hs.length=ts.length:=by have:=pm.length_eq;rwa [AH,AH] at this
 unfold Y1;rw [if_pos ⟨by omega,by omega,Di.of pm h.fit,by rw [hl];have:=h.ln;omega⟩,cV pm,CM]
theorem aC {o:Nat} {us:List (Int×Int)} {g:Int} (h0:0<=g) (h1:g < o):atI (NX o us) g=some (nr us g.toNat):=by
 refine Px h0 ?_;unfold NX;rw [Ap,DB (by omega)];rfl
theorem aE {o:Nat} {us:List (Int×Int)} {g:Int} (h0:0<=g) (h1:g < o):PR (o,us) g=some (nr us g.toNat):=by
 unfold PR Rc Fp EV;simp only [AG];rw [decide_eq_true h0,if_pos rfl,decide_eq_true h1];simp only [AG];show IL (BV (((Z1 (some (Fw.nx ()))).bind λ_=>some (.nx ()))) λ_=>_)=_;simp only [dO,AG,Bm];rw [aC h0 h1];rfl
def lnr (ts:List (Int×Int)) (y:Int):List Int:=(ts.filter λx=>decide (y∈[x.1,x.2])).map λx=>x.1+x.2 - y
theorem dh {ts:List (Int×Int)} (hl:ts.length<=1000) (y:Int):G8 ts y=some (Db (lnr ts y)):=by
 unfold G8 IZ;simp only [AG,eG (show ([]:List Int).length<=1000000 by decide),Bm]
 obtain ⟨s,e,rfl⟩:=SB (ρ:=List Int) (l:=ts) (s0:=([]:List Int)) (q:=λs3 x4=>Hu (λs17=>s17) (if decide (y∈[x4.1,x4.2])=true then Hu (λv7=>v7) ((Yb s3 (x4.1+x4.2 - y)).bind λl9=>some (.nx l9)) else some (.nx s3))) (λpre s=>s=lnr pre y) rfl (by
  rintro pre x s hx hp rfl;have hpl:=hp.length_le;rw [AW,Av] at hpl
  have hle:(lnr pre y).length<=pre.length:=by unfold lnr;rw [AH];exact Ck _ _
  have es:lnr (pre++[x]) y=if decide (y∈[x.1,x.2])=true then lnr pre y++[x.1+x.2 - y] else lnr pre y:=by
   unfold lnr;rw [T4];split
   ·rw [Ch];rfl
   ·rfl
  rw [es]
  cases c:decide (y∈[x.1,x.2]) with
  | true=>
   rw [if_pos rfl,if_pos rfl,eY (by omega)];exact ⟨_,rfl,rfl⟩
  | false=>exact ⟨_,rfl,rfl⟩)
 rw [e];rfl
theorem Wm {ts:List (Int×Int)} {y z:Int}:z∈lnr ts y↔(y,z)∈ts∨(z,y)∈ts:=by
 unfold lnr;rw [A9]
 constructor
 ·rintro ⟨x,hx,rfl⟩
  obtain ⟨h1,h2⟩:=BA.mp hx;have h2:=of_decide_eq_true h2
  rcases Ay.mp h2 with h | h
  ·left
   rw [show (y,x.1+x.2 - y)=x from QW h (by show x.1+x.2 - y=x.2;omega)];exact h1
  ·right
   have h:=Ag.mp h;rw [show (x.1+x.2 - y,y)=x from QW (by show x.1+x.2 - y=x.1;omega) h];exact h1
 ·rintro (h | h)
  ·exact ⟨_,BA.mpr ⟨h,decide_eq_true (by simp)⟩,by show y+z - y=z;omega⟩
  ·exact ⟨_,BA.mpr ⟨h,decide_eq_true (by simp)⟩,by show z+y - y=z;omega⟩
theorem K8 {l:List Int} {x:Int}:x∈Db l↔x∈l:=(FN l).mem_iff
theorem KF.near {o:Nat} {ts:List (Int×Int)} (h:KF o ts) {g:Int} (h0:0<=g) (z:Int):z∈nr (Fd ts) g.toNat↔z∈Db (lnr ts g):=by
 rw [PY,K8,Wm,h.mem,h.mem,D1 h0]
end M
namespace M
open PySem L2 L4
theorem Z3:∀n:Nat,n < 128->∀x:Nat,x < 7->LY (n:Int) (1 * 2 ^ x)=((n ||| 2 ^ x:Nat):Int)/\(n ||| 2 ^ x) < 128/\∀y:Nat,y < 7->(n ||| 2 ^ x).testBit y=(n.testBit y||decide (x=y)):=by decide +kernel
theorem XX:∀o:Nat,o < 8->∀n:Nat,n < 128->∀x:Nat,x < o->hb (DN (1 * 2 ^ o - 1) (n:Int)) (x:Int) = !n.testBit x:=by decide +kernel
theorem Qi:∀x:Nat,x < 8->ZZ 1 (x:Int)=some (1 * 2 ^ x):=by decide +kernel
theorem jT {l:List Int} (h:∀x∈l,0<=x/\x < 7):Ok (LC l) λr=>∃n:Nat,r=n/\n < 128/\∀y:Nat,y < 7->(n.testBit y=true↔(y:Int)∈l):=by
 unfold LC LA;simp only [AG,Bm];refine OkF.out (OkF.seq (OkF.for (λpre (s:Int)=>∃n:Nat,s=n/\n < 128/\∀y:Nat,y < 7->(n.testBit y=true↔(y:Int)∈pre)) ⟨0,rfl,by decide,λy _=>by simp⟩ ?_) ?_)
 ·rintro pre x s hx hp ⟨n,rfl,hn,hb'⟩
  obtain ⟨x0,x7⟩:=h x hx
  obtain ⟨k,rfl⟩:∃k:Nat,x=k:=⟨x.toNat,by omega⟩
  rw [Qi k (by omega)];obtain ⟨o1,o2,o3⟩:=Z3 n hn k (by omega);refine .nx ⟨n ||| 2 ^ k,o1,o2,λy hy=>?_⟩;rw [o3 y hy,bt,hb' y hy,BB,Ag,decide_eq_true_eq];refine ⟨λq=>q.elim .inl λq=>.inr (by rw [q]),λq=>q.elim .inl λq=>.inr (by omega)⟩
 ·rintro s ⟨n,rfl,h1,h2⟩
  exact .rt ⟨n,rfl,h1,h2⟩
def Tg (us:List (Int×Int)) (g:Int):List Int:=Db ([g]++nr us g.toNat)
def tkl (o:Nat) (us:List (Int×Int)):List (List Int):=(LR 0 o).map (Tg us)
theorem ZQ {o:Nat} {us:List (Int×Int)} {g:Int} (h0:0<=g) (h1:g < o):atI (tkl o us) g=some (Tg us g):=by
 refine Px h0 ?_;unfold tkl LR;rw [Ap,Ap,DB (by omega)];show some (Tg us (0+(g.toNat:Int)))=_;rw [show (0:Int)+(g.toNat:Int)=g by omega]
theorem ZR {o:Nat} {us:List (Int×Int)} {g:Int} (h0:0<=g) (h1:g < o):Tk (tkl o us) g=Tg us g:=by
 unfold Tk;rw [ZQ h0 h1];rfl
structure QS (o:Nat) (us:List (Int×Int)):Prop where
 sm:o < 8
 len:∀g:Int,0<=g->g < o->(nr us g.toNat).length<=6
 rg:∀g:Int,0<=g->g < o->∀x∈nr us g.toNat,0<=x/\x < o/\x≠g
 nd:∀g:Int,0<=g->g < o->(nr us g.toNat).Nodup
section
variable {o:Nat} {us:List (Int×Int)}
theorem Py {g x:Int}:x∈Tg us g↔x=g∨x∈nr us g.toNat:=by
 unfold Tg;rw [K8];simp
theorem QS.tg (h:QS o us) {g:Int} (h0:0<=g) (h1:g < o):(Tg us g).length<=7/\(∀x∈Tg us g,0<=x/\x < o)/\(Tg us g).Pairwise (· < ·):=by
 refine ⟨?_,λx hx=>?_,?_⟩
 ·unfold Tg
  rw [(FN _).length_eq,AW,Av];have:=h.len g h0 h1;omega
 ·rcases Py.mp hx with rfl | hx
  ·exact ⟨h0,h1⟩
  ·exact ⟨(h.rg g h0 h1 x hx).1,(h.rg g h0 h1 x hx).2.1⟩
 ·have nd:(Tg us g).Nodup:=by
   unfold Tg;rw [(FN _).nodup_iff];show (g :: nr us g.toNat).Nodup;rw [Bw];exact ⟨λz=>(h.rg g h0 h1 g z).2.2 rfl,h.nd g h0 h1⟩
  have:=(TJ ([g]++nr us g.toNat))
  exact (kA this nd).imp λ⟨a,b⟩=>by omega
theorem cY (h:QS o us):Jf (o,us)=some (tkl o us):=by
 unfold Jf Jc;simp only [AG];rw [WX (by omega) (by have:=h.sm;omega),CM];simp only [AG]
 rw [FZ (f:=Tg us) (by rw [Ho];have:=h.sm;omega) λx hx=>by
  obtain ⟨x0,x1⟩:=Ht.mp hx;rw [aE x0 (by omega),eI];simp only [AG];rw [LL (by have:=h.len x x0 (by omega);rw [Av];omega)]
  rfl]
 rfl
def Ext (us:List (Int×Int)) (told rest:List Int) (c:Int) (l:List Int):Prop:=l.length=rest.length/\(told++l).Nodup/\(∀y∈rest.zip l,y.2∈Tg us y.1)/\c∈told++l
theorem Ox (f:Int->Int):∀l:List Int,l.zip (l.map f)=l.map λg=>(g,f g)
 | []=>rfl
 | x :: l=>by rw [A3,IP,Ox f l];rfl
theorem bv {a b:List Int} {x y z:Int} (hn:b.Nodup) (h1:(x,z)∈a.zip b) (h2:(y,z)∈a.zip b):x=y:=by
 obtain ⟨i,hi,e1⟩:=D0 h1;obtain ⟨j,hj,e2⟩:=D0 h2;rw [KQ] at hi hj;rw [Jx] at e1 e2;have f1:=(fB e1);have f2:=(fB e2);have:i=j:=(bX hn).mp (f1.2.trans f2.2.symm);subst this;exact f1.1.symm.trans f2.1
theorem cm (h:QS o us) {told rest:List Int} {c:Int} {bits:Int} (hr:∀g∈rest,0<=g/\g < o) (hnd:rest.Nodup) (htn:told.Nodup) (hc:0<=c/\c < o) (hbt:∀x:Int,0<=x->x < o->(hb bits x=true↔x∉told)) :
  (Sdr (Tk (tkl o us)) bits rest/\(c∈told∨∃g∈rest,c∈Tg us g))↔∃l,Ext us told rest c l:=by
 have hw:∀g∈rest,∀x,x∈w0 (Tk (tkl o us)) bits g↔x∈Tg us g/\x∉told:=λg hg x=>by
  unfold w0;rw [BA,ZR (hr g hg).1 (hr g hg).2];refine ⟨λ⟨a,b⟩=>⟨a,?_⟩,λ⟨a,b⟩=>⟨a,?_⟩⟩
  ·have:=(h.tg (hr g hg).1 (hr g hg).2).2.1 x a
   exact (hbt x this.1 this.2).mp b
  ·have:=(h.tg (hr g hg).1 (hr g hg).2).2.1 x a
   exact (hbt x this.1 this.2).mpr b
 have mk:∀f:Int->Int,(∀g∈rest,f g∈Tg us g/\f g∉told)->(∀a∈rest,∀b∈rest,f a=f b->a=b)->c∈told++rest.map f->∃l,Ext us told rest c l:=λf f1 f2 f3=>by
  refine ⟨rest.map f,AH _,?_,λy hy=>?_,f3⟩
  ·unfold HD
   rw [BG];refine ⟨htn,?_,λa ha b hb' e=>?_⟩
   ·rw [Bk]
    exact hnd.imp_of_mem λ{a b} ha hb' ne e=>ne (f2 a ha b hb' e)
   ·obtain ⟨g,hg,rfl⟩:=A9.mp hb'
    exact (f1 g hg).2 (e▸ha)
  ·rw [Ox] at hy
   obtain ⟨g,hg,rfl⟩:=A9.mp hy;exact (f1 g hg).1
 constructor
 ·rintro ⟨⟨f,f1,f2⟩,hcc⟩
  have f1':∀g∈rest,f g∈Tg us g/\f g∉told:=λg hg=>(hw g hg _).mp (f1 g hg)
  by_cases d:c∈told++rest.map f
  ·exact mk f f1' f2 d
  ·have d1:c∉told:=λz=>d (Bq _ z)
   have d2:∀a∈rest,f a≠c:=λa ha z=>d (A6 _ (A9.mpr ⟨a,ha,z⟩))
   rcases hcc with hcc | ⟨g,hg,hcg⟩
   ·exact absurd hcc d1
   ·refine mk (λa=>if a=g then c else f a) (λa ha=>?_) (λa ha b hb' e=>?_) (A6 _ (A9.mpr ⟨g,hg,if_pos rfl⟩))
    ·by_cases q:a=g
     ·rw [if_pos q,q];exact ⟨hcg,d1⟩
     ·rw [if_neg q];exact f1' a ha
    ·by_cases q:a=g
     ·by_cases q2:b=g
      ·rw [q,q2]
      ·rw [if_pos q,if_neg q2] at e;exact absurd e.symm (d2 b hb')
     ·by_cases q2:b=g
      ·rw [if_neg q,if_pos q2] at e;exact absurd e (d2 a ha)
      ·rw [if_neg q,if_neg q2] at e;exact f2 a ha b hb' e
 ·rintro ⟨l,l1,l2,l3,l4⟩
  have ln:l.Nodup:=(Ee.mp l2).2.1
  have dis:∀x∈l,x∉told:=λx hx z=>(Ee.mp l2).2.2 x z x hx rfl
  have ex:∀a:Int,∃z:Int,a∈rest->(a,z)∈rest.zip l:=λa=>by
   by_cases q:a∈rest
   ·obtain ⟨i,hi,e⟩:=D0 q
    refine ⟨l[i]'(by omega),λ_=>?_⟩
    have:(rest.zip l)[i]'(by rw [KQ];omega)=(a,l[i]'(by omega)):=by rw [Jx,e]
    rw [<-this];exact HB _
   ·exact ⟨0,λz=>absurd z q⟩
  have hs:=λa=>ED (ex a)
  refine ⟨⟨λa=>Dm (ex a),λg hg=>(hw g hg _).mpr ⟨l3 _ (hs g hg),dis _ (KP (hs g hg)).2⟩,λa ha b hb' e=>?_⟩,?_⟩
  ·have e:Dm (ex a)=Dm (ex b):=e
   have h1:=hs a ha;rw [e] at h1;exact bv ln h1 (hs b hb')
  ·rcases BB.mp l4 with q | q
   ·exact .inl q
   ·obtain ⟨i,hi,e⟩:=D0 q
    have m:(rest[i]'(by omega),c)∈rest.zip l:=by
     have:(rest.zip l)[i]'(by rw [KQ];omega)=(rest[i]'(by omega),c):=by rw [Jx,e]
     rw [<-this];exact HB _
    exact .inr ⟨rest[i]'(by omega),HB _,l3 _ m⟩
theorem lj (h:QS o us) {told rest:List Int} {c:Int} (ht:∀x∈told,0<=x/\x < o) (hr:∀g∈rest,0<=g/\g < o) (hnd:rest.Nodup) (htn:told.Nodup) (hc:0<=c/\c < o) (hrl:rest.length<=100):Ok (LB (tkl o us) told rest c) λb=>b=true↔∃l,Ext us told rest c l:=by
 have sm:=h.sm;unfold LB K9;simp only [AG];rw [FZ (f:=λg=>decide (c∈Tg us g)) (by omega) λg hg=>by rw [ZQ (hr g hg).1 (hr g hg).2];rfl];simp only [AG]
 obtain ⟨r,e1,n,rfl,n1,n2⟩:=jT (l:=told) λx hx=>⟨(ht x hx).1,by have:=(ht x hx).2;omega⟩
 have hlen:((tkl o us).length:Int)=o:=by unfold tkl;rw [AH,Ho]
 rw [hlen,Qi o sm,e1];simp only [AG,Bm]
 have hbt:∀x:Int,0<=x->x < o->(hb (DN (1 * 2 ^ o - 1) (n:Int)) x=true↔x∉told):=λx x0 x1=>by
  obtain ⟨k,rfl⟩:∃k:Nat,x=k:=⟨x.toNat,by omega⟩
  rw [XX o sm n n1 k (by omega)];have:=n2 k (by omega)
  cases q:n.testBit k with
  | true=>simp [this.mp q]
  | false=>simp;exact λz=>by rw [this.mpr z] at q;cases q
 have key:=cm h hr hnd htn hc hbt
 have hT:(∀t∈tkl o us,t.length<=1000/\∀x∈t,0<=x)/\∀g∈rest,0<=g/\g < ((tkl o us).length:Int):=by
  refine ⟨λt htm=>?_,λg hg=>by rw [hlen];exact hr g hg⟩;obtain ⟨g,hg,rfl⟩:=A9.mp htm;obtain ⟨g0,g1⟩:=Ht.mp hg;have:=h.tg g0 (by omega);exact ⟨by omega,λx hx=>(this.2.1 x hx).1⟩
 have fs:=YH (T:=Tk (tkl o us)) (bits:=DN (1 * 2 ^ o - 1) (n:Int)) (U:=LR 0 o) (Gd:=λg=>0<=g/\g < o) (n:=9) (gs:=rest) (λg hg x hx=>by
  rw [ZR hg.1 hg.2] at hx;have:=(h.tg hg.1 hg.2).2.1 x hx
  exact Ht.mpr ⟨this.1,by omega⟩) (by rw [Ho];omega) (by rw [Ho];omega) (λg hg=>⟨hr g hg,by rw [ZR (hr g hg).1 (hr g hg).2];exact Py.mpr (.inl rfl)⟩) hnd
 have pf:Rf (tkl o us) rest (DN (1 * 2 ^ o - 1) (n:Int))=Qx (Tk (tkl o us)) (DN (1 * 2 ^ o - 1) (n:Int)) 9 rest:=if_pos hT;rw [pf];obtain ⟨b,e2,hb2⟩:=fs;rw [e2];simp only [AG]
 have hany:((rest.map λg=>decide (c∈Tg us g)).any id)=true↔∃g∈rest,c∈Tg us g:=by
  rw [UR,HC];exact ⟨λ⟨g,hg,e⟩=>⟨g,hg,of_decide_eq_true e⟩,λ⟨g,hg,e⟩=>⟨g,hg,decide_eq_true e⟩⟩
 by_cases d1:c∈told
 ·rw [decide_eq_true d1]
  exact ⟨b,rfl,(hb2.trans ⟨λq=>⟨q,.inl d1⟩,λq=>q.1⟩).trans key⟩
 ·rw [decide_eq_false d1]
  cases q:(rest.map λg=>decide (c∈Tg us g)).any id with
  | true=>exact ⟨b,rfl,(hb2.trans ⟨λz=>⟨z,.inr (hany.mp q)⟩,λz=>z.1⟩).trans key⟩
  | false=>
   refine ⟨false,rfl,⟨λz=>(by cases z),λz=>?_⟩⟩
   rcases (key.mpr z).2 with z | z
   ·exact absurd z d1
   ·rw [hany.mpr z] at q;cases q
end
end M
namespace M
open PySem L2 L4
open Srt (ltL)
theorem Ts:∀a:List Int,ltL a a=false
 | []=>rfl
 | x :: a=>by unfold ltL;rw [if_pos rfl];exact Ts a
theorem Pd:∀ {a b:List Int} (p q:Int),a.length=b.length->(ltL a b=true∨(a=b/\p < q))->ltL (a++[p]) (b++[q])=true
 | [],[],p,q,_,h=>by
  rcases h with h | ⟨_,h⟩
  ·cases h
  ·show (if p=q then ltL [] [] else decide (p < q))=true
   rw [if_neg (by omega),decide_eq_true h]
 | x :: a,y :: b,p,q,hl,h=>by
  show (if x=y then ltL (a++[p]) (b++[q]) else decide (x < y))=true
  by_cases c:x=y
  ·rw [if_pos c]
   refine Pd p q (by simpa using hl) ?_
   rcases h with h | ⟨h,h2⟩
   ·have h:(if x=y then ltL a b else decide (x < y))=true:=h
    rw [if_pos c] at h;exact .inl h
   ·exact .inr ⟨(Yn h).2,h2⟩
  ·rw [if_neg c]
   rcases h with h | ⟨h,h2⟩
   ·have h:(if x=y then ltL a b else decide (x < y))=true:=h
    rw [if_neg c] at h;exact h
   ·exact absurd (Yn h).1 c
 | [],_ :: _,_,_,hl,_=>by simp at hl
 | _ :: _,[],_,_,hl,_=>by simp at hl
section
variable {o:Nat} {us:List (Int×Int)}
def MA (us:List (Int×Int)) (gs:List Int) (c:Int) (r:List Int):Prop:=r.length=gs.length/\r.Nodup/\(∀y∈gs.zip r,y.2∈Tg us y.1)/\c∈r
def W0 (us:List (Int×Int)) (gs:List Int) (c:Int) (r:List Int):Bool:=@decide (∃l,MA us gs c (r++l)) (P2 _)
theorem Ni {gs r:List Int} {c:Int}:W0 us gs c r=true↔∃l,MA us gs c (r++l):=by
 unfold W0;exact @decide_eq_true_iff _ (P2 _)
def nxt (us:List (Int×Int)) (gs:List Int) (c:Int) (g:Int) (t:List Int):List (List Int):=(((Tg us g).filter λp=>!decide (p∈t)).map λp=>t++[p]).filter (W0 us gs c)
theorem Ro (h:QS o us) {gs:List Int} {c g:Int} (h0:0<=g) (h1:g < o) (t:List Int):(nxt us gs c g t).length<=7:=by
 unfold nxt;refine Al (Ck _ _) ?_;rw [AH];exact Al (Ck _ _) (h.tg h0 h1).1
theorem Oe {gs:List Int} {c g:Int} {t r:List Int}:r∈nxt us gs c g t↔∃p,r=t++[p]/\p∈Tg us g/\p∉t/\∃l,MA us gs c (r++l):=by
 unfold nxt;rw [BA,A9]
 constructor
 ·rintro ⟨⟨p,hp,rfl⟩,hd⟩
  obtain ⟨p1,p2⟩:=BA.mp hp;exact ⟨p,rfl,p1,by simpa using p2,Ni.mp hd⟩
 ·rintro ⟨p,rfl,p1,p2,l⟩
  exact ⟨⟨p,BA.mpr ⟨p1,by simpa using p2⟩,rfl⟩,Ni.mpr l⟩
structure Bg (us:List (Int×Int)) (gs:List Int) (c:Int) (k:Nat) (B:List (List Int)):Prop where
 mem:∀t,t∈B↔t.length=k/\(k=0∨∃l,MA us gs c (t++l))
 up:B.Pairwise λa b=>ltL a b=true
 ln:B.length<=7 ^ k
theorem bu {gs t l:List Int} {i:Nat} {g p:Int} (hg:gs[i]?=some g) (ht:t.length=i):(g,p)∈gs.zip (t++[p]++l):=by
 have h1:(gs.zip (t++[p]++l))[i]?=some (g,p):=by
  rw [RE];refine ⟨hg,?_⟩;rw [Ah (by rw [AW,Av];omega),A8 (by omega),ht,Ue];rfl
 exact CT h1
theorem Bg.step (h:QS o us) {gs:List Int} {c:Int} {k:Nat} {B:List (List Int)} {g:Int} (hB:Bg us gs c k B) (hg:gs[k]?=some g) (h0:0<=g) (h1:g < o):Bg us gs c (k+1) (B.flatMap (nxt us gs c g)):=by
 refine ⟨λr=>?_,?_,?_⟩
 ·rw [Jw]
  constructor
  ·rintro ⟨t,ht,hr⟩
   obtain ⟨p,rfl,p1,p2,l,hl⟩:=Oe.mp hr;exact ⟨by rw [AW,((hB.mem t).mp ht).1];rfl,.inr ⟨l,hl⟩⟩
  ·rintro ⟨hr,q⟩
   obtain ⟨l,hl⟩:∃l,MA us gs c (r++l):=q.elim (λz=>(by cases z)) id
   have hne:r≠[]:=λz=>by rw [z] at hr;cases hr
   refine ⟨r.dropLast,(hB.mem _).mpr ⟨by rw [LX,hr];rfl,.inr ⟨[r.getLast hne]++l,?_⟩⟩,Oe.mpr ⟨r.getLast hne,(C6 hne).symm,?_,?_,l,hl⟩⟩
   ·rw [<-BP,C6 hne];exact hl
   ·have:=bu (l:=l) (p:=r.getLast hne) (t:=r.dropLast) hg (by rw [LX,hr];rfl)
    rw [C6 hne] at this;exact hl.2.2.1 _ this
   ·have nd:=hl.2.1
    rw [<-C6 hne,BP] at nd;intro z;exact (Ee.mp nd).2.2 _ z _ (by simp) rfl
 ·have key:∀L:List (List Int),L.Pairwise (λa b=>ltL a b=true)->(∀t∈L,t.length=k)->(L.flatMap (nxt us gs c g)).Pairwise λa b=>ltL a b=true:=by
   intro L
   induction L with
   | nil=>intro _ _;exact Qd
   | cons t L ih=>
    intro hp hl;rw [C3,BG];refine ⟨?_,ih (M6.mp hp).2 λs hs=>hl s (Aa _ hs),λa ha b hb'=>?_⟩
    ·unfold nxt
     refine j9 _ ?_;rw [Bk]
     refine ((h.tg h0 h1).2.2.filter _).imp λ{a b} hab=>Pd a b rfl (.inr ⟨rfl,hab⟩)
    ·obtain ⟨p,rfl,_⟩:=Oe.mp ha
     obtain ⟨s,hs,hb2⟩:=Jw.mp hb';obtain ⟨q,rfl,_⟩:=Oe.mp hb2;exact Pd p q (by rw [hl t Ax,hl s (Aa _ hs)]) (.inl ((M6.mp hp).1 s hs))
  exact key B hB.up λt ht=>((hB.mem t).mp ht).1
 ·have key:∀L:List (List Int),(L.flatMap (nxt us gs c g)).length<=7 * L.length:=by
   intro L
   induction L with
   | nil=>simp
   | cons t L ih=>
    rw [C3,AW,As];have:=Ro h (gs:=gs) (c:=c) h0 h1 t;omega
  have:=key B;have:=hB.ln;rw [j6];omega
theorem YQ {gs:List Int} {pre:List (Int×Int)} {x:Int×Int} (h:pre++[x] <+: Ko gs):∃g,gs[pre.length]?=some g/\x=(((pre.length+1:Nat):Int),g):=by
 obtain ⟨r,hr⟩:=h;have h1:=congrArg (λz=>z[pre.length]?) hr;simp only [BP,A8 (AU _),Ue] at h1;rw [show ([x]++r)[0]?=some x from rfl] at h1;unfold Ko at h1;rw [Ap,WF] at h1
 cases q:gs[pre.length]? with
 | none=>rw [q] at h1;cases h1
 | some g=>rw [q] at h1;simp at h1;exact ⟨g,rfl,by rw [h1];simp⟩
theorem Kz {gs a b:List Int} (h:a.length<=gs.length) (y:Int×Int):y∈gs.zip (a++b)↔y∈gs.zip a∨y∈(gs.drop a.length).zip b:=by
 have h1:gs.zip (a++b)=(gs.take a.length).zip a++(gs.drop a.length).zip b:=by
  conv=>lhs;rw [<-DW a.length gs]
  exact KO (by rw [DQ];omega)
 have h2:gs.zip a=(gs.take a.length).zip a:=by
  have:gs.zip (a++[])=(gs.take a.length).zip a++(gs.drop a.length).zip []:=by
   conv=>lhs;rw [<-DW a.length gs]
   exact KO (by rw [DQ];omega)
  rw [A5,IN,A5] at this;exact this
 rw [h1,h2,BB]
theorem av {gs t l:List Int} {c:Int} (ht:t.length<=gs.length) (hz:∀y∈gs.zip t,y.2∈Tg us y.1):Ext us t (gs.drop t.length) c l↔MA us gs c (t++l):=by
 unfold Ext MA;rw [AW,E6];refine ⟨λ⟨a,b,d,e⟩=>⟨by omega,b,λy hy=>?_,e⟩,λ⟨a,b,d,e⟩=>⟨by omega,b,λy hy=>d y ((Kz ht y).mpr (.inr hy)),e⟩⟩
 rcases (Kz ht y).mp hy with q | q
 ·exact hz y q
 ·exact d y q
theorem MA.rg (h:QS o us) {gs r:List Int} {c:Int} (hg:∀g∈gs,0<=g/\g < o) (hr:MA us gs c r):∀x∈r,0<=x/\x < o:=λx hx=>by
 obtain ⟨i,hi,rfl⟩:=D0 hx
 have hi':i < gs.length:=by rw [<-hr.1];exact hi
 have m:(gs[i],r[i])∈gs.zip r:=by
  have:(gs.zip r)[i]'(by rw [KQ];omega)=(gs[i],r[i]):=Jx;rw [<-this];exact HB _
 have:=hg gs[i] (HB _);exact (h.tg this.1 this.2).2.1 _ (hr.2.2.1 _ m)
theorem ll (h:QS o us) {gs:List Int} {c:Int} (hg:∀g∈gs,0<=g/\g < o) (hnd:gs.Nodup) (hl:gs.length<=6) (hc:0<=c/\c < o) (h0:gs≠[]):Ok (Dv (o,us) gs c) λB=>(∀r,r∈B↔MA us gs c r)/\(B.Pairwise λa b=>ltL a b=true)/\B.length<=7 ^ gs.length:=by
 unfold Dv Ez;simp only [AG];rw [cY h];simp only [AG,Bm,lc,eI];refine OkF.out (OkF.seq (OkF.for (λpre s=>Bg us gs c pre.length s) ⟨λt=>?_,by simp,AU _⟩ ?_) ?_)
 ·rw [Ag]
  exact ⟨λe=>⟨by rw [e];rfl,.inl rfl⟩,λe=>Br e.1⟩
 ·intro pre x s hx hp hB
  obtain ⟨g,eg,rfl⟩:=YQ hp;have hgm:=hg g (CT eg);have hkl:pre.length < gs.length:=(AM.mp eg).1;rw [bJ gs (by omega),ZQ hgm.1 hgm.2];simp only [AG];have h7:(7:Nat) ^ pre.length<=16807:=Al (HV (by decide) (show pre.length<=5 by omega)) (by decide);have hBl:=hB.ln;refine OkF.seq (N:=λs'=>s'=s.flatMap (nxt us gs c g)) (OkF.for (λp2 s2=>s2=p2.flatMap (nxt us gs c g)) rfl ?_) ?_
  ·rintro p2 t s2 ht hp2 rfl
   have hp2l:=hp2.length_le;rw [AW,Av] at hp2l;obtain ⟨tl,tf⟩:=(hB.mem t).mp ht
   have tv:t.Nodup/\(∀y∈gs.zip t,y.2∈Tg us y.1)/\∀x∈t,0<=x/\x < o:=by
    rcases tf with tf | ⟨l,hl'⟩
    ·rw [tf] at tl
     have:=Br tl;subst this;exact ⟨IQ,by simp,λx hx=>(nomatch hx)⟩
    ·exact ⟨(Ee.mp hl'.2.1).1,λy hy=>hl'.2.2.1 y ((Kz (by omega) y).mpr (.inl hy)),λx hx=>hl'.rg h hg x (Bq _ hx)⟩
   have t7:=h.tg hgm.1 hgm.2;rw [M1 (P:=λp=>!decide (p∈t)) (f:=λp=>t++[p]) (by omega) (λ_ _=>rfl) λp _ _=>LL (by rw [Av];omega)];simp only [AG,Bm]
   rw [IB (P:=W0 us gs c) (by rw [AH];exact Al (Ck _ _) (by have:=t7.1;omega)) λr hr=>by
    obtain ⟨p,hp',rfl⟩:=A9.mp hr;obtain ⟨p1,p2'⟩:=BA.mp hp'
    have p2:p∉t:=by simpa using p2'
    have lt1:(t++[p]).length=pre.length+1:=by rw [AW,tl];rfl
    have hz:∀y∈gs.zip (t++[p]),y.2∈Tg us y.1:=λy hy=>by
     rcases (Kz (by omega) y).mp hy with q | q
     ·exact tv.2.1 y q
     ·rw [tl,CH hkl] at q
      rw [IP,IN,Ag] at q;rw [q,show gs[pre.length]=g from by rw [B0 hkl] at eg;exact Cr eg];exact p1
    obtain ⟨b,e1,hb'⟩:=lj h (told:=t++[p]) (rest:=gs.drop (pre.length+1)) (c:=c) (λx hx=>by
     rcases BB.mp hx with q | q
     ·exact tv.2.2 x q
     ·rw [Ag.mp q];exact t7.2.1 p p1) (λx hx=>hg x (List.mem_of_mem_drop hx)) (hnd.sublist (Yw _ _)) (by
     unfold HD;rw [BG]
     exact ⟨tv.1,by simp,λa ha b hb2 e=>p2 (by rw [Ag.mp hb2] at e;rw [<-e];exact ha)⟩) hc (by rw [E6];omega)
    rw [e1]
    have this:∀l,Ext us (t++[p]) (gs.drop (pre.length+1)) c l↔MA us gs c (t++[p]++l):=λl=>by
     have:=av (us:=us) (c:=c) (t:=t++[p]) (gs:=gs) (l:=l) (by omega) hz;rw [lt1] at this;exact this
    congr 1
    rw [P3,hb',Ni]
    exact ⟨λ⟨l,q⟩=>⟨l,(this l).mp q⟩,λ⟨l,q⟩=>⟨l,(this l).mpr q⟩⟩]
   simp only [AG]
   have key:∀L:List (List Int),(L.flatMap (nxt us gs c g)).length<=7 * L.length:=by
    intro L
    induction L with
    | nil=>simp
    | cons t L ih=>
     rw [C3,AW,As];have:=Ro h (gs:=gs) (c:=c) hgm.1 hgm.2 t;omega
   have k1:=key p2;have k2:=Ro h (gs:=gs) (c:=c) hgm.1 hgm.2 t;unfold nxt at k2;rw [LL (by omega)];refine .nx ?_;show p2.flatMap (nxt us gs c g)++_=(p2++[t]).flatMap (nxt us gs c g);rw [MP,C3,bY,A5];rfl
  ·rintro s' rfl
   refine .nx ?_;show Bg us gs c (pre++[_]).length _;rw [AW,Av];exact hB.step h eg hgm.1 hgm.2
 ·intro s hB
  have hlen:(Ko gs).length=gs.length:=by unfold Ko;rw [AH,List.length_zipIdx]
  rw [hlen] at hB;refine .rt ⟨λr=>?_,hB.up,hB.ln⟩;rw [hB.mem r]
  constructor
  ·rintro ⟨h1,h2⟩
   rcases h2 with h2 | ⟨l,h2⟩
   ·exact absurd (Br h2) h0
   ·have:l=[]:=Br (by have:=h2.1;rw [AW] at this;omega)
    rw [this,A5] at h2;exact h2
  ·intro h1
   exact ⟨h1.1,.inr ⟨[],by rw [A5];exact h1⟩⟩
end
end M
namespace M
open PySem L2 L4
open Srt (ltL)
theorem Pb {us:List (Int×Int)} {x:Nat} {z:Int}:z∈CY us x↔((x:Int),z)∈us∨(z,(x:Int))∈us:=by
 rw [<-PY];exact K8.symm
theorem Qq {x:Nat}:∀ {us:List (Int×Int)},us.Nodup->(∀t∈us,t.1 < t.2)->(CY us x).Nodup
 | [],_,_=>IQ
 | t :: us,h,h1=>by
  have ih:=Qq (x:=x) (Bw.mp h).2 λs hs=>h1 s (Aa _ hs)
  have nt:=(Bw.mp h).1;have lt:=h1 t Ax
  have e:CY (t :: us) x=((if t.1=(x:Int) then [t.2] else [])++(if t.2=(x:Int) then [t.1] else []))++CY us x:=by
   unfold CY;rw [C3]
  rw [e]
  have lt':∀a b:Int,(a,b)∈us->a < b:=λa b hm=>h1 _ (Aa _ hm)
  by_cases c1:t.1=(x:Int)
  ·rw [if_pos c1,if_neg (by omega),A5]
   show (t.2 :: CY us x).Nodup;rw [Bw];refine ⟨λz=>?_,ih⟩
   rcases Pb.mp z with z | z
   ·rw [<-c1] at z;exact nt z
   ·have:=lt' _ _ z;omega
  ·rw [if_neg c1,bq]
   by_cases c2:t.2=(x:Int)
   ·rw [if_pos c2]
    show (t.1 :: CY us x).Nodup;rw [Bw];refine ⟨λz=>?_,ih⟩
    rcases Pb.mp z with z | z
    ·have:=lt' _ _ z;omega
    ·rw [<-c2] at z;exact nt z
   ·rw [if_neg c2];exact ih
section
variable {o:Nat} {ts:List (Int×Int)}
theorem KF.ties (h:KF o ts) (ho:o < 8):QS o (Fd ts):=by
 have rg:∀g:Int,0<=g->g < o->∀x∈nr (Fd ts) g.toNat,0<=x/\x < o/\x≠g:=λg h0 h1 x hx=>by
  rw [PY,h.mem,h.mem,D1 h0] at hx
  rcases hx with hx | hx
  ·have:0<=g/\g < x/\x < o:=h.rg _ hx;omega
  ·have:0<=x/\x < g/\g < o:=h.rg _ hx;omega
 have nd:∀g:Int,0<=g->g < o->(nr (Fd ts) g.toNat).Nodup:=λg _ _=>by
  refine (FN _).nodup_iff.mpr (Qq ?_ λt ht=>?_)
  ·rw [(NM ts).nodup_iff,h.nrm];exact h.nd
  ·exact (h.rg t (h.mem.mp ht)).2.1
 refine ⟨ho,λg h0 h1=>?_,rg,nd⟩;have n2:(g :: nr (Fd ts) g.toNat).Nodup:=Bw.mpr ⟨λz=>(rg g h0 h1 g z).2.2 rfl,nd g h0 h1⟩
 have:=NY (k:=LR 0 o) n2 λx hx=>by
  rw [Ht]
  rcases Ay.mp hx with rfl | hx
  ·omega
  ·have:=rg g h0 h1 x hx;omega
 rw [Ho,As] at this;omega
theorem ip (h:KF o ts) (y:Int):(lnr ts y).Nodup:=by
 unfold lnr HD;rw [Bk]
 refine (h.nd.filter _).imp_of_mem λ{a b} ha hb' ne e=>ne ?_
 obtain ⟨a1,a2⟩:=BA.mp ha;obtain ⟨b1,b2⟩:=BA.mp hb';have a2:=of_decide_eq_true a2;have b2:=of_decide_eq_true b2;have ra:=h.rg a a1;have rb:=h.rg b b1;simp only [Ay,E5,or_false] at a2 b2
 refine QW ?_ ?_ <;> omega
theorem gu (h:KF o ts) (g:Int):([g]++Db (lnr ts g)).Nodup:=by
 show (g :: Db (lnr ts g)).Nodup;rw [Bw,(FN _).nodup_iff,K8,Wm];refine ⟨λz=>?_,ip h g⟩
 rcases z with z | z <;> (have:=h.rg _ z;omega)
theorem cf (h:KF o ts) {g x:Int} (h0:0<=g):x∈[g]++Db (lnr ts g)↔x∈Tg (Fd ts) g:=by
 rw [Py,h.near h0];simp
structure Rw (us:List (Int×Int)) (gs:List Int) (s:List (List Int)):Prop where
 mem:∀r,r∈s↔r.length=gs.length/\r.Nodup/\∀y∈gs.zip r,y.2∈Tg us y.1
 nd:s.Nodup
 ln:s.length<=7 ^ gs.length
theorem U4 {r:List Int} {n:Nat} (h:r.length=n+1):∃t p,r=t++[p]/\t.length=n:=by
 have hne:r≠[]:=λz=>by rw [z] at h;cases h
 exact ⟨r.dropLast,r.getLast hne,(C6 hne).symm,by rw [LX,h];rfl⟩
theorem PZ {t:List Int} {p:Int}:(t++[p]).Nodup↔t.Nodup/\p∉t:=by
 unfold HD;rw [BG]
 constructor
 ·rintro ⟨a,-,c⟩
  exact ⟨a,λz=>c p z p (by simp) rfl⟩
 ·rintro ⟨a,b⟩
  exact ⟨a,by simp,λx hx y hy e=>b (by rw [Ag.mp hy] at e;rw [<-e];exact hx)⟩
def lnx (v:List Int) (r:List Int):List (List Int):=(v.filter λp=>!decide (p∈r)).map λp=>r++[p]
theorem Og {v r t:List Int}:t∈lnx v r↔∃p,t=r++[p]/\p∈v/\p∉r:=by
 unfold lnx;rw [A9]
 constructor
 ·rintro ⟨p,hp,rfl⟩
  obtain ⟨p1,p2⟩:=BA.mp hp;exact ⟨p,rfl,p1,by simpa using p2⟩
 ·rintro ⟨p,rfl,p1,p2⟩
  exact ⟨p,BA.mpr ⟨p1,by simpa using p2⟩,rfl⟩
theorem Wl {v r:List Int}:(lnx v r).length<=v.length:=by
 unfold lnx;rw [AH];exact Ck _ _
theorem Pe {v:List Int} (hv:v.length<=7):∀L:List (List Int),(L.flatMap (lnx v)).length<=7 * L.length
 | []=>by simp
 | t :: L=>by
  rw [C3,AW,As];have:=Pe hv L;have:=Wl (v:=v) (r:=t);omega
theorem Rw.step {us:List (Int×Int)} {gs v:List Int} {g:Int} {s:List (List Int)} (h:Rw us gs s) (hv:∀x,x∈v↔x∈Tg us g) (hn:v.Nodup) (hl:v.length<=7):Rw us (gs++[g]) (s.flatMap (lnx v)):=by
 refine ⟨λr=>?_,?_,?_⟩
 ·rw [Jw]
  constructor
  ·rintro ⟨t,ht,hr⟩
   obtain ⟨p,rfl,p1,p2⟩:=Og.mp hr;obtain ⟨a,b,c⟩:=(h.mem t).mp ht;refine ⟨by rw [AW,AW,a];rfl,PZ.mpr ⟨b,p2⟩,λy hy=>?_⟩;rw [KO a.symm] at hy
   rcases BB.mp hy with hy | hy
   ·exact c y hy
   ·rw [IP,IN,Ag] at hy
    rw [hy];exact (hv p).mp p1
  ·rintro ⟨a,b,c⟩
   rw [AW,Av] at a;obtain ⟨t,p,rfl,ht⟩:=U4 a;obtain ⟨b1,b2⟩:=PZ.mp b;rw [KO ht.symm] at c;refine ⟨t,(h.mem t).mpr ⟨ht,b1,λy hy=>c y (Bq _ hy)⟩,Og.mpr ⟨p,rfl,(hv p).mpr (c (g,p) (A6 _ (by simp))),b2⟩⟩
 ·unfold HD
  rw [List.pairwise_flatMap];refine ⟨λt _=>?_,h.nd.imp λ{a b} ne x hx y hy e=>?_⟩
  ·unfold lnx
   rw [Bk]
   refine (hn.filter _).imp λ{a b} ne e=>ne ?_
   simpa using e
  ·obtain ⟨p,rfl,_⟩:=Og.mp hx
   obtain ⟨q,rfl,_⟩:=Og.mp hy;exact ne (List.append_inj' e rfl).1
 ·have:=Pe hl s
  have:=h.ln;rw [AW,Av,j6];omega
theorem iq (h:KF o ts) (ho:o < 8) {gs:List Int} {x:Int} (hg:∀g∈gs,0<=g/\g < o) (h0:gs≠[]) (hl:gs.length<=6) {B:List (List Int)} (hB:∀r,r∈B↔MA (Fd ts) gs x r) (hB2:B.Pairwise λa b=>ltL a b=true):Ft ts gs x "all" = some B:=by
 refine Ok.is ?_;unfold Ft Fo;simp only [AG];rw [decide_eq_false (show ¬(("all" : Str) = "one") by decide +kernel),if_neg AK];simp only [Bm,lc,eI,AG];refine OkF.out (OkF.seq (OkF.for (λpre s=>Rw (Fd ts) pre s) ⟨λr=>?_,by simp,AU _⟩ ?_) ?_)
 ·rw [Ag]
  exact ⟨λe=>by rw [e];exact ⟨rfl,IQ,by simp⟩,λe=>Br e.1⟩
 ·intro pre g s hgm hp hs
  have hpl:=hp.length_le;rw [AW,Av] at hpl;have hg':=hg g hgm;rw [dh (by have:=h.ln;omega)];simp only [AG,eI]
  have hvm:=λx=>cf h (g:=g) (x:=x) hg'.1
  have hvn:=gu h g
  have hv:([g]++Db (lnr ts g)).length<=7:=by
   have:=NY (k:=LR 0 o) hvn λx hx=>by
    have:=((h.ties ho).tg hg'.1 hg'.2).2.1 x ((hvm x).mp hx);rw [Ht];omega
   rw [Ho] at this;omega
  rw [LL (l:=[g]) (k:=Db (lnr ts g)) (by rw [<-AW];omega)];generalize [g]++Db (lnr ts g)=v at hv hvm hvn;simp only [AG,Bm];have h7:(7:Nat) ^ pre.length<=16807:=Al (HV (by decide) (show pre.length<=5 by omega)) (by decide);have hsl:=hs.ln;refine OkF.seq (N:=λs'=>s'=s.flatMap (lnx v)) (OkF.for (λp2 s2=>s2=p2.flatMap (lnx v)) rfl ?_) ?_
  ·rintro p2 r s2 hr hp2 rfl
   have hp2l:=hp2.length_le;rw [AW,Av] at hp2l;have hrl:=((hs.mem r).mp hr).1;rw [M1 (P:=λp=>!decide (p∈r)) (f:=λp=>r++[p]) (by omega) (λ_ _=>rfl) λp _ _=>LL (by rw [Av];omega)];simp only [AG];have k1:=Pe hv p2;have k2:=Wl (v:=v) (r:=r);unfold lnx at k2;rw [LL (by omega)];refine .nx ?_;show p2.flatMap (lnx v)++_=(p2++[r]).flatMap (lnx v);rw [MP,C3,bY,A5];rfl
  ·rintro s2 rfl
   exact .nx (hs.step hvm hvn hv)
 ·intro s hs
  have h7:(7:Nat) ^ gs.length<=117649:=Al (HV (by decide) hl) (by decide);have hsl:=hs.ln;rw [IB (P:=λr=>decide (x∈r)) (by omega) λ_ _=>rfl];simp only [AG]
  have hm:∀r,r∈s.filter (λr=>decide (x∈r))↔r∈B:=λr=>by
   rw [BA,hs.mem,hB,decide_eq_true_eq];exact ⟨λ⟨⟨a,b,c⟩,d⟩=>⟨a,b,c,d⟩,λ⟨a,b,c,d⟩=>⟨⟨a,b,c⟩,d⟩⟩
  have hnd:(s.filter λr=>decide (x∈r)).Nodup:=hs.nd.filter _
  have hne:∀r∈s.filter (λr=>decide (x∈r)),r≠[]:=λr hr z=>by
   have:=((hB r).mp ((hm r).mp hr)).1;rw [z] at this;exact h0 (Br this.symm)
  generalize s.filter (λr=>decide (x∈r))=f at hm hnd hne
  rw [show Lj f=some (Hm f) from if_pos (Cp.mpr λr hr=>by
   cases r with
   | nil=>exact absurd rfl (hne _ hr)
   | cons a r=>rfl)]
  refine .rt ?_
  have bn:B.Nodup:=hB2.imp λ{a b} ab e=>by rw [e,Ts] at ab;cases ab
  exact K7 ((D6 f).trans ((List.perm_ext_iff_of_nodup hnd bn).mpr hm)) (Kb f) (hB2.imp λ{a b} ab=>Srt.Ms a b ab)
end
end M
namespace M
open PySem L2 L4
open Srt (ltL)
section
variable {o:Nat} {us:List (Int×Int)}
theorem TX {gs:List Int} {c:Int} (h0:0<=c) (h1:c < o) (hc:c∉gs):E0 (o,us) gs c=some ():=by
 unfold E0 Ey;simp only [AG];rw [decide_eq_true h0,if_pos rfl,decide_eq_true h1];simp only [AG];rw [decide_eq_false hc];rfl
theorem iS {gs:List Int} {c:Int} (h0:0<=c) (h1:c < o) (hc:c∉gs) {B:List (List Int)} (e:Dv (o,us) gs c=some B):FU (o,us) gs c "all" = some B:=by
 unfold FU JH;simp only [AG];rw [TX h0 h1 hc];simp only [AG,Bm];rw [decide_eq_false (show ¬(("all" : Str) = "one") by decide +kernel),if_neg AK];simp only [Bm];rw [e];rfl
def PH (gs:List Int) (c x:Int):List Int:=gs.map λy=>if y=x then c else y
theorem fy {gs:List Int} (hl:gs.length<=1000000) (x c:Int):Ia gs x c=some (PH gs c x):=by
 unfold Ia IX;simp only [AG]
 rw [FZ (f:=λy=>if y=x then c else y) hl λy _=>by
  by_cases q:y=x
  ·rw [decide_eq_true q,if_pos rfl,if_pos q]
  ·rw [decide_eq_false q,if_neg AK,if_neg q]]
 rfl
theorem Xh {gs:List Int} {c x:Int} (hg:∀g∈gs,0<=g/\g < o) (hnd:gs.Nodup) (hc0:0<=c) (hc:c∉gs) (hx:x∈gs) (hn:x∈nr us c.toNat):MA us gs c (PH gs c x):=by
 unfold PH;refine ⟨AH _,?_,λy hy=>?_,A9.mpr ⟨x,hx,if_pos rfl⟩⟩
 ·unfold HD
  rw [Bk]
  refine hnd.imp_of_mem λ{a b} ha hb' ne e=>ne ?_
  by_cases q:a=x
  ·by_cases q2:b=x
   ·rw [q,q2]
   ·rw [if_pos q,if_neg q2] at e;exact absurd (e▸hb') hc
  ·by_cases q2:b=x
   ·rw [if_neg q,if_pos q2] at e;exact absurd (e▸ha) hc
   ·rw [if_neg q,if_neg q2] at e;exact e
 ·rw [Ox] at hy
  obtain ⟨g,hgm,rfl⟩:=A9.mp hy;show (if g=x then c else g)∈Tg us g
  by_cases q:g=x
  ·rw [if_pos q,q,Py]
   right
   rw [PY,D1 (hg x hx).1];rw [PY,D1 hc0] at hn;exact hn.symm
  ·rw [if_neg q,Py]
   exact .inl rfl
theorem kz {gs:List Int} {c:Int} (hg:∀g∈gs,0<=g/\g < o) (hnd:gs.Nodup) (hl:gs.length<=6) (hne:gs≠[]) (h0:0<=c) (h1:c < o) (hc:c∉gs):Ok (FU (o,us) gs c "one") λR=>(∀r∈R,MA us gs c r)/\R.length<=6:=by
 unfold FU JH;simp only [AG];rw [TX h0 h1 hc];simp only [AG,Bm];rw [if_pos (decide_eq_true trivial)];rw [IB (P:=λx=>decide (x∈nr us c.toNat)) (by omega) λx _=>by rw [aE h0 h1];rfl];simp only [AG,Bm];have hfl:(gs.filter λx=>decide (x∈nr us c.toNat)).length<=6:=Al (Ck _ _) hl;rw [FZ (f:=PH gs c) (by omega) λx _=>fy (by omega) x c];simp only [AG]
 have hF:∀r∈(gs.filter λx=>decide (x∈nr us c.toNat)).map (PH gs c),MA us gs c r:=λr hr=>by
  obtain ⟨x,hx,rfl⟩:=A9.mp hr;obtain ⟨x1,x2⟩:=BA.mp hx;exact Xh hg hnd h0 hc x1 (of_decide_eq_true x2)
 have hL:((gs.filter λx=>decide (x∈nr us c.toNat)).map (PH gs c)).length<=6:=by rw [AH];exact hfl
 generalize (gs.filter λx=>decide (x∈nr us c.toNat)).map (PH gs c)=f at hF hL
 rw [show Lj f=some (Hm f) from if_pos (Cp.mpr λr hr=>by
  have:=(hF r hr).1
  cases r with
  | nil=>exact absurd (Br this.symm) hne
  | cons a r=>rfl)]
 exact .pure ⟨λr hr=>hF r ((D6 f).mem_iff.mp hr),by rw [(D6 f).length_eq];exact hL⟩
theorem gk {l:List Int} (hl:l.length<=1000000):FH l=some true:=by
 unfold FH FF;simp only [AG];rw [show (!true)=false from rfl,if_neg AK];simp only [Bm,if_true,Bool.not_false];rw [FZ (f:=λ_=>true) hl λ_ _=>rfl];simp only [AG];rw [show (l.map λ_=>true).all id=true from Cp.mpr λx hx=>by obtain ⟨_,_,rfl⟩:=A9.mp hx;rfl];rfl
theorem cu {ts:List (Int×Int)} (h:KF o ts) (ho:o < 8) {gs:List Int} {c:Int} (hg:∀g∈gs,0<=g/\g < o) (hnd:gs.Nodup) (hl:gs.length<=6) (hne:gs≠[]) (h0:0<=c) (h1:c < o) (hc:c∉gs):Ha (o,Fd ts) ts gs c=some true:=by
 obtain ⟨B,eB,b1,b2,b3⟩:=ll (h.ties ho) hg hnd hl ⟨h0,h1⟩ hne;have eA:=iS h0 h1 hc eB;have eL:=iq h ho hg hne hl b1 b2;obtain ⟨R,eR,r1,r2⟩:=kz (us:=Fd ts) hg hnd hl hne h0 h1 hc;have h7:(7:Nat) ^ gs.length<=117649:=Al (HV (by decide) hl) (by decide);unfold Ha HZ;simp only [AG];rw [eA,eL,eR];simp only [AG,Bm];simp only [decide_true,Se,Cq,if_false,Bm,AG];rw [FZ (f:=λ_=>true) (by omega) λr hr=>gk (by have:=((b1 r).mp hr).1;omega)];simp only [AG];rw [show (B.map λ_=>true).all id=true from Cp.mpr λx hx=>by obtain ⟨_,_,rfl⟩:=A9.mp hx;rfl];rw [FZ (f:=λr=>aH r B) (by omega) λr hr=>rfl];simp only [AG]
 rw [show (R.map λr=>aH r B).all id=true from Cp.mpr λx hx=>by
  obtain ⟨r,hr,rfl⟩:=A9.mp hx
  exact decide_eq_true ((b1 r).mpr (r1 r hr))]
 rfl
end
theorem Xn:∀o:Nat,o < 8->∀g:Nat,g < 6->g<=o->1<=g->∃rs,G7 o g=some rs/\rs≠[]/\∀r∈rs,r.length=g/\(∀x∈r,0<=x/\x < o)/\r.Pairwise (· < ·):=by
 have h:∀o:Nat,o < 8->∀g:Nat,g < 6->g<=o->1<=g->(match G7 o g with | some rs=>decide (rs≠[])&&rs.all λr=>decide (r.length=g/\(∀x∈r,0<=x/\x < (o:Int))/\r.Pairwise (· < ·)) | none=>false)=true:=by decide +kernel
 intro o ho g hg hgo h1;have:=h o ho g hg hgo h1
 cases q:G7 o g with
 | none=>rw [q] at this;cases this
 | some rs=>
  rw [q] at this;have:=DR _ _▸this;exact ⟨rs,rfl,of_decide_eq_true this.1,λr hr=>of_decide_eq_true (Cp.mp this.2 r hr)⟩
theorem iF:∀o:Nat,o < 8->(prs o).Pairwise λa b=>ltL (Lp b) (Lp a)=false:=by decide +kernel
theorem Xe {o:Nat} (ho:o < 8) (P:Int×Int->Bool):Fd ((prs o).filter P)=(prs o).filter P:=by
 have ht:=WR ho P
 have e:((prs o).filter P).map (λx=>Lp (nrm x))=((prs o).filter P).map Lp:=Cd λx hx=>by rw [VU (ht.rg x hx).2.1]
 unfold Fd Im;rw [e,K7 (D6 _) (Kb _) (l':=((prs o).filter P).map Lp) (by rw [Bk];exact (iF o ho).filter _),BX]
 conv=>rhs;rw [<-Ov ((prs o).filter P)]
 exact Cd λx _=>cX x
theorem lM (ns:List Int) (hns:ns.length<=63):Z0 ns=some true:=by
 refine Ok.is (v:=true) ?_;unfold Z0 Wa;simp only [AG];rw [show Be ns 0=some (ns.getD 0 0) from Ps ns 0,show Be ns 1=some (ns.getD 1 0) from Ps ns 1,show Be ns 2=some (ns.getD 2 0) from Ps ns 2];simp only [AG,Bm]
 have ho:∃o:Nat,2<=o/\o < 8/\(2+ns.getD 0 0 % 5+if decide (ns.getD 0 0 / 84 % 8=1)=true then 1 else 0)=(o:Int):=
  ⟨(2+ns.getD 0 0 % 5+if decide (ns.getD 0 0 / 84 % 8=1)=true then 1 else 0).toNat,by split <;> omega,by split <;> omega,by split <;> omega⟩
 obtain ⟨o,o2,o8,eo⟩:=ho;rw [eo];obtain ⟨P,e1⟩:=gl ns hns 3 (by decide) o2 o8;rw [show G6 ns 3 o=_ from e1];have ht:=WR o8 P;have hself:=Xe o8 P;generalize (prs o).filter P=ts at ht hself;simp only [AG,Bm];obtain ⟨hs,e2,h2⟩:=aj ns (ts:=ts) (by have:=ht.ln;omega);rw [e2];simp only [AG]
 have hm:(0:Int) < (if (5:Int) < (o:Int) then (5:Int) else (o:Int)):=by split <;> omega
 rw [ht.web (by omega) (by omega) h2,Rq hm];simp only [AG,Bm]
 have hg:∃g:Nat,1<=g/\g < 6/\g<=o/\1+ns.getD 1 0 % (if (5:Int) < (o:Int) then (5:Int) else (o:Int))=(g:Int):=by
  have h1:=fC (ns.getD 1 0) (show (if (5:Int) < (o:Int) then (5:Int) else (o:Int))≠0 by omega);have h2:=Yz (ns.getD 1 0) hm
  have h3:(if (5:Int) < (o:Int) then (5:Int) else (o:Int))<=5/\(if (5:Int) < (o:Int) then (5:Int) else (o:Int))<=o:=by split <;> omega
  exact ⟨(1+ns.getD 1 0 % (if (5:Int) < (o:Int) then (5:Int) else (o:Int))).toNat,by omega,by omega,by omega,by omega⟩
 obtain ⟨g,g1,g6,go,eg⟩:=hg;rw [eg];obtain ⟨rs,e3,hr0,hr⟩:=Xn o o8 g g6 go g1;rw [e3];simp only [AG,Bm];rw [Rq (by have:=MN.mpr hr0;omega)];simp only [AG];obtain ⟨gs,e4,hgs⟩:=XD (l:=rs) (ns.getD 2 0) hr0;rw [e4];obtain ⟨q1,q2,q3⟩:=hr gs hgs;simp only [AG,Bm];rw [WX (by omega) (by omega),CM];simp only [AG]
 have hgs0:gs≠[]:=λz=>by rw [z] at q1;simp at q1;omega
 have hgnd:gs.Nodup:=q3.imp λh=>by omega
 refine OkF.out (OkF.seq (OkF.for (λ_ _=>True) trivial ?_) λ_ _=>?_)
 ·intro pre x _ hx _ _
  obtain ⟨x0,x1⟩:=Ht.mp hx
  refine OkF.map (N:=λ_=>True) ?_ λ_ _=>trivial
  by_cases q:x∈gs
  ·rw [decide_eq_true q,if_pos rfl,show Fq (o,Fd ts) gs x=some true from if_pos ⟨x0,by show x < (o:Int);omega,q⟩]
   exact .nx trivial
  ·rw [decide_eq_false q,if_neg AK,cu ht o8 q2 hgnd (by omega) hgs0 x0 (by omega) q]
   exact .nx trivial
 ·rw [hself,decide_eq_true rfl]
  exact .rt rfl
theorem good:∀(W:Wd),W.excs.Nodup->∀ns:List Int,ns.length<=63->∃S',W1 W [.fro (ns.map D.int)] []=.ok (.bl true) S':=λW _ ns h=>VF.law (by rw [<-lM ns h];exact kJ W ns)
end M
def PySem.W.Fast.tw13869744560735760860:Nat:=0
def PySem.W.Fast.tw4710014801348282549:Nat:=0
def PySem.W.Fast.tw7800852923138520881:Nat:=0
def PySem.W.Fast.tw376131291547018448:Nat:=0
def PySem.W.Fast.tw2590176440536249774:Nat:=0
def PySem.W.Fast.tw11166130734526200631:Nat:=0
def PySem.W.Fast.tw15780872497695055341:Nat:=0
def PySem.W.Fast.tw17716865679900878913:Nat:=0
def PySem.W.Fast.tw15298799354421485417:Nat:=0
def PySem.W.Fast.tw13891780707291761887:Nat:=0
def PySem.W.Fast.tw4579212564419816161:Nat:=0
def PySem.W.Fast.tw8540321855908586112:Nat:=0
def PySem.W.Fast.tw3872363841290938925:Nat:=0
def PySem.W.Fast.tw11128904106973567466:Nat:=0
def PySem.W.Fast.tw9545749188123763574:Nat:=0
def PySem.W.Fast.tw12148423147334490770:Nat:=0
def PySem.W.Fast.tw9475202229968304119:Nat:=0
def PySem.W.Fast.tw6589185165630826114:Nat:=0
def PySem.W.Fast.tw4468795855535596746:Nat:=0
def PySem.W.Fast.tw10868459620517015952:Nat:=0
def PySem.W.Fast.tw16476824154532348112:Nat:=0
def PySem.W.Fast.tw18067223143796888931:Nat:=0
def PySem.W.Fast.tw11017647276232979209:Nat:=0
def PySem.W.Fast.tw1406526661642340984:Nat:=0
def PySem.W.Fast.tw550861051826356430:Nat:=0
def PySem.W.Fast.tw9658059244650532175:Nat:=0
def PySem.W.Fast.tw11562052461439447543:Nat:=0
def PySem.W.Fast.tw1039525250153114216:Nat:=0
def PySem.W.Fast.tw8109196301116815462:Nat:=0
def PySem.W.Fast.tw10348536182682468527:Nat:=0
def PySem.W.Fast.tw17852673891607760264:Nat:=0
def PySem.W.Fast.tw7651842638029119771:Nat:=0
def PySem.W.Fast.tw8595042297869810691:Nat:=0
def PySem.W.Fast.tw832831301467704344:Nat:=0
def PySem.W.Fast.tw13288043155447806067:Nat:=0
def PySem.W.Fast.tw10552293834641361599:Nat:=0
def PySem.W.Fast.tw3223791930368595838:Nat:=0
def PySem.W.Fast.tw551821025239789359:Nat:=0
namespace M
open PySem PySem.Spec PyProof.Rows L2 PySem.W
theorem jV {l:OpenLaw} {w:BH} {K:Frag} {h:Bl} {mg:Str->Option AC} {fa:AI} (X:K.In h) (G:h.Ns Ac mg) (hfa:mg "law" = some (.ref fa))
  {f1 f2 f3 f4 f5 f6 f7 f8 f9 f10 f11 f12 f13 f14 f15 f16 f17 f18 f19 f20 f21 f22 f23 f24 f25 f26 cBadPlaces cBadTie cNoPlace cNoCall cWeb:AI} {tk_MOST_PLACES:Tok}
  {od1 an1 od2 an2 od3 an3 od4 an4 od5 an5 od6 an6 od7 an7 od8 an8 od9 an9 od10 an10 od11 an11 od12 an12 od13 an13 od14 an14 od15 an15 od16 an16 od17 an17 od18 an18 od19 an19 od20 an20 od21 an21 od22 an22 od23 an23 od24 an24 od25 an25 od26 an26:Option AI} {sl1 sl2 sl3 sl4 sl5 sl6 sl7 sl8 sl9 sl10 sl11 sl12 sl13 sl14 sl15 sl16 sl17 sl18 sl19 sl20 sl21 sl22 sl23 sl24 sl25 sl26:Array (Option AC)} {oc1 kV1 dc1 pm1 cd1 ct1 oc2 kV2 dc2 pm2 cd2 ct2 oc3 kV3 dc3 pm3 cd3 ct3 oc4 kV4 dc4 pm4 cd4 ct4 oc5 kV5 dc5 pm5 cd5 ct5 oc6 kV6 dc6 pm6 cd6 ct6 oc7 kV7 dc7 pm7 cd7 ct7 oc8 kV8 dc8 pm8 cd8 ct8 oc9 kV9 dc9 pm9 cd9 ct9 oc10 kV10 dc10 pm10 cd10 ct10 oc11 kV11 dc11 pm11 cd11 ct11 oc12 kV12 dc12 pm12 cd12 ct12 oc13 kV13 dc13 pm13 cd13 ct13 oc14 kV14 dc14 pm14 cd14 ct14 oc15 kV15 dc15 pm15 cd15 ct15 oc16 kV16 dc16 pm16 cd16 ct16 oc17 kV17 dc17 pm17 cd17 ct17 oc18 kV18 dc18 pm18 cd18 ct18 oc19 kV19 dc19 pm19 cd19 ct19 oc20 kV20 dc20 pm20 cd20 ct20 oc21 kV21 dc21 pm21 cd21 ct21 oc22 kV22 dc22 pm22 cd22 ct22 oc23 kV23 dc23 pm23 cd23 ct23 oc24 kV24 dc24 pm24 cd24 ct24 oc25 kV25 dc25 pm25 cd25 ct25 oc26 kV26 dc26 pm26 cd26 ct26:AC}
  (a_Web:nsIn K Ac "Web" = some (some (.ref cWeb)))
  (a_BadPlaces:nsIn K Ac "BadPlaces" = some (some (.ref cBadPlaces)))
  (a_BadTie:nsIn K Ac "BadTie" = some (some (.ref cBadTie)))
  (a_NoPlace:nsIn K Ac "NoPlace" = some (some (.ref cNoPlace)))
  (a_NoCall:nsIn K Ac "NoCall" = some (some (.ref cNoCall)))
  (a1:nsIn K Ac "checked_ties" = some (some (.ref f1)))
  (l1:K.lookup f1=some ⟨oc1,od1,.func (fnOf "checked_ties" "checked_ties" (Bv Dr) (Bi Dr) (Ai Dr) .none kV1 dc1 pm1 an1 cd1 ct1),sl1⟩)
  (k1c:codeIn K cd1 "checked_ties" = true)
  (k1:keepIn K (.ref f1)=true)
  (a2:nsIn K Ac "near_sets_of" = some (some (.ref f2)))
  (l2:K.lookup f2=some ⟨oc2,od2,.func (fnOf "near_sets_of" "near_sets_of" (Bv Dq) (Bi Dq) (Ai Dq) .none kV2 dc2 pm2 an2 cd2 ct2),sl2⟩)
  (k2c:codeIn K cd2 "near_sets_of" = true)
  (k2:keepIn K (.ref f2)=true)
  (a3:findIn K (.ref cWeb) "__init__" = some (some (.ref f3)))
  (i3:isFn K (.ref f3)=true)
  (l3:K.lookup f3=some ⟨oc3,od3,.func (fnOf "__init__" "Web.__init__" (Bv Gk) (Bi Gk) (Ai Gk) .none kV3 dc3 pm3 an3 cd3 ct3),sl3⟩)
  (k3c:codeIn K cd3 "Web.__init__" = true)
  (k3:keepIn K (.ref f3)=true)
  (a4:nsIn K Ac "refuse_no_place" = some (some (.ref f4)))
  (l4:K.lookup f4=some ⟨oc4,od4,.func (fnOf "refuse_no_place" "refuse_no_place" (Bv Cw) (Bi Cw) (Ai Cw) .none kV4 dc4 pm4 an4 cd4 ct4),sl4⟩)
  (k4c:codeIn K cd4 "refuse_no_place" = true)
  (k4:keepIn K (.ref f4)=true)
  (a5:nsIn K Ac "near" = some (some (.ref f5)))
  (l5:K.lookup f5=some ⟨oc5,od5,.func (fnOf "near" "near" (Bv NQ) (Bi NQ) (Ai NQ) .none kV5 dc5 pm5 an5 cd5 ct5),sl5⟩)
  (k5c:codeIn K cd5 "near" = true)
  (k5:keepIn K (.ref f5)=true)
  (a6:nsIn K Ac "takes_of" = some (some (.ref f6)))
  (l6:K.lookup f6=some ⟨oc6,od6,.func (fnOf "takes_of" "takes_of" (Bv Gj) (Bi Gj) (Ai Gj) .none kV6 dc6 pm6 an6 cd6 ct6),sl6⟩)
  (k6c:codeIn K cd6 "takes_of" = true)
  (k6:keepIn K (.ref f6)=true)
  (a7:nsIn K Ac "bits_of" = some (some (.ref f7)))
  (l7:K.lookup f7=some ⟨oc7,od7,.func (fnOf "bits_of" "bits_of" (Bv Hi) (Bi Hi) (Ai Hi) .none kV7 dc7 pm7 an7 cd7 ct7),sl7⟩)
  (k7c:codeIn K cd7 "bits_of" = true)
  (k7:keepIn K (.ref f7)=true)
  (a8:nsIn K Ac "settle" = some (some (.ref f8)))
  (l8:K.lookup f8=some ⟨oc8,od8,.func (fnOf "settle" "settle" (Bv JG) (Bi JG) (Ai JG) .none kV8 dc8 pm8 an8 cd8 ct8),sl8⟩)
  (k8c:codeIn K cd8 "settle" = true)
  (k8:keepIn K (.ref f8)=true)
  (a9:nsIn K Ac "fits" = some (some (.ref f9)))
  (l9:K.lookup f9=some ⟨oc9,od9,.func (fnOf "fits" "fits" (Bv NR) (Bi NR) (Ai NR) .none kV9 dc9 pm9 an9 cd9 ct9),sl9⟩)
  (k9c:codeIn K cd9 "fits" = true)
  (k9:keepIn K (.ref f9)=true)
  (a10:nsIn K Ac "refuse_no_call" = some (some (.ref f10)))
  (l10:K.lookup f10=some ⟨oc10,od10,.func (fnOf "refuse_no_call" "refuse_no_call" (Bv DF) (Bi DF) (Ai DF) .none kV10 dc10 pm10 an10 cd10 ct10),sl10⟩)
  (k10c:codeIn K cd10 "refuse_no_call" = true)
  (k10:keepIn K (.ref f10)=true)
  (a11:nsIn K Ac "can_end" = some (some (.ref f11)))
  (l11:K.lookup f11=some ⟨oc11,od11,.func (fnOf "can_end" "can_end" (Bv Hh) (Bi Hh) (Ai Hh) .none kV11 dc11 pm11 an11 cd11 ct11),sl11⟩)
  (k11c:codeIn K cd11 "can_end" = true)
  (k11:keepIn K (.ref f11)=true)
  (a12:nsIn K Ac "answers_of_all" = some (some (.ref f12)))
  (l12:K.lookup f12=some ⟨oc12,od12,.func (fnOf "answers_of_all" "answers_of_all" (Bv DG) (Bi DG) (Ai DG) .none kV12 dc12 pm12 an12 cd12 ct12),sl12⟩)
  (k12c:codeIn K cd12 "answers_of_all" = true)
  (k12:keepIn K (.ref f12)=true)
  (a13:nsIn K Ac "with_step" = some (some (.ref f13)))
  (l13:K.lookup f13=some ⟨oc13,od13,.func (fnOf "with_step" "with_step" (Bv FQ) (Bi FQ) (Ai FQ) .none kV13 dc13 pm13 an13 cd13 ct13),sl13⟩)
  (k13c:codeIn K cd13 "with_step" = true)
  (k13:keepIn K (.ref f13)=true)
  (a14:nsIn K Ac "answers" = some (some (.ref f14)))
  (l14:K.lookup f14=some ⟨oc14,od14,.func (fnOf "answers" "answers" (Bv Hj) (Bi Hj) (Ai Hj) .none kV14 dc14 pm14 an14 cd14 ct14),sl14⟩)
  (k14c:codeIn K cd14 "answers" = true)
  (k14:keepIn K (.ref f14)=true)
  (a15:nsIn K Ac "_law_cell_at" = some (some (.ref f15)))
  (l15:K.lookup f15=some ⟨oc15,od15,.func (fnOf "_law_cell_at" "_law_cell_at" (Bv Dt) (Bi Dt) (Ai Dt) .none kV15 dc15 pm15 an15 cd15 ct15),sl15⟩)
  (k15c:codeIn K cd15 "_law_cell_at" = true)
  (k15:keepIn K (.ref f15)=true)
  (a16:nsIn K Ac "_law_pairs" = some (some (.ref f16)))
  (l16:K.lookup f16=some ⟨oc16,od16,.func (fnOf "_law_pairs" "_law_pairs" (Bv Ex) (Bi Ex) (Ai Ex) .none kV16 dc16 pm16 an16 cd16 ct16),sl16⟩)
  (k16c:codeIn K cd16 "_law_pairs" = true)
  (k16:keepIn K (.ref f16)=true)
  (a17:nsIn K Ac "_law_first_ties" = some (some (.ref f17)))
  (l17:K.lookup f17=some ⟨oc17,od17,.func (fnOf "_law_first_ties" "_law_first_ties" (Bv Cy) (Bi Cy) (Ai Cy) .none kV17 dc17 pm17 an17 cd17 ct17),sl17⟩)
  (k17c:codeIn K cd17 "_law_first_ties" = true)
  (k17:keepIn K (.ref f17)=true)
  (a18:nsIn K Ac "_law_ties" = some (some (.ref f18)))
  (l18:K.lookup f18=some ⟨oc18,od18,.func (fnOf "_law_ties" "_law_ties" (Bv FR) (Bi FR) (Ai FR) .none kV18 dc18 pm18 an18 cd18 ct18),sl18⟩)
  (k18c:codeIn K cd18 "_law_ties" = true)
  (k18:keepIn K (.ref f18)=true)
  (a19:nsIn K Ac "_law_handed" = some (some (.ref f19)))
  (l19:K.lookup f19=some ⟨oc19,od19,.func (fnOf "_law_handed" "_law_handed" (Bv EL) (Bi EL) (Ai EL) .none kV19 dc19 pm19 an19 cd19 ct19),sl19⟩)
  (k19c:codeIn K cd19 "_law_handed" = true)
  (k19:keepIn K (.ref f19)=true)
  (a20:nsIn K Ac "_law_near" = some (some (.ref f20)))
  (l20:K.lookup f20=some ⟨oc20,od20,.func (fnOf "_law_near" "_law_near" (Bv FT) (Bi FT) (Ai FT) .none kV20 dc20 pm20 an20 cd20 ct20),sl20⟩)
  (k20c:codeIn K cd20 "_law_near" = true)
  (k20:keepIn K (.ref f20)=true)
  (a21:nsIn K Ac "_law_sets" = some (some (.ref f21)))
  (l21:K.lookup f21=some ⟨oc21,od21,.func (fnOf "_law_sets" "_law_sets" (Bv FS) (Bi FS) (Ai FS) .none kV21 dc21 pm21 an21 cd21 ct21),sl21⟩)
  (k21c:codeIn K cd21 "_law_sets" = true)
  (k21:keepIn K (.ref f21)=true)
  (a22:nsIn K Ac "_law_set_told" = some (some (.ref f22)))
  (l22:K.lookup f22=some ⟨oc22,od22,.func (fnOf "_law_set_told" "_law_set_told" (Bv Da) (Bi Da) (Ai Da) .none kV22 dc22 pm22 an22 cd22 ct22),sl22⟩)
  (k22c:codeIn K cd22 "_law_set_told" = true)
  (k22:keepIn K (.ref f22)=true)
  (a23:nsIn K Ac "_law_answers" = some (some (.ref f23)))
  (l23:K.lookup f23=some ⟨oc23,od23,.func (fnOf "_law_answers" "_law_answers" (Bv Du) (Bi Du) (Ai Du) .none kV23 dc23 pm23 an23 cd23 ct23),sl23⟩)
  (k23c:codeIn K cd23 "_law_answers" = true)
  (k23:keepIn K (.ref f23)=true)
  (a24:nsIn K Ac "_law_refused" = some (some (.ref f24)))
  (l24:K.lookup f24=some ⟨oc24,od24,.func (fnOf "_law_refused" "_law_refused" (Bv Ds) (Bi Ds) (Ai Ds) .none kV24 dc24 pm24 an24 cd24 ct24),sl24⟩)
  (k24c:codeIn K cd24 "_law_refused" = true)
  (k24:keepIn K (.ref f24)=true)
  (a25:nsIn K Ac "_law_right" = some (some (.ref f25)))
  (l25:K.lookup f25=some ⟨oc25,od25,.func (fnOf "_law_right" "_law_right" (Bv Ew) (Bi Ew) (Ai Ew) .none kV25 dc25 pm25 an25 cd25 ct25),sl25⟩)
  (k25c:codeIn K cd25 "_law_right" = true)
  (k25:keepIn K (.ref f25)=true)
  (a26:nsIn K Ac "law" = some (some (.ref f26)))
  (l26:K.lookup f26=some ⟨oc26,od26,.func (fnOf "law" "law" (Bv Qj) (Bi Qj) (Ai Qj) .none kV26 dc26 pm26 an26 cd26 ct26),sl26⟩)
  (k26c:codeIn K cd26 "law" = true)
  (k26:keepIn K (.ref f26)=true)
  (pg_Web:plainGet K cWeb UM=true)
  (hd_Web:hasDictIn K cWeb=true)
  (po_Web:plainOver K cWeb=true)
  (sa_Web:findIn K (.ref cWeb) "__setattr__" = some (some (.builtin "object.__setattr__")))
  (mk_Web:makesIn K cWeb=true)
  (kc_Web:keepIn K (.ref cWeb)=true)
  (n_Web_places:findIn K (.ref cWeb) "places" = some none)
  (n_Web_ties:findIn K (.ref cWeb) "ties" = some none)
  (n_Web_near_sets:findIn K (.ref cWeb) "near_sets" = some none)
  (sp:specialIn K (.builtin "object.__class__") "__get__" = some (some (.builtin "getset_descriptor.__get__")))
  (tk:takesIn K (.builtin "object.__class__")=some true)
  (xnd:([cBadPlaces,cBadTie,cNoPlace,cNoCall]:List AI).Nodup)
  (xo_BadPlaces:mroIn K cBadPlaces (.type "object")=some true)
  (xb_BadPlaces:mroIn K cBadPlaces (.type "BaseException")=some true)
  (xo_BadTie:mroIn K cBadTie (.type "object")=some true)
  (xb_BadTie:mroIn K cBadTie (.type "BaseException")=some true)
  (xo_NoPlace:mroIn K cNoPlace (.type "object")=some true)
  (xb_NoPlace:mroIn K cNoPlace (.type "BaseException")=some true)
  (xo_NoCall:mroIn K cNoCall (.type "object")=some true)
  (xb_NoCall:mroIn K cNoCall (.type "BaseException")=some true)
  (xt_NoCall:typeIn K (.ref cNoCall)=some (.type "type"))
  (xe_BadPlaces:excIn K cBadPlaces Pu "ValueError.__new__" = true)
  (xg_BadPlaces:findIn K (.ref cBadPlaces) "__getattribute__" = some (some (.builtin "BaseException.__getattribute__")))
  (xn_BadPlaces:findIn K (.ref cBadPlaces) "__getattr__" = some none)
  (xa_BadPlaces:findIn K (.ref cBadPlaces) "__class__" = some (some (.builtin "object.__class__")))
  (xe_BadTie:excIn K cBadTie Pu "ValueError.__new__" = true)
  (xg_BadTie:findIn K (.ref cBadTie) "__getattribute__" = some (some (.builtin "BaseException.__getattribute__")))
  (xn_BadTie:findIn K (.ref cBadTie) "__getattr__" = some none)
  (xa_BadTie:findIn K (.ref cBadTie) "__class__" = some (some (.builtin "object.__class__")))
  (xe_NoPlace:excIn K cNoPlace Pu "ValueError.__new__" = true)
  (xg_NoPlace:findIn K (.ref cNoPlace) "__getattribute__" = some (some (.builtin "BaseException.__getattribute__")))
  (xn_NoPlace:findIn K (.ref cNoPlace) "__getattr__" = some none)
  (xa_NoPlace:findIn K (.ref cNoPlace) "__class__" = some (some (.builtin "object.__class__")))
  (xe_NoCall:excIn K cNoCall Pu "ValueError.__new__" = true)
  (xg_NoCall:findIn K (.ref cNoCall) "__getattribute__" = some (some (.builtin "BaseException.__getattribute__")))
  (xn_NoCall:findIn K (.ref cNoCall) "__getattr__" = some none)
  (xa_NoCall:findIn K (.ref cNoCall) "__class__" = some (some (.builtin "object.__class__")))
  (xs_NoCall_NoCall:subIn K (.ref cNoCall) (.ref cNoCall)=some true)
  (z_all:nsIn K Ac "all" = some none)
  (z_any:nsIn K Ac "any" = some none)
  (z_bool:nsIn K Ac "bool" = some none)
  (z_enumerate:nsIn K Ac "enumerate" = some none)
  (z_int:nsIn K Ac "int" = some none)
  (z_isinstance:nsIn K Ac "isinstance" = some none)
  (z_len:nsIn K Ac "len" = some none)
  (z_list:nsIn K Ac "list" = some none)
  (z_max:nsIn K Ac "max" = some none)
  (z_min:nsIn K Ac "min" = some none)
  (z_range:nsIn K Ac "range" = some none)
  (z_reversed:nsIn K Ac "reversed" = some none)
  (z_sorted:nsIn K Ac "sorted" = some none)
  (z_tuple:nsIn K Ac "tuple" = some none)
  (g_MOST_PLACES:nsIn K Ac "MOST_PLACES" = some (some (.int 60 tk_MOST_PLACES)))
  : ∃(W:Wd) (T:Txt K mg W),fa=T.d_law.f/\W.excs.Nodup/\∀(s:AE) (v:AC),UU s T.d_law.fd ⟨[v],[]⟩ [("script",v)]:=by
 have F1:=Cu (st:=Dr) l1 k1c k1
 have b1:=F1.binds (ps:=["places", "ties"]) λ_ _ _ _ _ _ us hl=>by obtain ⟨a,b,rfl⟩:=QQ hl;rfl
 have F2:=Cu (st:=Dq) l2 k2c k2
 have b2:=F2.binds (ps:=["places", "ties"]) λ_ _ _ _ _ _ us hl=>by obtain ⟨a,b,rfl⟩:=QQ hl;rfl
 have F3:=Cu (st:=Gk) l3 k3c k3
 have b3:=F3.binds (ps:=["self", "places", "ties"]) λ_ _ _ _ _ _ us hl=>by obtain ⟨a,b,c,rfl⟩:=Tu hl;rfl
 have F4:=Cu (st:=Cw) l4 k4c k4
 have b4:=F4.binds (ps:=["web", "place"]) λ_ _ _ _ _ _ us hl=>by obtain ⟨a,b,rfl⟩:=QQ hl;rfl
 have F5:=Cu (st:=NQ) l5 k5c k5
 have b5:=F5.binds (ps:=["web", "place"]) λ_ _ _ _ _ _ us hl=>by obtain ⟨a,b,rfl⟩:=QQ hl;rfl
 have F6:=Cu (st:=Gj) l6 k6c k6
 have b6:=F6.binds (ps:=["web"]) λ_ _ _ _ _ _ us hl=>by obtain ⟨a,rfl⟩:=Ve hl;rfl
 have F7:=Cu (st:=Hi) l7 k7c k7
 have b7:=F7.binds (ps:=["some"]) λ_ _ _ _ _ _ us hl=>by obtain ⟨a,rfl⟩:=Ve hl;rfl
 have F8:=Cu (st:=JG) l8 k8c k8
 have b8:=F8.binds (ps:=["takes", "bits", "holders", "guard", "seen"]) λ_ _ _ _ _ _ us hl=>by obtain ⟨a,b,c,d,e,rfl⟩:=len5 hl;rfl
 have F9:=Cu (st:=NR) l9 k9c k9
 have b9:=F9.binds (ps:=["takes", "guards", "bits"]) λ_ _ _ _ _ _ us hl=>by obtain ⟨a,b,c,rfl⟩:=Tu hl;rfl
 have F10:=Cu (st:=DF) l10 k10c k10
 have b10:=F10.binds (ps:=["web", "standing", "call"]) λ_ _ _ _ _ _ us hl=>by obtain ⟨a,b,c,rfl⟩:=Tu hl;rfl
 have F11:=Cu (st:=Hh) l11 k11c k11
 have b11:=F11.binds (ps:=["takes", "told", "rest", "call"]) λ_ _ _ _ _ _ us hl=>by obtain ⟨a,b,c,d,rfl⟩:=aO hl;rfl
 have F12:=Cu (st:=DG) l12 k12c k12
 have b12:=F12.binds (ps:=["web", "standing", "call"]) λ_ _ _ _ _ _ us hl=>by obtain ⟨a,b,c,rfl⟩:=Tu hl;rfl
 have F13:=Cu (st:=FQ) l13 k13c k13
 have b13:=F13.binds (ps:=["standing", "guard", "place"]) λ_ _ _ _ _ _ us hl=>by obtain ⟨a,b,c,rfl⟩:=Tu hl;rfl
 have F14:=Cu (st:=Hj) l14 k14c k14
 have b14:=F14.binds (ps:=["web", "standing", "call", "kind"]) λ_ _ _ _ _ _ us hl=>by obtain ⟨a,b,c,d,rfl⟩:=aO hl;rfl
 have F15:=Cu (st:=Dt) l15 k15c k15
 have b15:=F15.binds (ps:=["script", "k"]) λ_ _ _ _ _ _ us hl=>by obtain ⟨a,b,rfl⟩:=QQ hl;rfl
 have F16:=Cu (st:=Ex) l16 k16c k16
 have b16:=F16.binds (ps:=["places"]) λ_ _ _ _ _ _ us hl=>by obtain ⟨a,rfl⟩:=Ve hl;rfl
 have F17:=Cu (st:=Cy) l17 k17c k17
 have b17:=F17.binds (ps:=["places", "style"]) λ_ _ _ _ _ _ us hl=>by obtain ⟨a,b,rfl⟩:=QQ hl;rfl
 have F18:=Cu (st:=FR) l18 k18c k18
 have b18:=F18.binds (ps:=["script", "first", "places"]) λ_ _ _ _ _ _ us hl=>by obtain ⟨a,b,c,rfl⟩:=Tu hl;rfl
 have F19:=Cu (st:=EL) l19 k19c k19
 have b19:=F19.binds (ps:=["script", "ties"]) λ_ _ _ _ _ _ us hl=>by obtain ⟨a,b,rfl⟩:=QQ hl;rfl
 have F20:=Cu (st:=FT) l20 k20c k20
 have b20:=F20.binds (ps:=["ties", "place"]) λ_ _ _ _ _ _ us hl=>by obtain ⟨a,b,rfl⟩:=QQ hl;rfl
 have F21:=Cu (st:=FS) l21 k21c k21
 have b21:=F21.binds (ps:=["places", "guards"]) λ_ _ _ _ _ _ us hl=>by obtain ⟨a,b,rfl⟩:=QQ hl;rfl
 have F22:=Cu (st:=Da) l22 k22c k22
 have b22:=F22.binds (ps:=["found"]) λ_ _ _ _ _ _ us hl=>by obtain ⟨a,rfl⟩:=Ve hl;rfl
 have F23:=Cu (st:=Du) l23 k23c k23
 have b23:=F23.binds (ps:=["ties", "standing", "call", "kind"]) λ_ _ _ _ _ _ us hl=>by obtain ⟨a,b,c,d,rfl⟩:=aO hl;rfl
 have F24:=Cu (st:=Ds) l24 k24c k24
 have b24:=F24.binds (ps:=["web", "standing", "call"]) λ_ _ _ _ _ _ us hl=>by obtain ⟨a,b,c,rfl⟩:=Tu hl;rfl
 have F25:=Cu (st:=Ew) l25 k25c k25
 have b25:=F25.binds (ps:=["web", "ties", "standing", "call"]) λ_ _ _ _ _ _ us hl=>by obtain ⟨a,b,c,d,rfl⟩:=aO hl;rfl
 have F26:=Cu (st:=Qj) l26 k26c k26
 have b26:=F26.binds (ps:=["script"]) λ_ _ _ _ _ _ us hl=>by obtain ⟨a,rfl⟩:=Ve hl;rfl
 let W:Wd:=⟨cBadPlaces,cBadTie,cNoPlace,cNoCall,cWeb⟩
 have xc_BadPlaces:(clsIn K cBadPlaces).isSome=true:=Jq xo_BadPlaces;have xc_BadTie:(clsIn K cBadTie).isSome=true:=Jq xo_BadTie;have xc_NoPlace:(clsIn K cNoPlace).isSome=true:=Jq xo_NoPlace;have xc_NoCall:(clsIn K cNoCall).isSome=true:=Jq xo_NoCall;have X_BadPlaces:XIs K cBadPlaces:=⟨xc_BadPlaces,xg_BadPlaces,xn_BadPlaces,xa_BadPlaces,sp,tk,xo_BadPlaces,xb_BadPlaces⟩;have X_BadTie:XIs K cBadTie:=⟨xc_BadTie,xg_BadTie,xn_BadTie,xa_BadTie,sp,tk,xo_BadTie,xb_BadTie⟩;have X_NoPlace:XIs K cNoPlace:=⟨xc_NoPlace,xg_NoPlace,xn_NoPlace,xa_NoPlace,sp,tk,xo_NoPlace,xb_NoPlace⟩;have X_NoCall:XIs K cNoCall:=⟨xc_NoCall,xg_NoCall,xn_NoCall,xa_NoCall,sp,tk,xo_NoCall,xb_NoCall⟩
 let T:Txt K mg W:={
  d_checked_ties:=⟨f1,_,F1,b1,Do X G a1⟩
  d_near_sets_of:=⟨f2,_,F2,b2,Do X G a2⟩
  d_Web_init:=⟨f3,_,F3,b3⟩
  d_refuse_no_place:=⟨f4,_,F4,b4,Do X G a4⟩
  d_near:=⟨f5,_,F5,b5,Do X G a5⟩
  d_takes_of:=⟨f6,_,F6,b6,Do X G a6⟩
  d_bits_of:=⟨f7,_,F7,b7,Do X G a7⟩
  d_settle:=⟨f8,_,F8,b8,Do X G a8⟩
  d_fits:=⟨f9,_,F9,b9,Do X G a9⟩
  d_refuse_no_call:=⟨f10,_,F10,b10,Do X G a10⟩
  d_can_end:=⟨f11,_,F11,b11,Do X G a11⟩
  d_answers_of_all:=⟨f12,_,F12,b12,Do X G a12⟩
  d_with_step:=⟨f13,_,F13,b13,Do X G a13⟩
  d_answers:=⟨f14,_,F14,b14,Do X G a14⟩
  d__law_cell_at:=⟨f15,_,F15,b15,Do X G a15⟩
  d__law_pairs:=⟨f16,_,F16,b16,Do X G a16⟩
  d__law_first_ties:=⟨f17,_,F17,b17,Do X G a17⟩
  d__law_ties:=⟨f18,_,F18,b18,Do X G a18⟩
  d__law_handed:=⟨f19,_,F19,b19,Do X G a19⟩
  d__law_near:=⟨f20,_,F20,b20,Do X G a20⟩
  d__law_sets:=⟨f21,_,F21,b21,Do X G a21⟩
  d__law_set_told:=⟨f22,_,F22,b22,Do X G a22⟩
  d__law_answers:=⟨f23,_,F23,b23,Do X G a23⟩
  d__law_refused:=⟨f24,_,F24,b24,Do X G a24⟩
  d__law_right:=⟨f25,_,F25,b25,Do X G a25⟩
  d_law:=⟨f26,_,F26,b26,Do X G a26⟩
  c_Web:=⟨⟨pg_Web,hd_Web,po_Web,sa_Web⟩,⟨mk_Web,a3,i3,kc_Web⟩,Do X G a_Web⟩
  n_Web_places:=n_Web_places
  n_Web_ties:=n_Web_ties
  n_Web_near_sets:=n_Web_near_sets
  x_BadPlaces:=⟨⟨xe_BadPlaces⟩,Do X G a_BadPlaces⟩
  x_BadTie:=⟨⟨xe_BadTie⟩,Do X G a_BadTie⟩
  x_NoPlace:=⟨⟨xe_NoPlace⟩,Do X G a_NoPlace⟩
  x_NoCall:=⟨⟨xe_NoCall⟩,Do X G a_NoCall⟩
  nd:=xnd
  caught_NoCall:=(all_cons ⟨xt_NoCall,xc_NoCall,xb_NoCall,xs_NoCall_NoCall⟩ ed)
  b_all:=DL X G z_all
  b_any:=DL X G z_any
  b_bool:=DL X G z_bool
  b_enumerate:=DL X G z_enumerate
  b_int:=DL X G z_int
  b_isinstance:=DL X G z_isinstance
  b_len:=DL X G z_len
  b_list:=DL X G z_list
  b_max:=DL X G z_max
  b_min:=DL X G z_min
  b_range:=DL X G z_range
  b_reversed:=DL X G z_reversed
  b_sorted:=DL X G z_sorted
  b_tuple:=DL X G z_tuple
  g_MOST_PLACES:=⟨tk_MOST_PLACES,Do X G g_MOST_PLACES⟩ }
 refine ⟨W,T,?_,xnd,λs v=>.of_eq rfl⟩;have e:=hfa.symm.trans (Do X G a26);cases e;rfl
theorem walk {l:OpenLaw} {q:An} {loose:List Str} {XP:(Str->Option AC)->Bl->Prop} {YP:BH->Bl->Prop} {d:DefRec} {K:Params->Frag} (hn:l.most=some 63) (hdf:d.params.defaults=[])
  (hY:∀(w:BH) (h:Bl),YP w h->(K w.params).In h)
  (F:∀(w:BH) (mg:Str->Option AC) (fa:AI) (h:Bl),(K w.params).In h->h.Ns Ac mg->mg d.name=some (.ref fa) ->
   ∃(W:Wd) (T:Txt (K w.params) mg W),fa=T.d_law.f/\W.excs.Nodup/\∀(s:AE) (v:AC),UU s T.d_law.fd ⟨[v],[]⟩ [("script",v)])
  (good:∀(W:Wd),W.excs.Nodup->∀ns:List Int,ns.length<=63->∃S',W1 W [.fro (ns.map D.int)] []=.ok (.bl true) S') :
  WalkO q loose XP YP l.row.toRowW d [] (λf vs=>XR f vs):=
 L2.cC (n:=63) (k:=16) (x:="script") (CX:=λw=>CXG l.prog w) (sp:=λw=>ZW (K w.params)) hn (by decide) hdf ⟨rfl,by decide,by decide⟩ hY
  (λw mg fa h KX G hmg=>by
   obtain ⟨W,T,e,nd,hb⟩:=F w mg fa h KX G hmg;subst e
   exact ⟨T.d_law.fd,hb,λbase _ _=>aQ (ig T) (good W nd)⟩)
  (λ_ _ a ns hl hO hS=>⟨a,ns,rfl,jL hO hS,hl,λ_=>rfl⟩) (λw H s e s' z=>jS z)
end M
open PySem PySem.W PyProof.Rows
set_option maxRecDepth 100000 in
set_option maxHeartbeats 0 in
theorem PySem.Challenge.cw_guardround_k15_answers_by_all_holds : PySem.Challenge.rw_guardround_k15_answers_by_all.Holds := by
 w_on;o_law;k_head;(case hw=>w_witness2)
 k_fill
 refine M.walk (l:=C9) rfl rfl (λw h Y=>kIn_of Y) ?F M.good
 case F=>
  intro w mg fa h KX G hmg;refine' M.jV (l:=C9) (w:=w) KX G hmg ?a_Web ?a_BadPlaces ?a_BadTie ?a_NoPlace ?a_NoCall ?a1 ?l1 ?k1c ?k1 ?a2 ?l2 ?k2c ?k2 ?a3 ?i3 ?l3 ?k3c ?k3 ?a4 ?l4 ?k4c ?k4 ?a5 ?l5 ?k5c ?k5 ?a6 ?l6 ?k6c ?k6 ?a7 ?l7 ?k7c ?k7 ?a8 ?l8 ?k8c ?k8 ?a9 ?l9 ?k9c ?k9 ?a10 ?l10 ?k10c ?k10 ?a11 ?l11 ?k11c ?k11 ?a12 ?l12 ?k12c ?k12 ?a13 ?l13 ?k13c ?k13 ?a14 ?l14 ?k14c ?k14 ?a15 ?l15 ?k15c ?k15 ?a16 ?l16 ?k16c ?k16 ?a17 ?l17 ?k17c ?k17 ?a18 ?l18 ?k18c ?k18 ?a19 ?l19 ?k19c ?k19 ?a20 ?l20 ?k20c ?k20 ?a21 ?l21 ?k21c ?k21 ?a22 ?l22 ?k22c ?k22 ?a23 ?l23 ?k23c ?k23 ?a24 ?l24 ?k24c ?k24 ?a25 ?l25 ?k25c ?k25 ?a26 ?l26 ?k26c ?k26 ?pg_Web ?hd_Web ?po_Web ?sa_Web ?mk_Web ?kc_Web ?n_Web_places ?n_Web_ties ?n_Web_near_sets ?sp ?tk ?xnd ?xo_BadPlaces ?xb_BadPlaces ?xo_BadTie ?xb_BadTie ?xo_NoPlace ?xb_NoPlace ?xo_NoCall ?xb_NoCall ?xt_NoCall ?xe_BadPlaces ?xg_BadPlaces ?xn_BadPlaces ?xa_BadPlaces ?xe_BadTie ?xg_BadTie ?xn_BadTie ?xa_BadTie ?xe_NoPlace ?xg_NoPlace ?xn_NoPlace ?xa_NoPlace ?xe_NoCall ?xg_NoCall ?xn_NoCall ?xa_NoCall ?xs_NoCall_NoCall ?z_all ?z_any ?z_bool ?z_enumerate ?z_int ?z_isinstance ?z_len ?z_list ?z_max ?z_min ?z_range ?z_reversed ?z_sorted ?z_tuple ?g_MOST_PLACES
  (case a_Web | a_BadPlaces | a_BadTie | a_NoPlace | a_NoCall | a1 | l1 | k1c | k1 | a2 | l2 | k2c | k2 | a3 | i3 | l3 | k3c | k3 | a4 | l4 | k4c | k4 | a5 | l5 | k5c | k5 | a6 | l6 | k6c | k6 | a7 | l7 | k7c | k7 | a8 | l8 | k8c | k8 | a9 | l9 | k9c | k9 | a10 | l10 | k10c | k10 | a11 | l11 | k11c | k11 | a12 | l12 | k12c | k12 | a13 | l13 | k13c | k13 | a14 | l14 | k14c | k14 | a15 | l15 | k15c | k15 | a16 | l16 | k16c | k16 | a17 | l17 | k17c | k17 | a18 | l18 | k18c | k18 | a19 | l19 | k19c | k19 | a20 | l20 | k20c | k20 | a21 | l21 | k21c | k21 | a22 | l22 | k22c | k22 | a23 | l23 | k23c | k23 | a24 | l24 | k24c | k24 | a25 | l25 | k25c | k25 | a26 | l26 | k26c | k26 | pg_Web | hd_Web | po_Web | sa_Web | mk_Web | kc_Web | n_Web_places | n_Web_ties | n_Web_near_sets | sp | tk=>k_is)
  (case xnd=>decide)
  (case xo_BadPlaces | xb_BadPlaces | xo_BadTie | xb_BadTie | xo_NoPlace | xb_NoPlace | xo_NoCall | xb_NoCall | xt_NoCall=>k_is)
  (case xe_BadPlaces=>k_exc)
  (case xg_BadPlaces | xn_BadPlaces | xa_BadPlaces=>k_is)
  (case xe_BadTie=>k_exc)
  (case xg_BadTie | xn_BadTie | xa_BadTie=>k_is)
  (case xe_NoPlace=>k_exc)
  (case xg_NoPlace | xn_NoPlace | xa_NoPlace=>k_is)
  (case xe_NoCall=>k_exc)
  (case xg_NoCall | xn_NoCall | xa_NoCall | xs_NoCall_NoCall | z_all | z_any | z_bool | z_enumerate | z_int | z_isinstance | z_len | z_list | z_max | z_min | z_range | z_reversed | z_sorted | z_tuple | g_MOST_PLACES=>k_is)
#print axioms PySem.Challenge.cw_guardround_k15_answers_by_all_holds
