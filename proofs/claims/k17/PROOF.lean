import PyProof.Rows.All
import Wide.All
import OpenK.AllK
import Wide.FinOn
import Lean
import PyProof.EqAt
import PyProof.EqKinds
import PyProof.TupleCall
import PyProof.ExcBaseAll.ValueError
import PyProof.NsDelKeeps
import PyProof.NeKinds
import PyProof.Rows.SortShell
import PyProof.Rows.FStr
import PyProof.FString
import PyProof.ExcAttrAll.ValueError
import PyProof.ExcArgsOwn
import PyProof.Rows.SortRuns
import PyProof.TupleIter
import PyProof.Dict
import KE.KDictSum
import PyProof.TupleOfSeq
import PyProof.EnumMake
import PyProof.SliceList
import PyProof.MinMaxWalk
import PyProof.Rows.EnumRows
import PyProof.WalkInts
import PyProof.WalksMore
import PyProof.Rows.SeqCalls
import KE.KRevIter
import PyProof.CollectIter
import PyProof.TupleOfGen
import PyProof.Rows.FactsT2
import PyProof.ListRange
import PyProof.Rows.CallKwBuiltin
import PyProof.Rows.SetFrom
import PyProof.SetRoads
import PyProof.Rows.Range3
import PyProof.ZipIter
import PyProof.Rows.ZipGen
import PyProof.Rows.RuleM_int
import PyProof.Rows.AssignMoreSeq
import PySem.Challenge.RW_guardround_k17_whole_where_standings_lea
set_option Elab.async false
set_option linter.all false
set_option maxRecDepth 100000
set_option maxHeartbeats 8000000
noncomputable section
open Array renaming getD_eq_getD_getElem?->Ex,length_toList->Bq,mem_extract_iff_getElem->Oo,mem_of_getElem?->C3,mem_toList_iff->BO,perm_iff_toList_perm->E8,toList->gz,toList_append->BF,toList_map->Jo,toList_modify->Ww,toList_push->JM,toList_reverse->E7,toList_setIfInBounds->Qq
open Array.Perm renaming refl->NM
open Bool renaming and_eq_true->EL,eq_iff_iff->cf,false_eq_true->B4,false_ne_true->AQ,false_or->gy,not_true->Ti,or_eq_true->cc,true_and->gx
open Classical renaming choose->CH,choose_spec->Cz,propDecidable->Qd
open Eq renaming trans->On
open False renaming elim->D5
open ForInStep renaming yield->HN
open Int renaming emod_lt_of_pos->ZX,emod_nonneg->gD,fdiv_eq_ediv_of_nonneg->R7,le_antisymm->gC,toNat_natCast->CD,toNat_of_nonneg->CT
open List renaming Nodup->GF,all_cons->gw,all_eq_true->FU,all_map->VH,any_cons->HY,any_eq_true->HV,any_map->VD,any_toArray->KU,append_assoc->BM,append_nil->BK,dropLast_concat_getLast->DQ,drop_drop->RL,drop_eq_getElem_cons->Be,drop_of_length_le->Kl,drop_sublist->OC,eq_nil_of_length_eq_zero->B0,ext_getElem?->JQ,extract->OB,filterMap_cons->Mh,filter_cons_of_neg->Tt,filter_cons_of_pos->Ts,find?_cons->B6,find?_eq_none->Ij,find?_isSome->ZV,flatMap_append->Mg,flatMap_cons->DM,flatMap_nil->cN,forIn_cons->cZ,forIn_nil->gB,getD_eq_getElem?_getD->FM,getElem?_append_left->Ak,getElem?_append_right->BB,getElem?_cons_succ->Tr,getElem?_drop->Ii,getElem?_eq_getElem->BJ,getElem?_eq_none->Cb,getElem?_eq_none_iff->CO,getElem?_eq_some_iff->AH,getElem?_map->As,getElem?_range->DV,getElem?_replicate->DL,getElem?_set->Gq,getElem?_set_ne->At,getElem?_set_self->A6,getElem?_take_of_lt->Tf,getElem?_zipIdx->Ly,getElem?_zip_eq_some->R6,getElem_inj->Om,getElem_mem->Cj,getElem_of_mem->Bc,getElem_zip->Dd,length->Hm,length_append->AU,length_cons->Ao,length_drop->EK,length_dropLast->Lx,length_filter_le->Ca,length_map->AI,length_nil->Ep,length_pos_iff->Fe,length_replicate->LW,length_reverse->YB,length_set->Kp,length_singleton->Au,length_take->C9,length_zip->D0,length_zipIdx->ZL,lookup->Hl,lookup_cons->Ci,map->RK,mapM_toArray->ZU,map_append->C2,map_congr_left->EJ,map_cons->A1,map_id->Wt,map_id'->VC,map_map->BU,map_nil->Kk,map_reverse->cM,map_take->gv,mem_append->Az,mem_append_left->Bz,mem_append_right->BA,mem_cons->A2,mem_cons_of_mem->Ah,mem_cons_self->A3,mem_filter->A5,mem_filterMap->ZK,mem_flatMap->KS,mem_iff_getElem->Ws,mem_map->A4,mem_map_of_mem->YA,mem_of_getElem?->CJ,mem_of_mem_drop->Hk,mem_of_mem_take->Wr,mem_range->RJ,mem_reverse->cL,mem_singleton->Ae,mergeSort_perm->X9,nil_append->Qb,nodup_append->D4,nodup_cons->Br,nodup_nil->FL,not_mem_nil->FT,of_mem_zip->Eo,pairwise_append->A8,pairwise_cons->Ih,pairwise_map->Bf,pairwise_mergeSort->Tq,pairwise_reverse->LV,perm_append_comm->VZ,range->Cw,range_succ->Qa,replicate->BY,reverse_cons->ZT,singleton_append->Dl,size_toArray->Ad,take_add_one->OA,take_append_drop->C4,take_length->cK,take_of_length_le->Cv,take_sublist->ZS,zipIdx_map->cY,zipIdx_nil->cX,zip_append->Ko,zip_cons_cons->C8,zip_nil_left->ZR,zip_nil_right->Eh
open List.Pairwise renaming and->lF,filter->lE,nil->RM
open List.Perm renaming append_left->Jm,append_right->Qm,of_eq->Wu
open List.Sublist renaming filter->nc
open List.cons renaming inj->PM
open Nat renaming add_le_add_left->DX,add_zero->lD,le_of_eq->lC,le_of_lt->VY,le_of_not_lt->PL,le_refl->AT,le_succ->Je,le_trans->Am,lt_irrefl->Cu,lt_of_le_of_lt->BZ,lt_of_lt_of_le->Ag,lt_succ_of_lt->Gy,lt_succ_self->ER,lt_trans->lB,min_le_right->cW,ne_of_gt->OT,ne_of_lt->Av,not_lt->JB,pow_le_pow_right->X8,pow_succ->lA,sub_self->VX,succ_ne_self->PK,zero_add->Gx,zero_le->DI
open Nat.succ renaming inj->Mf
open Ne renaming symm->Bo
open Option renaming bind_some->AF,getD_none->ZJ,getD_some->ZI,isSome_iff_exists->RI,isSome_map->Gm,map->kd
open Option.some renaming inj->Ck
open Or renaming inl->KR,inr->JL
open Prod renaming ext->RH
open Prod.mk renaming inj->N9
open PyProof.Rows renaming AllBare->JR,IntsAre->Cy,IsTup->Va,Keyed->An,SortKind->Fk,SortSt->BI,Subscript_->gq,args_tuple_getitem->gn,arrOf->AW,boot_all->nZ,boot_any->nY,boot_bool->nX,boot_int->PJ,boot_isinstance->nW,boot_list->nV,boot_max->nU,boot_min->PH,boot_sorted->nT,boot_tuple->OS,bubble->gm,callWith_builtin1->nS,callWith_type1->DD,elem'_eq->cU,entry_tuple_getitem->fx,envOfC->L8,failedOf->Ic,firstOfTuple'->X5,general'->VQ,gt_int->nR,listUpdate_at->X4,ltAt'->kW,lt_int->nQ,mirror->Jj,mirror_perm->Te,pairsOf->Kh,pendingOf->AY,reverseSlice'->Oj,reverseSlice'_eq->Ln,seqEpoch_at->cS,seqObj->Ix,slot_tuple_getitem->CB,sortedHeap->gk,subscriptTail->X2,subscriptTail_builtinR->ZN,tuples'->kR,wpS_bind->AO,wpS_forRange->B9,wpS_get->HW,wpS_modify->Db,wpS_mono->DR,wpS_pure->AS
open PyProof.Rows.IsTup renaming new->ZW
open PyProof.Rows.SortSt renaming mk'->HD
open PySem renaming Addr->AM,Around->BC,BindsTo->VM,CmpOp->Qo,DictEntry->OE,FuncData->Df,GenState->ca,Heap->Bu,IsEnum->Jn,IsPart->NT,Keyword->OD,Model->kf,NameKind->Ql,Operator->Qk,Paired->HX,PassesOwn->kz,Program->Ap,Result->gt,Scope->Ie,Shared->AE,Stmt->C1,Value->AD,Within->Tp,World->BE,again->kY,argBest->Ez,assign->VU,assignEach->Gw,atKey->VR,attributeBase->Ia,backTo->Dz,backToKw->Jk,behindInMarks->B2,binaryOp->Cr,bindC->ZG,bindL->ZF,bootBuiltins->Ey,builtinsNs->gl,cLine->Dr,call->X6,callerA->Qj,cellsFrom->kr,codeAny->Kj,codeAny_builtin->Me,codeAny_call_builtin->cV,codeAny_mono->JO,compareOp->Bk,concat_meets->ZQ,eval->CS,field->kX,firstArgMember->NR,foldedSetIterable->FS,getItem->Ki,holding->ZP,isSubtype_stop->VP,isTrue->VN,keywordEach->Fj,letOwnedTupleGo->Md,mainGlobals->Af,mem_of_lookup->EI,model->AZ,noFill_tuple_add->R3,plainId_quiet->Ol,pyIter->ZO,pyNext->Ji,rawInt->Jh,relabel->JN,richCompare->cT,seqItems?->R0,seq_tuple_add->X3,sizeLine_eq->cR,sliceBounds->Ib,slot_list_getitem->kU,standAt->kT,starEach->Ab,storeName->ko,subscripted->Td,swapsWith->GB,sysModules->Dy,truthy->gj,tupleKind->Rz,tupleKind_room_in1->Jg,typeLookup->gi,valueAt->Qi,wpAny->Ac,wpAny_Call_Name_kw->Gv,wpAny_Dict_empty->kn,wpAny_Name->gh,wpAny_assign_Name->kQ,wpAny_attempt->Kn,wpAny_bind->AA,wpAny_call->gg,wpAny_callSpecial?_slot->CK,wpAny_call_entry->CQ,wpAny_comprehension_free->X1,wpAny_dictEntries->Qh,wpAny_dictEpoch->To,wpAny_eqBool_int->Ry,wpAny_execs_cons->km,wpAny_execs_nil->Tn,wpAny_field->Fi,wpAny_fieldsOf->NQ,wpAny_forIn_list->kl,wpAny_holding->EQ,wpAny_isInstance->Lm,wpAny_isOneOf_keyiter->Mi,wpAny_isTrue_Compare1->cI,wpAny_letGo->Tc,wpAny_loadName_cell->fv,wpAny_loadName_local->cQ,wpAny_loadPart'->C7,wpAny_mono->Dx,wpAny_newObj_type->CG,wpAny_of_eq->Tb,wpAny_passesOwn->Iw,wpAny_pure->AL,wpAny_pyIter_enum->FR,wpAny_pyIter_list->Qg,wpAny_pyIter_revIter->cP,wpAny_pyIter_tuple->Cm,wpAny_pyNext_enum_itemD->ZE,wpAny_rule->PB,wpAny_seqItems->Jf,wpAny_sequenceKey->kO,wpAny_setField->NP,wpAny_stack_any->nN,wpAny_standAt->X0,wpAny_truthy_bool->B1,wpAny_tryCatch->NO,wpAny_tupleItemsOf->gf,wpAny_typeNameOfWhole_keyiter->Ew,wpAny_typeNameOf_keyiter->Gn,wpAny_typeOf->Qe,wpAny_updateSeq->Tl
open PySem.Around renaming under->Tj,under_plainId->LX
open PySem.Builtin renaming bitAnd->DA,bitOr->Lz,bitXor->CU
open PySem.Builtin.Builtins renaming bindParams->Lq
open PySem.Builtin.Dict renaming dictSlotNone->nj,showsAll->PQ
open PySem.Builtin.Dict_items renaming ownsTuple->Km
open PySem.Builtin.List renaming listItems->Ik,listTooLong->IF
open PySem.Builtin.Range renaming rangeSize->lL
open PySem.Builtin.Slice renaming sliceAdjust->HZ,sliceApplied->Mn,sliceFields->lK,slicePartIndex->lJ,slicePlaces->Er
open PySem.Builtin.SmallTypes renaming nextOf->ES
open PySem.Builtin.Tuple renaming tupleCompareSizes->lI,tupleExact->E0,tupleIsExact->lH,tupleItemsOf->Mm
open PySem.Calls renaming Name_function_global->Qp
open PySem.Challenge renaming pw_guardround_k17_whole_where_standings_lea->gu,rw_guardround_k17_whole_where_standings_lea->Fd
open PySem.Code renaming frames->lG,isFrame->VJ
open PySem.Data renaming cell->Tu,fields->PP
open PySem.F renaming args_dict_keyiterator_next_1->Lp,args_enumerate_next_1->Wv,args_tuple_add_2->Iy,args_tuple_iterator_next_1->R8,called_enumerate->cb,entry_dict_keyiterator_next->Lw,entry_enumerate_new->ZM,entry_enumerate_next->YD,entry_min_loop->Qn,entry_tuple_add->JP,entry_tuple_iterator_next->Th,plainAttrs_list->RG,plain_min_loop->Ec,slot_dict_iter->R5,slot_dict_keyiterator_next->Cc,slot_enumerate_next->Hn,slot_tuple_add->Jl,slot_tuple_gt->kj,slot_tuple_iterator_next->FX
open PySem.Heap renaming ExtBut->PN,IsTuple->kg,SameBut->Ei,get?_push_of_some->AJ,get?_push_size->Ai,get?_update_ne->YC,get?_update_other->B3,get?_update_self->HM,lt_size->Aa,size_push->Dh
open PySem.Heap.IsSliceOf renaming new->kh
open PySem.Heap.SameBut renaming refl->nh,update->Gz
open PySem.NameKind renaming free->Ig
open PySem.Obj renaming cls_mapFields->cJ,data_mapFields->JA,isFreed_of_fields->Wq,mapFields->ke,mapSeq->Iz
open PySem.Paired renaming length->El,snoc->U9
open PySem.SeqAt.RcAt renaming tuples->ku
open PySem.Shared renaming heap->gr
open PySem.Str renaming ofString->FW
open PySem.Value renaming bool->Ka,bytes->kc,float->VV,int->OP,isInt->kb,isStrOf->fy,none->DK,ref->BD,str->OO,type->E6
open PySem.W renaming Frag->AB,callWith_K->VW,cellsFrom_some->R4,codeIn->PF,emptyDict->Cn,findIn->D8,fnOf->Hr,handedIn->X7,hasDictIn->Ml,instObj->Ds,kdu_collect->U8,keepIn->GH,kia_one->CZ,kitOne->D7,kitx_dict->Wp,kitx_list->Wo,lookIn->PD,makesIn->ZH,methodObj->Mj,mg_none_of->Dc,mg_of->Ea,nsIn->Eb,plainGet->NS,plainOver->Wn,takerIn->OR
open PySem.W.Looks renaming here->kx
open PySem.W.WData renaming int->nO
open PySem.W.WShape renaming has->ka
open PySem.Walks renaming list->kt,tuple->kZ
open PySem.Within renaming cons->nP
open Sum renaming inl->FV,inr->OQ
open True renaming intro->Eg
namespace L2
open PySem PySem.Spec PyProof.Rows
abbrev Key:=Sum Int Str
def Ri:Key->AD->Bool
 | .inl k,v=>kb k v
 | .inr x,v=>fy x v
def keyH (w:BE):Key->Int
 | .inl k=>hashInt k
 | .inr x=>hashStr w x
theorem DW:∀ {k:Key} {v:AD},Ri k v=true->(∃i t,k=FV i/\v=OP i t)∨(∃x t,k=OQ x/\v=OO x t)
 | .inl i,v,h=>by
  obtain ⟨t,e⟩:=AD.isInt_shape (k:=i) (v:=v) h;exact .inl ⟨i,t,rfl,e⟩
 | .inr x,v,h=>by
  obtain ⟨t,e⟩:=AD.isStrOf_shape (x:=x) (v:=v) h;exact .inr ⟨x,t,rfl,e⟩
theorem Yo (i:Int) (t:Tok):Ri (.inl i) (.int i t)=true:=by simp [Ri,kb]
theorem Yn (x:Str) (t:Tok):Ri (.inr x) (.str x t)=true:=by simp [Ri,fy]
theorem jh (a b:Int):decide ((FV a:Key)=FV b)=(a==b):=by
 by_cases e:a=b
 ·subst e;simp
 ·have h:¬(FV a:Key)=FV b:=λq=>e (FV.inj q)
  rw [decide_eq_false h];exact (beq_eq_false_iff_ne.mpr e).symm
theorem je (a b:Str):decide ((OQ a:Key)=OQ b)=decide (a=b):=by
 by_cases e:a=b
 ·subst e;simp
 ·have h:¬(OQ a:Key)=OQ b:=λq=>e (OQ.inj q)
  rw [decide_eq_false h,decide_eq_false e]
theorem jg (a:Int) (b:Str):decide ((FV a:Key)=OQ b)=false:=decide_eq_false (λq=>nomatch q)
theorem jf (a:Str) (b:Int):decide ((OQ a:Key)=FV b)=false:=decide_eq_false (λq=>nomatch q)
def EX (prog:Ap) (w:BE):PySem.KeyKind prog w Key where
 is:=Ri
 hash:=keyH w
 inj:=λv a b ha hb=>by
  rcases DW ha with ⟨i,t,rfl,rfl⟩ | ⟨x,t,rfl,rfl⟩
  ·rcases DW hb with ⟨j,u,rfl,e⟩ | ⟨y,u,rfl,e⟩
   ·injection e with e1 _;rw [e1]
   ·exact nomatch e
  ·rcases DW hb with ⟨j,u,rfl,e⟩ | ⟨y,u,rfl,e⟩
   ·exact nomatch e
   ·injection e with e1 _;rw [e1]
 byValue:=λk v h=>by
  rcases DW h with ⟨i,t,rfl,rfl⟩ | ⟨x,t,rfl,rfl⟩ <;> rfl
 pyHash:=λhv h=>by
  rcases DW hv with ⟨i,t,rfl,rfl⟩ | ⟨x,t,rfl,rfl⟩
  ·exact wpAny_pyHash_int h
  ·exact wpAny_pyHash_str h
 eqBool:=λhu hv h=>by
  rcases DW hu with ⟨i,t,rfl,rfl⟩ | ⟨x,t,rfl,rfl⟩
  ·rcases DW hv with ⟨j,u,rfl,rfl⟩ | ⟨y,u,rfl,rfl⟩
   ·rw [jh] at h;exact Ry h
   ·rw [jg] at h;exact SeqAt.EqAt.int_str i t y u _ _ _ _ h
  ·rcases DW hv with ⟨j,u,rfl,rfl⟩ | ⟨y,u,rfl,rfl⟩
   ·rw [jf] at h;exact SeqAt.EqAt.str_int x t j u _ _ _ _ h
   ·rw [je] at h;exact wpAny_eqBool_str h
 «strs»:=λk x t v h=>by
  rcases DW h with ⟨i,u,rfl,e⟩ | ⟨y,u,rfl,e⟩
  ·exact nomatch e
  ·injection e with e1 _
   subst e1
   cases v <;> rfl
theorem Ub (prog:Ap) (w:BE) (i:Int) (t:Tok):(EX prog w).is (.inl i) (.int i t)=true:=Yo i t
theorem Ua (prog:Ap) (w:BE) (x:Str) (t:Tok):(EX prog w).is (.inr x) (.str x t)=true:=Yn x t
end L2
namespace L2
open PySem PySem.Spec PyProof.Rows
inductive V where
 | non | bl (b:Bool) | int (i:Int) | str (x:Str) | byt (b:Array UInt8) | flt (b:UInt64) | ref (a:AM) | ty (n:String)
 deriving DecidableEq
def RelV:V->AD->Prop
 | .non,u=>u=DK
 | .bl b,u=>u=Ka b
 | .int i,u=>∃t,u=OP i t
 | .str x,u=>∃t,u=OO x t
 | .byt b,u=>∃t,u=kc b t
 | .flt b,u=>∃t,u=VV b t
 | .ref a,u=>u=BD a
 | .ty n,u=>u=E6 n
abbrev Bs:List V->List AD->Prop:=HX RelV
theorem Bs.length {xs:List V} {us:List AD} (r:Bs xs us):xs.length=us.length:=El r
theorem Bs.get:∀ {xs:List V} {us:List AD} {i:Nat} {x:V},Bs xs us->xs[i]?=some x->∃u,us[i]?=some u/\RelV x u
 | _,_,_,_,.nil,e=>by simp at e
 | _,_,0,_,.cons r _,e=>by simp at e;subst e;exact ⟨_,rfl,r⟩
 | _,_,i+1,x,.cons _ t,e=>by
  obtain ⟨u,h1,h2⟩:=Bs.get (i:=i) (x:=x) t (by simpa using e);exact ⟨u,by simpa using h1,h2⟩
theorem Bs.append:∀ {xs ys:List V} {us ws:List AD},Bs xs us->Bs ys ws->Bs (xs++ys) (us++ws)
 | _,_,_,_,.nil,s=>s
 | _,_,_,_,.cons r t,s=>.cons r (Bs.append t s)
theorem Bs.take:∀ {xs:List V} {us:List AD} (n:Nat),Bs xs us->Bs (xs.take n) (us.take n)
 | _,_,0,_=>.nil
 | _,_,_+1,.nil=>.nil
 | _,_,n+1,.cons r t=>.cons r (Bs.take n t)
theorem Bs.drop:∀ {xs:List V} {us:List AD} (n:Nat),Bs xs us->Bs (xs.drop n) (us.drop n)
 | _,_,0,r=>r
 | _,_,_+1,.nil=>.nil
 | _,_,n+1,.cons _ t=>Bs.drop n t
def N8:Option V->Option AD->Prop
 | some v,some u=>RelV v u
 | none,none=>True
 | _,_=>False
def KV {κ:Type}:List (κ×V)->List (κ×AD)->Prop:=HX λ(p:κ×V) (q:κ×AD)=>p.1=q.1/\RelV p.2 q.2
def kV:Key->V
 | .inl i=>.int i
 | .inr x=>.str x
inductive HO where
 /-- a list -/
 | lst (xs:List V)
 /-- a tuple (never changes) -/
 | tup (xs:List V)
 /-- a dict whose keys are ints and texts;one whose keys are tuples of ints and texts (the empty one is both) -/
 | dK (kvs:List (Key×V)) | dT (kvs:List (List Key×V))
 /-- a set of ints: its members,its size -/
 | set (S:Int->Bool) (n:Nat)
 /-- an instance of the class at C,its dict at dx,its attributes -/
 | ins (C dx:AM) (fs:List (Str×V))
 /-- the dict of the instance at x -/
 | own (x:AM)
 /-- the dict of an exception -/
 | xd (fs:List (Str×V))
 /-- a bound method,f of x -/
 | met (f x:AM)
 /-- a range object lo,lo+1,.. below hi -/
 | rng (lo hi:Int)
 /-- a thing that is known to the object (the script;a dict while a loop walks it): read,never written while it is so -/
 | frz (o:Obj) (u:HO)
 /-- a code object's table -/
 | tbl (ps:Array AD)
 /-- any other thing,by what is true of its one object (a def of one's own: SetO a S n:=HO.ext λh=>..) -/
 | ext (φ:Bu->Prop)
abbrev Hp:=AM->Option HO
def upd (H:Hp) (a:AM) (o:HO):Hp:=λb=>if b=a then some o else H b
theorem Bw {H:Hp} {a:AM} {o:HO}:upd H a o a=some o:=by unfold upd;rw [if_pos rfl]
theorem Bv {H:Hp} {a b:AM} {o:HO} (h:b≠a):upd H a o b=H b:=by unfold upd;rw [if_neg h]
theorem mO {H:Hp} {a b:AM} {o u:HO} (h:H a=some o) (h':H b=some u) (d:o≠u):a≠b:=by
 intro e;subst e;rw [h] at h';exact d (Ck h')
theorem CN {H:Hp} {a b:AM} {o:HO} (h:H a=some o) (h':H b=none):a≠b:=by
 intro e;subst e;rw [h] at h';cases h'
section
variable (P:Ap) (w:BE)
def DP (H:Hp) (h:Bu) (a:AM):HO->Prop
 | .lst xs=>xs.length<=sizeLine/\∃(its:List AD) (n:Nat),Bs xs its/\h.get? a=some { cls:=.type "list",data:=.seq its.toArray n }
 | .tup xs=>xs.length<=sizeLine/\∃its:List AD,Bs xs its/\Va h a its.toArray
 | .dK kvs=>kvs.length<=sizeLine/\(a==Dy)=false/\∃vs,KV kvs vs/\h.DictOf (EX P w) a vs
 | .dT kvs=>kvs.length<=sizeLine/\(a==Dy)=false/\∃xs:List (List Key×AM×AD),
   HX (λ(p:List Key×V) (q:List Key×AM×AD)=>p.1=q.1/\H q.2.1=some (.tup (p.1.map kV))/\RelV p.2 q.2.2) kvs xs /\
   ∃o es ep,h.get? a=some o/\o.ExactDict/\o.data=.dict es ep/\es.toList=xs.map (entryOfKey (Rz (EX P w)))/\(xs.map (·.1)).Nodup
 | .set S n=>h.SetOf (intKind P w) a S n
 | .ins C dx fs=>H dx=some (.own a)/\fs.length<=1000/\dx≠a/\h.get? a=some (Ds C dx) /\
   ∃mA,h.Ns1 dx mA/\(∀f,N8 (fs.lookup f) (mA f))/\Tp mA (fs.map (·.1))
 | .own _=>∃o,h.get? a=some o
 | .xd fs=>∃mA,h.Ns1 a mA/\∀f,N8 (fs.lookup f) (mA f)
 | .rng lo hi=>∃t u v,h.get? a=some { cls:=.type "range",data:=.fields #[.int lo t,.int hi u,.int 1 v] }
 | .frz o u=>h.get? a=some o/\DP H h a u
 | .tbl ps=>h.get? a=some { cls:=.none,data:=.fields ps }
 | .met f x=>h.get? a=some (Mj (.ref f) (.ref x))
 | .ext φ=>φ h/\(∃o,h.get? a=some o)/\∀h1 h2:Bu,φ h1->(∀o,h1.get? a=some o->h2.get? a=some o)->φ h2
def HOk (H:Hp) (h:Bu):Prop:=∀a o,H a=some o->DP P w H h a o
end
section
variable {P:Ap} {w:BE} {H H':Hp} {h h':Bu} {a:AM} {o:HO}
theorem DP.lt (x:DP P w H h a o):a < h.objs.size:=by
 cases o with
 | lst xs=>obtain ⟨_,_,_,_,e⟩:=x;exact Aa e
 | tup xs=>obtain ⟨_,_,_,p⟩:=x;exact p.lt
 | dK kvs=>obtain ⟨_,_,_,_,o,_,_,e,_⟩:=x;exact Aa e
 | dT kvs=>obtain ⟨_,_,_,_,o,_,_,e,_⟩:=x;exact Aa e
 | set S n=>obtain ⟨o,_,_,_,e,_⟩:=x;exact Aa e
 | ins C dx fs=>obtain ⟨_,_,_,e,_⟩:=x;exact Aa e
 | own y=>obtain ⟨_,e⟩:=x;exact Aa e
 | xd fs=>obtain ⟨_,⟨_,_,_,e,_⟩,_⟩:=x;exact Aa e
 | rng lo hi=>obtain ⟨_,_,_,e⟩:=x;exact Aa e
 | frz ob u=>obtain ⟨e,_⟩:=x;exact Aa e
 | tbl ps=>exact Aa (show h.get? a=some _ from x)
 | met f y=>exact Aa (show h.get? a=some _ from x)
 | ext φ=>obtain ⟨_,⟨_,e⟩,_⟩:=x;exact Aa e
theorem HX.mapP {α β:Type} {F G:α->β->Prop}:∀ {l₁:List α} {l₂:List β},HX F l₁ l₂->(∀a b,F a b->G a b)->HX G l₁ l₂
 | _,_,.nil,_=>.nil
 | _,_,.cons r t,f=>.cons (f _ _ r) (HX.mapP t f)
theorem DP.stay (x:DP P w H h a o) (k:∀b u,(b=a∨H b=some (.own a))->h.get? b=some u->h'.get? b=some u)
  (ho:∀b,H b=some (.own a)->H' b=some (.own a)) (ht:∀b xs,H b=some (.tup xs)->H' b=some (.tup xs)):DP P w H' h' a o:=by
 induction o with
 | lst xs=>obtain ⟨z,its,n,r,e⟩:=x;exact ⟨z,its,n,r,k _ _ (.inl rfl) e⟩
 | tup xs=>obtain ⟨z,its,r,ob,e,c⟩:=x;exact ⟨z,its,r,ob,k _ _ (.inl rfl) e,c⟩
 | dK kvs=>obtain ⟨z,y,vs,r,ob,es,ep,e,c⟩:=x;exact ⟨z,y,vs,r,ob,es,ep,k _ _ (.inl rfl) e,c⟩
 | dT kvs=>
  obtain ⟨z,y,xs,r,ob,es,ep,e,c⟩:=x;exact ⟨z,y,xs,HX.mapP r λp q z=>⟨z.1,ht _ _ z.2.1,z.2.2⟩,ob,es,ep,k _ _ (.inl rfl) e,c⟩
 | set S n=>obtain ⟨ob,es,ep,t,e,c⟩:=x;exact ⟨ob,es,ep,t,k _ _ (.inl rfl) e,c⟩
 | ins C dx fs=>
  obtain ⟨d,z,ne,e,mA,⟨od,es,ep,e2,c⟩,r⟩:=x;exact ⟨ho _ d,z,ne,k _ _ (.inl rfl) e,mA,⟨od,es,ep,k _ _ (.inr d) e2,c⟩,r⟩
 | own y=>obtain ⟨ob,e⟩:=x;exact ⟨ob,k _ _ (.inl rfl) e⟩
 | xd fs=>obtain ⟨mA,⟨od,es,ep,e,c⟩,r⟩:=x;exact ⟨mA,⟨od,es,ep,k _ _ (.inl rfl) e,c⟩,r⟩
 | rng lo hi=>obtain ⟨t,u,v,e⟩:=x;exact ⟨t,u,v,k _ _ (.inl rfl) e⟩
 | frz ob u ih=>obtain ⟨e,q⟩:=x;exact ⟨k _ _ (.inl rfl) e,ih q⟩
 | tbl ps=>
  have e:h.get? a=some { cls:=.none,data:=.fields ps }:=x;show h'.get? a=some { cls:=.none,data:=.fields ps };exact k a _ (.inl rfl) e
 | met f y=>
  have e:h.get? a=some (Mj (.ref f) (.ref y)):=x;show h'.get? a=some (Mj (.ref f) (.ref y));exact k a _ (.inl rfl) e
 | ext φ=>obtain ⟨p,⟨o,e⟩,st⟩:=x;exact ⟨st _ _ p λo q=>k _ _ (.inl rfl) q,⟨o,k _ _ (.inl rfl) e⟩,st⟩
theorem HOk.lt (x:HOk P w H h) (e:H a=some o):a < h.objs.size:=(x a o e).lt
theorem HOk.fresh (x:HOk P w H h) (e:h.objs.size<=a):H a=none:=by
 cases q:H a with
 | none=>rfl
 | some u=>exact absurd (Ag (x.lt q) e) (Cu _)
theorem HOk.kept (x:HOk P w H h) (k:∀b u,h.get? b=some u->h'.get? b=some u):HOk P w H h':=λa o e=>
 (x a o e).stay (λb u _ q=>k b u q) (λ_ q=>q) λ_ _ q=>q
theorem HOk.laid (x:HOk P w H h) (k:∀b u,h.get? b=some u->h'.get? b=some u) (hp:h.objs.size<=a) (new:DP P w (upd H a o) h' a o):HOk P w (upd H a o) h':=λb u e=>by
 have hn:=x.fresh hp
 by_cases hb:b=a
 ·subst hb;rw [Bw] at e;cases e;exact new
 ·rw [Bv hb] at e
  exact (x b u e).stay (λc v _ q=>k c v q) (λc q=>by rw [Bv (CN q hn)];exact q) λc xs q=>by rw [Bv (CN q hn)];exact q
end
def Rd (H:Hp) (a:AM) (u:HO):Prop:=H a=some u∨∃o,H a=some (.frz o u)
theorem Rd.ok {P:Ap} {w:BE} {H:Hp} {h:Bu} {a:AM} {u:HO} (r:Rd H a u) (x:HOk P w H h):DP P w H h a u:=by
 rcases r with r | ⟨o,r⟩
 ·exact x a u r
 ·obtain ⟨_,q⟩:=x a _ r
  exact q
def Mut:Option HO->Prop
 | some (.lst _)=>True
 | some (.dK _)=>True
 | some (.dT _)=>True
 | some (.set _ _)=>True
 | some (.ins _ _ _)=>True
 | some (.ext _)=>True
 | _=>False
section
variable {P:Ap} {w:BE} {H:Hp} {h h':Bu} {x e:AM} {o':HO}
theorem HOk.write (ok:HOk P w H h) (mu:Mut (H x)) (he:e=x∨H e=some (.own x)) (k:∀b u,b≠e->h.get? b=some u->h'.get? b=some u) (heo:∃u,h'.get? e=some u)
  (new:DP P w (upd H x o') h' x o'):HOk P w (upd H x o') h':=λb u q=>by
 have nown:∀c y,H c=some (.own y)->c≠x:=λc y r z=>by subst z;rw [r] at mu;exact mu
 have ntup:∀c xs,H c=some (.tup xs)->c≠x:=λc xs r z=>by subst z;rw [r] at mu;exact mu
 by_cases hb:b=x
 ·subst hb;rw [Bw] at q;cases q;exact new
 ·rw [Bv hb] at q
  by_cases hbe:b=e
  ·have q':H b=some (.own x):=by
    rcases he with z | z
    ·exact absurd (hbe.trans z) hb
    ·rw [hbe];exact z
   rw [q] at q';cases q';obtain ⟨v,hv⟩:=heo;exact ⟨v,by rw [hbe];exact hv⟩
  ·refine (ok b u q).stay (λc v hc r=>k c v ?_ r) (λc r=>by rw [Bv (nown c b r)];exact r) λc xs r=>by rw [Bv (ntup c xs r)];exact r
   rcases hc with rfl | hc
   ·exact hbe
   ·rintro rfl
    rcases he with z | z
    ·exact nown c b hc z
    ·rw [hc] at z;cases z;exact hb rfl
end
structure Un (fs ex:List AM) (H H':Hp) (h h':Bu):Prop where
 keep:∀b o,h.get? b=some o->H b=none->b∉fs->b∉ex->h'.get? b=some o
 slot:∀b o,h.get? b=some o->H b=none->b∈fs->b∉ex->∃sl,h'.get? b=some { o with slots:=sl }
 free:∀b o,h.get? b=some o->H b=none->b∉ex->H' b=none
 there:∀b o,h.get? b=some o->b∉ex->∃o',h'.get? b=some o'
 tups:∀b xs,H b=some (.tup xs)->H' b=some (.tup xs)
 frzs:∀b o u,H b=some (.frz o u)->H' b=some (.frz o u)
 tbls:∀b ps,H b=some (.tbl ps)->∃more,H' b=some (.tbl (ps++more))
section
variable {fs fs' ex ex':List AM} {H H1 H2:Hp} {h h1 h2 h':Bu} {a x e:AM} {o:HO}
theorem Un.any (u:Un fs ex H H1 h h1) {b:AM} {ob:Obj} (q:h.get? b=some ob) (n:H b=none) (hx:b∉ex):∃sl,h1.get? b=some { ob with slots:=sl }:=by
 by_cases hb:b∈fs
 ·exact u.slot b ob q n hb hx
 ·exact ⟨ob.slots,u.keep b ob q n hb hx⟩
theorem Un.kept (k:∀b u,h.get? b=some u->h'.get? b=some u):Un fs ex H H h h':=
 ⟨λb ob q _ _ _=>k b ob q,λb ob q _ _ _=>⟨ob.slots,k b ob q⟩,λ_ _ _ n _=>n,λb ob q _=>⟨ob,k b ob q⟩,λ_ _ q=>q,λ_ _ _ q=>q,λ_ ps q=>⟨#[],by rw [q];simp⟩⟩
theorem Un.refl:Un fs ex H H h h:=Un.kept λ_ _ q=>q
theorem Un.laid (k:∀b u,h.get? b=some u->h'.get? b=some u) (hp:h.objs.size<=a) (hn:H a=none):Un fs ex H (upd H a o) h h' where
 keep:=λb u q _ _ _=>k b u q
 slot:=λb u q _ _ _=>⟨u.slots,k b u q⟩
 free:=λb u q n _=>by rw [Bv (Av (Ag (Aa q) hp))];exact n
 there:=λb u q _=>⟨u,k b u q⟩
 tups:=λb xs q=>by rw [Bv (CN q hn)];exact q
 frzs:=λb u xs q=>by rw [Bv (CN q hn)];exact q
 tbls:=λb ps q=>⟨#[],by rw [Bv (CN q hn),q];simp⟩
theorem Un.write (mu:Mut (H x)) (he:e=x∨H e=some (.own x)) (k:∀b u,b≠e->h.get? b=some u->h'.get? b=some u) (heo:∃u,h'.get? e=some u):Un fs ex H (upd H x o) h h':=by
 have hx:∀b,H b=none->b≠x:=λb n z=>by subst z;rw [n] at mu;exact mu
 have hb:∀b,H b=none->b≠e:=λb n z=>by
  subst z
  rcases he with r | r
  ·exact hx b n r
  ·rw [n] at r;cases r
 have hm:∀b u,H b=some u->¬Mut (some u)->b≠x:=λb u q nm z=>by subst z;rw [q] at mu;exact nm mu
 refine ⟨λb u q n _ _=>k b u (hb b n) q,λb u q n _ _=>⟨u.slots,k b u (hb b n) q⟩,λb u q n _=>by rw [Bv (hx b n)];exact n,λb u q _=>?_,
  λb xs q=>by rw [Bv (hm b _ q λz=>z)];exact q,λb u xs q=>by rw [Bv (hm b _ q λz=>z)];exact q,λb ps q=>⟨#[],by rw [Bv (hm b _ q λz=>z),q];simp⟩⟩
 by_cases hbe:b=e
 ·subst hbe;exact heo
 ·exact ⟨u,k b u hbe q⟩
end
def trk (h:Bu) (H:Hp):List AM:=(Cw h.objs.size).filter λa=>(H a).isSome
def Sz (h:Bu) (H:Hp):Bu:=PySem.W.hideAll h (trk h H)
theorem Yu (h:Bu) (H:Hp):(Sz h H).objs.size=h.objs.size:=PySem.W.hideAll_size _ _
theorem bQ {h:Bu} {H:Hp} {b:AM} {o:Obj} (e:h.get? b=some o) (n:H b=none):(Sz h H).get? b=some o:=
 PySem.W.hideAll_get _ e λhm=>by
  have q:(H b).isSome=true:=(A5.mp hm).2;rw [n] at q;simp at q
theorem eQ {h:Bu} {H:Hp} {b:AM} {o:Obj} (e:(Sz h H).get? b=some o):h.get? b=some o/\H b=none:=by
 have e':h.get? b=some o:=PySem.W.of_hideAll (trk h H) e;refine ⟨e',?_⟩
 cases q:H b with
 | none=>rfl
 | some x=>
  have hm:b∈trk h H:=A5.mpr ⟨RJ.mpr (Aa e'),by simp [q]⟩;have z:(Sz h H).get? b=none:=PySem.W.hideAll_none (trk h H) hm;rw [z] at e;cases e
end L2
namespace L2
open PySem PySem.Spec PyProof.Rows
structure Mod (K:AB) (mg:Str->Option AD) (base:Bu):Prop where
 kin:K.In base
 glob:base.Ns Af mg
 blt:∃mb,base.Ns gl mb/\∀x:Str,x≠"__name__"->mb x=Ey x
 nolimit:base.NoLimit
structure Cx where
 prog:Ap
 w:BE
 K:AB
 mg:Str->Option AD
 base:Bu
 A:BC
 N:List Str
 s₀:AE
 H₀:Hp
 env:Env
 outer:List Env
 stack:List Env
 ex:List AM
 fn:Str->Bool
 calm:Bool
 pn:List (AM×Obj)
 xe:AD->AE->Prop
def frs (l:List Env):List AM:=l.filterMap (·.frame)
abbrev Cx.fs (X:Cx):List AM:=frs X.outer
def Vis (sc:Ie) (x:Str):Prop:=sc.names.lookup x=some .local∨sc.names.lookup x=some .cell∨sc.names.lookup x=some .free
def Loc (sc:Ie) (x:Str):Prop:=sc.names.lookup x=some .local∨sc.names.lookup x=some .cell
def Look (env:Env) (h:Bu) (m:Str->Option AD) (x:Str) (u:AD):Prop:=
 (env.kindOf x=some .local/\m x=some u)∨((env.kindOf x=some .cell∨env.kindOf x=some .free)/\∃c,env.cells.lookup x=some c/\h.IsCell c (some u))
structure Cx.Ok (X:Cx):Prop where
 mod:Mod X.K X.mg X.base
 kind:X.env.scope.kind=.function
 glob:X.env.globals=Af
 blt:X.env.builtins=gl
 above:X.s₀.heap.objs.size<=X.env.locals
 inj:∀x y c,X.env.cells.lookup x=some c->X.env.cells.lookup y=some c->x=y
 has:∀x,(X.env.kindOf x=some .cell∨X.env.kindOf x=some .free)->∃c,X.env.cells.lookup x=some c
 cab:∀x c,X.fn x=true->X.env.cells.lookup x=some c->X.s₀.heap.objs.size<=c
 hd:X.calm=true->X.A.handled=none
 frames:X.A.frames=some X.stack
 stk:X.stack=X.outer∨(X.stack=X.env :: X.outer/\X.env.frame=some X.env.locals)
 exf:∀b∈X.ex,b≠X.env.locals/\∀x c,X.env.cells.lookup x=some c->c≠b
 bs:∀b o,X.base.get? b=some o->X.s₀.heap.get? b=some o/\X.H₀ b=none
 bsz:X.base.objs.size<=X.s₀.heap.objs.size
 noex:∀b o,X.base.get? b=some o->b∉X.ex
 exfs:∀b∈X.ex,b∉X.fs
 funs:X.s₀.heap.FunFrames X.base X.outer
 frf:∀b∈X.fs,X.H₀ b=none
structure Inv (X:Cx) (pins:List (AM×Obj)) (σ:List (Option V)) (H:Hp) (s:AE):Prop where
 ok:X.Ok
 os:s.os=X.s₀.os
 bare:JR s.gens
 base:Un X.fs X.ex X.H₀ H X.s₀.heap s.heap
 loc:∃m,s.heap.Ns X.env.locals m/\∀(i:Nat) (x:Str) (v:V),X.N[i]?=some x->σ[i]?=some (some v)->Vis X.env.scope x->∃u,RelV v u/\Look X.env s.heap m x u
 cell:∀x c,X.env.cells.lookup x=some c->∃v,s.heap.IsCell c v
 free:H X.env.locals=none
 freeC:∀x c,X.env.cells.lookup x=some c->H c=none
 pin:∀p∈X.pn++pins,s.heap.get? p.1=some p.2/\H p.1=none/\p.1≠X.env.locals/\p.1∉X.fs/\∀v,p.2.data≠.cell v
 hok:HOk X.prog X.w H s.heap
 len:σ.length=X.N.length
section
variable {X:Cx} {pins:List (AM×Obj)} {σ:List (Option V)} {H H':Hp} {s:AE} {h':Bu}
theorem Cx.Ok.nofr (ok:X.Ok) {b:AM} {o:Obj} (e:X.base.get? b=some o):b∉X.fs:=λhb=>by
 have:=(ok.funs.mem hb).1;rw [e] at this;cases this
theorem Inv.bs (I:Inv X pins σ H s):∀b o,X.base.get? b=some o->s.heap.get? b=some o/\H b=none:=λb o e=>
 ⟨I.base.keep b o (I.ok.bs b o e).1 (I.ok.bs b o e).2 (I.ok.nofr e) (I.ok.noex b o e),I.base.free b o (I.ok.bs b o e).1 (I.ok.bs b o e).2 (I.ok.noex b o e)⟩
theorem Inv.bk (I:Inv X pins σ H s):∀b o,X.base.get? b=some o->s.heap.get? b=some o:=λb o e=>(I.bs b o e).1
theorem Inv.mod (I:Inv X pins σ H s):Mod X.K X.mg X.base:=I.ok.mod
theorem Inv.kIn (I:Inv X pins σ H s):X.K.In s.heap:=I.ok.mod.kin.keeps I.bk
theorem Inv.lt (I:Inv X pins σ H s):X.env.locals < s.heap.objs.size:=let ⟨_,hn,_⟩:=I.loc;hn.lt
theorem Inv.sz (I:Inv X pins σ H s):X.s₀.heap.objs.size<=s.heap.objs.size:=Am I.ok.above (VY I.lt)
theorem Inv.nofs (I:Inv X pins σ H s) {a:AM} (h:s.heap.objs.size<=a):a∉X.fs:=λhb=>by
 obtain ⟨_,o,ho,_⟩:=I.ok.funs.mem hb;exact absurd (Ag (Aa ho) (Am I.sz h)) (Cu _)
theorem Inv.cne (I:Inv X pins σ H s):∀x c,X.env.cells.lookup x=some c->c≠X.env.locals:=λx c e z=>by
 obtain ⟨v,o,ho,hd⟩:=I.cell x c e;obtain ⟨m,⟨o',es,ep,ho',hd',_⟩,_⟩:=I.loc;rw [z,ho'] at ho;cases ho;rw [hd'] at hd;cases hd
theorem Inv.funs (I:Inv X pins σ H s):s.heap.FunFrames X.base X.outer:=by
 have all:∀(l:List Env),(∀b∈frs l,b∈X.fs)->X.s₀.heap.FunFrames X.base l->s.heap.FunFrames X.base l:=by
  intro l
  induction l with
  | nil=>intro _ _;trivial
  | cons env r ih=>
   intro hs hl;obtain ⟨hk,⟨L,o,hf,hn,ho,hd⟩,hr⟩:=hl;have hL:L∈X.fs:=hs L (by unfold frs;rw [Mh,hf];exact A3)
   obtain ⟨sl,e⟩:=I.base.slot L o ho (I.ok.frf L hL) hL λz=>I.ok.exfs L z hL
   exact ⟨hk,⟨L,_,hf,hn,e,hd⟩,ih (λb hb=>hs b (by unfold frs;rw [Mh,hf];exact Ah _ hb)) hr⟩
 exact all X.outer (λ_ hb=>hb) I.ok.funs
theorem Inv.stack (I:Inv X pins σ H s):s.heap.FunFrames X.base X.stack:=by
 rcases I.ok.stk with e | ⟨e,hf⟩
 ·rw [e];exact I.funs
 ·rw [e]
  obtain ⟨m,hn,_⟩:=I.loc;refine .cons (by rw [I.ok.kind];decide) hf hn ?_ I.funs;exact Bu.get?_none_of_le (Am I.ok.bsz I.ok.above)
theorem Inv.stkSub (I:Inv X pins σ H s):∀b∈frs X.stack,b∈X.env.locals :: X.fs:=λb hb=>by
 rcases I.ok.stk with e | ⟨e,hf⟩
 ·rw [e] at hb;exact Ah _ hb
 ·rw [e] at hb
  unfold frs at hb;rw [Mh,hf] at hb;exact hb
theorem Inv.stkFree (I:Inv X pins σ H s):∀b∈frs X.stack,H b=none:=λb hb=>by
 rcases A2.mp (I.stkSub b hb) with e | hb
 ·rw [e];exact I.free
 ·obtain ⟨_,o,ho,_⟩:=I.ok.funs.mem hb
  exact I.base.free b o ho (I.ok.frf b hb) λz=>I.ok.exfs b z hb
theorem Inv.step {g':Array ca} {t':Nat} {d':Drawn} {ch:List AM} (I:Inv X pins σ H s)
  (hch:∀b∈ch,(b∈X.ex∨X.s₀.heap.objs.size<=b)/\b≠X.env.locals/\(∀x c,X.env.cells.lookup x=some c->c≠b)/\∀p∈X.pn++pins,p.1≠b)
  (keep:∀b o,b≠X.env.locals->b∉X.fs->b∉ch->s.heap.get? b=some o->H b=none->h'.get? b=some o)
  (slot:∀b o,b≠X.env.locals->b∈X.fs->b∉ch->s.heap.get? b=some o->H b=none->∃sl,h'.get? b=some { o with slots:=sl }) (free:∀b o,b∉ch->s.heap.get? b=some o->H b=none->H' b=none)
  (there:∀b o,b∉ch->s.heap.get? b=some o->∃o',h'.get? b=some o')
  (tups:∀b xs,H b=some (.tup xs)->H' b=some (.tup xs)) (frzs:∀b o u,H b=some (.frz o u)->H' b=some (.frz o u)) (tbls:∀b ps,H b=some (.tbl ps)->∃more,H' b=some (.tbl (ps++more)))
  (ns:∀m,s.heap.Ns X.env.locals m->h'.Ns X.env.locals m) (hok:HOk X.prog X.w H' h') (hg:JR g') :
  Inv X pins σ H' { s with heap:=h',gens:=g',drawn:=d',toks:=t' }:=by
 have neL:∀b o,X.s₀.heap.get? b=some o->b≠X.env.locals:=λb o e=>Av (Ag (Aa e) I.ok.above)
 have neC:∀b o,X.s₀.heap.get? b=some o->b∉X.ex->b∉ch:=λb o e hx hb=>by
  rcases (hch b hb).1 with z | z
  ·exact hx z
  ·exact absurd (Ag (Aa e) z) (Cu _)
 have cellK:∀x c,X.env.cells.lookup x=some c->∀v,s.heap.IsCell c v->h'.IsCell c v:=λx c e v ⟨o,ho,hd⟩=>by
  have nch:c∉ch:=λz=>(hch c z).2.2.1 x c e rfl
  by_cases hc:c∈X.fs
  ·obtain ⟨sl,q⟩:=slot c o (I.cne x c e) hc nch ho (I.freeC x c e)
   exact ⟨_,q,hd⟩
  ·exact ⟨o,keep c o (I.cne x c e) hc nch ho (I.freeC x c e),hd⟩
 refine ⟨I.ok,I.os,hg,⟨λb o e n hb hx=>?_,λb o e n hb hx=>?_,λb o e n hx=>?_,λb o e hx=>?_,λb xs e=>tups b xs (I.base.tups b xs e),λb o xs e=>frzs b o xs (I.base.frzs b o xs e),λb ps e=>?_⟩,?_,λx c e=>?_,?_,λx c e=>?_,λp hp=>?_,hok,I.len⟩
 ·exact keep b o (neL b o e) hb (neC b o e hx) (I.base.keep b o e n hb hx) (I.base.free b o e n hx)
 ·obtain ⟨sl,e1⟩:=I.base.slot b o e n hb hx
  obtain ⟨sl',e2⟩:=slot b _ (neL b o e) hb (neC b o e hx) e1 (I.base.free b o e n hx);exact ⟨sl',e2⟩
 ·obtain ⟨o',e1⟩:=I.base.there b o e hx
  exact free b o' (neC b o e hx) e1 (I.base.free b o e n hx)
 ·obtain ⟨o',e1⟩:=I.base.there b o e hx
  exact there b o' (neC b o e hx) e1
 ·obtain ⟨m1,e1⟩:=I.base.tbls b ps e
  obtain ⟨m2,e2⟩:=tbls b _ e1;exact ⟨m1++m2,by rw [e2,Array.append_assoc]⟩
 ·obtain ⟨m,hn,hl⟩:=I.loc
  refine ⟨m,ns m hn,λi x v e1 e2 e3=>?_⟩;obtain ⟨u,r,l⟩:=hl i x v e1 e2 e3;refine ⟨u,r,?_⟩
  rcases l with l | ⟨k,c,e,z⟩
  ·exact .inl l
  ·exact .inr ⟨k,c,e,cellK x c e _ z⟩
 ·obtain ⟨v,z⟩:=I.cell x c e
  exact ⟨v,cellK x c e v z⟩
 ·obtain ⟨m,⟨o,_,_,ho,_⟩,_⟩:=I.loc
  exact free _ o (λz=>(hch _ z).2.1 rfl) ho I.free
 ·obtain ⟨v,o,ho,hd⟩:=I.cell x c e
  exact free c o (λz=>(hch c z).2.2.1 x c e rfl) ho (I.freeC x c e)
 ·obtain ⟨e,n,ne,nf,d⟩:=I.pin p hp
  have nch:p.1∉ch:=λz=>(hch p.1 z).2.2.2 p hp rfl
  exact ⟨keep p.1 p.2 ne nf nch e n,free p.1 p.2 nch e n,ne,nf,d⟩
theorem Inv.un {t':Nat} (I:Inv X pins σ H s) (u:Un X.fs [] H H' s.heap h') (hok:HOk X.prog X.w H' h'):Inv X pins σ H' { s with heap:=h',toks:=t' }:=by
 obtain ⟨m,⟨o,es,ep,ho,r⟩,_⟩:=id I.loc;obtain ⟨sl,hL⟩:=u.any ho I.free (by simp)
 exact I.step (g':=s.gens) (d':=s.drawn) (ch:=[]) (λ_ z=>nomatch z) (λb o _ hb _ e n=>u.keep b o e n hb (by simp)) (λb o _ hb _ e n=>u.slot b o e n hb (by simp)) (λb o _ e n=>u.free b o e n (by simp)) (λb o _ e=>u.there b o e (by simp)) u.tups u.frzs u.tbls (λm' hm=>by
  obtain ⟨o',es',ep',ho',r'⟩:=hm;rw [ho] at ho';cases ho'
  exact ⟨_,es',ep',hL,r'⟩) hok I.bare
theorem Inv.call {g':Array ca} {t':Nat} {d':Drawn} {ch:List AM} (I:Inv X pins σ H s) (u:Un (frs X.stack) ch H H' s.heap h') (hok:HOk X.prog X.w H' h') (hg:JR g')
  (hch:∀b∈ch,(b∈X.ex∨X.s₀.heap.objs.size<=b)/\b≠X.env.locals/\(∀x c,X.env.cells.lookup x=some c->c≠b)/\∀p∈X.pn++pins,p.1≠b) :
  Inv X pins σ H' { s with heap:=h',gens:=g',drawn:=d',toks:=t' }:=by
 obtain ⟨m,⟨o,es,ep,ho,r⟩,_⟩:=id I.loc
 obtain ⟨sl,hL⟩:=u.any ho I.free λz=>(hch _ z).2.1 rfl
 exact I.step (ch:=ch) hch (λb o hL hb hc e n=>u.keep b o e n (λz=>(A2.mp (I.stkSub b z)).elim hL hb) hc) (λb o _ _ hc e n=>u.any e n hc) (λb o hc e n=>u.free b o e n hc) (λb o hc e=>u.there b o e hc) u.tups u.frzs u.tbls (λm' hm=>by
  obtain ⟨o',es',ep',ho',r'⟩:=hm;rw [ho] at ho';cases ho'
  exact ⟨_,es',ep',hL,r'⟩) hok hg
theorem Inv.turned {t':Nat} {it:AM} (I:Inv X pins σ H s) (k:∀b o,b≠it->s.heap.get? b=some o->h'.get? b=some o) (hn:H it=none) (hL:it≠X.env.locals)
  (h1:it∈X.ex∨X.s₀.heap.objs.size<=it) (h2:∀x c,X.env.cells.lookup x=some c->c≠it) (h3:∀p∈X.pn++pins,p.1≠it):Inv X pins σ H { s with heap:=h',toks:=t' }:=by
 have nit:∀b u,H b=some u->b≠it:=λb u e z=>by rw [z,hn] at e;cases e
 refine I.step (g':=s.gens) (d':=s.drawn) (ch:=[it]) (λb hb=>?_) (λb o _ _ hc e _=>k b o (λz=>hc (by simp [z])) e) (λb o _ _ hc e _=>⟨o.slots,k b o (λz=>hc (by simp [z])) e⟩) (λ_ _ _ _ n=>n)
  (λb o hc e=>⟨o,k b o (λz=>hc (by simp [z])) e⟩) (λ_ _ e=>e) (λ_ _ _ e=>e) (λb ps e=>⟨#[],by rw [e];simp⟩) (λm hm=>?_) (λb u e=>?_) I.bare
 ·have e:b=it:=by simpa using hb
  subst e;exact ⟨h1,hL,h2,h3⟩
 ·obtain ⟨o,es,ep,ho,r⟩:=hm
  exact ⟨o,es,ep,k _ o (Bo hL) ho,r⟩
 ·refine (I.hok b u e).stay (λc v hc q=>k c v ?_ q) (λ_ q=>q) λ_ _ q=>q
  rcases hc with z | z
  ·rw [z];exact nit b u e
  ·exact nit c _ z
theorem Inv.tok (I:Inv X pins σ H s) (t:Nat):Inv X pins σ H { s with toks:=t }:=I.un (h':=s.heap) (t':=t) Un.refl I.hok
theorem Inv.kept {t':Nat} (I:Inv X pins σ H s) (k:∀b u,s.heap.get? b=some u->h'.get? b=some u):Inv X pins σ H { s with heap:=h',toks:=t' }:=I.un (Un.kept k) (I.hok.kept k)
theorem Inv.laid {a:AM} {o:HO} {t':Nat} (I:Inv X pins σ H s) (k:∀b u,s.heap.get? b=some u->h'.get? b=some u) (hp:s.heap.objs.size<=a) (new:DP X.prog X.w (upd H a o) h' a o) :
  Inv X pins σ (upd H a o) { s with heap:=h',toks:=t' }:=I.un (Un.laid k hp (I.hok.fresh hp)) (I.hok.laid k hp new)
theorem Inv.write {x e:AM} {o:HO} {t':Nat} (I:Inv X pins σ H s) (mu:Mut (H x)) (he:e=x∨H e=some (.own x)) (k:∀b u,b≠e->s.heap.get? b=some u->h'.get? b=some u) (heo:∃u,h'.get? e=some u)
  (new:DP X.prog X.w (upd H x o) h' x o):Inv X pins σ (upd H x o) { s with heap:=h',toks:=t' }:=I.un (Un.write mu he k heo) (I.hok.write mu he k heo new)
theorem Inv.pins_of {pins':List (AM×Obj)} (I:Inv X pins σ H s) (h:∀p∈pins',s.heap.get? p.1=some p.2/\H p.1=none/\p.1≠X.env.locals/\p.1∉X.fs/\∀v,p.2.data≠.cell v):Inv X pins' σ H s:=
 ⟨I.ok,I.os,I.bare,I.base,I.loc,I.cell,I.free,I.freeC,λp hp=>(Az.mp hp).elim (λz=>I.pin p (Bz _ z)) (h p),I.hok,I.len⟩
theorem UY {N:List Str} (hN:N.Nodup) {i j:Nat} {x:Str} (a:N[i]?=some x) (b:N[j]?=some x):i=j:=by
 obtain ⟨h1,e1⟩:=AH.mp a;obtain ⟨h2,e2⟩:=AH.mp b;exact (Om hN).mp (e1.trans e2.symm)
theorem RQ {M:kf} {A:BC} {E:AD->AE->Prop} {i:Nat} {x:Str} {v:V} {u:AD} {Q:Unit->AE->Prop} (I:Inv X pins σ H s) (hN:X.N.Nodup) (hi:X.N[i]?=some x) (hx:Loc X.env.scope x) (r:RelV v u)
  (h:∀s',Inv X pins (σ.set i (some v)) H s'->(∃a,Ei a s.heap s'.heap/\(a=X.env.locals∨X.env.cells.lookup x=some a))->Q () s') (hf:X.fn x=true∨X.env.scope.names.lookup x=some .local:=by first | exact .inl rfl | exact .inr rfl | assumption):Ac M A (ko X.env x u) Q E s:=by
 obtain ⟨m,hn,hl⟩:=id I.loc
 have hcls:(X.env.scope.kind==.class||(X.env.scope.kind==.module&&X.env.locals != X.env.globals))=false:=by rw [I.ok.kind];rfl
 have hiσ:i < σ.length:=by rw [I.len];exact (AH.mp hi).1
 have cne:=I.cne
 have tracked:∀ {a:AM} {h':Bu},(∃o,s.heap.get? a=some o/\H a=none)->Ei a s.heap h'->HOk X.prog X.w H h':=λ{a h'} ha hs b ob e=>by
  obtain ⟨_,_,hfree⟩:=ha
  refine (I.hok b ob e).stay (λc w' hc q=>(hs.2 c ?_).trans q) (λ_ q=>q) λ_ _ q=>q
  rintro rfl
  rcases hc with rfl | hc
  ·rw [hfree] at e;cases e
  ·rw [hfree] at hc;cases hc
 rcases hx with hk | hk
 ·refine wpAny_storeName_local hk hn (λh' hn' hs=>?_) hcls
  obtain ⟨oL,_,_,hoL,_⟩:=id hn;refine h _ ⟨I.ok,I.os,I.bare,⟨λb o e n hb hx=>?_,λb o e n hb hx=>?_,I.base.free,λb o e hx=>?_,I.base.tups,I.base.frzs,I.base.tbls⟩,⟨_,hn',λj y v' e1 e2 e3=>?_⟩,λy c e=>?_,I.free,I.freeC,λp hp=>?_,tracked ⟨oL,hoL,I.free⟩ hs,by simpa using I.len⟩ ⟨_,hs,.inl rfl⟩
  ·exact (hs.2 b (Av (Ag (Aa e) I.ok.above))).trans (I.base.keep b o e n hb hx)
  ·obtain ⟨sl,e1⟩:=I.base.slot b o e n hb hx
   exact ⟨sl,(hs.2 b (Av (Ag (Aa e) I.ok.above))).trans e1⟩
  ·obtain ⟨o',e1⟩:=I.base.there b o e hx
   exact ⟨o',(hs.2 b (Av (Ag (Aa e) I.ok.above))).trans e1⟩
  ·by_cases hj:j=i
   ·subst hj
    rw [hi] at e1;cases e1;rw [A6 hiσ] at e2;cases e2;exact ⟨u,r,.inl ⟨hk,by simp⟩⟩
   ·rw [At (Bo hj)] at e2
    obtain ⟨u',r',q⟩:=hl j y v' e1 e2 e3;refine ⟨u',r',?_⟩
    rcases q with ⟨k,e⟩ | ⟨k,c,e,z⟩
    ·refine .inl ⟨k,?_⟩
     have:y≠x:=λe=>hj (UY hN e1 (e▸hi))
     simp [this,e]
    ·exact .inr ⟨k,c,e,z.sameBut hs (cne y c e)⟩
  ·obtain ⟨w',z⟩:=I.cell y c e
   exact ⟨w',z.sameBut hs (cne y c e)⟩
  ·obtain ⟨e,n,ne,nf,d⟩:=I.pin p hp
   exact ⟨(hs.2 p.1 ne).trans e,n,ne,nf,d⟩
 ·have hfn:X.fn x=true:=by
   rcases hf with z | z
   ·exact z
   ·rw [z] at hk;cases hk
  obtain ⟨c,hc⟩:=I.ok.has x (.inl hk);obtain ⟨w',z⟩:=I.cell x c hc;refine wpAny_storeName_cell I.ok.kind hk hc z (λh' hc' hs=>?_);obtain ⟨oc,hoc,hocd⟩:=id z;refine h { s with heap:=h' } ⟨I.ok,I.os,I.bare,⟨λb o e n hb hx=>?_,λb o e n hb hx=>?_,I.base.free,λb o e hx=>?_,I.base.tups,I.base.frzs,I.base.tbls⟩,⟨m,hn.sameBut hs (Bo (cne x c hc)),λj y v' e1 e2 e3=>?_⟩,λy c' e=>?_,I.free,I.freeC,λp hp=>?_,tracked ⟨oc,hoc,I.freeC x c hc⟩ hs,by simpa using I.len⟩ ⟨c,hs,.inr hc⟩
  ·exact (hs.2 b (Av (Ag (Aa e) (I.ok.cab x c hfn hc)))).trans (I.base.keep b o e n hb hx)
  ·obtain ⟨sl,e1⟩:=I.base.slot b o e n hb hx
   exact ⟨sl,(hs.2 b (Av (Ag (Aa e) (I.ok.cab x c hfn hc)))).trans e1⟩
  ·obtain ⟨o',e1⟩:=I.base.there b o e hx
   exact ⟨o',(hs.2 b (Av (Ag (Aa e) (I.ok.cab x c hfn hc)))).trans e1⟩
  ·by_cases hj:j=i
   ·subst hj
    rw [hi] at e1;cases e1;rw [A6 hiσ] at e2;cases e2;exact ⟨u,r,.inr ⟨.inl hk,c,hc,hc'⟩⟩
   ·rw [At (Bo hj)] at e2
    obtain ⟨u',r',q⟩:=hl j y v' e1 e2 e3;refine ⟨u',r',?_⟩
    rcases q with q | ⟨k,c',e,z'⟩
    ·exact .inl q
    ·refine .inr ⟨k,c',e,z'.sameBut hs ?_⟩
     rintro rfl;exact hj (UY hN e1 (I.ok.inj _ _ _ e hc▸hi))
  ·by_cases hcc:c'=c
   ·subst hcc;exact ⟨_,hc'⟩
   ·obtain ⟨w2,z2⟩:=I.cell y c' e
    exact ⟨w2,z2.sameBut hs hcc⟩
  ·obtain ⟨e,n,ne,nf,d⟩:=I.pin p hp
   refine ⟨(hs.2 p.1 ?_).trans e,n,ne,nf,d⟩;intro q;rw [q,hoc] at e;have q':oc=p.2:=Ck e;exact d w' (by rw [<-q'];exact hocd)
theorem Pi {M:kf} {A:BC} {E:AD->AE->Prop} {i:Nat} {x:Str} {v:V} {u:AD} {Q:Unit->AE->Prop} (I:Inv X pins σ H s) (hN:X.N.Nodup) (hi:X.N[i]?=some x) (hx:Loc X.env.scope x) (r:RelV v u)
  (h:∀s',Inv X pins (σ.set i (some v)) H s'->Q () s') (hf:X.fn x=true∨X.env.scope.names.lookup x=some .local:=by first | exact .inl rfl | exact .inr rfl | assumption):Ac M A (ko X.env x u) Q E s:=
 RQ I hN hi hx r (λs' I' _=>h s' I') hf
theorem Inv.call' {s':AE} {ch:List AM} (I:Inv X pins σ H s) (ho:s'.os=s.os) (u:Un (frs X.stack) ch H H' s.heap s'.heap) (hok:HOk X.prog X.w H' s'.heap) (hg:JR s'.gens)
  (hch:∀b∈ch,(b∈X.ex∨X.s₀.heap.objs.size<=b)/\b≠X.env.locals/\(∀x c,X.env.cells.lookup x=some c->c≠b)/\∀p∈X.pn++pins,p.1≠b):Inv X pins σ H' s':=by
 obtain ⟨h',g',d',t',o'⟩:=s';have e:o'=s.os:=ho;subst e;exact I.call (g':=g') (t':=t') (d':=d') u hok hg hch
end
abbrev XK:=AD->Option AM->Hp->Prop
abbrev St:=List (Option V)
abbrev VK:=V->Hp->Prop
abbrev TE:=St->Hp->VK->Prop
abbrev TT:=St->Hp->(Bool->Hp->Prop)->Prop
abbrev TA:=St->Hp->(List V->Hp->Prop)->Prop
structure Wm where
 nx:St->Hp->Prop
 rt:VK
 bk:St->Hp->Prop:=λ_ _=>False
 ct:St->Hp->Prop:=λ_ _=>False
abbrev TS:=Wm->St->Hp->Prop
def EP (X:Cx) (pins:List (AM×Obj)) (σ:St) (Q:VK) (u:AD) (s':AE):Prop:=∃v H',Inv X pins σ H' s'/\RelV v u/\Q v H'
def TP (X:Cx) (pins:List (AM×Obj)) (σ:St) (Q:Bool->Hp->Prop) (b:Bool) (s':AE):Prop:=∃H',Inv X pins σ H' s'/\Q b H'
def AP (X:Cx) (pins:List (AM×Obj)) (σ:St) (Q:List V->Hp->Prop) (us:List AD) (s':AE):Prop:=∃vs H',Inv X pins σ H' s'/\Bs vs us/\Q vs H'
def SP (X:Cx) (pins:List (AM×Obj)) (D:Wm) (f:Flow) (s':AE):Prop:=
 match f with
 | .next=>∃σ' H',Inv X pins σ' H' s'/\D.nx σ' H'
 | .brk=>∃σ' H',Inv X pins σ' H' s'/\D.bk σ' H'
 | .cont=>∃σ' H',Inv X pins σ' H' s'/\D.ct σ' H'
 | .ret u=>∃v σ' H',Inv X pins σ' H' s'/\RelV v u/\D.rt v H'
def PE (X:Cx) (e:Expr) (t:TE):Prop:=
 ∀(pins:List (AM×Obj)) (s:AE) (σ:St) (H:Hp) (Q:VK),Inv X pins σ H s->t σ H Q->Ac (AZ X.prog X.w) X.A (CS e X.env) (EP X pins σ Q) X.xe s
def PT (X:Cx) (e:Expr) (t:TT):Prop:=
 ∀(pins:List (AM×Obj)) (s:AE) (σ:St) (H:Hp) (Q:Bool->Hp->Prop),Inv X pins σ H s->t σ H Q->Ac (AZ X.prog X.w) X.A (VN e X.env (CS e X.env)) (TP X pins σ Q) X.xe s
def PW (X:Cx) (e:Expr) (t:TT):Prop:=
 ∀(whole:Sem AD) (pins:List (AM×Obj)) (s:AE) (σ:St) (H:Hp) (Q:Bool->Hp->Prop),Inv X pins σ H s->t σ H Q->Ac (AZ X.prog X.w) X.A (VN e X.env whole) (TP X pins σ Q) X.xe s
theorem PW.pt {X:Cx} {e:Expr} {t:TT} (h:PW X e t):PT X e t:=h _
def PA (X:Cx) (es:List Expr) (t:TA):Prop:=
 ∀(pos:Pos) (pins:List (AM×Obj)) (s:AE) (σ:St) (H:Hp) (Q:List V->Hp->Prop),Inv X pins σ H s->t σ H Q->Ac (AZ X.prog X.w) X.A (spliced (Dz pos (Ab es X.env))) (AP X pins σ Q) X.xe s
def PS (X:Cx) (st:C1) (t:TS):Prop:=
 ∀(pins:List (AM×Obj)) (s:AE) (σ:St) (H:Hp) (D:Wm),Inv X pins σ H s->t D σ H->Ac (AZ X.prog X.w) X.A (exec st X.env) (SP X pins D) X.xe s
def PSs (X:Cx) (st:List C1) (t:TS):Prop:=
 ∀(pins:List (AM×Obj)) (s:AE) (σ:St) (H:Hp) (D:Wm),Inv X pins σ H s->t D σ H->Ac (AZ X.prog X.w) X.A (execs st X.env) (SP X pins D) X.xe s
theorem thn {α:Type} {t:Sem α} {Q Q':α->AE->Prop} {M:kf} {A:BC} {E:AD->AE->Prop} {s:AE} (h:Ac M A t Q E s) (hQ:∀a s,Q a s->Q' a s):Ac M A t Q' E s:=Dx h hQ λ_ _ x=>x
end L2
namespace L2
open PySem PySem.Spec PyProof.Rows
section
variable {X:Cx}
def iQ (i:Nat):TE:=λσ H Q=>∃v,σ[i]?=some (some v)/\Q v H
def tC (v:V):TE:=λ_ H Q=>Q v H
theorem i7 {i:Nat} {x:Str} {pos:Pos} (hN:X.N[i]?=some x) (hv:Vis X.env.scope x) (hd:(x==("__debug__" : Str))=false:=by decide) (hcd:(x==("__classdict__" : Str))=false:=by decide):PE X (.Name x pos) (iQ i):=by
 intro pins s σ H Q I h;obtain ⟨v,e,h⟩:=h;obtain ⟨m,hn,hl⟩:=I.loc;obtain ⟨u,r,l⟩:=hl i x v hN e hv;have fin:EP X pins σ Q u s:=⟨v,H,I,r,h⟩
 rcases l with ⟨hk,hm⟩ | ⟨hk,c,hc,hcell⟩
 ·exact gh (cQ I.ok.kind hk hn hm fin) hd
 ·rcases hk with hk | hk
  ·exact gh (fv I.ok.kind hk hc hcell fin) hd
  ·exact gh (wpAny_loadName_free I.ok.kind hk hc hcell fin hcd) hd
theorem aP {i j pos}:PE X (.Constant (.int i) j pos) (tC (.int i)):=λ_ _ _ H _ I h=>wpAny_Constant_int ⟨.int i,H,I.tok _,⟨_,rfl⟩,h⟩
theorem lz {b j pos}:PE X (.Constant (.bool b) j pos) (tC (.bl b)):=λ_ _ _ H _ I h=>Constant_bool ⟨.bl b,H,I,rfl,h⟩
theorem jC {j pos}:PE X (.Constant .none j pos) (tC .non):=λ_ _ _ H _ I h=>Constant_none ⟨.non,H,I,rfl,h⟩
theorem i9 {x j pos}:PE X (.Constant (.str x) j pos) (tC (.str x)):=λ_ _ _ H _ I h=>Calls.Constant_str ⟨.str x,H,I.tok _,⟨_,rfl⟩,h⟩
def Gl (X:Cx) (x:Str):Prop:=X.env.kindOf x=some .globalImplicit
theorem Su {E:AD->AE->Prop} {pins:List (AM×Obj)} {s:AE} {σ:St} {H:Hp} {x:Str} {u:AD} {pos:Pos} {Q:AD->AE->Prop} (I:Inv X pins σ H s) (hg:Gl X x) (hm:X.mg x=some u) (h:Q u s)
  (hd:(x==("__debug__" : Str))=false:=by decide):Ac (AZ X.prog X.w) X.A (CS (.Name x pos) X.env) Q E s:=
 Qp I.ok.kind hg (Calls.loadGlobal_global (by rw [I.ok.glob];exact I.mod.glob.keeps I.bk) hm h) hd
theorem LA {E:AD->AE->Prop} {pins:List (AM×Obj)} {s:AE} {σ:St} {H:Hp} {x:Str} {u:AD} {pos:Pos} {Q:AD->AE->Prop} (I:Inv X pins σ H s) (hg:Gl X x) (hm:X.mg x=none) (hv:Ey x=some u) (h:Q u s)
  (hn:x≠"__name__":=by decide) (hd:(x==("__debug__" : Str))=false:=by decide):Ac (AZ X.prog X.w) X.A (CS (.Name x pos) X.env) Q E s:=by
 obtain ⟨mb,h1,h2⟩:=I.mod.blt;exact Qp I.ok.kind hg (Calls.loadGlobal_builtin (by rw [I.ok.glob];exact I.mod.glob.keeps I.bk) hm (by rw [I.ok.blt];exact h1.keeps I.bk) ((h2 x hn).trans hv) h) hd
theorem d8 {x:Str} {v:V} {u:AD} {pos:Pos} (hg:Gl X x) (hm:X.mg x=some u) (r:RelV v u) (hd:(x==("__debug__" : Str))=false:=by decide):PE X (.Name x pos) (tC v):=
 λ_ _ _ H _ I h=>Su I hg hm ⟨v,H,I,r,h⟩ hd
theorem Sd {x:Str} {v:V} {u:AD} {pos:Pos} (hg:Gl X x) (hm:X.mg x=none) (hv:Ey x=some u) (r:RelV v u) (hn:x≠"__name__":=by decide) (hd:(x==("__debug__" : Str))=false:=by decide):PE X (.Name x pos) (tC v):=
 λ_ _ _ H _ I h=>LA I hg hm hv ⟨v,H,I,r,h⟩ hn hd
variable {a b:Expr} {ta tb:TE} {pos:Pos}
def PC (X:Cx) (op:Qo) (a b:Expr) (t:TE):Prop:=
 ∀(pins:List (AM×Obj)) (s:AE) (σ:St) (H:Hp) (Q:VK),Inv X pins σ H s->t σ H Q ->
  Ac (AZ X.prog X.w) X.A (CS a X.env) (λv s₁=>Ac (AZ X.prog X.w) X.A (CS b X.env) (λu s₂=>Ac (AZ X.prog X.w) X.A (Bk op v u) (EP X pins σ Q) X.xe s₂) X.xe s₁) X.xe s
def tB (t:TE):TT:=λσ H Q=>t σ H λx H1=>∃c,x=.bl c/\Q c H1
theorem aT {op:Qo} {t:TE} (h:PC X op a b t) (h1:B2 op b=false:=by first | exact nobehind _ (by decide) (by decide) | rfl):PE X (.Compare a [op] [b] pos) t:=λpins s σ H Q I hw=>wpAny_Compare1 (h pins s σ H Q I hw) h1
theorem aG {op:Qo} {t:TE} (h:PC X op a b t) (h1:B2 op b=false:=by first | exact nobehind _ (by decide) (by decide) | rfl):PT X (.Compare a [op] [b] pos) (tB t):=by
 intro pins s σ H Q I hw;refine cI (thn (h pins s σ H _ I hw) λv s1 h1=>thn h1 λu s2 h2=>thn h2 λc s3 ⟨x,H1,I1,r1,q1⟩=>?_) h1;obtain ⟨d,rfl,q⟩:=q1;cases r1;exact B1 ⟨H1,I1,q⟩
theorem iq {e:Expr} {t:TE} (h:PE X e t) (he:∀whole,VN e X.env whole=(do let v <-whole;kT e.pos;ZP [v] (gj v)):=by intro _;rfl):PT X e (tB t):=by
 intro pins s σ H Q I hw;refine isTrue_plain (thn (h pins s σ H _ I hw) λv s1 ⟨x,H1,I1,r1,q1⟩=>?_) (he _);obtain ⟨d,rfl,q⟩:=q1;cases r1;exact B1 ⟨H1,I1,q⟩
variable {tA tB':TT} {rest:List Expr}
def lf (t u:TT):TT:=λσ H Q=>t σ H λc H1=>if c=true then u σ H1 Q else Q false H1
def tOr (t u:TT):TT:=λσ H Q=>t σ H λc H1=>if c=true then Q true H1 else u σ H1 Q
def tNot (t:TT):TT:=λσ H Q=>t σ H λc H1=>Q (!c) H1
theorem df (ha:PT X a tA):PW X (.BoolOp .And [a] pos) tA:=by
 intro wh pins s σ H Q I h;refine isTrue_and (thn (ha pins s σ H Q I h) λc s1 e=>?_)
 cases c with
 | true=>exact isTrue_and_nil e
 | false=>exact e
theorem io (ha:PT X a tA):PW X (.BoolOp .Or [a] pos) tA:=by
 intro wh pins s σ H Q I h;refine isTrue_or (thn (ha pins s σ H Q I h) λc s1 e=>?_)
 cases c with
 | false=>exact isTrue_or_nil e
 | true=>exact e
theorem ip (ha:PT X a tA) (hb:PW X (.BoolOp .And (b :: rest) pos) tB'):PW X (.BoolOp .And (a :: b :: rest) pos) (lf tA tB'):=by
 intro wh pins s σ H Q I h;refine isTrue_and (thn (ha pins s σ H _ I h) λc s1 ⟨H1,I1,q1⟩=>?_)
 cases c with
 | true=>exact hb wh pins s1 σ H1 Q I1 q1
 | false=>exact ⟨H1,I1,q1⟩
theorem lr (ha:PT X a tA) (hb:PW X (.BoolOp .Or (b :: rest) pos) tB'):PW X (.BoolOp .Or (a :: b :: rest) pos) (tOr tA tB'):=by
 intro wh pins s σ H Q I h;refine isTrue_or (thn (ha pins s σ H _ I h) λc s1 ⟨H1,I1,q1⟩=>?_)
 cases c with
 | true=>exact ⟨H1,I1,q1⟩
 | false=>exact hb wh pins s1 σ H1 Q I1 q1
theorem ir (ha:PT X a tA):PT X (.UnaryOp .Not a pos) (tNot tA):=by
 intro pins s σ H Q I h;exact isTrue_not (ha pins s σ H (λc H1=>Q (!c) H1) I h)
def lc (ta tb:TE):TE:=λσ H Q=>ta σ H λx H1=>∃c,x=.bl c/\if c=true then tb σ H1 Q else Q (.bl false) H1
def tOrV (ta tb:TE):TE:=λσ H Q=>ta σ H λx H1=>∃c,x=.bl c/\if c=true then Q (.bl true) H1 else tb σ H1 Q
def lR (ta:TE):TE:=λσ H Q=>ta σ H λx H1=>∃c,x=.bl c/\Q (.bl (!c)) H1
theorem jA {op} {t:TE} (h:PE X a t):PE X (.BoolOp op [a] pos) t:=λpins s σ H Q I hw=>BoolOp_one (h pins s σ H Q I hw)
theorem jF (ha:PE X a ta) (hb:PE X (.BoolOp .And (b :: rest) pos) tb):PE X (.BoolOp .And (a :: b :: rest) pos) (lc ta tb):=by
 intro pins s σ H Q I h;refine BoolOp_and (thn (ha pins s σ H _ I h) λv s1 ⟨x,H1,I1,r1,q1⟩=>?_);obtain ⟨c,rfl,q1⟩:=q1;cases r1;refine B1 ?_
 cases c with
 | true=>exact hb pins s1 σ H1 Q I1 q1
 | false=>exact ⟨.bl false,H1,I1,rfl,q1⟩
theorem lv (ha:PE X a ta) (hb:PE X (.BoolOp .Or (b :: rest) pos) tb):PE X (.BoolOp .Or (a :: b :: rest) pos) (tOrV ta tb):=by
 intro pins s σ H Q I h;refine BoolOp_or (thn (ha pins s σ H _ I h) λv s1 ⟨x,H1,I1,r1,q1⟩=>?_);obtain ⟨c,rfl,q1⟩:=q1;cases r1;refine B1 ?_
 cases c with
 | false=>exact hb pins s1 σ H1 Q I1 q1
 | true=>exact ⟨.bl true,H1,I1,rfl,q1⟩
theorem jB (ha:PE X a ta):PE X (.UnaryOp .Not a pos) (lR ta):=by
 intro pins s σ H Q I h;refine UnaryOp_ (thn (ha pins s σ H _ I h) λv s1 ⟨x,H1,I1,r1,q1⟩=>?_);obtain ⟨c,rfl,q1⟩:=q1;cases r1;exact not_of (B1 ⟨.bl (!c),H1,I1,rfl,q1⟩)
def tIf (t:TT) (ta tb:TE):TE:=λσ H Q=>t σ H λc H1=>if c=true then ta σ H1 Q else tb σ H1 Q
theorem aQ {c:Expr} (hc:PT X c tA) (ha:PE X a ta) (hb:PE X b tb):PE X (.IfExp c a b pos) (tIf tA ta tb):=by
 intro pins s σ H Q I h;refine wpAny_IfExp (thn (hc pins s σ H _ I h) λd s1 ⟨H1,I1,q1⟩=>?_)
 cases d with
 | true=>exact ha pins s1 σ H1 Q I1 q1
 | false=>exact hb pins s1 σ H1 Q I1 q1
end
end L2
namespace L2
open PySem PySem.Spec PyProof.Rows
def SqL (K:AB) (H:Hp) (a:AM) (xs:List V):Prop:=
 Rd H a (.lst xs) ∨
  ∃(o:Obj) (its:Array AD) (n:Nat),K.lookup a=some o/\o.cls=.type "list"/\o.dict=none/\o.data=.seq its n/\its.size<=sizeLine/\Bs xs its.toList
def SqT (K:AB) (H:Hp) (a:AM) (xs:List V):Prop:=
 Rd H a (.tup xs) ∨
  ∃(o:Obj) (its:Array AD) (n:Nat),K.lookup a=some o/\o.cls=.type "tuple"/\o.data=.seq its n/\its.size<=sizeLine/\Bs xs its.toList
def absV:AD->Option V
 | .none=>some .non
 | .bool b=>some (.bl b)
 | .int i _=>some (.int i)
 | .str x _=>some (.str x)
 | .bytes b _=>some (.byt b)
 | .float b _=>some (.flt b)
 | .ref a=>some (.ref a)
 | .type n=>some (.ty n)
 | _=>none
theorem RelV.abs {x:V} {u:AD} (r:RelV x u):absV u=some x:=by
 cases x with
 | non=>cases r;rfl
 | bl _=>cases r;rfl
 | int _=>obtain ⟨t,rfl⟩:=r;rfl
 | str _=>obtain ⟨t,rfl⟩:=r;rfl
 | byt _=>obtain ⟨t,rfl⟩:=r;rfl
 | flt _=>obtain ⟨t,rfl⟩:=r;rfl
 | ref _=>cases r;rfl
 | ty _=>cases r;rfl
theorem RelV.inj {x y:V} {u:AD} (r:RelV x u) (q:RelV y u):x=y:=Ck (r.abs.symm.trans q.abs)
theorem Bs.inj:∀ {xs ys:List V} {us:List AD},Bs xs us->Bs ys us->xs=ys
 | _,_,_,.nil,.nil=>rfl
 | _,_,_,.cons r t,.cons r' t'=>by rw [r.inj r',Bs.inj t t']
section
variable {X:Cx} {pins:List (AM×Obj)} {σ:St} {H:Hp} {s:AE} {a:AM} {xs ys:List V}
theorem Inv.list (I:Inv X pins σ H s) (h:SqL X.K H a xs):∃its:List AD,Bs xs its/\PlainL s.heap a its.toArray/\xs.length<=sizeLine:=by
 rcases h with h | ⟨o,its,n,hk,hc,hd,hs,hz,r⟩
 ·obtain ⟨z,its,n,r,e⟩:=h.ok I.hok
  exact ⟨its,r,⟨_,n,e,rfl,rfl,rfl⟩,z⟩
 ·refine ⟨its.toList,r,⟨o,n,I.kIn a o hk,hc,hd,by simpa using hs⟩,?_⟩
  have e:=r.length;simp only [Bq] at e;omega
theorem Inv.tuple (I:Inv X pins σ H s) (h:SqT X.K H a xs):∃its:List AD,Bs xs its/\Va s.heap a its.toArray/\xs.length<=sizeLine:=by
 rcases h with h | ⟨o,its,n,hk,hc,hs,hz,r⟩
 ·obtain ⟨z,its,r,p⟩:=h.ok I.hok
  exact ⟨its,r,p,z⟩
 ·refine ⟨its.toList,r,⟨o,I.kIn a o hk,hc,n,by simpa using hs⟩,?_⟩
  have e:=r.length;simp only [Bq] at e;omega
theorem Inv.list_inj (I:Inv X pins σ H s) (h:SqL X.K H a xs) (h':SqL X.K H a ys):xs=ys:=by
 obtain ⟨its,r,⟨o,n,e,_,_,d⟩,_⟩:=I.list h;obtain ⟨its',r',⟨o',n',e',_,_,d'⟩,_⟩:=I.list h';rw [e] at e';cases e';rw [d] at d'
 injection d' with d1 _
 have:its=its':=by simpa using congrArg gz d1
 subst this;exact r.inj r'
theorem Inv.tuple_inj (I:Inv X pins σ H s) (h:SqT X.K H a xs) (h':SqT X.K H a ys):xs=ys:=by
 obtain ⟨its,r,⟨o,e,_,n,d⟩,_⟩:=I.tuple h;obtain ⟨its',r',⟨o',e',_,n',d'⟩,_⟩:=I.tuple h';rw [e] at e';cases e';rw [d] at d'
 injection d' with d1 _
 have:its=its':=by simpa using congrArg gz d1
 subst this;exact r.inj r'
end
section
variable {X:Cx} {pins:List (AM×Obj)} {σ:St} {H:Hp} {s:AE} {E:AD->AE->Prop}
end
section
variable {X:Cx} {st:C1} {rest:List C1} {t u:TS} {e:Expr} {te:TE} {pos:Pos}
def lS:TS:=λD σ H=>D.nx σ H
def tSeq (t u:TS):TS:=λD σ H=>t { D with nx:=u D } σ H
theorem dk:PSs X [] lS:=λ_ _ σ H _ I h=>Tn ⟨σ,H,I,h⟩
theorem aI (h1:PS X st t) (h2:PSs X rest u):PSs X (st :: rest) (tSeq t u):=by
 intro pins s σ H D I h;refine km (thn (h1 pins s σ H { D with nx:=u D } I h) λf s1 q=>?_)
 cases f with
 | next=>
  obtain ⟨σ',H',I',q⟩:=q;exact h2 pins s1 σ' H' D I' q
 | ret v=>exact q
 | brk=>exact q
 | cont=>exact q
theorem dj (h1:PS X st t):PSs X [st] t:=by
 intro pins s σ H D I h;refine km (thn (h1 pins s σ H D I h) λf s1 q=>?_)
 cases f with
 | next=>exact Tn q
 | ret v=>exact q
 | brk=>exact q
 | cont=>exact q
theorem Inv.quiet {pins:List (AM×Obj)} {σ:St} {H:Hp} {s:AE} (I:Inv X pins σ H s):interactive X.env=false:=by simp [interactive,I.ok.kind]
def lU (te:TE):TS:=λD σ H=>te σ H λ_ H1=>D.nx σ H1
theorem dm (he:PE X e te) (hs:GB e none pos.line X.env=pure false:=by rfl):PS X (.Expr e pos) (lU te):=by
 intro pins s σ H D I h;exact wpAny_Expr_any (thn (he pins s σ H _ I h) λv s1 ⟨x,H1,I1,r1,q1⟩=>⟨σ,H1,I1,q1⟩) I.quiet hs
def tRet (te:TE):TS:=λD σ H=>te σ H D.rt
theorem iw (he:PE X e te):PS X (.Return (some e) pos) (tRet te):=by
 intro pins s σ H D I h;exact wpAny_Return_some (thn (he pins s σ H _ I h) λv s1 ⟨x,H1,I1,r1,q1⟩=>⟨x,σ,H1,I1,r1,q1⟩)
def tIfS (c:TT) (t u:TS):TS:=λD σ H=>c σ H λb H1=>if b=true then t D σ H1 else u D σ H1
theorem ls {c:Expr} {a b:List C1} {tc:TT} (hc:PT X c tc) (ha:PSs X a t) (hb:PSs X b u):PS X (.If c a b pos) (tIfS tc t u):=by
 intro pins s σ H D I h;refine wpAny_If (thn (hc pins s σ H _ I h) λd s1 ⟨H1,I1,q1⟩=>?_)
 cases d with
 | true=>exact ha pins s1 σ H1 D I1 q1
 | false=>exact hb pins s1 σ H1 D I1 q1
def iS:TS:=λ_ _ _=>False
theorem aJ:PS X st iS:=λ_ _ _ _ _ _ h=>h.elim
end
abbrev TG:=V->St->Hp->(St->Hp->Prop)->Prop
abbrev TGs:=List V->St->Hp->(St->Hp->Prop)->Prop
def PG (X:Cx) (target:Expr) (t:TG):Prop:=
 ∀(pins:List (AM×Obj)) (s:AE) (σ:St) (H:Hp) (v:V) (u:AD) (Q:St->Hp->Prop),Inv X pins σ H s->RelV v u->t v σ H Q ->
  Ac (AZ X.prog X.w) X.A (VU target X.env u) (λ_ s'=>∃σ' H',Inv X pins σ' H' s'/\Q σ' H') X.xe s
def PGs (X:Cx) (ts:List Expr) (t:TGs):Prop:=
 ∀(pins:List (AM×Obj)) (s:AE) (σ:St) (H:Hp) (vs:List V) (us:List AD) (Q:St->Hp->Prop),Inv X pins σ H s->Bs vs us->t vs σ H Q ->
  Ac (AZ X.prog X.w) X.A (assignInOrder ((Gw ts X.env).map (·.2)) us) (λ_ s'=>∃σ' H',Inv X pins σ' H' s'/\Q σ' H') X.xe s
abbrev TIp:=V->V->Hp->VK->Prop
def PIp (X:Cx) (op:Qk) (t:TIp):Prop:=
 ∀(pins:List (AM×Obj)) (s:AE) (σ:St) (H:Hp) (x y:V) (v u:AD) (Q:VK),Inv X pins σ H s->RelV x v->RelV y u->t x y H Q ->
  Ac (AZ X.prog X.w) X.A (inplaceOp op v u) (EP X pins σ Q) X.xe s
section
variable {X:Cx} {pos:Pos}
def Xj (i:Nat):TG:=λv σ H Q=>Q (σ.set i (some v)) H
theorem dz {i:Nat} {x:Str} (hN:X.N.Nodup) (hi:X.N[i]?=some x) (hx:Loc X.env.scope x) (hf:X.fn x=true∨X.env.scope.names.lookup x=some .local:=by first | exact .inl rfl | exact .inr rfl | assumption):PG X (.Name x pos) (Xj i):=by
 intro pins s σ H v u Q I r h;exact kQ (Pi I hN hi hx r (λs' I'=>⟨_,H,I',h⟩) hf)
def gNil:TGs:=λvs σ H Q=>vs=[]/\Q σ H
def nC (t:TG) (u:TGs):TGs:=λvs σ H Q=>∃v r,vs=v :: r/\t v σ H λσ' H'=>u r σ' H' Q
theorem dy:PGs X [] gNil:=by
 intro pins s σ H vs us Q I r h;obtain ⟨e,h⟩:=h;subst e;cases r;exact assignInOrder_nil ⟨σ,H,I,h⟩
theorem aO {e:Expr} {es:List Expr} {t:TG} {u:TGs} (h1:PG X e t) (h2:PGs X es u)
  (hs:(Gw (e :: es) X.env).map (·.2)=VU e X.env :: (Gw es X.env).map (·.2):=by rfl):PGs X (e :: es) (nC t u):=by
 intro pins s σ H vs us Q I r h;obtain ⟨v,vr,e1,h⟩:=h;subst e1
 cases r with
 | cons r rr=>
  rw [hs];refine assignInOrder_cons (thn (h1 pins s σ H _ _ _ I r h) λ_ s1 ⟨σ1,H1,I1,q1⟩=>?_);exact h2 pins s1 σ1 H1 _ _ Q I1 rr q1
def gTup (K:AB) (n:Nat) (t:TGs):TG:=λv σ H Q=>∃a xs,v=.ref a/\SqT K H a xs/\xs.length=n/\t xs σ H Q
theorem i6 {es:List Expr} {k:Nat} {t:TGs} {n:Nat} (hc:X.calm=true) (h:PGs X es t)
  (hn:(Gw es X.env).length=n:=by rfl) (hst:(Gw es X.env).findIdx? (·.1)=none:=by rfl):PG X (.Tuple es k pos) (gTup X.K n t):=by
 intro pins s σ H v u Q I r hw;obtain ⟨a,xs,e1,hq,hl,hw⟩:=hw;subst e1;cases r;obtain ⟨its,rv,ht,hz⟩:=I.tuple hq
 refine assign_Tuple_tuple (I.ok.hd hc) ht (by simp [hn,<-hl,rv.length]) hst λh' hx=>?_
 have I1:Inv X pins σ H { s with heap:=h' }:=I.kept (t':=s.toks) λb o e=>hx b o (Av (Aa e)) e
 exact h pins _ σ H xs _ Q I1 (by simpa using rv) hw
def lZ (te:TE) (g:TG):TS:=λD σ H=>te σ H λx H1=>g x σ H1 D.nx
theorem iu {i:Nat} {x:Str} {e:Expr} {te:TE} {pos':Pos} (hN:X.N.Nodup) (hi:X.N[i]?=some x) (hx:Loc X.env.scope x) (he:PE X e te) (hs:GB e (some (.Name x pos')) pos.line X.env=pure false:=by rfl) (hf:X.fn x=true∨X.env.scope.names.lookup x=some .local:=by first | exact .inl rfl | exact .inr rfl | assumption) :
  PS X (.Assign [.Name x pos'] e pos) (lZ te (Xj i)):=by
 intro pins s σ H D I h;refine wpAny_Assign_Name (thn (he pins s σ H _ I h) λv s1 ⟨y,H1,I1,r1,q1⟩=>?_) hs;exact Pi I1 hN hi hx r1 (λs2 I2=>⟨_,H1,I2,q1⟩) hf
def tAug (i:Nat) (te:TE) (ti:TIp):TS:=λD σ H=>∃x,σ[i]?=some (some x)/\te σ H λy H1=>ti x y H1 λz H2=>D.nx (σ.set i (some z)) H2
theorem i0 {i:Nat} {x:Str} {e:Expr} {te:TE} {op:Qk} {ti:TIp} {pos':Pos} (hN:X.N.Nodup) (hi:X.N[i]?=some x) (hx:Loc X.env.scope x) (he:PE X e te) (ho:PIp X op ti) (hf:X.fn x=true∨X.env.scope.names.lookup x=some .local:=by first | exact .inl rfl | exact .inr rfl | assumption) :
  PS X (.AugAssign (.Name x pos') op e pos) (tAug i te ti):=by
 intro pins s σ H D I h;obtain ⟨v,e1,h⟩:=h;obtain ⟨m,hn,hl⟩:=I.loc
 have vis:Vis X.env.scope x:=by rcases hx with k | k;exact .inl k;exact .inr (.inl k)
 obtain ⟨u,r,l⟩:=hl i x v hi e1 vis;refine wpAny_AugAssign_Name ?_
 have go:Ac (AZ X.prog X.w) X.A (CS e X.env) (λw s₂=>Ac (AZ X.prog X.w) X.A (inplaceOp op u w) (λr s₃=>Ac (AZ X.prog X.w) X.A (ko X.env x r) (λ_=>SP X pins D .next) X.xe s₃) X.xe s₂) X.xe s:=by
  refine thn (he pins s σ H _ I h) λw s1 ⟨y,H1,I1,r1,q1⟩=>?_
  refine thn (ho pins s1 σ H1 v y u w _ I1 r r1 q1) λz s2 ⟨zv,H2,I2,r2,q2⟩=>?_
  exact Pi I2 hN hi hx r2 (λs3 I3=>⟨_,H2,I3,q2⟩) hf
 rcases l with ⟨hk,hm⟩ | ⟨hk,c,hc,hcell⟩
 ·exact cQ I.ok.kind hk hn hm go
 ·rcases hk with hk | hk
  ·exact fv I.ok.kind hk hc hcell go
  ·rcases hx with k | k
   ·have:X.env.scope.names.lookup x=some .free:=hk
    rw [k] at this;cases this
   ·have:X.env.scope.names.lookup x=some .free:=hk
    rw [k] at this;cases this
def ipI (f:Int->Int->Int):TIp:=λx y H Q=>∃i j,x=.int i/\y=.int j/\Q (.int (f i j)) H
end
section
variable {X:Cx} {pos:Pos}
end
structure It where
 go:Nat->Hp->Prop
 yld:Nat->Hp->V->Hp->Prop
 stop:Nat->Hp->Prop
def Mb (X:Cx) (pins:List (AM×Obj)) (H:Hp) (b:AM):Prop:=
 H b=none/\b≠X.env.locals/\b∉X.fs/\(b∈X.ex∨X.s₀.heap.objs.size<=b)/\(∀x c,X.env.cells.lookup x=some c->c≠b)/\∀p∈X.pn++pins,p.1≠b
theorem Inv.fpOk {X:Cx} {pins:List (AM×Obj)} {σ:St} {H H':Hp} {s:AE} {b:AM} (I:Inv X pins σ H s) (hb:s.heap.objs.size<=b) (hn:H' b=none):Mb X pins H' b:=by
 refine ⟨hn,OT (Ag I.lt hb),I.nofs hb,.inr (Am I.sz hb),λx c e z=>?_,λp hp z=>?_⟩
 ·obtain ⟨v,q⟩:=I.cell x c e
  exact absurd (Ag q.lt (by rw [z];exact hb)) (Cu _)
 ·exact absurd (Ag (Aa (I.pin p hp).1) (by rw [z];exact hb)) (Cu _)
structure RC (P:Ap) (w:BE) (K:AB) (tg:Expr) (J:It) (fp:List AM) (it:AM) (tn:Nat->Bu->Prop):Prop where
 mem:it∈fp
 obj:∀i h,tn i h->∀b∈fp,∃o,h.get? b=some o/\∀v,o.data≠.cell v
 keep:∀i h h',tn i h->(∀b∈fp,∀o,h.get? b=some o->h'.get? b=some o)->tn i h'
 item:∀(X:Cx),X.prog=P->X.w=w->X.K=K->X.calm=true->∀(i:Nat) (pins:List (AM×Obj)) (s:AE) (σ:St) (H:Hp) (E:AD->AE->Prop),Inv X pins σ H s->(∀b∈fp,Mb X pins H b)->tn i s.heap->J.go i H ->
  Ac (AZ P w) X.A (Ji (.ref it)) (λr s1=>∃u,r=some u /\
   Ac (AZ P w) X.A (Md tg (.ref it) u) (λ_ s2=>∃x H',Inv X pins σ H' s2/\RelV x u/\J.yld i H x H'/\tn (i+1) s2.heap/\∀b∈fp,H' b=none) E s1) E s
 done:∀(X:Cx),X.prog=P->X.w=w->X.K=K->X.calm=true->∀(i:Nat) (pins:List (AM×Obj)) (s:AE) (σ:St) (H:Hp) (E:AD->AE->Prop),Inv X pins σ H s->(∀b∈fp,Mb X pins H b)->tn i s.heap->J.stop i H ->
  Ac (AZ P w) X.A (Ji (.ref it)) (λr s1=>r=none/\Inv X pins σ H s1) E s
 self:∀(A:BC) (i:Nat) (s:AE) (Q:AD->AE->Prop) (E:AD->AE->Prop),tn i s.heap->Q (.ref it) s->Ac (AZ P w) A (ZO (.ref it)) Q E s
abbrev TI:=St->Hp->(It->Hp->Prop)->Prop
def PIE (X:Cx) (pins:List (AM×Obj)) (σ:St) (tg:Expr) (R:It->Hp->Prop) (itv:AD) (s2:AE):Prop:=
 ∃(it:AM) (fp:List AM) (tn:Nat->Bu->Prop) (J:It) (H':Hp),itv=.ref it/\Inv X pins σ H' s2/\RC X.prog X.w X.K tg J fp it tn/\tn 0 s2.heap/\(∀b∈fp,Mb X pins H' b)/\R J H'
def PI (X:Cx) (tg iter:Expr) (wi:TI):Prop:=
 ∀(pins:List (AM×Obj)) (s:AE) (σ:St) (H:Hp) (R:It->Hp->Prop),Inv X pins σ H s->wi σ H R ->
  Ac (AZ X.prog X.w) X.A (CS iter X.env) (λv s1=>Ac (AZ X.prog X.w) X.A (ZO v) (PIE X pins σ tg R) X.xe s1) X.xe s
theorem Xg {M:kf} {A:BC} {E:AD->AE->Prop} {s:AE} {tg:Expr} {it:AM} {u:AD} {o:Obj} {n:String} {vs:Array AD} {Q:Unit->AE->Prop} (ho:s.heap.get? it=some o) (hc:o.cls=.type n) (hd:o.data=.fields vs)
  (hn:["enumerate", "zip", "dict_itemiterator", "dict_reverseitemiterator", "odict_iterator", "itertools.zip_longest", "itertools.pairwise"].contains n=false) (hQ:Q () s):Ac M A (Md tg (.ref it) u) Q E s:=by
 unfold Md
 cases tg <;> first
  | exact AL hQ
  | (cases u <;> first
    | exact AL hQ
    | (refine AA (wpAny_load ho ?_)
       rw [hc,hd];show Ac M A (if (["enumerate", "zip", "dict_itemiterator", "dict_reverseitemiterator", "odict_iterator", "itertools.zip_longest", "itertools.pairwise"].contains n&&vs[0]?==some (Jh _))=true then _ else _) Q E s;rw [if_neg (by intro h;rw [hn,Bool.false_and] at h;cases h)]
       exact AL hQ))
def Itl (K:AB) (a:AM):It:=
 ⟨λi H=>∃xs x,SqL K H a xs/\xs[i]?=some x,λi H x H'=>H'=H/\∀xs,SqL K H a xs->xs[i]?=some x,λi H=>∃xs,SqL K H a xs/\xs.length<=i⟩
def Itt (K:AB) (a:AM):It:=
 ⟨λi H=>∃xs x,SqT K H a xs/\xs[i]?=some x,λi H x H'=>H'=H/\∀xs,SqT K H a xs->xs[i]?=some x,λi H=>∃xs,SqT K H a xs/\xs.length<=i⟩
def Itr (lo:Int) (n:Nat):It:=⟨λi _=>i < n,λi H x H'=>H'=H/\x=.int (lo+i),λi _=>n<=i⟩
theorem YJ {P:Ap} {w:BE} {K:AB} {tg:Expr} (a it:AM):RC P w K tg (Itl K a) [it] it (λi h=>h.IsListIter it a i) where
 mem:=by simp
 obj:=λi h st b hb=>by
  have e:b=it:=by simpa using hb
  subst e;obtain ⟨o,e,c,d⟩:=st;exact ⟨o,e,λv z=>by rw [d] at z;cases z⟩
 keep:=λi h h' st k=>st.at λo e=>k it (by simp) o e
 item:=by
  intro X hP hw hK hc i pins s σ H E I hf st hg;subst hP hw hK;obtain ⟨xs,x,hq,hx⟩:=hg;obtain ⟨its,rv,p,hz⟩:=I.list hq;obtain ⟨u,hu,ru⟩:=rv.get hx;obtain ⟨f0,f1,f2,f3,f4,f5⟩:=hf it (by simp)
  refine wpAny_pyNext_list_item st p.isList (x:=u) (by simpa using hu) λh' st' sb=>?_
  have I1:Inv X pins σ H { s with heap:=h' }:=I.turned (t':=s.toks) (λb o hb e=>(sb.2 b hb).trans e) f0 f1 f3 f4 f5;obtain ⟨o,e,c,d⟩:=id st';exact ⟨u,rfl,Xg (s:={ s with heap:=h' }) e c d (by decide) ⟨x,H,I1,ru,⟨rfl,λys hy=>by rw [I.list_inj hy hq];exact hx⟩,st',λb hb=>(hf b hb).1⟩⟩
 done:=by
  intro X hP hw hK hc i pins s σ H E I hf st hg;subst hP hw hK;obtain ⟨xs,hq,hx⟩:=hg;obtain ⟨its,rv,p,hz⟩:=I.list hq;obtain ⟨f0,f1,f2,f3,f4,f5⟩:=hf it (by simp);have hl:=rv.length
  exact wpAny_pyNext_list_end (I.ok.hd hc) st p.isList (by simp;omega) λh' eb=>⟨rfl,I.turned (t':=s.toks) (λb o hb e=>eb b o hb e) f0 f1 f3 f4 f5⟩
 self:=λ_ _ _ _ _ st h=>wpAny_pyIter_listiter st h
theorem Vm {P:Ap} {w:BE} {K:AB} {tg:Expr} (a it:AM):RC P w K tg (Itt K a) [it] it (λi h=>h.IsTupleIter it a i) where
 mem:=by simp
 obj:=λi h st b hb=>by
  have e:b=it:=by simpa using hb
  subst e;obtain ⟨o,e,c,d⟩:=st;exact ⟨o,e,λv z=>by rw [d] at z;cases z⟩
 keep:=λi h h' st k=>st.at λo e=>k it (by simp) o e
 item:=by
  intro X hP hw hK hc i pins s σ H E I hf st hg;subst hP hw hK;obtain ⟨xs,x,hq,hx⟩:=hg;obtain ⟨its,rv,p,hz⟩:=I.tuple hq;obtain ⟨u,hu,ru⟩:=rv.get hx;obtain ⟨f0,f1,f2,f3,f4,f5⟩:=hf it (by simp)
  refine wpAny_pyNext_tuple_item st (show s.heap.IsTuple a its.toArray from p) (x:=u) (by simpa using hu) λh' st' sb=>?_
  have I1:Inv X pins σ H { s with heap:=h' }:=I.turned (t':=s.toks) (λb o hb e=>(sb.2 b hb).trans e) f0 f1 f3 f4 f5;obtain ⟨o,e,c,d⟩:=id st';exact ⟨u,rfl,Xg (s:={ s with heap:=h' }) e c d (by decide) ⟨x,H,I1,ru,⟨rfl,λys hy=>by rw [I.tuple_inj hy hq];exact hx⟩,st',λb hb=>(hf b hb).1⟩⟩
 done:=by
  intro X hP hw hK hc i pins s σ H E I hf st hg;subst hP hw hK;obtain ⟨xs,hq,hx⟩:=hg;obtain ⟨its,rv,p,hz⟩:=I.tuple hq;obtain ⟨f0,f1,f2,f3,f4,f5⟩:=hf it (by simp);have hl:=rv.length
  exact wpAny_pyNext_tuple_end (I.ok.hd hc) st (show s.heap.IsTuple a its.toArray from p) (by simp;omega) λh' eb=>⟨rfl,I.turned (t':=s.toks) (λb o hb e=>eb b o hb e) f0 f1 f3 f4 f5⟩
 self:=λ_ _ _ _ _ st h=>wpAny_pyIter_tupleiter st h
theorem Vn {P:Ap} {w:BE} {K:AB} {tg:Expr} (it:AM) (lo:Int) (n:Nat):RC P w K tg (Itr lo n) [it] it (λi h=>IsRangeIter h it (lo+(i:Nat) * 1) ((n:Int) - (i:Nat)) 1) where
 mem:=by simp
 obj:=λi h st b hb=>by
  have e:b=it:=by simpa using hb
  subst e
  exact ⟨_,st,λv z=>by
   have z':PP _=Tu v:=z
   cases z'⟩
 keep:=λi h h' st k=>k it (by simp) _ st
 item:=by
  intro X hP hw hK hc i pins s σ H E I hf st hg;subst hP hw hK;obtain ⟨f0,f1,f2,f3,f4,f5⟩:=hf it (by simp);have W:=Walks.range (prog:=X.prog) (w:=X.w) (I.ok.hd hc) it lo 1 n
  refine W.item i s _ _ hg st λv h' tk hv st' kk=>?_
  obtain ⟨t,rfl⟩:=hv;have I1:Inv X pins σ H { s with heap:=h',toks:=tk }:=I.turned (λb o hb e=>kk b o (by simpa using hb) e) f0 f1 f3 f4 f5;refine ⟨_,rfl,Xg (s:={ s with heap:=h',toks:=tk }) (n:="range_iterator") st' rfl rfl (by decide) ⟨.int (lo+i),H,I1,⟨t,?_⟩,⟨rfl,rfl⟩,st',λb hb=>(hf b hb).1⟩⟩;rw [Int.mul_one]
 done:=by
  intro X hP hw hK hc i pins s σ H E I hf st hg;subst hP hw hK;obtain ⟨f0,f1,f2,f3,f4,f5⟩:=hf it (by simp)
  exact wpAny_pyNext_range_end (I.ok.hd hc) st (by have:n<=i:=hg;omega) λh' eb=>⟨rfl,I.turned (t':=s.toks) (λb o hb e=>eb b o hb e) f0 f1 f3 f4 f5⟩
 self:=λ_ _ _ _ _ st h=>wpAny_pyIter_rangeiter st h
end L2
namespace L2
open PySem PySem.Spec PyProof.Rows
section
variable {X:Cx} {tg:Expr}
def mq (K:AB) (tl:TE):TI:=λσ H R=>tl σ H λx H1=>∃a,x=.ref a/\(∃xs,SqL K H1 a xs)/\R (Itl K a) H1
def iTup (K:AB) (tl:TE):TI:=λσ H R=>tl σ H λx H1=>∃a,x=.ref a/\(∃xs,SqT K H1 a xs)/\R (Itt K a) H1
theorem dv {l:Expr} {tl:TE} (hl:PE X l tl):PI X tg l (mq X.K tl):=by
 intro pins s σ H R I h
 refine thn (hl pins s σ H _ I h) λv s1 ⟨x,H1,I1,r1,q1⟩=>?_
 obtain ⟨a,e,⟨xs,hq⟩,q⟩:=q1;subst e;cases r1;obtain ⟨its,rv,p,hz⟩:=I1.list hq;refine Qg p.isList ?_;refine ⟨s1.heap.objs.size,[s1.heap.objs.size],_,_,H1,rfl,I1.kept (t':=s1.toks) λb o e=>AJ _ e,YJ a _,⟨_,Ai _ rfl,rfl,rfl⟩,λb hb=>?_,q⟩
 have e:b=s1.heap.objs.size:=by simpa using hb
 subst e;exact I1.fpOk (AT _) (I1.hok.fresh (AT _))
theorem i4 {l:Expr} {tl:TE} (hl:PE X l tl):PI X tg l (iTup X.K tl):=by
 intro pins s σ H R I h
 refine thn (hl pins s σ H _ I h) λv s1 ⟨x,H1,I1,r1,q1⟩=>?_
 obtain ⟨a,e,⟨xs,hq⟩,q⟩:=q1;subst e;cases r1;obtain ⟨its,rv,p,hz⟩:=I1.tuple hq;refine Cm (show s1.heap.IsTuple a its.toArray from p) ?_;refine ⟨s1.heap.objs.size,[s1.heap.objs.size],_,_,H1,rfl,I1.kept (t':=s1.toks) λb o e=>AJ _ e,Vm a _,⟨_,Ai _ rfl,rfl,rfl⟩,λb hb=>?_,q⟩
 have e:b=s1.heap.objs.size:=by simpa using hb
 subst e;exact I1.fpOk (AT _) (I1.hok.fresh (AT _))
theorem UR {pins:List (AM×Obj)} {σ:St} {H:Hp} {s:AE} {R:It->Hp->Prop} {E:AD->AE->Prop} {lo hi:Int} {t u v:Tok} {tk:Nat} (I:Inv X pins σ H s) (h1:-(2 ^ 62)<=lo) (h2:lo < 2 ^ 62) (h3:-(2 ^ 62)<=hi) (h4:hi < 2 ^ 62)
  (q:R (Itr lo (hi - lo).toNat) H):Ac (AZ X.prog X.w) X.A (ZO (.ref s.heap.objs.size)) (PIE X pins σ tg R) E { s with heap:=s.heap.push { cls:=.type "range",data:=.fields #[.int lo t,.int hi u,.int 1 v] },toks:=tk }:=by
 refine wpAny_pyIter_range (IsRange.new ..) (small_one h1 h2 h3 h4) ?_
 have I1:Inv X pins σ H { s with heap:=s.heap.push { cls:=.type "range",data:=.fields #[.int lo t,.int hi u,.int 1 v] },toks:=tk }:=I.kept λb o e=>AJ _ e
 refine ⟨(s.heap.push { cls:=.type "range",data:=.fields #[.int lo t,.int hi u,.int 1 v] }).objs.size,[(s.heap.push { cls:=.type "range",data:=.fields #[.int lo t,.int hi u,.int 1 v] }).objs.size],_,_,H,rfl,
  I1.kept (t':=tk) λb o e=>AJ _ e,Vn _ lo (hi - lo).toNat,?_,λb hb=>?_,q⟩
 ·have e1:lo+((0:Nat):Int) * 1=lo:=by simp
  have e2:(((hi - lo).toNat:Nat):Int) - ((0:Nat):Int)=lL lo hi 1:=by rw [rangeSize_one];split <;> omega
  show IsRangeIter _ _ (lo+((0:Nat):Int) * 1) ((((hi - lo).toNat:Nat):Int) - ((0:Nat):Int)) 1;rw [e1,e2];exact Ai _ rfl
 ·have e:b=(s.heap.push { cls:=.type "range",data:=.fields #[.int lo t,.int hi u,.int 1 v] }).objs.size:=by simpa using hb
  subst e;exact I1.fpOk (AT _) (I1.hok.fresh (AT _))
def me (ta:TA):TI:=λσ H R=>ta σ H λvs H1=>∃j:Int,vs=[.int j]/\-(2 ^ 62)<=j/\j < 2 ^ 62/\R (Itr 0 j.toNat) H1
def md (ta:TA):TI:=λσ H R=>ta σ H λvs H1=>∃i j:Int,vs=[.int i,.int j]/\(-(2 ^ 62)<=i/\i < 2 ^ 62/\-(2 ^ 62)<=j/\j < 2 ^ 62)/\R (Itr i (j - i).toNat) H1
theorem Yh {a:Expr} {ta:TA} {p pos:Pos} (hg:Gl X "range") (hm:X.mg "range" = none) (ha:PA X [a] ta) (hs:Ab [a] X.env=[(false,CS a X.env)]:=by rfl):PI X tg (.Call (.Name "range" p) [a] [] pos) (me ta):=by
 intro pins s σ H R I h;refine Call_ (LA I hg hm boot_range (DD (thn (ha pos pins s σ H _ I h) λus s1 ⟨vs,H1,I1,r1,q1⟩=>?_) hs rfl));obtain ⟨j,e,q1,q2,q⟩:=q1;subst e
 cases r1 with
 | cons r rr=>
  cases rr;obtain ⟨t,rfl⟩:=r;exact call_range_1 (UR I1 (by omega) (by omega) q1 q2 (by simpa using q))
theorem Yg {a b:Expr} {ta:TA} {p pos:Pos} (hg:Gl X "range") (hm:X.mg "range" = none) (ha:PA X [a,b] ta) (hs:Ab [a,b] X.env=[(false,CS a X.env),(false,CS b X.env)]:=by rfl) (hs2:Ab [b] X.env=[(false,CS b X.env)]:=by rfl) :
  PI X tg (.Call (.Name "range" p) [a,b] [] pos) (md ta):=by
 intro pins s σ H R I h;refine Call_ (LA I hg hm boot_range (DD (thn (ha pos pins s σ H _ I h) λus s1 ⟨vs,H1,I1,r1,q1⟩=>?_) (by rw [hs,hs2]) (by rw [hs2];rfl)));obtain ⟨i,j,e,⟨q1,q2,q3,q4⟩,q⟩:=q1;subst e
 cases r1 with
 | cons r rr=>
  cases rr with
  | cons r' rr=>
   cases rr;obtain ⟨t,rfl⟩:=r;obtain ⟨t',rfl⟩:=r';exact call_range_2 (UR I1 q1 q2 q3 q4 q)
def tFor (wi:TI) (g:TG) (tb:TS):TS:=λD σ H=>wi σ H λJ H1=>∃W:Nat->Nat->St->Hp->Prop,(∃m,W 0 m σ H1)/\∀i m σ H,W i m σ H ->
 (J.stop i H/\D.nx σ H)∨(J.go i H/\∃N:St->Hp->Prop,(∀σ' H',N σ' H'->∃m',m' < m/\W (i+1) m' σ' H')/\∀x H',J.yld i H x H'->g x σ H' λσ2 H2=>tb { D with nx:=N,ct:=N,bk:=D.nx } σ2 H2)
def Pr (fp:List AM) (h:Bu):List (AM×Obj):=fp.filterMap λb=>(h.get? b).map λo=>(b,o)
theorem J2 {fp:List AM} {h:Bu} {b:AM} {o:Obj} (hb:b∈fp) (e:h.get? b=some o):(b,o)∈Pr fp h:=ZK.mpr ⟨b,hb,by rw [e];rfl⟩
theorem Yk {fp:List AM} {h:Bu} {p:AM×Obj} (hp:p∈Pr fp h):p.1∈fp/\h.get? p.1=some p.2:=by
 obtain ⟨b,hb,e⟩:=ZK.mp hp
 cases q:h.get? b with
 | none=>rw [q] at e;cases e
 | some o=>
  rw [q] at e;have e':(b,o)=p:=Ck e;subst e';exact ⟨hb,q⟩
theorem Inv.pinned {pins:List (AM×Obj)} {σ:St} {H:Hp} {s:AE} {fp:List AM} (I:Inv X pins σ H s) (hf:∀b∈fp,Mb X pins H b) (ho:∀b∈fp,∃o,s.heap.get? b=some o/\∀v,o.data≠.cell v):Inv X (pins++Pr fp s.heap) σ H s:=
 I.pins_of λp hp=>(Az.mp hp).elim (λz=>I.pin p (BA _ z)) λz=>by
  obtain ⟨hb,e⟩:=Yk z;obtain ⟨f0,f1,f2,_⟩:=hf p.1 hb;obtain ⟨o,e',d⟩:=ho p.1 hb;rw [e] at e';cases e';exact ⟨e,f0,f1,f2,d⟩
theorem Inv.unpinned {pins pl:List (AM×Obj)} {σ:St} {H:Hp} {s:AE} (I:Inv X (pins++pl) σ H s):Inv X pins σ H s:=I.pins_of λp hp=>I.pin p (BA _ (Bz _ hp))
theorem iy {iter:Expr} {body:List C1} {wi:TI} {g:TG} {tb:TS} {pos:Pos} (hp:kz (AZ X.prog X.w) X.A X.env X.xe) (hc:X.calm=true) (hi:PI X tg iter wi) (hg:PG X tg g) (hb:PSs X body tb)
  (hs:∀x,FS iter X.env x=pure x:=by intro _;rfl):PS X (.For tg iter body [] pos) (tFor wi g tb):=by
 intro pins s σ H D I h;refine wpAny_For (thn (hi pins s σ H _ I h) λv s1 h1=>thn h1 λitv s2 h2=>?_) hs;obtain ⟨it,fp,tn,J,H2,e,I2,T,st2,f2,W,⟨m0,w0⟩,turn⟩:=h2;subst e
 have stat:∀ {H':Hp},(∀b∈fp,H' b=none)->∀b∈fp,Mb X pins H' b:=λhn b hb=>⟨hn b hb,(f2 b hb).2⟩
 refine codeAny_forLoop_any (λn s'=>∃i σ' H',Inv X pins σ' H' s'/\tn i s'.heap/\(∀b∈fp,H' b=none)/\W i n σ' H') ?_ m0 ⟨0,σ,H2,I2,st2,λb hb=>(f2 b hb).1,w0⟩;rintro n s3 ⟨i,σ3,H3,I3,st3,fr3,w3⟩
 rcases turn i n σ3 H3 w3 with ⟨stop,qn⟩ | ⟨go,N,hN,step⟩
 ·refine Iw hp (thn (T.done X rfl rfl rfl hc i pins s3 σ3 H3 X.xe I3 (stat fr3) st3 stop) λr s4 ⟨hr,I4⟩=>?_)
  subst hr;exact Tn ⟨σ3,H3,I4,qn⟩
 ·refine Iw hp (thn (T.item X rfl rfl rfl hc i pins s3 σ3 H3 X.xe I3 (stat fr3) st3 go) λr s4 ⟨u,hr,h4⟩=>?_)
  subst hr;refine Iw hp (thn h4 λ_ s5 ⟨x,H5,I5,r5,y5,st5,fr5⟩=>?_);have I5':=I5.pinned (stat fr5) (T.obj _ _ st5);refine Iw hp (thn (hg _ s5 σ3 H5 x u _ I5' r5 (step x H5 y5)) λ_ s6 ⟨σ6,H6,I6,q6⟩=>?_);refine Iw hp (thn (hb _ s6 σ6 H6 _ I6 q6) λf s7 q7=>?_)
  have kY:∀ {σ7:St} {H7:Hp},Inv X (pins++Pr fp s5.heap) σ7 H7 s7->N σ7 H7->∃m,m < n/\∃i σ' H',Inv X pins σ' H' s7/\tn i s7.heap/\(∀b∈fp,H' b=none)/\W i m σ' H':=λ{σ7 H7} I7 n7=>by
   obtain ⟨m',hm,w7⟩:=hN σ7 H7 n7;refine ⟨m',hm,i+1,σ7,H7,I7.unpinned,T.keep _ _ _ st5 λb hb o e=>(I7.pin (b,o) (BA _ (BA _ (J2 hb e)))).1,λb hb=>?_,w7⟩;obtain ⟨o,e,d⟩:=T.obj _ _ st5 b hb;exact (I7.pin (b,o) (BA _ (BA _ (J2 hb e)))).2.1
  cases f with
  | next=>obtain ⟨σ7,H7,I7,n7⟩:=q7;exact kY I7 n7
  | cont=>obtain ⟨σ7,H7,I7,n7⟩:=q7;exact kY I7 n7
  | brk=>obtain ⟨σ7,H7,I7,q7⟩:=q7;exact ⟨σ7,H7,I7.unpinned,q7⟩
  | ret v=>obtain ⟨x7,σ7,H7,I7,r7,q7⟩:=q7;exact ⟨x7,σ7,H7,I7.unpinned,r7,q7⟩
end
end L2
namespace L2
open PySem PySem.Spec PyProof.Rows
abbrev R2:=V->V->Hp->VK->Prop
def OpR (X:Cx) (f:AD->AD->Sem AD) (r:R2):Prop:=
 ∀(pins:List (AM×Obj)) (s:AE) (σ:St) (H:Hp) (x y:V) (v u:AD) (Q:VK),Inv X pins σ H s->RelV x v->RelV y u->r x y H Q ->
  Ac (AZ X.prog X.w) X.A (f v u) (EP X pins σ Q) X.xe s
def UnR (X:Cx) (f:AD->Sem AD) (r:V->Hp->VK->Prop):Prop:=
 ∀(pins:List (AM×Obj)) (s:AE) (σ:St) (H:Hp) (x:V) (v:AD) (Q:VK),Inv X pins σ H s->RelV x v->r x H Q ->
  Ac (AZ X.prog X.w) X.A (f v) (EP X pins σ Q) X.xe s
def Hq (X:Cx) (f:AD) (r:List V->Hp->VK->Prop):Prop:=
 ∀(pins:List (AM×Obj)) (s:AE) (σ:St) (H:Hp) (xs:List V) (us:List AD) (Q:VK),Inv X pins σ H s->Bs xs us->r xs H Q ->
  Ac (AZ X.prog X.w) X.A (call f us) (EP X pins σ Q) X.xe s
def TruR (X:Cx) (r:V->Hp->(Bool->Hp->Prop)->Prop):Prop:=
 ∀(pins:List (AM×Obj)) (s:AE) (σ:St) (H:Hp) (x:V) (v:AD) (Q:Bool->Hp->Prop),Inv X pins σ H s->RelV x v->r x H Q ->
  Ac (AZ X.prog X.w) X.A (gj v) (TP X pins σ Q) X.xe s
def tOp (r:R2) (ta tb:TE):TE:=λσ H Q=>ta σ H λx H1=>tb σ H1 λy H2=>r x y H2 Q
def tUn (r:V->Hp->VK->Prop) (ta:TE):TE:=λσ H Q=>ta σ H λx H1=>r x H1 Q
def rI (C:Int->Int->Prop) (g:Int->Int->V):R2:=λx y H Q=>∃i j,x=.int i/\y=.int j/\C i j/\Q (g i j) H
def rI0 (g:Int->Int->V):R2:=λx y H Q=>∃i j,x=.int i/\y=.int j/\Q (g i j) H
def rU (g:Int->V):V->Hp->VK->Prop:=λx H Q=>∃i,x=.int i/\Q (g i) H
section
variable {X:Cx} {a b c:Expr} {ta tb tc:TE} {pos:Pos}
theorem kF (ha:PE X a ta) (hb:PE X b tb) {pins:List (AM×Obj)} {s:AE} {σ:St} {H:Hp} {R:V->V->Hp->Prop} (I:Inv X pins σ H s)
  (h:ta σ H λx H1=>tb σ H1 λy H2=>R x y H2) {Q:AD->AE->Prop} {f:AD->AD->Sem AD}
  (hf:∀v u s2 x y H2,Inv X pins σ H2 s2->RelV x v->RelV y u->R x y H2->Ac (AZ X.prog X.w) X.A (f v u) Q X.xe s2) :
  Ac (AZ X.prog X.w) X.A (CS a X.env) (λv s₁=>Ac (AZ X.prog X.w) X.A (CS b X.env) (λu s₂=>Ac (AZ X.prog X.w) X.A (f v u) Q X.xe s₂) X.xe s₁) X.xe s:=by
 refine thn (ha pins s σ H _ I h) λv s1 ⟨x,H1,I1,r1,q1⟩=>?_
 refine thn (hb pins s1 σ H1 _ I1 q1) λu s2 ⟨y,H2,I2,r2,q2⟩=>?_
 exact hf v u s2 x y H2 I2 r1 r2 q2
theorem lw {op:Qk} {r:R2} (ho:OpR X (Cr op) r) (ha:PE X a ta) (hb:PE X b tb):PE X (.BinOp a op b pos) (tOp r ta tb):=by
 intro pins s σ H Q I h;exact wpAny_BinOp (kF ha hb I h λv u s2 x y H2 I2 rx ry q=>ho pins s2 σ H2 x y v u Q I2 rx ry q)
theorem lu {op:UnaryOp} {r:V->Hp->VK->Prop} (ho:UnR X (unaryOp op) r) (ha:PE X a ta):PE X (.UnaryOp op a pos) (tUn r ta):=by
 intro pins s σ H Q I h;exact UnaryOp_ (thn (ha pins s σ H _ I h) λv s1 ⟨x,H1,I1,r1,q1⟩=>ho pins s1 σ H1 x v Q I1 r1 q1)
theorem opI {f:AD->AD->Sem AD} {C:Int->Int->Prop} {g:Int->Int->Int}
  (rule:∀(i j:Int) (t u:Tok) (s:AE) (Q:AD->AE->Prop) (E:AD->AE->Prop),C i j->Q (.int (g i j) s.toks) { s with toks:=s.toks+1 }->Ac (AZ X.prog X.w) X.A (f (.int i t) (.int j u)) Q E s) :
  OpR X f (rI C λi j=>.int (g i j)):=by
 intro pins s σ H x y v u Q I rx ry h;obtain ⟨i,j,rfl,rfl,hc,q⟩:=h;obtain ⟨t,rfl⟩:=rx;obtain ⟨t',rfl⟩:=ry;exact rule i j t t' s _ _ hc ⟨.int (g i j),H,I.tok _,⟨_,rfl⟩,q⟩
theorem eN {f:AD->AD->Sem AD} {g:Int->Int->Int}
  (rule:∀(i j:Int) (t u:Tok) (s:AE) (Q:AD->AE->Prop) (E:AD->AE->Prop),Q (.int (g i j) s.toks) { s with toks:=s.toks+1 }->Ac (AZ X.prog X.w) X.A (f (.int i t) (.int j u)) Q E s) :
  OpR X f (rI0 λi j=>.int (g i j)):=by
 intro pins s σ H x y v u Q I rx ry h;obtain ⟨i,j,rfl,rfl,q⟩:=h;obtain ⟨t,rfl⟩:=rx;obtain ⟨t',rfl⟩:=ry;exact rule i j t t' s _ _ ⟨.int (g i j),H,I.tok _,⟨_,rfl⟩,q⟩
theorem jR {f:AD->AD->Sem AD} {g:Int->Int->Bool}
  (rule:∀(i j:Int) (t u:Tok) (s:AE) (Q:AD->AE->Prop) (E:AD->AE->Prop),Q (.bool (g i j)) s->Ac (AZ X.prog X.w) X.A (f (.int i t) (.int j u)) Q E s) :
  OpR X f (rI0 λi j=>.bl (g i j)):=by
 intro pins s σ H x y v u Q I rx ry h;obtain ⟨i,j,rfl,rfl,q⟩:=h;obtain ⟨t,rfl⟩:=rx;obtain ⟨t',rfl⟩:=ry;exact rule i j t t' s _ _ ⟨.bl (g i j),H,I,rfl,q⟩
def fu (i j:Int):Prop:=0 < j/\j < 1073741824
def fq (i j:Int):Prop:=0<=j/\j<=1000000/\i.natAbs < 2 ^ 64
theorem Vl (k:Nat):(0:Int)<=2 ^ k:=by
 rw [two_pow_cast];exact Int.natCast_nonneg _
theorem jQ:OpR X (Cr .Add) (rI0 λi j=>.int (i+j)):=eN λ_ _ _ _ _ _ _ q=>add_int q
theorem jJ:OpR X (Cr .Sub) (rI0 λi j=>.int (i - j)):=eN λ_ _ _ _ _ _ _ q=>sub_int q
theorem eJ:OpR X (Cr .FloorDiv) (rI fu λi j=>.int (i / j)):=opI λi j _ _ _ _ _ hc q=>by
 have h1:(0:Int) < j:=hc.1;have h2:j < 1073741824:=hc.2;exact floordiv_int (by omega) (by rw [R7 i (by omega)];exact q) (.inl (PyProof.noPylong_small (by omega)))
theorem jM:OpR X (Cr .Mod) (rI (λ_ j=>0 < j) λi j=>.int (i % j)):=opI λi j _ _ _ _ _ hc q=>by
 have h1:(0:Int) < j:=hc;exact mod_int' (by omega) (by rw [Int.fmod_eq_emod_of_nonneg i (by omega)];exact q)
theorem jL:OpR X (Cr .LShift) (rI fq λi j=>.int (i * 2 ^ j.toNat)):=opI λ_ _ _ _ _ _ _ hc q=>lshift_int_small hc.1 hc.2.1 hc.2.2 q
theorem jK:OpR X (Cr .RShift) (rI (λ_ j=>0<=j) λi j=>.int (i / 2 ^ j.toNat)):=opI λi j _ _ _ _ _ hc q=>
 rshift_int hc (by rw [R7 i (Vl _)];exact q)
theorem jP:OpR X (Cr .BitAnd) (rI0 λi j=>.int (DA i j)):=eN λ_ _ _ _ _ _ _ q=>and_int q
theorem jI:OpR X (Cr .BitXor) (rI0 λi j=>.int (CU i j)):=eN λ_ _ _ _ _ _ _ q=>xor_int q
theorem unI {f:AD->Sem AD} {g:Int->Int}
  (rule:∀(i:Int) (t:Tok) (s:AE) (Q:AD->AE->Prop) (E:AD->AE->Prop),Q (.int (g i) s.toks) { s with toks:=s.toks+1 }->Ac (AZ X.prog X.w) X.A (f (.int i t)) Q E s) :
  UnR X f (rU λi=>.int (g i)):=by
 intro pins s σ H x v Q I rx h;obtain ⟨i,rfl,q⟩:=h;obtain ⟨t,rfl⟩:=rx;exact rule i t s _ _ ⟨.int (g i),H,I.tok _,⟨_,rfl⟩,q⟩
theorem iK:UnR X (unaryOp .USub) (rU λi=>.int (-i)):=unI λ_ _ _ _ _ q=>neg_int q
end
section
variable {X:Cx} {a b c:Expr} {ta tb tc:TE} {pos:Pos}
theorem j7 {pins:List (AM×Obj)} {σ:St} {H:Hp} {s:AE} {Q:VK} {k k':Bool} (I:Inv X pins σ H s) (q:Q (.bl k) H) (e:k=k'):EP X pins σ Q (.bool k') s:=by
 subst e;exact ⟨.bl k,H,I,rfl,q⟩
theorem mD:OpR X (Bk .Lt) (rI0 λi j=>.bl (decide (i < j))):=jR λ_ _ _ _ _ _ _ q=>lt_int q
theorem mE:OpR X (Bk .LtE) (rI0 λi j=>.bl (decide (i<=j))):=jR λ_ _ _ _ _ _ _ q=>le_int q
theorem mF:OpR X (Bk .GtE) (rI0 λi j=>.bl (decide (j<=i))):=jR λ_ _ _ _ _ _ _ q=>ge_int q
theorem jN:OpR X (Bk .Is) (λx y H Q=>y=.non/\Q (.bl (decide (x=.non))) H):=by
 intro pins s σ H x y v u Q I rx ry h;obtain ⟨rfl,q⟩:=h;cases ry;refine is_none_gen (j7 I q ?_)
 cases x <;> first
  | (cases rx;rfl)
  | (obtain ⟨t,rfl⟩:=rx;rfl)
theorem OpR.or {f:AD->AD->Sem AD} {r r':R2} (h:OpR X f r) (h':OpR X f r'):OpR X f (λx y H Q=>r x y H Q∨r' x y H Q):=by
 intro pins s σ H x y v u Q I rx ry q
 rcases q with q | q
 ·exact h pins s σ H x y v u Q I rx ry q
 ·exact h' pins s σ H x y v u Q I rx ry q
theorem DJ (b:Expr) {op:Qo} (h:op≠.In:=by decide) (h2:op≠.NotIn:=by decide):B2 op b=false:=by
 have e1:(op==Qo.In)=false:=by cases op <;> first | rfl | exact absurd rfl h
 have e2:(op==Qo.NotIn)=false:=by cases op <;> first | rfl | exact absurd rfl h2
 cases b <;> simp [B2,e1,e2]
theorem eD {op:Qo} {r:R2} (ho:OpR X (Bk op) r) (ha:PE X a ta) (hb:PE X b tb) (hm:B2 op b=false):PE X (.Compare a [op] [b] pos) (tOp r ta tb):=by
 intro pins s σ H Q I h;exact wpAny_Compare1 (kF ha hb I h λv u s2 x y H2 I2 rx ry q=>ho pins s2 σ H2 x y v u Q I2 rx ry q) hm
def gJ (t:TE):TT:=λσ H Q=>t σ H λx H'=>∃k,x=.bl k/\Q k H'
theorem di {op:Qo} {r:R2} (ho:OpR X (Bk op) r) (ha:PE X a ta) (hb:PE X b tb) (hm:B2 op b=false):PT X (.Compare a [op] [b] pos) (gJ (tOp r ta tb)):=by
 intro pins s σ H Q I h
 refine cI (thn (ha pins s σ H _ I h) λv s1 ⟨x,H1,I1,r1,q1⟩=>thn (hb pins s1 σ H1 _ I1 q1) λu s2 ⟨y,H2,I2,r2,q2⟩=>
  thn (ho pins s2 σ H2 x y v u _ I2 r1 r2 q2) λc s3 ⟨z,H3,I3,r3,k,e,q3⟩=>?_) hm
 subst e;cases r3;exact B1 ⟨H3,I3,q3⟩
def Zy (r r':R2) (ta tb tc:TE):TE:=λσ H Q=>ta σ H λx H1=>tb σ H1 λy H2=>r x y H2 λz H3=>∃k,z=.bl k /\
 (if k=true then tc σ H3 λw' H4=>r' y w' H4 Q else Q (.bl false) H3)
theorem aH {op op':Qo} {r r':R2} (ho:OpR X (Bk op) r) (ho':OpR X (Bk op') r') (ha:PE X a ta) (hb:PE X b tb) (hc:PE X c tc)
  (hm:lastMarks [op,op'] [b,c]=false:=by with_unfolding_all rfl):PT X (.Compare a [op,op'] [b,c] pos) (gJ (Zy r r' ta tb tc)):=by
 intro pins s σ H Q I h
 refine isTrue_chain (thn (ha pins s σ H _ I h) λv s1 ⟨x,H1,I1,r1,q1⟩=>test_link (thn (hb pins s1 σ H1 _ I1 q1) λu s2 ⟨y,H2,I2,r2,q2⟩=>
  thn (ho pins s2 σ H2 x y v u _ I2 r1 r2 q2) λd s3 ⟨z,H3,I3,r3,k,e,q3⟩=>?_)) hm
 subst e;cases r3;refine B1 ?_
 cases k with
 | false=>
  obtain ⟨k',e',q'⟩:=q3;cases e';exact ite_ff ⟨H3,I3,q'⟩
 | true=>
  refine ite_tt (test_last (thn (hc pins s3 σ H3 _ I3 q3) λw' s4 ⟨z',H4,I4,r4,q4⟩=>thn (ho' pins s4 σ H4 y z' u w' _ I4 r2 r4 q4) λd' s5 ⟨z2,H5,I5,r5,k2,e2,q5⟩=>?_));subst e2;cases r5;exact B1 ⟨H5,I5,q5⟩
def kJ (K:AB) (x:V) (H:Hp) (k:Bool):Prop:=
 match x with
 | .non=>k=false
 | .bl b=>k=b
 | .int i=>k=(i != 0)
 | .str y=>y.length<=sizeLine/\k=((y.length:Int) != 0)
 | .byt y=>y.size<=sizeLine/\k=((y.size:Int) != 0)
 | .ref p=>(∃xs,SqL K H p xs/\k = !xs.isEmpty)∨(∃xs,SqT K H p xs/\k = !xs.isEmpty)∨∃kvs,H p=some (.dK kvs)/\k = !kvs.isEmpty
 | _=>False
theorem WK {κ:Type} {kvs:List (κ×V)} {vs:List (κ×AD)} (r:KV kvs vs):(!vs.isEmpty) = !kvs.isEmpty:=by
 cases r <;> rfl
theorem QE {xs:List V} {its:List AD} (r:Bs xs its):(!its.toArray.isEmpty) = !xs.isEmpty:=by
 cases r <;> simp
theorem Sr:(sizeLine:Nat) < 2 ^ 63:=by rw [cR];decide
theorem iN:TruR X (λx H Q=>∃k,kJ X.K x H k/\Q k H):=by
 intro pins s σ H x v Q I rx h;obtain ⟨k,e,q⟩:=h;have hl:=Sr;have hs:sizeLine=16777216:=cR
 cases x with
 | non=>
  cases rx;have e':k=false:=e;subst e';exact truthy_none ⟨H,I,q⟩
 | bl b=>
  cases rx;have e':k=b:=e;subst e';exact B1 ⟨H,I,q⟩
 | int i=>
  obtain ⟨t,rfl⟩:=rx;have e':k=(i != 0):=e;subst e';exact PySem.P.truthy_int ⟨H,I,q⟩
 | str y=>
  obtain ⟨t,rfl⟩:=rx;obtain ⟨hy,e'⟩:y.length<=sizeLine/\k=((y.length:Int) != 0):=e;subst e';exact PySem.P.truthy_str (by omega) ⟨H,I.tok _,q⟩
 | byt y=>
  obtain ⟨t,rfl⟩:=rx;obtain ⟨hy,e'⟩:y.size<=sizeLine/\k=((y.size:Int) != 0):=e;subst e';exact PySem.W.truthy_bytes (by omega) ⟨H,I.tok _,q⟩
 | ref p=>
  cases rx
  have e':(∃xs,SqL X.K H p xs/\k = !xs.isEmpty)∨(∃xs,SqT X.K H p xs/\k = !xs.isEmpty)∨∃kvs,H p=some (.dK kvs)/\k = !kvs.isEmpty:=e
  rcases e' with ⟨xs,hx,e'⟩ | ⟨xs,hx,e'⟩ | ⟨kvs,hx,e'⟩
  ·subst e'
   obtain ⟨its,r,pl,hz⟩:=I.list hx;have hlen:=r.length;exact wpAny_truthy_list pl.isList (by simp only [Ad];omega) ⟨H,I.tok _,by rw [QE r];exact q⟩
  ·subst e'
   obtain ⟨its,r,pl,hz⟩:=I.tuple hx;have hlen:=r.length;exact truthy_tuple pl (by simp only [Ad];omega) ⟨H,I.tok _,by rw [QE r];exact q⟩
  ·subst e'
   obtain ⟨hz,hS,vs,r,m⟩:kvs.length<=sizeLine/\(p==Dy)=false/\∃vs,KV kvs vs/\s.heap.DictOf (EX X.prog X.w) p vs:=I.hok p _ hx
   have hlen:kvs.length=vs.length:=El r;exact wpAny_truthy_dict hS m (by omega) ⟨H,I.tok _,by rw [WK r];exact q⟩
 | _=>exact (show False from e).elim
theorem aF (ha:PE X a ta) (he:∀whole,VN a X.env whole=(do let v <-whole;kT a.pos;ZP [v] (gj v))) :
  PT X a (λσ H Q=>ta σ H λx H'=>∃k,kJ X.K x H' k/\Q k H'):=by
 intro pins s σ H Q I h;exact isTrue_plain (thn (ha pins s σ H _ I h) λv s1 ⟨x,H1,I1,r1,q1⟩=>iN pins s1 σ H1 x v Q I1 r1 q1) (he _)
theorem vals1 {x:V} {us:List AD} (r:Bs [x] us):∃u,us=[u]/\RelV x u:=by
 cases r with
 | cons r1 r2=>cases r2;exact ⟨_,rfl,r1⟩
theorem vals2 {x y:V} {us:List AD} (r:Bs [x,y] us):∃u w',us=[u,w']/\RelV x u/\RelV y w':=by
 cases r with
 | cons r1 r2=>
  cases r2 with
  | cons r3 r4=>cases r4;exact ⟨_,_,rfl,r1,r3⟩
theorem Y8 (hc:X.calm=true):Hq X (.builtin "max") (λxs H Q=>∃i j,xs=[.int i,.int j]/\Q (.int (if j > i then j else i)) H):=by
 intro pins s σ H xs us Q I r h;obtain ⟨i,j,rfl,q⟩:=h;obtain ⟨u,w',rfl,⟨t,rfl⟩,⟨t',rfl⟩⟩:=vals2 r
 refine max_two_ints (I.ok.hd hc) λh' tk k=>⟨_,H,I.kept k,?_,q⟩
 by_cases hj:j > i
 ·rw [if_pos hj,if_pos hj];exact ⟨_,rfl⟩
 ·rw [if_neg hj,if_neg hj];exact ⟨_,rfl⟩
theorem Y7 (hc:X.calm=true):Hq X (.builtin "min") (λxs H Q=>∃i j,xs=[.int i,.int j]/\Q (.int (if j < i then j else i)) H):=by
 intro pins s σ H xs us Q I r h;obtain ⟨i,j,rfl,q⟩:=h;obtain ⟨u,w',rfl,⟨t,rfl⟩,⟨t',rfl⟩⟩:=vals2 r
 refine min_two_ints (I.ok.hd hc) λh' tk k=>⟨_,H,I.kept k,?_,q⟩
 by_cases hj:j < i
 ·rw [if_pos hj,if_pos hj];exact ⟨_,rfl⟩
 ·rw [if_neg hj,if_neg hj];exact ⟨_,rfl⟩
theorem Y9:Hq X (.type "int") (λxs H Q=>(∃i,xs=[.int i]/\Q (.int i) H)∨∃k,xs=[.bl k]/\Q (.int (if k then 1 else 0)) H):=by
 intro pins s σ H xs us Q I r h
 rcases h with ⟨i,rfl,q⟩ | ⟨k,rfl,q⟩
 ·obtain ⟨u,rfl,t,rfl⟩:=vals1 r
  exact call_int_int ⟨.int i,H,I,⟨_,rfl⟩,q⟩
 ·obtain ⟨u,rfl,r1⟩:=vals1 r
  cases r1;exact call_int_bool ⟨.int (if k then 1 else 0),H,I.tok _,⟨_,rfl⟩,q⟩
end
end L2
namespace L2
open PySem PySem.Spec PyProof.Rows
structure ZD (h:Bu) (x dx C:AM) (mA:Str->Option AD):Prop where
 obj:h.get? x=some (Ds C dx)
 ns:h.Ns1 dx mA
 ne:dx≠x
theorem Ym {h:Bu} {dx:AM} {mA:Str->Option AD} (n:h.Ns1 dx mA):∃od,h.get? dx=some od/\∀name,PD name od=some (mA name):=by
 obtain ⟨o,es,ep,ho,hd,hk,_,hm⟩:=n;refine ⟨o,ho,λname=>?_⟩;have e:=hm name;unfold nsFind findBy at e;rw [<-Array.find?_toList] at e;unfold PD;rw [hd];dsimp only;split
 ·rename_i y q
  rw [q] at e;exact congrArg some e
 ·rename_i q
  rw [q] at e
  have a:es.toList.any (·.refKey)=false:=by
   rw [List.any_eq_false];intro y hy;obtain ⟨z,t,hkey⟩:=hk y (BO.mp hy);simp [OE.refKey,hkey]
  have a':¬es.toList.any (·.refKey)=true:=by rw [a];exact AQ
  rw [if_neg a'];exact congrArg some e
theorem ZD.look {h:Bu} {x dx C:AM} {mA:Str->Option AD} (I:ZD h x dx C mA):∃od,PySem.W.InstAt h x (Ds C dx) C (some od)/\∀name,PD name od=some (mA name):=
 let ⟨od,ho,hl⟩:=Ym I.ns
 ⟨od,⟨I.obj,rfl,rfl,ho⟩,hl⟩
section
variable {prog:Ap} {w:BE} {A:BC} {E:AD->AE->Prop} {s:AE} {K:AB} {x dx C f:AM} {mA:Str->Option AD} {name:Str} {v:AD}
theorem fB {expr:Bool} {Q:AD->AE->Prop} (X:K.In s.heap) (I:ZD s.heap x dx C mA) (hg:NS K C name=true) (hh:Ml K C=true)
  (ha:D8 K (.ref C) name=some none) (hv:mA name=some v) (hv':X7 v=true) (h:Q v { s with toks:=s.toks+1 }) :
  Ac (AZ prog w) A (getAttr (.ref x) name expr) Q E s:=by
 obtain ⟨od,J,hl⟩:=I.look;exact PySem.W.get_value X J (PySem.W.plainGet_of hg).1 (PySem.W.findObj_own hh ha rfl (by rw [hl,hv])) hv' h
theorem dS {ns:List Str} {Q:Unit->AE->Prop} (X:K.In s.heap) (I:ZD s.heap x dx C mA)
  (hs:D8 K (.ref C) "__setattr__" = some (some (.builtin "object.__setattr__"))) (hp:Wn K C=true) (ht:OR K C name=some none) (hh:Ml K C=true)
  (hw:Tp mA ns) (hsz:ns.length<=sizeLine)
  (h:∀h',ZD h' x dx C (λy=>if y=name then some v else mA y)->Ei dx s.heap h'->Q () { s with heap:=h',toks:=s.toks+2 }) :
  Ac (AZ prog w) A (setAttr (.ref x) name v) Q E s:=by
 obtain ⟨od,J,hl⟩:=I.look;refine PySem.W.set_plain X J hs (PySem.W.osa_open (s:={ s with toks:=s.toks+1 }) (r:=none) X J hp ht λb=>?_);obtain ⟨cd,hc,hd'⟩:=PySem.W.any_some hh;have hx:s.heap.get? x=some ⟨.ref C,some dx,.plain,#[]⟩:=I.obj;refine AA (AL (AA (AA (wpAny_loadPart hx (AA (kx (s:={ s with toks:=s.toks+1 }) (PySem.W.looks_clsIn X hc) ?_))))));rw [hd'];refine AL (a:=some dx) (AA (AL (AA ?_)))
 refine wpAny_nsSet1 (s:={ s with toks:=s.toks+1 }) I.ns λh' hn2 hs2=>?_
 obtain ⟨oD,esD,epD,hoD,hdD,hcD⟩:=hn2.count (nP name v hw);refine AA (wpAny_lookBehind hoD (by rw [hdD];exact pastItsLine_dict (Am hcD (by rw [Ao];omega))) ?_);exact AL (h _ ⟨(hs2.2 _ (Bo I.ne)).trans I.obj,hn2,I.ne⟩ hs2)
theorem av {R:gt->AE->Prop} {vs:List AD} {kw:List (Str×AD)} (X:K.In s.heap) (hm:ZH K C=true)
  (hi:D8 K (.ref C) "__init__" = some (some (.ref f))) (hf:PySem.W.typeIn K (.ref f)=some (.type "function"))
  (h:Kj (AZ prog w) (A.under (.builtin "type.__call__" ⟨.ref C :: vs,kw⟩)) (.call (.ref f) ⟨.ref (s.heap.objs.size+1) :: vs,kw⟩) (PySem.W.InitBack (s.heap.objs.size+1) R)
   { s with heap:=(s.heap.push Cn).push (Ds C s.heap.objs.size) }) :
  Kj (AZ prog w) A (.call (.ref C) ⟨vs,kw⟩) R s:=by
 obtain ⟨hh,g,d,t,os⟩:=s;exact PySem.W.make_core (PySem.W.makes_of X hm) (PySem.W.looks_findIn X hi) (λself=>PySem.W.bind_fn X self hf) (.inl rfl) h
end
def putF (f:Str) (v:V):List (Str×V)->List (Str×V)
 | []=>[(f,v)]
 | (g,x) :: r=>if g=f then (g,v) :: r else (g,x) :: putF f v r
theorem OJ (f g:Str) (v:V):∀fs:List (Str×V),(putF f v fs).lookup g=if g=f then some v else fs.lookup g
 | []=>by
  show Hl g [(f,v)]=_
  by_cases h:g=f
  ·have hb:(g==f)=true:=beq_iff_eq.mpr h
   simp only [Hl,hb,if_pos h]
  ·have hb:(g==f)=false:=beq_eq_false_iff_ne.mpr h
   simp only [Hl,hb,if_neg h]
 | (k,x) :: r=>by
  have ih:=OJ f g v r;rw [show putF f v ((k,x) :: r)=(if k=f then (k,v) :: r else (k,x) :: putF f v r) from rfl]
  by_cases hk:k=f
  ·rw [if_pos hk]
   by_cases h:g=k
   ·have hb:(g==k)=true:=beq_iff_eq.mpr h
    simp only [Hl,hb,if_pos (h.trans hk)]
   ·have hb:(g==k)=false:=beq_eq_false_iff_ne.mpr h
    simp only [Hl,hb,if_neg (λe:g=f=>h (e.trans hk.symm))]
  ·rw [if_neg hk]
   by_cases h:g=k
   ·have hb:(g==k)=true:=beq_iff_eq.mpr h
    simp only [Hl,hb,if_neg (λe:g=f=>hk (h.symm.trans e))]
   ·have hb:(g==k)=false:=beq_eq_false_iff_ne.mpr h
    simp only [Hl,hb];exact ih
theorem Nt (f:Str) (v:V):∀fs:List (Str×V),f∈(putF f v fs).map (·.1)/\∀g,g∈fs.map (·.1)->g∈(putF f v fs).map (·.1)
 | []=>⟨by simp [putF],λg h=>by simp at h⟩
 | (k,x) :: r=>by
  obtain ⟨i1,i2⟩:=Nt f v r;rw [show putF f v ((k,x) :: r)=(if k=f then (k,v) :: r else (k,x) :: putF f v r) from rfl]
  by_cases hk:k=f
  ·rw [if_pos hk]
   subst hk;exact ⟨by simp,λg h=>by simpa using h⟩
  ·rw [if_neg hk]
   refine ⟨?_,λg h=>?_⟩
   ·rw [A1]
    exact Ah _ i1
   ·rw [A1] at h ⊢
    rcases A2.mp h with e | e
    ·exact A2.mpr (.inl e)
    ·exact Ah _ (i2 g e)
theorem OL (f:Str) (v:V):∀fs:List (Str×V),(putF f v fs).length<=fs.length+1
 | []=>by simp [putF]
 | (k,x) :: r=>by
  have ih:=OL f v r;rw [show putF f v ((k,x) :: r)=(if k=f then (k,v) :: r else (k,x) :: putF f v r) from rfl]
  by_cases hk:k=f
  ·rw [if_pos hk,Ao,Ao];omega
  ·rw [if_neg hk,Ao,Ao];omega
theorem N8.some_of {v:V} {o:Option AD} (r:N8 (some v) o):∃u,o=some u/\RelV v u:=by
 cases o with
 | none=>exact (show False from r).elim
 | some u=>exact ⟨u,rfl,r⟩
theorem Yv {v:V} {u:AD} (r:RelV v u):X7 u=true:=by
 cases v with
 | non=>cases (show u=DK from r);rfl
 | bl b=>cases (show u=Ka b from r);rfl
 | int i=>obtain ⟨t,e⟩:=(show ∃t,u=OP i t from r);cases e;rfl
 | str x=>obtain ⟨t,e⟩:=(show ∃t,u=OO x t from r);cases e;rfl
 | byt b=>obtain ⟨t,e⟩:=(show ∃t,u=kc b t from r);cases e;rfl
 | flt b=>obtain ⟨t,e⟩:=(show ∃t,u=VV b t from r);cases e;rfl
 | ref a=>cases (show u=BD a from r);rfl
 | ty n=>cases (show u=E6 n from r);rfl
section
variable {P:Ap} {w:BE} {H H':Hp} {h h':Bu} {a C dx:AM} {fs fs':List (Str×V)}
theorem Sx (hok:HOk P w H h) (e:H a=some (.ins C dx fs)):∃mA,ZD h a dx C mA/\(∀f,N8 (fs.lookup f) (mA f))/\Tp mA (fs.map (·.1))/\fs.length<=1000/\H dx=some (.own a):=by
 obtain ⟨d,z,ne,ob,mA,n,r,q⟩:=(show DP P w H h a (.ins C dx fs) from hok a _ e);exact ⟨mA,⟨ob,n,ne⟩,r,q,z,d⟩
end
structure Cls (K:AB) (C:AM):Prop where
 pg:NS K C Str.empty=true
 hd:Ml K C=true
 po:Wn K C=true
 sa:D8 K (.ref C) "__setattr__" = some (some (.builtin "object.__setattr__"))
theorem Cls.get {K:AB} {C:AM} (c:Cls K C) (f:Str):NS K C f=true:=c.pg
def IZ (K:AB) (C:AM) (f:Str):Prop:=D8 K (.ref C) f=some none
theorem IZ.taker {K:AB} {C:AM} {f:Str} (n:IZ K C f):OR K C f=some none:=by
 unfold OR;rw [show D8 K (.ref C) f=some none from n];rfl
section
variable {X:Cx} {pins:List (AM×Obj)} {σ:St} {H:Hp} {s:AE} {a C dx:AM} {fs:List (Str×V)} {f:Str} {v:V} {A:BC} {E:AD->AE->Prop}
theorem WQ {b:Bool} {Q:AD->AE->Prop} (I:Inv X pins σ H s) (e:H a=some (.ins C dx fs)) (c:Cls X.K C) (n:IZ X.K C f) (l:fs.lookup f=some v)
  (h:∀u s',Inv X pins σ H s'->RelV v u->Q u s'):Ac (AZ X.prog X.w) A (getAttr (.ref a) f b) Q E s:=by
 obtain ⟨mA,O,r,_,_,_⟩:=Sx I.hok e;obtain ⟨u,hu,ru⟩:=N8.some_of (v:=v) (o:=mA f) (by rw [<-l];exact r f);exact fB I.kIn O (c.get f) c.hd n hu (Yv ru) (h u _ (I.tok _) ru)
theorem Vy {y:V} {u:AD} {Q:Unit->AE->Prop} (I:Inv X pins σ H s) (e:H a=some (.ins C dx fs)) (c:Cls X.K C) (n:IZ X.K C f) (hl:fs.length < 1000) (ry:RelV y u)
  (h:∀s',Inv X pins σ (upd H a (.ins C dx (putF f y fs))) s'->Q () s'):Ac (AZ X.prog X.w) A (setAttr (.ref a) f u) Q E s:=by
 obtain ⟨mA,O,r,wi,_,ho⟩:=Sx I.hok e
 have hz:(fs.map (·.1)).length<=sizeLine:=by rw [AI,cR];omega
 refine dS I.kIn O c.sa c.po n.taker c.hd wi hz λh' O' sb=>h _ ?_
 have hd:∃o,h'.get? dx=some o:=let ⟨o,_,_,e',_⟩:=O'.ns;⟨o,e'⟩
 refine I.write (x:=a) (e:=dx) (by rw [e];exact Eg) (.inr ho) (λb q hb z=>(sb.2 b hb).trans z) hd ?_;refine ⟨by rw [Bv O.ne];exact ho,?_,O.ne,O'.obj,_,O'.ns,λg=>?_,λg hg=>?_⟩
 ·have:=OL f y fs;omega
 ·show N8 ((putF f y fs).lookup g) (if g=f then some u else mA g)
  rw [OJ]
  by_cases q:g=f
  ·rw [if_pos q,if_pos q];exact ry
  ·rw [if_neg q,if_neg q];exact r g
 ·by_cases q:g=f
  ·rw [q];exact (Nt f y fs).1
  ·refine (Nt f y fs).2 g (wi g λz=>hg ?_)
   show (if g=f then some u else mA g)=none;rw [if_neg q];exact z
theorem Inv.made (I:Inv X pins σ H s):Inv X pins σ (upd (upd H s.heap.objs.size (.own (s.heap.objs.size+1))) (s.heap.objs.size+1) (.ins C s.heap.objs.size []))
  { s with heap:=(s.heap.push Cn).push (Ds C s.heap.objs.size) }:=by
 have e1:(s.heap.push Cn).get? s.heap.objs.size=some Cn:=Ai s.heap rfl
 have e2:((s.heap.push Cn).push (Ds C s.heap.objs.size)).get? (s.heap.objs.size+1)=some (Ds C s.heap.objs.size):=by
  have:=Ai (s.heap.push Cn) (o:=Ds C s.heap.objs.size) rfl;rwa [Dh] at this
 have e3:(s.heap.push Cn).Ns s.heap.objs.size (λ_=>none):=⟨Cn,#[],_,e1,rfl,(λe he=>absurd he (by simp)),λ_=>rfl⟩;have I1:=I.laid (a:=s.heap.objs.size) (o:=.own (s.heap.objs.size+1)) (h':=s.heap.push Cn) (t':=s.toks) (λb u q=>AJ _ q) (AT _) ⟨_,e1⟩;refine I1.laid (a:=s.heap.objs.size+1) (o:=.ins C s.heap.objs.size []) (t':=s.toks) (λb u q=>AJ _ q) (lC (Dh _ _)) ?_;have ne:s.heap.objs.size≠s.heap.objs.size+1:=Av (ER _);refine ⟨by rw [Bv ne,Bw],DI _,ne,e2,λ_=>none,(Bu.Ns1.of_empty e3).at λo q=>AJ _ q,λ_=>Eg,λy hy=>absurd rfl hy⟩
theorem fY {prog:Ap} {w:BE} {env:Env} {e:Expr} {f:Str} {pos:Pos} {s:AE} {Q:AD->AE->Prop} (hb:Ia e f env (CS e env)=CS e env)
  (h:Ac (AZ prog w) A (CS e env) (λo s₁=>Ac (AZ prog w) A (getAttr o f true) Q E s₁) E s):Ac (AZ prog w) A (CS (.Attribute e f pos) env) Q E s:=
 Attribute_any_ h (by rw [arm_eval_Attribute,hb])
end
def tFld (K:AB) (ta:TE) (f:Str):TE:=λσ H Q=>ta σ H λx H1=>∃a C dx fs v,x=.ref a/\H1 a=some (.ins C dx fs)/\Cls K C/\IZ K C f/\fs.lookup f=some v/\Q v H1
def sFld (K:AB) (ta tv:TE) (f:Str):TS:=λD σ H=>tv σ H λy H1=>ta σ H1 λx H2=>∃a C dx fs,x=.ref a/\H2 a=some (.ins C dx fs)/\Cls K C/\IZ K C f/\fs.length < 1000 /\
 D.nx σ (upd H2 a (.ins C dx (putF f y fs)))
section
variable {X:Cx} {o e value:Expr} {f:Str} {pos pos' tpos:Pos} {ta tv:TE}
theorem jE (he:PE X e ta) (hb:Ia e f X.env (CS e X.env)=CS e X.env):PE X (.Attribute e f pos) (tFld X.K ta f):=by
 intro pins s σ H Q I h;refine fY hb (thn (he pins s σ H _ I h) λu s1 ⟨x,H1,I1,rx,a,C,dx,fs,v,ex,ea,c,n,l,q⟩=>?_);subst ex;obtain rfl:u=BD a:=rx
 exact WQ I1 ea c n l λu' s2 I2 ru=>⟨v,H1,I2,ru,q⟩
theorem iz (ha:PE X o ta) (hv:PE X value tv) (hs:GB value (some (.Attribute o f pos')) pos.line X.env=pure false):PS X (.Assign [.Attribute o f pos'] value pos) (sFld X.K ta tv f):=by
 intro pins s σ H D I h;refine plainObj_wpAny_Assign_Attribute (thn (hv pins s σ H _ I h) λu s1 ⟨y,H1,I1,ry,q⟩=>thn (ha pins s1 σ H1 _ I1 q) λov s2 ⟨x,H2,I2,rx,a,C,dx,fs,ex,ea,c,n,l,q2⟩=>?_) hs;subst ex;obtain rfl:ov=BD a:=rx
 exact Vy I2 ea c n l ry λs3 I3=>⟨σ,_,I3,q2⟩
end
section
variable {X:Cx} {pins:List (AM×Obj)} {σ:St} {H:Hp} {s:AE} {A:BC} {E:AD->AE->Prop} {Q:AD->AE->Prop} {c:AD} {b:Bool}
inductive NJ (K:AB) (H:Hp):V->AD->Prop where
 | non:NJ K H .non (.type "NoneType")
 | bl (x:Bool):NJ K H (.bl x) (.type "bool")
 | int (i:Int):NJ K H (.int i) (.type "int")
 | str (x:Str):NJ K H (.str x) (.type "str")
 | flt (x:UInt64):NJ K H (.flt x) (.type "float")
 | lst {a:AM} {xs:List V} (e:H a=some (.lst xs)):NJ K H (.ref a) (.type "list")
 | frz {a:AM} {o:Obj} {xs:List V} (e:H a=some (.frz o (.lst xs))):NJ K H (.ref a) (.type "list")
 | tup {a:AM} {xs:List V} (e:H a=some (.tup xs)):NJ K H (.ref a) (.type "tuple")
 | dK {a:AM} {kvs:List (Key×V)} (e:H a=some (.dK kvs)):NJ K H (.ref a) (.type "dict")
 | dT {a:AM} {kvs:List (List Key×V)} (e:H a=some (.dT kvs)):NJ K H (.ref a) (.type "dict")
 | ins {a C dx:AM} {fs:List (Str×V)} (e:H a=some (.ins C dx fs)) (cl:Cls K C) (ha:D8 K (.ref C) "__class__" = some (some (.builtin "object.__class__")))
   (hn:PySem.W.specialIn K (.builtin "object.__class__") "__get__" = some (some (.builtin "getset_descriptor.__get__"))) (htk:PySem.W.takesIn K (.builtin "object.__class__")=some true)
   (hm:PySem.W.mroIn K C (.type "object")=some true):NJ K H (.ref a) (.ref C)
theorem Yq {x:V} {u t:AD} (I:Inv X pins σ H s) (rx:RelV x u) (ty:NJ X.K H x t) (e:D7 X.K t c=some b) (h:∀tk,Q (.bool b) { s with toks:=tk }) :
  Ac (AZ X.prog X.w) A (call (.builtin "isinstance") [u,c]) Q E s:=by
 cases ty with
 | non=>cases (show u=DK from rx);exact CZ PySem.W.kitx_none I.kIn Eg e (λz=>nomatch z) h
 | bl y=>cases (show u=Ka y from rx);exact CZ PySem.W.kitx_bool I.kIn Eg e (λz=>nomatch z) h
 | int i=>obtain ⟨t,q⟩:=(show ∃t,u=OP i t from rx);cases q;exact CZ PySem.W.kitx_int I.kIn Eg e (λz=>nomatch z) h
 | str y=>obtain ⟨t,q⟩:=(show ∃t,u=OO y t from rx);cases q;exact CZ PySem.W.kitx_str I.kIn Eg e (λz=>nomatch z) h
 | flt y=>obtain ⟨t,q⟩:=(show ∃t,u=VV y t from rx);cases q;exact CZ PySem.W.kitx_float I.kIn Eg e (λz=>nomatch z) h
 | @lst a xs ea=>
  cases (show u=BD a from rx);obtain ⟨_,_,n,_,h1⟩:=(show DP X.prog X.w H s.heap a (.lst xs) from I.hok a _ ea);exact CZ Wo I.kIn ⟨_,h1,rfl⟩ e (λz=>nomatch z) h
 | @frz a ob xs ea=>
  cases (show u=BD a from rx);obtain ⟨_,_,_,n,_,h1⟩:=(show DP X.prog X.w H s.heap a (.frz ob (.lst xs)) from I.hok a _ ea);exact CZ Wo I.kIn ⟨_,h1,rfl⟩ e (λz=>nomatch z) h
 | @tup a xs ea=>
  cases (show u=BD a from rx);obtain ⟨_,_,_,p⟩:=(show DP X.prog X.w H s.heap a (.tup xs) from I.hok a _ ea);obtain ⟨o,h1,h2,_⟩:=p;exact CZ PySem.W.kitx_tuple I.kIn ⟨o,h1,h2⟩ e (λz=>nomatch z) h
 | @dK a kvs ea=>
  cases (show u=BD a from rx);obtain ⟨_,_,vs,_,p⟩:=(show DP X.prog X.w H s.heap a (.dK kvs) from I.hok a _ ea);obtain ⟨o,es,ep,h1,h2,_⟩:=p;exact CZ Wp I.kIn ⟨o,h1,h2.1⟩ e (λz=>nomatch z) h
 | @dT a kvs ea=>
  cases (show u=BD a from rx);obtain ⟨_,_,xs,_,o,es,ep,h1,h2,_⟩:=(show DP X.prog X.w H s.heap a (.dT kvs) from I.hok a _ ea);exact CZ Wp I.kIn ⟨o,h1,h2.1⟩ e (λz=>nomatch z) h
 | @ins a C dx fs ea cl ha hn htk hm=>
  cases (show u=BD a from rx);obtain ⟨mA,O,_⟩:=Sx I.hok ea;obtain ⟨od,J,_⟩:=O.look;exact CZ (PySem.W.kitx_own (cl.get _) cl.hd ha hn htk hm) I.kIn J e (λz=>nomatch z) h
end
end L2
namespace L2
open PySem PySem.Spec PyProof.Rows
structure Hj (k:Nat) (A:BC):Prop where
 hd:A.handled=none
 dp:A.depth+3 * k+5 < recursionLimit
 un:A.units+16 * k+200 < Dr
theorem Hj.mono {j k:Nat} {A:BC} (r:Hj k A) (h:j<=k):Hj j A:=⟨r.hd,by have:=r.dp;omega,by have:=r.un;omega⟩
theorem Hj.deeper {k:Nat} {A:BC} (r:Hj (k+1) A) (env:Env):Hj k (A.deeper env):=
 ⟨r.hd,by have:=r.dp;show A.depth+1+3 * k+5 < _;omega,by have:=r.un;show A.units+3+16 * k+200 < _;omega⟩
theorem WF {A:BC} {C:AM} {us:List AD} {kw:List (Str×AD)}:(A.under (.builtin "type.__call__" ⟨.ref C :: us,kw⟩)).depth=A.depth+1:=by
 first | rfl | simp [Tj,Code.weight,Code.isCreation,Code.isGuard,Code.isCaller,lG,VJ,guardIds]
theorem WE {A:BC} {C:AM} {us:List AD} {kw:List (Str×AD)}:(A.under (.builtin "type.__call__" ⟨.ref C :: us,kw⟩)).units=A.units+1:=by
 first | rfl | simp [Tj,Code.cUnits,lG,VJ]
theorem Hj.make {k:Nat} {A:BC} (r:Hj (k+1) A) (C:AM) (us:List AD) (kw:List (Str×AD)):Hj k (A.under (.builtin "type.__call__" ⟨.ref C :: us,kw⟩)):=
 ⟨r.hd,by have:=r.dp;rw [WF];omega,by have:=r.un;rw [WE];omega⟩
theorem Hj.depth {k:Nat} {A:BC} (r:Hj k A):A.depth < recursionLimit:=by have:=r.dp;omega
theorem Hj.units {k:Nat} {A:BC} (r:Hj k A):A.units+64 < Dr:=by have:=r.un;omega
def tNil:TA:=λ_ H Q=>Q [] H
def lX (ta:TE) (tr:TA):TA:=λσ H Q=>ta σ H λx H1=>tr σ H1 λxs H2=>Q (x :: xs) H2
section
variable {X:Cx} {e:Expr} {es:List Expr} {te:TE} {t:TA} {pos:Pos}
theorem Hd:PA X [] tNil:=λ_ _ _ _ H Q I h=>Calls.spliced_nil ⟨[],H,I,.nil,h⟩
theorem FI (ha:PE X e te) (hr:PA X es t) (hs:Ab (e :: es) X.env=(false,CS e X.env) :: Ab es X.env:=by rfl):PA X (e :: es) (lX te t):=by
 intro pos pins s σ H Q I h;rw [hs];show Ac _ _ (spliced ((false,CS e X.env) :: Dz pos (Ab es X.env))) _ _ s;refine Calls.spliced_cons (thn (ha pins s σ H _ I h) λu s1 ⟨x,H1,I1,r1,q1⟩=>?_)
 exact thn (hr pos pins s1 σ H1 _ I1 q1) λus s2 ⟨xs,H2,I2,r2,q2⟩=>⟨x :: xs,H2,I2,.cons r1 r2,q2⟩
def tTup (t:TA):TE:=λσ H Q=>t σ H λxs H1=>xs.length<=sizeLine/\∀p,H1 p=none->Q (.ref p) (upd H1 p (.tup xs))
def tLst (t:TA):TE:=λσ H Q=>t σ H λxs H1=>xs.length<=sizeLine/\∀p,H1 p=none->Q (.ref p) (upd H1 p (.lst xs))
theorem i8 {x1} (h:PA X es t):PE X (.Tuple es x1 pos) (tTup t):=by
 intro pins s σ H Q I hq;refine wpAny_Tuple_spliced (thn (h pos pins s σ H _ I hq) λus s1 ⟨xs,H1,I1,r,z,q⟩=>⟨by rw [<-r.length];exact z,?_⟩);have hf:H1 s1.heap.objs.size=none:=I1.hok.fresh (AT _);refine ⟨.ref s1.heap.objs.size,upd H1 s1.heap.objs.size (.tup xs),I1.laid (t':=s1.toks) (λb u e=>AJ _ e) (AT _) ?_,rfl,q _ hf⟩;exact ⟨z,us,r,⟨_,Ai _ rfl,rfl,_,rfl⟩⟩
theorem jD (h:PA X es t):PE X (.List es pos) (tLst t):=by
 intro pins s σ H Q I hq;refine wpAny_List_spliced (thn (h pos pins s σ H _ I hq) λus s1 ⟨xs,H1,I1,r,z,q⟩=>⟨by rw [<-r.length];exact z,?_⟩);have hf:H1 s1.heap.objs.size=none:=I1.hok.fresh (AT _);refine ⟨.ref s1.heap.objs.size,upd H1 s1.heap.objs.size (.lst xs),I1.laid (t':=s1.toks) (λb u e=>AJ _ e) (AT _) ?_,rfl,q _ hf⟩;exact ⟨z,us,0,r,Ai _ rfl⟩
end
abbrev Sp:=List V->Hp->VK->XK->Prop
abbrev CXT:=List Env->Hp->AE->XK->AD->AE->Prop
structure Wl (P:Ap) (w:BE) (K:AB) (mg:Str->Option AD) (base:Bu) (A:BC) (outer:List Env) (s:AE) (H:Hp):Prop where
 frames:A.frames=some outer
 mod:Mod K mg base
 bs:∀b o,base.get? b=some o->s.heap.get? b=some o/\H b=none
 bsz:base.objs.size<=s.heap.objs.size
 funs:s.heap.FunFrames base outer
 frf:∀b∈frs outer,H b=none
 hok:HOk P w H s.heap
 bare:JR s.gens
def CE (outer:List Env) (P:Ap) (w:BE) (H:Hp) (s:AE) (Q:VK) (u:AD) (s':AE):Prop:=
 ∃v H',s'.os=s.os/\JR s'.gens/\Un (frs outer) [] H H' s.heap s'.heap/\HOk P w H' s'.heap/\RelV v u/\Q v H'
def CR (CX:CXT) (outer:List Env) (P:Ap) (w:BE) (H:Hp) (s:AE) (Q:VK) (E:XK) (r:gt) (s':AE):Prop:=
 match r with
 | .ok (.ret u)=>CE outer P w H s Q u s'
 | .ok _=>False
 | .error e=>CX outer H s E e s'
structure Dq (P:Ap) (w:BE) (K:AB) (mg:Str->Option AD) (base:Bu) (CX:CXT) (k:Nat) (f:AM) (fd:Df) (ps:List Str) (sp:Sp):Prop where
 len:∀vs H Q E,sp vs H Q E->vs.length=ps.length
 run:∀(A:BC) (outer:List Env) (s:AE) (H:Hp) (args:Args) (us:List AD) (vs:List V) (Q:VK) (E:XK),Hj k A->Wl P w K mg base A outer s H->VM s fd args (ps.zip us)->Bs vs us->sp vs H Q E ->
  Kj (AZ P w) A (.call (.ref f) args) (CR CX outer P w H s Q E) s
theorem Dq.imp {P:Ap} {w:BE} {K:AB} {mg:Str->Option AD} {base:Bu} {CX:CXT} {k:Nat} {f:AM} {fd:Df} {ps:List Str} {sp sp':Sp} (F:Dq P w K mg base CX k f fd ps sp)
  (h:∀vs H Q E,sp' vs H Q E->sp vs H Q E):Dq P w K mg base CX k f fd ps sp':=
 ⟨λvs H Q E q=>F.len vs H Q E (h _ _ _ _ q),λA outer s H args us vs Q E hr he hb hv hs=>F.run A outer s H args us vs Q E hr he hb hv (h _ _ _ _ hs)⟩
theorem Wl.make {P:Ap} {w:BE} {K:AB} {mg:Str->Option AD} {base:Bu} {A:BC} {outer:List Env} {s:AE} {H:Hp} (e:Wl P w K mg base A outer s H) (C:AM) (us:List AD) (kw:List (Str×AD)) :
  Wl P w K mg base (A.under (.builtin "type.__call__" ⟨.ref C :: us,kw⟩)) outer s H:=⟨by first | exact e.frames | (simpa [Tj,Code.envs,VJ,pushEnvs] using e.frames),e.mod,e.bs,e.bsz,e.funs,e.frf,e.hok,e.bare⟩
section
variable {X:Cx} {pins:List (AM×Obj)} {σ:St} {H:Hp} {s s':AE}
theorem Inv.env0 (I:Inv X pins σ H s):Wl X.prog X.w X.K X.mg X.base X.A X.stack s H:=
 ⟨I.ok.frames,I.ok.mod,I.bs,Am I.ok.bsz I.sz,I.stack,I.stkFree,I.hok,I.bare⟩
theorem Inv.after {Q:VK} {u:AD} (I:Inv X pins σ H s) (h:CE X.stack X.prog X.w H s Q u s'):EP X pins σ Q u s':=by
 obtain ⟨v,H',os,bare,un,hok,r,q⟩:=h;obtain ⟨hh,g,d,t,os'⟩:=s';obtain rfl:os'=s.os:=os;exact ⟨v,H',I.call (h':=hh) (g':=g) (d':=d) (t':=t) (ch:=[]) un hok bare (λb z=>absurd z (by simp)),r,q⟩
end
def lY (sp:Sp) (dvs:List V) (E:St->XK) (t:TA):TE:=λσ H Q=>t σ H λvs H1=>sp (vs++dvs) H1 Q (E σ)
def lT (C:AM) (sp:Sp) (dvs:List V) (E:St->XK) (t:TA):TE:=λσ H Q=>t σ H λvs H1=>∀x dx,H1 x=none->H1 dx=none->dx≠x ->
 sp (.ref x :: (vs++dvs)) (upd (upd H1 dx (.own x)) x (.ins C dx [])) (λv H2=>v=.non/\Q (.ref x) H2) (E σ)
def Binds (K:AB) (fd:Df) (ps:List Str) (ds:List AD):Prop:=
 ∀(s:AE) (us:List AD),K.In s.heap->(us++ds).length=ps.length->VM s fd ⟨us,[]⟩ (ps.zip (us++ds))
theorem Binds.all {K:AB} {fd:Df} {ps:List Str} (h:∀us:List AD,us.length=ps.length->bindArgs fd ⟨us,[]⟩=pure (ps.zip us)):Binds K fd ps []:=λs us _ hl=>by
 rw [BK] at hl ⊢;exact .of_eq (h us hl)
def Ma (CX:CXT) (X:Cx) (E:St->XK):Prop:=∀(pins:List (AM×Obj)) (σ:St) (H:Hp) (s:AE) (e:AD) (s':AE),Inv X pins σ H s->CX X.stack H s (E σ) e s'->X.xe e s'
section
variable {X:Cx} {CX:CXT} {k:Nat} {f C:AM} {fd:Df} {ps:List Str} {sp:Sp} {dvs:List V} {ds:List AD} {E:St->XK} {x m:Str} {p pos apos:Pos} {e o:Expr} {es:List Expr} {ta:TE} {t:TA}
theorem il {pins:List (AM×Obj)} {σ:St} {H:Hp} {s:AE} {Q:VK} {us:List AD} {vs:List V} (F:Dq X.prog X.w X.K X.mg X.base CX k f fd ps sp) (hr:Hj k X.A) (hb:Binds X.K fd ps ds) (hd:Bs dvs ds) (hx:Ma CX X E)
  (I:Inv X pins σ H s) (r:Bs vs us) (h:sp (vs++dvs) H Q (E σ)):Ac (AZ X.prog X.w) X.A (call (.ref f) us) (EP X pins σ Q) X.xe s:=by
 have r2:Bs (vs++dvs) (us++ds):=r.append hd
 have hl:(us++ds).length=ps.length:=by rw [<-r2.length];exact F.len _ _ _ _ h
 refine gg (JO (F.run X.A X.stack s H ⟨us,[]⟩ (us++ds) (vs++dvs) Q (E σ) hr I.env0 (hb s us I.kIn hl) r2 h) λr s' hq=>?_)
 cases r with
 | error e=>exact hx pins σ H s e s' I hq
 | ok fl=>
  cases fl with
  | ret u=>exact I.after hq
  | next=>exact D5 hq
  | brk=>exact D5 hq
  | cont=>exact D5 hq
theorem eE (F:Dq X.prog X.w X.K X.mg X.base CX k f fd ps sp) (hr:Hj k X.A) (hg:Gl X x) (hm:X.mg x=some (.ref f)) (hk:GH X.K (.ref f)=true) (hb:Binds X.K fd ps ds) (hd:Bs dvs ds) (hx:Ma CX X E)
  (ha:PA X (e :: es) t) (hdb:(x==("__debug__" : Str))=false:=by decide) (he:Ab (e :: es) X.env=(false,CS e X.env) :: Ab es X.env:=by rfl) (hpl:(Dz pos (Ab es X.env)).any (·.1)=false:=by rfl) :
  PE X (.Call (.Name x p) (e :: es) [] pos) (lY sp dvs E t):=by
 intro pins s σ H Q I h;refine Gv (Su I hg hm ?_ hdb);refine VW (h₀:=X.base) I.ok.mod.kin hk (thn (ha pos pins s σ H _ I h) λus s1 ⟨vs,H1,I1,r,q⟩=>⟨I1.kIn,?_⟩) he hpl;exact il F hr hb hd hx I1 r q
structure Mk (K:AB) (C f:AM):Prop where
 makes:ZH K C=true
 init:D8 K (.ref C) "__init__" = some (some (.ref f))
 fn:PySem.W.isFn K (.ref f)=true
 kp:GH K (.ref C)=true
theorem Z9 {pins:List (AM×Obj)} {σ:St} {H:Hp} {s:AE} {Q:VK} {us:List AD} {vs:List V} (M:Mk X.K C f) (F:Dq X.prog X.w X.K X.mg X.base CX k f fd ps sp) (hr:Hj (k+1) X.A) (hb:Binds X.K fd ps ds) (hd:Bs dvs ds)
  (hx:Ma CX X E) (I:Inv X pins σ H s) (r:Bs vs us)
  (h:∀x dx,H x=none->H dx=none->dx≠x->sp (.ref x :: (vs++dvs)) (upd (upd H dx (.own x)) x (.ins C dx [])) (λv H2=>v=.non/\Q (.ref x) H2) (E σ)) :
  Ac (AZ X.prog X.w) X.A (call (.ref C) us) (EP X pins σ Q) X.xe s:=by
 have hq:=h (s.heap.objs.size+1) s.heap.objs.size (I.hok.fresh (Je _)) (I.hok.fresh (AT _)) (Av (ER _));have I2:=Inv.made (C:=C) I;have r2:Bs (V.ref (s.heap.objs.size+1) :: (vs++dvs)) (BD (s.heap.objs.size+1) :: (us++ds)):=.cons rfl (r.append hd)
 have hl:(BD (s.heap.objs.size+1) :: us++ds).length=ps.length:=by
  have e:=r2.length;rw [F.len _ _ _ _ hq] at e;exact e.symm
 refine gg (av (f:=f) I.kIn M.makes M.init (beq_iff_eq.mp M.fn) (JO (F.run _ X.stack _ _ ⟨BD (s.heap.objs.size+1) :: us,[]⟩ (BD (s.heap.objs.size+1) :: (us++ds)) _ _ (E σ) (hr.make C us [])
  (I2.env0.make C us []) (hb _ (BD (s.heap.objs.size+1) :: us) I2.kIn hl) r2 hq) λr s' hq'=>?_))
 cases r with
 | error e=>exact hx pins σ _ _ e s' I2 hq'
 | ok fl=>
  cases fl with
  | ret u=>
   obtain ⟨v,H',I3,rv,ev,q3⟩:=I2.after hq';subst ev;exact ⟨rv,⟨V.ref (s.heap.objs.size+1),H',I3,rfl,q3⟩⟩
  | next=>exact D5 hq'
  | brk=>exact D5 hq'
  | cont=>exact D5 hq'
theorem d7 (M:Mk X.K C f) (F:Dq X.prog X.w X.K X.mg X.base CX k f fd ps sp) (hr:Hj (k+1) X.A) (hg:Gl X x) (hm:X.mg x=some (.ref C)) (hb:Binds X.K fd ps ds) (hd:Bs dvs ds) (hx:Ma CX X E)
  (ha:PA X (e :: es) t) (hdb:(x==("__debug__" : Str))=false:=by decide) (he:Ab (e :: es) X.env=(false,CS e X.env) :: Ab es X.env:=by rfl) (hpl:(Dz pos (Ab es X.env)).any (·.1)=false:=by rfl) :
  PE X (.Call (.Name x p) (e :: es) [] pos) (lT C sp dvs E t):=by
 intro pins s σ H Q I h;refine Gv (Su I hg hm ?_ hdb);refine VW (h₀:=X.base) I.ok.mod.kin M.kp (thn (ha pos pins s σ H _ I h) λus s1 ⟨vs,H1,I1,r,q⟩=>⟨I1.kIn,?_⟩) he hpl;exact Z9 M F hr hb hd hx I1 r q
end
section
variable {X:Cx} {CX:CXT} {k:Nat} {f C:AM} {fd:Df} {ps ks:List Str} {sp:Sp} {E:St->XK} {x m:Str} {p pos apos kpos:Pos} {e o:Expr} {es:List Expr} {kws:List OD} {te ta:TE} {t tk:TA} {nm:Option Str}
variable {g:List AD->List AD->List AD} {gV:List V->List V->List V}
end
structure Bp (N P:List Str) (sc:Ie):Prop where
 kind:sc.kind=.function
 co:sc.isCoroutine=false
 gen:sc.isGenerator=false
 nd:N.Nodup
 pre:N.take P.length=P
 par:∀x∈P,sc.names.lookup x=some .local∨sc.names.lookup x=some .cell
 nofree:∀y∈sc.names,y.2≠.free
theorem Rt {kindOf:Str->Option Ql} {x:Str}:∀ {binds:List (Str×AD)} {m:Str->Option AD},(∀v,(x,v)∉binds)->ZF kindOf binds m x=m x
 | [],_,_=>rfl
 | (n,v) :: r,m,h=>by
  unfold ZF;rw [Rt λw hw=>h w (Ah _ hw)];split
  ·have:x≠n:=by rintro rfl;exact h v A3
   simp [this]
  ·rfl
theorem Rv {kindOf:Str->Option Ql} {x:Str}:∀ {binds:List (Str×AD)} {m:Str->Option AD},(∀v,(x,v)∉binds)->ZG kindOf binds m x=m x
 | [],_,_=>rfl
 | (n,v) :: r,m,h=>by
  unfold ZG;rw [Rv λw hw=>h w (Ah _ hw)];split
  ·rfl
  ·have:x≠n:=by rintro rfl;exact h v A3
   simp [this]
theorem Ru {kindOf:Str->Option Ql} {x:Str} {v:AD}:∀ {P:List Str} {vs:List AD} {i:Nat} {m:Str->Option AD},P.Nodup->P[i]?=some x->vs[i]?=some v->kindOf x=some .local ->
  ZF kindOf (P.zip vs) m x=some v
 | [],_,_,_,_,h,_,_=>by simp at h
 | _ :: _,[],_,_,_,_,h,_=>by simp at h
 | p :: P,w :: vs,0,m,nd,h1,h2,hk=>by
  simp at h1 h2;subst h1;subst h2;show ZF kindOf ((p,w) :: P.zip vs) m p=_;unfold ZF;rw [Rt λv hv=>(Br.mp nd).1 (Eo hv).1,if_pos hk];simp
 | p :: P,w :: vs,i+1,m,nd,h1,h2,hk=>by
  show ZF kindOf ((p,w) :: P.zip vs) m x=_;unfold ZF;exact Ru (i:=i) (Br.mp nd).2 (by simpa using h1) (by simpa using h2) hk
theorem Rw {kindOf:Str->Option Ql} {x:Str} {v:AD}:∀ {P:List Str} {vs:List AD} {i:Nat} {m:Str->Option AD},P.Nodup->P[i]?=some x->vs[i]?=some v->kindOf x≠some .local ->
  ZG kindOf (P.zip vs) m x=some v
 | [],_,_,_,_,h,_,_=>by simp at h
 | _ :: _,[],_,_,_,_,h,_=>by simp at h
 | p :: P,w :: vs,0,m,nd,h1,h2,hk=>by
  simp at h1 h2;subst h1;subst h2;show ZG kindOf ((p,w) :: P.zip vs) m p=_;unfold ZG;rw [Rv λv hv=>(Br.mp nd).1 (Eo hv).1,if_neg hk];simp
 | p :: P,w :: vs,i+1,m,nd,h1,h2,hk=>by
  show ZG kindOf ((p,w) :: P.zip vs) m x=_;unfold ZG;exact Rw (i:=i) (Br.mp nd).2 (by simpa using h1) (by simpa using h2) hk
def start (N:List Str) (vs:List V):St:=vs.map some++BY (N.length - vs.length) none
def WX (CX:CXT) (P:Ap) (w:BE) (K:AB) (mg:Str->Option AD) (base:Bu) (N:List Str) (qual:Str) (scope:Ie) (f:AM) (cd:AD) (A:BC) (outer:List Env) (s:AE) (H:Hp) (E:XK):Cx where
 prog:=P
 w:=w
 K:=K
 mg:=mg
 base:=base
 A:=A.deeper (L8 qual scope s.heap.objs.size f cd)
 N:=N
 s₀:=s
 H₀:=H
 env:=L8 qual scope s.heap.objs.size f cd
 outer:=outer
 stack:=L8 qual scope s.heap.objs.size f cd :: outer
 ex:=[]
 calm:=true
 fn:=λ_=>true
 pn:=[]
 xe:=λe s'=>Ac (AZ P w) (A.deeper (L8 qual scope s.heap.objs.size f cd)) (leaving (L8 qual scope s.heap.objs.size f cd) e) (λ_ s''=>CX outer H s E e s'') (λe' s''=>CX outer H s E e' s'') s'
theorem Uz {sc:Ie} {n:Nat} {x:Str} (h:sc.names.lookup x=some .cell):∃c,(kr n sc.names []).lookup x=some c:=by
 have q:=R4 sc.names n [] (.inl h);exact RI.mp q
theorem Ys {CX:CXT} {P:Ap} {w:BE} {K:AB} {mg:Str->Option AD} {base:Bu} {N ps:List Str} {qual:Str} {scope:Ie} {f:AM} {cd:AD} {A:BC} {outer:List Env} {s s1:AE} {H:Hp} {E:XK} {us:List AD} {vs:List V}
  (S:Bp N ps scope) (hd:A.handled=none) (e0:Wl P w K mg base A outer s H) (hl:vs.length=ps.length) (r:Bs vs us)
  (x:InCallC s s.heap.objs.size (ZF (L8 qual scope s.heap.objs.size f cd).kindOf (ps.zip us) λ_=>none) (kr (s.heap.objs.size+1) scope.names []) (ZG (L8 qual scope s.heap.objs.size f cd).kindOf (ps.zip us) λ_=>none) s1) :
  Inv (WX CX P w K mg base N qual scope f cd A outer s H E) [] (start N vs) H s1:=by
 have hpl:ps.length<=N.length:=by have:=congrArg Hm S.pre;rw [C9] at this;omega
 obtain ⟨h1,tk,rfl,hk⟩:=x.done
 have noA:∀b:AM,b∉(WX CX P w K mg base N qual scope f cd A outer s H E).ex:=λb z=>absurd (show b∈([]:List AM) from z) (by simp)
 refine ⟨⟨e0.mod,S.kind,rfl,rfl,AT _,λy z c h1 h2=>?_,λy hy=>?_,λy c _ h=>?_,λ_=>hd,BC.frames_deeper e0.frames,.inr ⟨rfl,rfl⟩,λb z=>absurd z (noA b),e0.bs,e0.bsz,λb _ _=>noA b,λb z=>absurd z (noA b),e0.funs,e0.frf⟩,
  rfl,e0.bare,Un.kept hk,⟨_,x.toInCall.ns,λi y v h1 h2 h3=>?_⟩,λy c h=>⟨_,x.cell y c h⟩,e0.hok.fresh (AT _),λy c h=>?_,λp hp=>absurd (show p∈([]:List (AM×Obj)) from hp) (by simp),e0.hok.kept hk,?_⟩
 ·exact name_of_addr x.apart (EI h1) (EI h2)
 ·have hy:scope.names.lookup y=some .cell∨scope.names.lookup y=some .free:=hy
  rcases hy with hy | hy
  ·exact Uz hy
  ·exact absurd rfl (S.nofree _ (EI hy))
 ·exact VY (x.above y c (EI h))
 ·have hi:i < vs.length:=by
   unfold start at h2
   by_cases hi:i < vs.length
   ·exact hi
   ·rw [BB (by simpa using hi)] at h2
    rw [DL] at h2
    split at h2 <;> cases h2
  have ha:vs[i]?=some v:=by
   unfold start at h2;rw [Ak (by simpa using hi),As] at h2
   cases e:vs[i]? with
   | none=>rw [e] at h2;cases h2
   | some a=>rw [e] at h2;cases h2;rfl
  obtain ⟨u,hu,rv⟩:=r.get ha
  have hp:ps[i]?=some y:=by
   rw [<-S.pre,Tf (by omega)];exact h1
  have ndP:ps.Nodup:=by rw [<-S.pre];exact S.nd.sublist (ZS _ _)
  refine ⟨u,rv,?_⟩
  rcases S.par y (CJ hp) with k | k
  ·exact .inl ⟨k,Ru ndP hp hu k⟩
  ·obtain ⟨c,e⟩:=Uz (n:=s.heap.objs.size+1) k
   refine .inr ⟨.inl k,c,e,?_⟩;have q:=x.cell y c e;rw [Rw ndP hp hu (by show scope.names.lookup y≠_;rw [k];decide)] at q;exact q
 ·exact e0.hok.fresh (VY (x.above y c (EI h)))
 ·unfold start
  show _=N.length;rw [AU,AI,LW];omega
theorem nD {CX:CXT} {P:Ap} {w:BE} {K:AB} {mg:Str->Option AD} {base:Bu} {k:Nat} {f:AM} {name qual:Str} {params:Arguments} {body:List C1} {scope:Ie} {dV kV doc pm cdv ct oc:AD} {an od:Option AM}
  {osl:Array (Option AD)} {N ps:List Str} {sp:Sp} (lk:K.lookup f=some ⟨oc,od,.func (Hr name qual params body scope dV kV doc pm an cdv ct),osl⟩) (hcd:PF K cdv qual=true) (S:Bp N ps scope)
  (len:∀vs H Q E,sp vs H Q E->vs.length=ps.length)
  (hbody:∀(A:BC) (outer:List Env) (s:AE) (H:Hp) (vs:List V) (Q:VK) (E:XK),Hj k (A.deeper (L8 qual scope s.heap.objs.size f cdv))->sp vs H Q E ->
   ∃t,PSs (WX CX P w K mg base N qual scope f cdv A outer s H E) body t/\t { nx:=λ_ H'=>Q .non H',rt:=Q } (start N vs) H) :
  Dq P w K mg base CX (k+1) f (Hr name qual params body scope dV kV doc pm an cdv ct) ps sp:=by
 refine ⟨len,λA outer s H args us vs Q E hr e0 hb r hsp=>?_⟩;have hl:=len _ _ _ _ hsp
 have KX:K.In s.heap:=e0.mod.kin.keeps λb o e=>(e0.bs b o e).1
 have lim:s.heap.NoLimit:=e0.mod.nolimit.keeps λb o e=>(e0.bs b o e).1
 have hkind:∀y∈ps.zip us,scope.names.lookup y.1=some .local∨(scope.names.lookup y.1=some .cell/\((kr (s.heap.objs.size+1) scope.names []).lookup y.1).isSome=true):=λ⟨n,v⟩ hy=>by
  rcases S.par n (Eo hy).1 with q | q
  ·exact .inl q
  ·exact .inr ⟨q,R4 _ _ _ (.inl q)⟩
 refine codeAny_call_function hr.depth (KX _ _ lk) rfl S.co S.gen rfl (PySem.W.codeRec_of KX hcd) (hb _ _ _ _ ?_)
 refine wpAny_newFunctionEnv_cells S.kind hkind λenv he s1 x=>?_
 subst he;refine ⟨lim.keeps x.toInCall.keep,codeAny_func ?_⟩;obtain ⟨t,ht,hq⟩:=hbody A outer s H vs Q E (hr.deeper _) hsp;have I:Inv (WX CX P w K mg base N qual scope f cdv A outer s H E) [] (start N vs) H s1:=Ys S hr.hd e0 hl r x
 refine Dx (ht [] s1 (start N vs) H _ I hq) (λfl s' hs=>?_) λe s' hs=>hs
 have fin:∀ {σ':St} {H':Hp} {v:V} {u:AD},Inv (WX CX P w K mg base N qual scope f cdv A outer s H E) [] σ' H' s'->RelV v u->Q v H'->CE outer P w H s Q u s':=
  λ{σ' H' v u} J rv q=>⟨v,H',J.os,J.bare,J.base,J.hok,rv,q⟩
 cases fl with
 | ret u=>
  obtain ⟨v,σ',H',J,rv,q⟩:=hs;exact fin J rv q
 | next=>
  obtain ⟨σ',H',J,q⟩:=hs;exact fin (v:=V.non) (u:=DK) J rfl q
 | brk=>
  obtain ⟨_,_,_,q⟩:=hs;exact D5 q
 | cont=>
  obtain ⟨_,_,_,q⟩:=hs;exact D5 q
end L2
namespace L2
open PySem PySem.Spec PyProof.Rows
section
variable {X:Cx} {x:Str} {p pos:Pos} {e:Expr} {es:List Expr} {t:TA} {id T:String} {r:List V->Hp->VK->Prop}
def tCB (r:List V->Hp->VK->Prop) (t:TA):TE:=λσ H Q=>t σ H λvs H1=>r vs H1 Q
theorem M2 (hc:Hq X (.builtin id) r) (hg:Gl X x) (hm:X.mg x=none) (hv:Ey x=some (.builtin id)) (ha:PA X (e :: es) t) (hn:x≠"__name__":=by decide) (hdb:(x==("__debug__" : Str))=false:=by decide)
  (he:Ab (e :: es) X.env=(false,CS e X.env) :: Ab es X.env:=by rfl) (hpl:(Dz pos (Ab es X.env)).any (·.1)=false:=by rfl):PE X (.Call (.Name x p) (e :: es) [] pos) (tCB r t):=by
 intro pins s σ H Q I h;refine Gv (LA I hg hm hv ?_ hn hdb);exact nS (thn (ha pos pins s σ H _ I h) λus s1 ⟨vs,H1,I1,r1,q1⟩=>hc pins s1 σ H1 vs us Q I1 r1 q1) he hpl
theorem Nk (hc:Hq X (.type T) r) (hg:Gl X x) (hm:X.mg x=none) (hv:Ey x=some (.type T)) (ha:PA X (e :: es) t) (hn:x≠"__name__":=by decide) (hdb:(x==("__debug__" : Str))=false:=by decide)
  (he:Ab (e :: es) X.env=(false,CS e X.env) :: Ab es X.env:=by rfl) (hpl:(Dz pos (Ab es X.env)).any (·.1)=false:=by rfl):PE X (.Call (.Name x p) (e :: es) [] pos) (tCB r t):=by
 intro pins s σ H Q I h;refine Gv (LA I hg hm hv ?_ hn hdb);exact DD (thn (ha pos pins s σ H _ I h) λus s1 ⟨vs,H1,I1,r1,q1⟩=>hc pins s1 σ H1 vs us Q I1 r1 q1) he hpl
end
end L2
namespace HT
open PySem PyProof.Rows
def lexLt:List Int->List Int->Bool
 | [],[]=>false
 | [],_ :: _=>true
 | _ :: _,[]=>false
 | x :: xs,y :: ys=>if x=y then lexLt xs ys else decide (x < y)
theorem P9 (x y:Int) (xs ys:List Int):lexLt (x :: xs) (y :: ys)=if x=y then lexLt xs ys else decide (x < y):=rfl
theorem Q8:lexLt [] []=false:=rfl
theorem P7 (y:Int) (ys:List Int):lexLt [] (y :: ys)=true:=rfl
theorem P8 (x:Int) (xs:List Int):lexLt (x :: xs) []=false:=rfl
theorem bj (A:BC) (s:AE) (a:Int) (t:Tok) (c:Int) (u:Tok):∃e,SeqAt.EqAt A s (.int a t) (.int c u) e/\(e=true↔a=c):=
 ⟨(a==c),SeqAt.EqAt.int_int a t c u,by simp⟩
theorem aC (A:BC) (s:AE) (a:Int) (t:Tok) (c:Int) (u:Tok) (prog:Ap) (w:BE) (E:AD->AE->Prop) (Q:AD->AE->Prop) (h:Q (.bool (decide (a < c))) s) :
  Ac (AZ prog w) A (cT .Lt (.int a t) (.int c u)) Q E s:=
 (nQ h:Ac (AZ prog w) A (Bk .Lt (.int a t) (.int c u)) Q E s)
section
open PySem.SeqAt
open PySem.AutoSeq1 (wpAny_loadPart')
open PySem.MeetsSeq PySem.MeetsSeq2 PySem.MeetsSeq3
theorem Qs (l b:AM) (items items2:Array AD) (n n2:Nat) (dd dd2:Option AM) (sl sl2:Array (Option AD)) (ns ms:List Int) (hi:Cy items.toList ns) (hj:Cy items2.toList ms) :
  Meets (Builtin.«tuple.__lt__» ⟨[.ref l,.ref b],[]⟩)
   (λ_ R s=>s.heap.get? l=some { cls:=.type "tuple",dict:=dd,data:=.seq items n,slots:=sl }/\s.heap.get? b=some { cls:=.type "tuple",dict:=dd2,data:=.seq items2 n2,slots:=sl2 } /\
    R (.ok (.ret (.bool (lexLt ns ms)))) s):=
 .of_wp λprog w A R s h=>by
  obtain ⟨hp,g,d,tk,os⟩:=s;obtain ⟨hl,hb,h⟩:=h;have f2:=AutoSeq1.sub_tuple_tuple
  have z1:items.size=ns.length:=by rw [<-hi.length];simp
  have z2:items2.size=ms.length:=by rw [<-hj.length];simp
  wp_walk using C7 hl,C7 hb,kl _ (λrest b s'=>b.1=none/\s'=⟨hp,g,d,tk,os⟩/\∃(vs ws:List AD) (ns' ms':List Int),rest=vs.zip ws /\
   Cy vs ns'/\Cy ws ms'/\ns'.length+items2.size=ms'.length+items.size/\R (.ok (.ret (.bool (lexLt ns' ms')))) ⟨hp,g,d,tk,os⟩) _
  case turn=>
   rintro ⟨y,x⟩ rest b s' ⟨hb',rfl,vs,ws,ns',ms',hz,hvi,hwi,hlen,hR⟩
   cases hvi with
   | nil=>rw [ZR] at hz;cases hz
   | cons a t hvi'=>
    cases hwi with
    | nil=>rw [Eh] at hz;cases hz
    | cons c u hwi'=>
     rw [C8] at hz
     injection hz with hyx hrest
     injection hyx with hy hx
     subst hy hx;rw [P9] at hR;simp only [Ao] at hlen;obtain ⟨e,he,hiff⟩:=bj A.in1 ⟨hp,g,d,tk,os⟩ a t c u;refine AA (he prog w _ _ ?_)
     cases e with
     | true=>
      rw [if_pos (hiff.mp rfl)] at hR
      wp_walk
      exact ⟨rfl,rfl,_,_,_,_,hrest,hvi',hwi',by omega,hR⟩
     | false=>
      rw [if_neg (λq=>absurd (hiff.mpr q) AQ)] at hR;have hri:=aC A.in1 ⟨hp,g,d,tk,os⟩ a t c u prog w
      wp_walk using hri
      exact ⟨_,rfl,by simpa using hR⟩
  case fin=>
   rintro ⟨b1,b2⟩ s' ⟨hb',rfl,vs,ws,ns',ms',hz,hvi,hwi,hlen,hR⟩;simp only at hb';subst hb'
   have hv:lexLt ns' ms'=decide (items.size < items2.size):=by
    cases hvi with
    | nil=>
     cases hwi with
     | nil=>
      simp only [Ep] at hlen;rw [Q8];exact (decide_eq_false (by omega)).symm
     | cons c u hw=>
      simp only [Ep,Ao] at hlen;rw [P7];exact (decide_eq_true (by omega)).symm
    | cons a t hv=>
     cases hwi with
     | nil=>
      simp only [Ep,Ao] at hlen;rw [P8];exact (decide_eq_false (by omega)).symm
     | cons c u hw=>
      rw [C8] at hz;cases hz
   rw [hv] at hR
   wp_walk
   exact ⟨_,rfl,by simpa [lI] using hR⟩
  case h=>
   exact ⟨rfl,rfl,items.toList,items2.toList,ns,ms,rfl,hi,hj,by omega,h⟩
end
section
variable {prog:Ap} {w:BE} {A:BC} {E:AD->AE->Prop} {s:AE}
theorem WG {l b:AM} {items items2:Array AD} {ns ms:List Int} {Q:AD->AE->Prop} (hl:Va s.heap l items) (hb:Va s.heap b items2) (hi:Cy items.toList ns) (hj:Cy items2.toList ms)
  (hu:A.units < Dr) (h:Q (.bool (lexLt ns ms)) s):Ac (AZ prog w) A (Bk .Lt (.ref l) (.ref b)) Q E s:=by
 obtain ⟨⟨cls,dd,data,sl⟩,ho,hc,n,hd⟩:=id hl;obtain ⟨⟨cls2,dd2,data2,sl2⟩,ho2,hc2,n2,hd2⟩:=id hb;simp only at hc hd hc2 hd2;subst hc hd hc2 hd2
 exact richCompare_meets_room (op:=.Lt) ⟨_,ho,rfl⟩ ⟨_,ho2,rfl⟩ PySem.F.slot_tuple_lt PySem.F.entry_tuple_lt (PySem.F.args_tuple_lt_2 _ _) (Qs l b items items2 n n2 dd dd2 sl sl2 ns ms hi hj)
  ⟨ho,ho2,show Ka (lexLt ns ms)≠AD.notImplemented/\Q (.bool (lexLt ns ms)) s from ⟨(λx=>nomatch x),h⟩⟩ hu
theorem fW {t b:AM} {vs ws:List AD} {Q:AD->AE->Prop} (ht:Va s.heap t vs.toArray) (hb:Va s.heap b ws.toArray) (hv:vs≠[])
  (h1:ws=[]->Q (.ref t) s) (h2:ws≠[]->Q (.ref s.heap.objs.size) { s with heap:=s.heap.push { cls:=.type "tuple",data:=.seq (vs++ws).toArray } })
  (hsz:vs.length+ws.length<=sizeLine):Ac (AZ prog w) A (Cr .Add (.ref t) (.ref b)) Q E s:=by
 obtain ⟨⟨cls,dd,data,sl⟩,ho,hc,n,hd⟩:=id ht;obtain ⟨⟨cls2,dd2,data2,sl2⟩,ho2,hc2,n2,hd2⟩:=id hb;simp only at hc hd hc2 hd2;subst hc hd hc2 hd2
 have e:vs.toArray++ws.toArray=(vs++ws).toArray:=by simp
 by_cases hw:ws=[]
 ·exact ZQ ⟨_,ho,rfl⟩ ⟨_,ho2,rfl⟩ R3 X3 Jl JP (Iy _ _)
   (tuple_addW1 t b vs.toArray ws.toArray n n2 dd dd2 sl sl2 (by simpa using hv) (by simp [hw])) ⟨ho,ho2,h1 hw⟩
 ·refine ZQ ⟨_,ho,rfl⟩ ⟨_,ho2,rfl⟩ R3 X3 Jl JP (Iy _ _)
   (tuple_addW2 t b vs.toArray ws.toArray n n2 dd dd2 sl sl2 (by simpa using hv) (by simpa using hw) (by rw [Ad,Ad];exact hsz)) ⟨ho,ho2,?_⟩
  rw [e];exact h2 hw
def sIx (n d:Nat):Option Int->Nat
 | none=>d
 | some v=>if v < 0 then (v+(n:Int)).toNat else min v.toNat n
theorem Z7 (n d:Nat):sIx n d none=d:=rfl
theorem dY (n d k:Nat):sIx n d (some (k:Int))=min k n:=by
 show (if (k:Int) < 0 then ((k:Int)+(n:Int)).toNat else min (k:Int).toNat n)=min k n;rw [if_neg (by omega),CD]
theorem ik (n d:Nat) (hd:d<=n) (o:Option Int):sIx n d o<=n:=by
 cases o with
 | none=>exact hd
 | some v=>
  show (if v < 0 then (v+(n:Int)).toNat else min v.toNat n)<=n
  by_cases hv:v < 0
  ·rw [if_pos hv];omega
  ·rw [if_neg hv];exact cW _ _
theorem Xt (v:Int) (n d:Nat):(if v < 0 then max (v+(n:Int)) 0 else min v (n:Int))=((sIx n d (some v):Nat):Int):=by
 show (if v < 0 then max (v+(n:Int)) 0 else min v (n:Int))=(((if v < 0 then (v+(n:Int)).toNat else min v.toNat n):Nat):Int)
 by_cases hv:v < 0
 ·simp only [if_pos hv];omega
 ·simp only [if_neg hv];omega
theorem Wh (lo hi:Option Int) (n:Nat):HZ lo hi 1 (n:Int)=(((sIx n 0 lo:Nat):Int),((sIx n n hi:Nat):Int)):=by
 have h1:¬((1:Int) < 0):=by omega
 unfold HZ;simp only [h1,if_false];refine RH ?_ ?_
 ·cases lo with
  | none=>rfl
  | some v=>exact Xt v n 0
 ·cases hi with
  | none=>rfl
  | some v=>exact Xt v n n
theorem V4 (i j:Nat):Er (i:Int) (j:Int) 1=j - i:=by
 unfold Er
 have h1:(1:Int) > 0:=by omega
 simp only [h1,if_true,Int.ediv_one]
 split <;> omega
theorem Pm {v:AD} {o:Option Int} {Q:Option Int->AE->Prop} (p:NT v o) (h:Q o s):Ac (AZ prog w) A (lJ v) Q E s:=by
 cases p with
 | none=>exact slicePart_none h
 | int i t=>exact slicePart_int h
theorem JW {sl:AM} {vl vu:AD} {lo hi:Option Int} {n:Nat} {Q:Int×Int×Nat->AE->Prop} (hs:s.heap.IsSliceOf sl vl vu .none) (pl:NT vl lo) (pu:NT vu hi)
  (h:Q (((sIx n 0 lo:Nat):Int),1,sIx n n hi - sIx n 0 lo) s):Ac (AZ prog w) A (Mn (.ref sl) (pure (n:Int))) Q E s:=by
 obtain ⟨os,hos,hcs,hds⟩:=id hs;unfold Mn lK;refine AA (AA (Fi hos hds (x:=vl) rfl (AA (Fi hos hds (x:=vu) rfl (AA (Fi hos hds (x:=.none) rfl (AL ?_)))))));refine AA (slicePart_none ?_);show Ac _ _ (if ((1:Int)==0)=true then _ else _) _ _ s;rw [if_neg (by decide)];refine AA (Pm pl (AA (Pm pu (AA (AL ?_)))));show Ac _ _ (match HZ lo hi 1 (n:Int) with | (lo,hi)=>pure (lo,(1:Int),Er lo hi 1)) _ _ s;rw [Wh lo hi n];show Ac _ _ (pure (((sIx n 0 lo:Nat):Int),(1:Int),Er ((sIx n 0 lo:Nat):Int) ((sIx n n hi:Nat):Int) 1)) _ _ s;rw [V4];exact AL h
theorem aM (xs:Array AD) (i k:Nat):((Cw k).filterMap λ(m:Nat)=>xs[((i:Int)+(m:Int) * 1).toNat]?).toArray=((xs.toList.drop i).take k).toArray:=by
 have e:(λ(m:Nat)=>xs[((i:Int)+(m:Int) * 1).toNat]?)=λm=>xs[i+m]?:=by
  funext m
  have:((i:Int)+(m:Int) * 1).toNat=i+m:=by omega
  rw [this]
 rw [e];have:=pick_run xs i k;rw [List.filterMap_map] at this
 have e2:((λx=>xs[x]?)∘λx=>i+x)=λm=>xs[i+m]?:=rfl
 rw [e2] at this;rw [this]
theorem NF {t sl:AM} {items:Array AD} {vl vu:AD} {lo hi:Option Int} {Q:AD->AE->Prop} (ht:Va s.heap t items) (hs:s.heap.IsSliceOf sl vl vu .none) (pl:NT vl lo) (pu:NT vu hi)
  (hw:¬(sIx items.size 0 lo=0/\sIx items.size items.size hi=items.size))
  (h:Q (.ref s.heap.objs.size) { s with heap:=s.heap.push { cls:=.type "tuple",data:=.seq ((items.toList.drop (sIx items.size 0 lo)).take (sIx items.size items.size hi - sIx items.size 0 lo)).toArray } })
  (hsz:items.size<=sizeLine):Ac (AZ prog w) A (Ki (.ref t) (.ref sl)) Q E s:=by
 have htake:sizeOk (.seq ((items.toList.drop (sIx items.size 0 lo)).take (sIx items.size items.size hi - sIx items.size 0 lo)).toArray):=by
  show ((items.toList.drop (sIx items.size 0 lo)).take (sIx items.size items.size hi - sIx items.size 0 lo)).toArray.size<=sizeLine;rw [Ad,C9,EK,Bq];omega
 have hj:sIx items.size items.size hi<=items.size:=ik _ _ (AT _) hi;obtain ⟨os,hos,hcs,hds⟩:=id hs;have hTs:s.TypeIs (.ref sl) "slice":=⟨os,hos,hcs⟩;unfold Ki
 try with_reducible refine EQ ?_
 first | refine AA (AL ?_) | skip
 refine AA (kO ht.typeIs (by decide) ?_)
 refine AA (CK (name:=FW "__getitem__") ht.typeIs CB
  (CQ CB ht.typeIs fx ?_ (gn _ _)))
 show Ac _ _ (Mm (.ref t) >>= _) _ _ s;refine AA (tupleItemsOf_ ht ?_);refine AA (Qe hTs ?_);rw [if_pos (by decide)];refine AA (JW hs pl pu ?_)
 have hno:¬((((sIx items.size 0 lo:Nat):Int)==0&&(1:Int)==1&&(sIx items.size items.size hi - sIx items.size 0 lo)==items.size)=true):=by
  intro q;rw [EL,EL] at q;have q1:((sIx items.size 0 lo:Nat):Int)=0:=eq_of_beq q.1.1;have q2:sIx items.size items.size hi - sIx items.size 0 lo=items.size:=eq_of_beq q.2;exact hw ⟨by omega,by omega⟩
 show Ac _ _ (if (((sIx items.size 0 lo:Nat):Int)==0&&(1:Int)==1&&(sIx items.size items.size hi - sIx items.size 0 lo)==items.size)=true then _ else _) _ _ s;rw [if_neg hno,aM]
 first
  | exact AA (m:=E0 _) (CG (AL ⟨_,rfl,AL h⟩) htake)
  | exact AA (m:=E0 _) (CG (AA (AL (AL ⟨_,rfl,AL h⟩))) htake)
  | exact AA (AA (m:=E0 _) (CG (AL (AL ⟨_,rfl,AL h⟩)) htake))
  | exact AA (AA (m:=E0 _) (CG (AL ⟨_,rfl,AL h⟩) htake))
end
end HT
namespace L2
open PySem PySem.Spec PyProof.Rows
abbrev TO:=St->Hp->(Option Int->Hp->Prop)->Prop
def PO (X:Cx) (e:Option Expr) (t:TO):Prop:=
 ∀(pins:List (AM×Obj)) (s:AE) (σ:St) (H:Hp) (Q:Option Int->Hp->Prop),Inv X pins σ H s->t σ H Q ->
  Ac (AZ X.prog X.w) X.A (evalPart e X.env) (λu s'=>∃o H',Inv X pins σ H' s'/\NT u o/\Q o H') X.xe s
def dJ:TO:=λ_ H Q=>Q none H
def lQ (t:TE):TO:=λσ H Q=>t σ H λx H1=>∃i,x=.int i/\Q (some i) H1
theorem intsAre_of {ns:List Int}:∀ {us:List AD},Bs (ns.map V.int) us->Cy us ns:=by
 induction ns with
 | nil=>intro us r;rw [Kk] at r;cases r;exact .nil
 | cons n ns ih=>
  intro us r;rw [A1] at r
  cases r with
  | cons r1 r2=>
   obtain ⟨t,e⟩:=r1;subst e;exact .cons n t (ih r2)
section
variable {κ:Type} [DecidableEq κ]
def Ks (kvs:List (κ×V)) (k:κ):Option V:=(kvs.find? λkv=>decide (kv.1=k)).map (·.2)
def Kb (kvs:List (κ×V)) (k:κ) (v:V):List (κ×V):=
 if (kvs.any λkv=>decide (kv.1=k))=true then kvs.map (λkv=>if kv.1=k then (kv.1,v) else kv) else kvs++[(k,v)]
theorem Pd {p:κ×V} {r:List (κ×V)} {k:κ} (e:p.1=k):Ks (p :: r) k=some p.2:=by simp [Ks,B6,e]
theorem Pe {p:κ×V} {r:List (κ×V)} {k:κ} (e:¬p.1=k):Ks (p :: r) k=Ks r k:=by simp [Ks,B6,e]
theorem T4 (k:κ):∀kvs:List (κ×V),(kvs.any λkv=>decide (kv.1=k))=(Ks kvs k).isSome
 | []=>rfl
 | p :: r=>by
  rw [HY]
  by_cases e:p.1=k
  ·simp only [Pd e,decide_eq_true e,Bool.true_or,Option.isSome_some]
  ·rw [Pe e,decide_eq_false e,gy];exact T4 k r
theorem OK (kvs:List (κ×V)) (k:κ) (v:V):(Kb kvs k v).length<=kvs.length+1:=by
 unfold Kb;split
 ·rw [AI];omega
 ·rw [AU,Ao,Ep];omega
theorem N8.isSome_eq {o:Option V} {u:Option AD} (r:N8 o u):o.isSome=u.isSome:=by
 cases o with
 | none=>cases u with
  | none=>rfl
  | some _=>exact (show False from r).elim
 | some _=>cases u with
  | none=>exact (show False from r).elim
  | some _=>rfl
theorem KV.val {kvs:List (κ×V)} {vs:List (κ×AD)} (r:KV kvs vs) (k:κ):N8 (Ks kvs k) (Qi vs k):=by
 unfold KV at r
 induction r with
 | nil=>exact Eg
 | @cons p q ps qs h t ih=>
  obtain ⟨h1,h2⟩:=h
  by_cases e:p.1=k
  ·have e':q.1=k:=h1.symm.trans e
   have b:Qi (q :: qs) k=some q.2:=by simp [Qi,B6,e']
   rw [Pd e,b];exact h2
  ·have e':¬q.1=k:=λz=>e (h1.trans z)
   have b:Qi (q :: qs) k=Qi qs k:=by simp [Qi,B6,e']
   rw [Pe e,b];exact ih
theorem KV.any {kvs:List (κ×V)} {vs:List (κ×AD)} (r:KV kvs vs) (k:κ):(kvs.any λkv=>decide (kv.1=k))=vs.any λkv=>decide (kv.1=k):=by
 unfold KV at r
 induction r with
 | nil=>rfl
 | cons h t ih=>rw [HY,HY,ih,h.1]
theorem KV.repl {kvs:List (κ×V)} {vs:List (κ×AD)} (r:KV kvs vs) (k:κ) {y:V} {u:AD} (ry:RelV y u) :
  KV (kvs.map λkv=>if kv.1=k then (kv.1,y) else kv) (vs.map λkv=>if kv.1=k then (kv.1,u) else kv):=by
 unfold KV at r ⊢
 induction r with
 | nil=>exact .nil
 | @cons p q ps qs h t ih=>
  rw [A1,A1];refine .cons ?_ ih;obtain ⟨h1,h2⟩:=h
  by_cases e:p.1=k
  ·rw [if_pos e,if_pos (h1.symm.trans e)];exact ⟨h1,ry⟩
  ·rw [if_neg e,if_neg (λz=>e (h1.trans z))];exact ⟨h1,h2⟩
theorem KV.put {kvs:List (κ×V)} {vs:List (κ×AD)} (r:KV kvs vs) (k:κ) {y:V} {u:AD} (ry:RelV y u):KV (Kb kvs k y) (stored vs k u):=by
 unfold Kb stored;rw [r.any k]
 by_cases e:(vs.any λkv=>decide (kv.1=k))=true
 ·rw [if_pos e,if_pos e];exact r.repl k ry
 ·rw [if_neg e,if_neg e];exact U9 r ⟨rfl,ry⟩
theorem KV.length {kvs:List (κ×V)} {vs:List (κ×AD)} (r:KV kvs vs):kvs.length=vs.length:=El r
end
theorem Ui {P:Ap} {w:BE} {k:Key} {u:AD} (r:RelV (kV k) u):(EX P w).is k u=true:=by
 cases k with
 | inl i=>obtain ⟨t,e⟩:=(show ∃t,u=OP i t from r);subst e;exact Ub P w i t
 | inr x=>obtain ⟨t,e⟩:=(show ∃t,u=OO x t from r);subst e;exact Ua P w x t
theorem Rj {P:Ap} {w:BE}:∀ {ks:List Key} {us:List AD},Bs (ks.map kV) us->ItemsAre (EX P w) ks us
 | [],_,r=>by rw [Kk] at r;cases r;exact .nil
 | k :: ks,_,r=>by
  rw [A1] at r
  cases r with
  | cons h t=>exact .cons (Ui h) (Rj t)
abbrev KT (H:Hp):List (List Key×V)->List (List Key×AM×AD)->Prop:=HX λp q=>p.1=q.1/\H q.2.1=some (.tup (p.1.map kV))/\RelV p.2 q.2.2
theorem KT.val {H:Hp} {kvs:List (List Key×V)} {xs:List (List Key×AM×AD)} (r:KT H kvs xs) (k:List Key):N8 (Ks kvs k) ((VR xs k).map (·.2)):=by
 induction r with
 | nil=>exact Eg
 | @cons p q ps qs h t ih=>
  obtain ⟨h1,_,h2⟩:=h
  by_cases e:p.1=k
  ·have e':q.1=k:=h1.symm.trans e
   have b:VR (q :: qs) k=some q.2:=by simp [VR,B6,e']
   rw [Pd e,b];exact h2
  ·have e':¬q.1=k:=λz=>e (h1.trans z)
   have b:VR (q :: qs) k=VR qs k:=by simp [VR,B6,e']
   rw [Pe e,b];exact ih
theorem KT.repl {H:Hp} {kvs:List (List Key×V)} {xs:List (List Key×AM×AD)} (r:KT H kvs xs) (k:List Key) {y:V} {u:AD} (ry:RelV y u) :
  KT H (kvs.map λkv=>if kv.1=k then (kv.1,y) else kv) (xs.map (putAt k u)):=by
 induction r with
 | nil=>exact .nil
 | @cons p q ps qs h t ih=>
  rw [A1,A1];refine .cons ?_ ih;obtain ⟨h1,h2,h3⟩:=h;unfold putAt
  by_cases e:p.1=k
  ·rw [if_pos e,if_pos (h1.symm.trans e)];exact ⟨h1,h2,ry⟩
  ·rw [if_neg e,if_neg (λz=>e (h1.trans z))];exact ⟨h1,h2,h3⟩
theorem KT.put {H:Hp} {kvs:List (List Key×V)} {xs:List (List Key×AM×AD)} (r:KT H kvs xs) (k:List Key) {b:AM} {y:V} {u:AD} (hb:H b=some (.tup (k.map kV))) (ry:RelV y u) :
  KT H (Kb kvs k y) (storedH xs k b u):=by
 have e:(kvs.any λkv=>decide (kv.1=k))=(VR xs k).isSome:=by
  rw [T4,(r.val k).isSome_eq,Gm]
 unfold Kb storedH;rw [e]
 by_cases q:(VR xs k).isSome=true
 ·rw [if_pos q,if_pos q];exact r.repl k ry
 ·rw [if_neg q,if_neg q];exact U9 r ⟨rfl,hb,ry⟩
theorem KT.keeps {H H':Hp} {kvs:List (List Key×V)} {xs:List (List Key×AM×AD)} (r:KT H kvs xs) (ht:∀b ys,H b=some (.tup ys)->H' b=some (.tup ys)):KT H' kvs xs:=
 HX.mapP r λ_ _ z=>⟨z.1,ht _ _ z.2.1,z.2.2⟩
variable {X:Cx} {e:Expr} {te:TE} {lo hi:Option Expr} {tl th:TO} {pos p2:Pos}
theorem du:PO X none dJ:=by
 intro pins s σ H Q I h;rw [evalPart_none];exact AL ⟨none,H,I,.none,h⟩
theorem dr (h:PE X e te):PO X (some e) (lQ te):=by
 intro pins s σ H Q I hw;rw [evalPart_some]
 refine thn (h pins s σ H _ I hw) λu s1 ⟨x,H1,I1,r1,q1⟩=>?_
 obtain ⟨i,rfl,q⟩:=q1;obtain ⟨t,rfl⟩:=r1;exact ⟨some i,H1,I1,.int i t,q⟩
def SlR (X:Cx) (r:V->Option Int->Option Int->Hp->VK->Prop):Prop:=
 ∀(pins:List (AM×Obj)) (s:AE) (σ:St) (H:Hp) (x:V) (v vl vu:AD) (lo hi:Option Int) (sl:AM) (Q:VK),Inv X pins σ H s->RelV x v->s.heap.IsSliceOf sl vl vu .none->NT vl lo->NT vu hi->r x lo hi H Q ->
  ∃T id,gi (.type T) "__getitem__" = pure (some (.builtin id))/\s.TypeIs v T/\Ac (AZ X.prog X.w) X.A (Ki v (.ref sl)) (EP X pins σ Q) X.xe s
theorem SlR.or {r r':V->Option Int->Option Int->Hp->VK->Prop} (h:SlR X r) (h':SlR X r'):SlR X (λx lo hi H Q=>r x lo hi H Q∨r' x lo hi H Q):=by
 intro pins s σ H x v vl vu lo hi sl Q I rx hs pl pu q
 rcases q with q | q
 ·exact h pins s σ H x v vl vu lo hi sl Q I rx hs pl pu q
 ·exact h' pins s σ H x v vl vu lo hi sl Q I rx hs pl pu q
def tSl (r:V->Option Int->Option Int->Hp->VK->Prop) (te:TE) (tl th:TO):TE:=λσ H Q=>te σ H λx H1=>tl σ H1 λl H2=>th σ H2 λu H3=>r x l u H3 Q
theorem UT {r:V->Option Int->Option Int->Hp->VK->Prop} (hr:SlR X r) (he:PE X e te) (hl:PO X lo tl) (hu:PO X hi th):PE X (.Subscript e (.Slice lo hi none p2) pos) (tSl r te tl th):=by
 intro pins s σ H Q I h;refine gq (thn (he pins s σ H _ I h) λv s1 ⟨x,H1,I1,r1,q1⟩=>?_);refine wpAny_Slice (thn (hl pins s1 σ H1 _ I1 q1) λvl s2 ⟨l,H2,I2,pl,q2⟩=>thn (hu pins s2 σ H2 _ I2 q2) λvu s3 ⟨u,H3,I3,pu,q3⟩=>?_);rw [evalPart_none];refine AL ?_
 have I4:Inv X pins σ H3 { s3 with heap:=s3.heap.push { cls:=.type "slice",data:=.fields #[vl,vu,.none] } }:=I3.kept (t':=s3.toks) λb ob q=>AJ _ q
 obtain ⟨T,id,hT,ht,hg⟩:=hr pins { s3 with heap:=s3.heap.push { cls:=.type "slice",data:=.fields #[vl,vu,.none] } } σ H3 x v vl vu l u s3.heap.objs.size Q I4 r1 (kh ..) pl pu q3;show Ac (AZ X.prog X.w) X.A (X2 e (.Slice lo hi none p2) v (.ref s3.heap.objs.size)) (EP X pins σ Q) X.xe { s3 with heap:=s3.heap.push { cls:=.type "slice",data:=.fields #[vl,vu,.none] } };exact tail_any (ops:=[.ref s3.heap.objs.size,v]) ht hT hg (by with_unfolding_all rfl)
def Oh (xs:List V) (lo hi:Option Int):List V:=(xs.drop (HT.sIx xs.length 0 lo)).take (HT.sIx xs.length xs.length hi - HT.sIx xs.length 0 lo)
theorem ON (xs:List V) (lo hi:Option Int):(Oh xs lo hi).length<=xs.length:=by
 unfold Oh;rw [C9,EK];omega
def rSlT (K:AB):V->Option Int->Option Int->Hp->VK->Prop:=λx lo hi H Q=>∃a xs,x=.ref a/\SqT K H a xs /\
 ¬(HT.sIx xs.length 0 lo=0/\HT.sIx xs.length xs.length hi=xs.length)/\∀p,H p=none->Q (.ref p) (upd H p (.tup (Oh xs lo hi)))
theorem Z4:SlR X (rSlT X.K):=by
 intro pins s σ H x v vl vu lo hi sl Q I rx hs pl pu h;obtain ⟨a,xs,rfl,hx,hw,q⟩:=h;cases rx;obtain ⟨its,r,ht,hz⟩:=I.tuple hx
 have hlen:its.toArray.size=xs.length:=by rw [Ad];exact r.length.symm
 refine ⟨"tuple",_,CB.lookup,ht.typeIs,?_⟩;refine HT.NF ht hs pl pu (by rw [hlen];exact hw) ?_ (by rw [hlen];exact hz);rw [hlen];refine ⟨.ref s.heap.objs.size,_,I.laid (t':=s.toks) (o:=.tup (Oh xs lo hi)) (λb ob q=>AJ _ q) (AT _) ?_,rfl,q _ (I.hok.fresh (AT _))⟩;exact ⟨Am (ON xs lo hi) hz,_,(r.drop (HT.sIx xs.length 0 lo)).take (HT.sIx xs.length xs.length hi - HT.sIx xs.length 0 lo),ZW _ _⟩
def lm (K:AB):R2:=λx y H Q=>∃a b xs ys,x=.ref a/\y=.ref b/\SqT K H a xs/\SqT K H b ys/\xs≠[]/\xs.length+ys.length<=sizeLine /\
 (ys=[]->Q (.ref a) H)/\(ys≠[]->∀p,H p=none->Q (.ref p) (upd H p (.tup (xs++ys))))
theorem Bs.nil_iff {xs:List V} {us:List AD} (r:Bs xs us):us=[]↔xs=[]:=by
 cases r with
 | nil=>simp
 | cons _ _=>simp
theorem eK:OpR X (Cr .Add) (lm X.K):=by
 intro pins s σ H x y v u Q I rx ry h;obtain ⟨a,b,xs,ys,rfl,rfl,ha,hb,hx,hz,q1,q2⟩:=h;cases rx;cases ry;obtain ⟨its,r1,p1,_⟩:=I.tuple ha;obtain ⟨its2,r2,p2,_⟩:=I.tuple hb;refine HT.fW p1 p2 (λz=>hx (r1.nil_iff.mp z)) (λz=>⟨.ref a,H,I,rfl,q1 (r2.nil_iff.mp z)⟩) (λz=>?_) (by rw [<-r1.length,<-r2.length];exact hz);refine ⟨.ref s.heap.objs.size,_,I.laid (t':=s.toks) (o:=.tup (xs++ys)) (λb ob q=>AJ _ q) (AT _) ?_,rfl,q2 (λw=>z (r2.nil_iff.mpr w)) _ (I.hok.fresh (AT _))⟩;exact ⟨by rw [AU];exact hz,_,r1.append r2,ZW _ _⟩
end L2
namespace L2
open PySem PySem.Spec PyProof.Rows
def ixN (n:Nat) (i:Int):Option Nat:=if 0<=i then (if i < n then some i.toNat else none) else if -(n:Int)<=i then some (i+n).toNat else none
def atI {α:Type} (xs:List α) (i:Int):Option α:=(ixN xs.length i).bind λj=>xs[j]?
theorem eh {n:Nat} {i:Int} {j:Nat} (h:ixN n i=some j):seqIndex? i n=some j/\j < n/\-(n:Int)<=i/\i < n:=by
 unfold ixN at h
 by_cases h0:0<=i
 ·rw [if_pos h0] at h
  by_cases h1:i < n
  ·rw [if_pos h1] at h
   have e:i.toNat=j:=Ck h;exact ⟨by rw [seqIndex_of h0 h1,e],by omega,by omega,h1⟩
  ·rw [if_neg h1] at h;cases h
 ·rw [if_neg h0] at h
  by_cases h1:-(n:Int)<=i
  ·rw [if_pos h1] at h
   have e:(i+n).toNat=j:=Ck h;exact ⟨by rw [seqIndex_neg (by omega) h1,e],by omega,h1,by omega⟩
  ·rw [if_neg h1] at h;cases h
theorem Xx {α:Type} {xs:List α} {i:Int} {v:α} (h:atI xs i=some v):∃j,seqIndex? i xs.length=some j/\xs[j]?=some v/\j < xs.length/\-(xs.length:Int)<=i/\i < xs.length:=by
 unfold atI at h
 cases e:ixN xs.length i with
 | none=>rw [e] at h;cases h
 | some j=>
  rw [e] at h;obtain ⟨h1,h2,h3,h4⟩:=eh e;exact ⟨j,h1,h,h2,h3,h4⟩
def TZ (b:Expr):Prop:=∀o i,Td b false o i=operate [o,i] (Ki o i)
def IxR (X:Cx) (r:R2):Prop:=
 ∀(value slice:Expr) (pins:List (AM×Obj)) (s:AE) (σ:St) (H:Hp) (x y:V) (v u:AD) (Q:VK),Inv X pins σ H s->RelV x v->RelV y u->r x y H Q ->
  Td slice false v u=operate [v,u] (Ki v u)->Ac (AZ X.prog X.w) X.A (X2 value slice v u) (EP X pins σ Q) X.xe s
def MtR (X:Cx) (id:String) (r:V->List V->Hp->VK->Prop):Prop:=
 ∀(pins:List (AM×Obj)) (s:AE) (σ:St) (H:Hp) (x:V) (xs:List V) (v:AD) (us:List AD) (Q:VK),Inv X pins σ H s->RelV x v->Bs xs us->r x xs H Q ->
  Ac (AZ X.prog X.w) X.A (call (.builtin id) (v :: us)) (EP X pins σ Q) X.xe s
section
variable {P:Ap} {w:BE} {H:Hp} {h:Bu} {a:AM}
theorem gM {u:HO} (ok:HOk P w H h) (e:Rd H a u):DP P w H h a u:=e.ok ok
theorem Ut {kvs:List (Key×V)} (ok:HOk P w H h) (e:Rd H a (.dK kvs)):kvs.length<=sizeLine/\(a==Dy)=false/\∃vs,KV kvs vs/\h.DictOf (EX P w) a vs:=
 show DP P w H h a (.dK kvs) from gM ok e
theorem nF {kvs:List (Key×V)} (ok:HOk P w H h) (e:H a=some (.dK kvs)):kvs.length<=sizeLine/\(a==Dy)=false/\∃vs,KV kvs vs/\h.DictOf (EX P w) a vs:=Ut ok (.inl e)
theorem QD {ks:List Key} (ok:HOk P w H h) (e:H a=some (.tup (ks.map kV))):(Rz (EX P w)).is h ks a:=by
 obtain ⟨_,its,r,o,h1,h2,n,h3⟩:=(show DP P w H h a (.tup (ks.map kV)) from ok a _ e);exact ⟨o,its.toArray,n,h1,h2,h3,by simpa using Rj r⟩
theorem Us {kvs:List (List Key×V)} (ok:HOk P w H h) (e:Rd H a (.dT kvs)):kvs.length<=sizeLine/\(a==Dy)=false /\
  ∃xs,KT H kvs xs/\h.DictOfH (Rz (EX P w)) a xs:=by
 obtain ⟨z,y,xs,r,o,es,ep,h1,h2,h3,h4,h5⟩:=(show DP P w H h a (.dT kvs) from gM ok e);refine ⟨z,y,xs,r,o,es,ep,h1,h2,h3,h4,λx hx=>?_,h5⟩
 have all:∀ {l:List (List Key×V)} {m:List (List Key×AM×AD)},KT H l m->∀x∈m,(Rz (EX P w)).is h x.1 x.2.1:=by
  intro l m q
  induction q with
  | nil=>intro x hx;exact nomatch hx
  | @cons p q ps qs hq t ih=>
   intro x hx
   rcases A2.mp hx with e | hx
   ·subst e
    exact QD ok (by rw [<-hq.1];exact hq.2.1)
   ·exact ih x hx
 exact all r x hx
theorem nE {kvs:List (List Key×V)} (ok:HOk P w H h) (e:H a=some (.dT kvs)):kvs.length<=sizeLine/\(a==Dy)=false /\
  ∃xs,KT H kvs xs/\h.DictOfH (Rz (EX P w)) a xs:=Us ok (.inl e)
end
def NK (H:Hp) (a:AM) (y:V) (r:Option V):Prop:=
 (∃kvs k,Rd H a (.dK kvs)/\y=kV k/\r=Ks kvs k)∨∃kvs k b,Rd H a (.dT kvs)/\y=.ref b/\H b=some (.tup (k.map kV))/\r=Ks kvs k
def U7 (H:Hp) (a:AM) (y v:V) (H':Hp):Prop:=
 (∃kvs k,H a=some (.dK kvs)/\y=kV k/\kvs.length < sizeLine/\H'=upd H a (.dK (Kb kvs k v))) ∨
 ∃kvs k b,H a=some (.dT kvs)/\y=.ref b/\H b=some (.tup (k.map kV))/\kvs.length < sizeLine/\H'=upd H a (.dT (Kb kvs k v))
theorem NK.k {H:Hp} {a:AM} {kvs:List (Key×V)} {k:Key} (e:H a=some (.dK kvs)):NK H a (kV k) (Ks kvs k):=.inl ⟨kvs,k,.inl e,rfl,rfl⟩
theorem NK.t {H:Hp} {a b:AM} {kvs:List (List Key×V)} {k:List Key} (e:H a=some (.dT kvs)) (eb:H b=some (.tup (k.map kV))):NK H a (.ref b) (Ks kvs k):=.inr ⟨kvs,k,b,.inl e,rfl,eb,rfl⟩
theorem U7.k {H:Hp} {a:AM} {kvs:List (Key×V)} {k:Key} {v:V} (e:H a=some (.dK kvs)) (hl:kvs.length < sizeLine):U7 H a (kV k) v (upd H a (.dK (Kb kvs k v))):=.inl ⟨kvs,k,e,rfl,hl,rfl⟩
theorem U7.t {H:Hp} {a b:AM} {kvs:List (List Key×V)} {k:List Key} {v:V} (e:H a=some (.dT kvs)) (eb:H b=some (.tup (k.map kV))) (hl:kvs.length < sizeLine) :
  U7 H a (.ref b) v (upd H a (.dT (Kb kvs k v))):=.inr ⟨kvs,k,b,e,rfl,eb,hl,rfl⟩
variable {X:Cx} {a b:Expr} {ta tb:TE} {pos:Pos}
theorem IxR.or {r r':R2} (h:IxR X r) (h':IxR X r'):IxR X (λx y H Q=>r x y H Q∨r' x y H Q):=by
 intro value slice pins s σ H x y v u Q I rx ry q hs
 rcases q with q | q
 ·exact h value slice pins s σ H x y v u Q I rx ry q hs
 ·exact h' value slice pins s σ H x y v u Q I rx ry q hs
theorem ly {r:R2} (hr:IxR X r) (ha:PE X a ta) (hb:PE X b tb) (hs:TZ b):PE X (.Subscript a b pos) (tOp r ta tb):=by
 intro pins s σ H Q I h;exact gq (kF ha hb I h λv u s2 x y H2 I2 rx ry q=>hr a b pins s2 σ H2 x y v u Q I2 rx ry q (hs _ _))
def rIxL (K:AB):R2:=λx y H Q=>∃p xs i v,x=.ref p/\y=.int i/\SqL K H p xs/\atI xs i=some v/\Q v H
def rIxT (K:AB):R2:=λx y H Q=>∃p xs i v,x=.ref p/\y=.int i/\SqT K H p xs/\atI xs i=some v/\Q v H
theorem ix_list:IxR X (rIxL X.K):=by
 intro value slice pins s σ H x y v u Q I rx ry h hs;obtain ⟨p,xs,i,z,rfl,rfl,hq,he,q⟩:=h;cases rx;obtain ⟨t,rfl⟩:=ry;obtain ⟨its,r,pl,hz⟩:=I.list hq;obtain ⟨j,h1,h2,h3,h4,h5⟩:=Xx he;obtain ⟨w,ew,rw'⟩:=r.get h2;have hl:=r.length;have hn:=Sr;have fin:EP X pins σ Q w s:=⟨z,H,I,rw',q⟩
 by_cases h0:0<=i
 ·have hj:i.toNat=j:=by
   rw [seqIndex_of h0 h5] at h1;exact Ck h1
  exact item_listR pl.isList h0 (by omega) (by rw [hj];simpa using ew) fin hs
 ·have hj:(i+(its.toArray.size:Int)).toNat=j:=by
   rw [seqIndex_neg (by omega) h4] at h1;rw [Ad,<-hl];exact Ck h1
  exact ZN (x:=w) pl.isList.typeIs kU.lookup
   (wpAny_getItem_list_neg (Q:=λr s'=>r=w/\EP X pins σ Q r s') pl.isList (by omega) (by rw [Ad] <;> omega) (by omega) (by rw [hj];simpa using ew) ⟨rfl,fin⟩) hs
theorem ji:IxR X (rIxT X.K):=by
 intro value slice pins s σ H x y v u Q I rx ry h hs;obtain ⟨p,xs,i,z,rfl,rfl,hq,he,q⟩:=h;cases rx;obtain ⟨t,rfl⟩:=ry;obtain ⟨its,r,pl,hz⟩:=I.tuple hq;obtain ⟨j,h1,h2,h3,h4,h5⟩:=Xx he;obtain ⟨w,ew,rw'⟩:=r.get h2;have hl:=r.length;have hn:=Sr;have fin:EP X pins σ Q w s:=⟨z,H,I,rw',q⟩
 exact ZN (x:=w) pl.typeIs slot_tuple_getitem.lookup
  (getItem_tuple (j:=j) (Q:=λr s'=>r=w/\EP X pins σ Q r s') pl (by omega) (by omega) (by rw [Ad,<-hl];exact h1) (by simpa using ew) ⟨rfl,fin⟩) hs
theorem SO (lo hi:Option Int) (n:Nat):(Ib lo hi none n).1=((HT.sIx n 0 lo:Nat):Int)/\(Ib lo hi none n).2.1=((HT.sIx n n hi:Nat):Int)/\(Ib lo hi none n).2.2=1:=by
 refine ⟨?_,?_,rfl⟩
 ·cases lo with
  | none=>simp [Ib,HT.sIx]
  | some i=>
   simp only [Ib,HT.sIx,ZJ,show (1:Int) > 0 by decide,if_true]
   by_cases h:i < 0
   ·simp only [h,if_true] <;> omega
   ·simp only [h,if_false] <;> omega
 ·cases hi with
  | none=>simp [Ib,HT.sIx]
  | some i=>
   simp only [Ib,HT.sIx,ZJ,show (1:Int) > 0 by decide,if_true]
   by_cases h:i < 0
   ·simp only [h,if_true] <;> omega
   ·simp only [h,if_false] <;> omega
theorem Qt (its:List AD) (lo hi:Option Int):slicePick its.toArray lo hi none=((its.drop (HT.sIx its.length 0 lo)).take (HT.sIx its.length its.length hi - HT.sIx its.length 0 lo)).toArray:=by
 obtain ⟨h1,h2,h3⟩:=SO lo hi its.toArray.size;unfold slicePick;rw [h1,h2,h3]
 simp only [sliceRange_one,pick_run,Ad] <;> rfl
def ll (K:AB):V->Option Int->Option Int->Hp->VK->Prop:=λx lo hi H Q=>∃a xs,x=.ref a/\SqL K H a xs/\∀p,H p=none->Q (.ref p) (upd H p (.lst (Oh xs lo hi)))
theorem dP:SlR X (ll X.K):=by
 intro pins s σ H x v vl vu lo hi sl Q I rx hs pl pu h;obtain ⟨a,xs,rfl,hx,q⟩:=h;cases rx;obtain ⟨its,r,ht,hz⟩:=I.list hx;have hlen:=r.length;refine ⟨"list",_,kU.lookup,ht.isList.typeIs,?_⟩;refine wpAny_getItem_list_slice ht.isList hs pl pu .none (by simp) ?_ (by rw [Ad] <;> omega);rw [Qt,<-hlen];refine ⟨.ref s.heap.objs.size,_,I.laid (t':=s.toks) (o:=.lst (Oh xs lo hi)) (λb ob q=>AJ _ q) (AT _) ?_,rfl,q _ (I.hok.fresh (AT _))⟩;exact ⟨Am (ON xs lo hi) hz,_,0,(r.drop (HT.sIx xs.length 0 lo)).take (HT.sIx xs.length xs.length hi - HT.sIx xs.length 0 lo),Ai _ rfl⟩
theorem TN:Hq X (.builtin "len") (λxs H Q=>∃p ys,xs=[.ref p]/\(SqL X.K H p ys∨SqT X.K H p ys)/\Q (.int ys.length) H):=by
 intro pins s σ H xs us Q I r h;obtain ⟨p,ys,rfl,hq,q⟩:=h;obtain ⟨u,rfl,rx⟩:=vals1 r;cases rx;have hn:=Sr
 rcases hq with hq | hq
 ·obtain ⟨its,r',pl,hz⟩:=I.list hq
  have hlen:=r'.length;exact Calls.call_len_list pl.isList (by simp only [Ad] <;> omega) ⟨.int ys.length,H,I.tok _,⟨s.toks+1,by rw [Ad,hlen]⟩,q⟩
 ·obtain ⟨its,r',pl,hz⟩:=I.tuple hq
  have hlen:=r'.length;exact len_tuple pl (by simp only [Ad] <;> omega) ⟨.int ys.length,H,I.tok _,⟨s.toks+1,by rw [Ad,hlen]⟩,q⟩
theorem TM:Hq X (.type "list") (λxs H Q=>∃p ys,xs=[.ref p]/\(SqL X.K H p ys∨SqT X.K H p ys)/\∀l,H l=none->Q (.ref l) (upd H l (.lst ys))):=by
 intro pins s σ H xs us Q I r h;obtain ⟨p,ys,rfl,hq,q⟩:=h;obtain ⟨u,rfl,rx⟩:=vals1 r;cases rx
 have fin:∀(its:List AD),Bs ys its->ys.length<=sizeLine->∀(h':Bu) (c':Nat),(∀b o',s.heap.get? b=some o'->h'.get? b=some o') ->
   h'.get? s.heap.objs.size=some { cls:=.type "list",dict:=none,data:=.seq its.toArray c',slots:=#[] }->EP X pins σ Q (.ref s.heap.objs.size) { s with heap:=h' }:=λits r' hz h' c' kp e=>
  ⟨.ref s.heap.objs.size,_,I.laid (t':=s.toks) kp (AT _) (show DP X.prog X.w _ h' _ (.lst ys) from ⟨hz,its,c',r',e⟩),rfl,q _ (I.hok.fresh (AT _))⟩
 rcases hq with hq | hq
 ·obtain ⟨its,r',pl,hz⟩:=I.list hq
  have hlen:=r'.length;obtain ⟨o,ho,hc,n,hd⟩:=pl.isList;exact call_list_seq p (.inl rfl) ho hc hd (λh' c' kp e=>fin its r' hz h' c' kp e) (by simp only [Ad] <;> omega)
 ·obtain ⟨its,r',pl,hz⟩:=I.tuple hq
  have hlen:=r'.length;obtain ⟨o,ho,hc,n,hd⟩:=pl;exact call_list_seq p (.inr rfl) ho hc hd (λh' c' kp e=>fin its r' hz h' c' kp e) (by simp only [Ad] <;> omega)
theorem RB:Hq X (.type "tuple") (λxs H Q=>∃p ys,xs=[.ref p]/\((SqL X.K H p ys/\∀l,H l=none->Q (.ref l) (upd H l (.tup ys)))∨(SqT X.K H p ys/\Q (.ref p) H))):=by
 intro pins s σ H xs us Q I r h;obtain ⟨p,ys,rfl,h⟩:=h;obtain ⟨u,rfl,rx⟩:=vals1 r;cases rx
 rcases h with ⟨hq,q⟩ | ⟨hq,q⟩
 ·obtain ⟨its,r',pl,hz⟩:=I.list hq
  have hlen:=r'.length;refine call_tuple_list pl.isList (λh' kp=>?_) (by simp only [Ad] <;> omega);have I1:Inv X pins σ H { s with heap:=h' }:=I.kept (t':=s.toks) kp
  have I2:Inv X pins σ (upd H h'.objs.size (.tup ys)) { s with heap:=h'.push { cls:=.type "tuple",data:=.seq its.toArray } }:=
   I1.laid (t':=s.toks) (λb o e=>AJ _ e) (AT _) (show DP X.prog X.w _ _ _ (.tup ys) from ⟨hz,its,r',ZW _ _⟩)
  exact ⟨.ref h'.objs.size,_,I2,rfl,q _ (I1.hok.fresh (AT _))⟩
 ·obtain ⟨its,r',pl,hz⟩:=I.tuple hq
  exact call_tuple_same pl ⟨.ref p,H,I,rfl,q⟩
def tyV (K:AB) (T:String) (x:V) (H:Hp):Prop:=match x with
 | .str _=>T = "str"
 | .int _=>T = "int"
 | .ref p=>(T = "list"/\∃xs,SqL K H p xs)∨(T = "tuple"/\∃o,K.lookup p=some o/\o.cls=.type "tuple"/\o.dict=none) ∨
   (T = "dict"/\((∃kvs,H p=some (.dK kvs))∨∃kvs,H p=some (.dT kvs)))∨(T = "set"/\∃S n,H p=some (.set S n))
 | _=>False
theorem iL {pins:List (AM×Obj)} {σ:St} {H:Hp} {s:AE} {T:String} {x:V} {v:AD} (I:Inv X pins σ H s) (r:RelV x v) (ty:tyV X.K T x H) :
  s.TypeIs v T/\∀a,v=.ref a->∃ob,s.heap.get? a=some ob/\ob.dict=none:=by
 cases x with
 | str z=>
  obtain ⟨t,rfl⟩:=r;cases (show T = "str" from ty);exact ⟨typeIs_str s z t,λ_ e=>nomatch e⟩
 | int i=>
  obtain ⟨t,rfl⟩:=r;cases (show T = "int" from ty);exact ⟨typeIs_int s i t,λ_ e=>nomatch e⟩
 | ref p=>
  cases r
  rcases ty with ⟨rfl,xs,hq⟩ | ⟨rfl,o,hk,hc,hd⟩ | ⟨rfl,hk⟩ | ⟨rfl,S,n,hk⟩
  ·obtain ⟨its,_,pl,_⟩:=I.list hq
   refine ⟨pl.isList.typeIs,λa e=>?_⟩;cases e;obtain ⟨o,n,e,c,hd,_⟩:=pl;exact ⟨o,e,hd⟩
  ·refine ⟨⟨o,I.kIn p o hk,hc⟩,λa e=>?_⟩
   cases e;exact ⟨o,I.kIn _ o hk,hd⟩
  ·have z:∃o,s.heap.get? p=some o/\o.ExactDict:=by
    rcases hk with ⟨kvs,hk⟩ | ⟨kvs,hk⟩
    ·obtain ⟨_,_,_,_,o,_,_,e,ex,_⟩:=I.hok p _ hk
     exact ⟨o,e,ex⟩
    ·obtain ⟨_,_,_,_,o,_,_,e,ex,_⟩:=I.hok p _ hk
     exact ⟨o,e,ex⟩
   obtain ⟨o,e,ex⟩:=z;refine ⟨⟨o,e,ex.1⟩,λa e2=>?_⟩;cases e2;exact ⟨o,e,ex.2.1⟩
  ·obtain ⟨o,_,_,_,e,ex,_⟩:=I.hok p _ hk
   refine ⟨⟨o,e,ex.1⟩,λa e2=>?_⟩;cases e2;exact ⟨o,e,ex.2.1⟩
 | _=>exact D5 ty
def tBM (K:AB) (T:String) (r:V->List V->Hp->VK->Prop) (to:TE) (t:TA):TE:=λσ H Q=>to σ H λx H1=>tyV K T x H1/\t σ H1 λxs H2=>r x xs H2 Q
variable {o e:Expr} {es:List Expr} {to:TE} {t:TA} {name:Str} {apos cpos:Pos} {T id:String} {r:V->List V->Hp->VK->Prop}
theorem gP (pa:PlainAttrs T) (slot:Slot T name id) (hty:typeOf (.builtin id)=pure (.type "method_descriptor")) (hm:MtR X id r) (ho:PE X o to) (ha:PA X (e :: es) t)
  (hbase:Ia o name X.env (CS o X.env)=CS o X.env:=by rfl)
  (hfew:((Dz cpos (Ab (e :: es) X.env)).all (λx=>!x.1)&&(Jk cpos (Fj [] X.env)).all (λx=>x.1.isSome)
    &&decide ((e :: es).length+([]:List OD).length+(if ([]:List OD).isEmpty then 0 else 1) < 30))=true:=by rfl)
  (hline:(apos.endLine==cpos.line)=true:=by rfl) (hs:Ab (e :: es) X.env=(false,CS e X.env) :: Ab es X.env:=by rfl) (hplain:(Dz cpos (Ab es X.env)).any (·.1)=false:=by rfl) :
  PE X (.Call (.Attribute o name apos) (e :: es) [] cpos) (tBM X.K T r to t):=by
 intro pins s σ H Q I h;refine wpAny_Call_method_late hbase hfew hline rfl (thn (ho pins s σ H _ I h) λv s1 ⟨x,H1,I1,r1,ty,q1⟩=>?_);obtain ⟨h1,h2⟩:=iL I1 r1 ty;refine ⟨T,id,pa,slot,hty,h1,h2,?_⟩;have hA:=ha cpos pins s1 σ H1 _ I1 q1;rw [hs] at hA ⊢;refine Calls.callWith_builtin (by show (false||(Dz cpos (Ab es X.env)).any (·.1))=false;rw [hplain] <;> rfl) (Calls.evalArgs_plain ?_)
 exact thn hA λus s2 ⟨vs,H2,I2,r2,q2⟩=>hm pins s2 σ H2 x vs v us Q I2 r1 r2 q2
/- xs.append(e),list.index on a module's tuple .. are MtR facts of 06m -/
end L2
namespace L2
open PySem PySem.Spec PyProof.Rows
def MtM (X:Cx) (id:String) (r:V->List V->Hp->VK->Prop):Prop:=
 ∀(pins:List (AM×Obj)) (s:AE) (σ:St) (H:Hp) (x:V) (xs:List V) (v:AD) (us:List AD) (Q:VK),Inv X pins σ H s->RelV x v->Bs xs us->r x xs H Q ->
  Ac (AZ X.prog X.w) X.A (call (.builtin id) (v :: us)) (EP X pins σ Q) X.xe s
theorem Bs.one:∀ {x:V} {us:List AD},Bs [x] us->∃u,us=[u]/\RelV x u
 | _,_,.cons r .nil=>⟨_,rfl,r⟩
section
variable {X:Cx} {pins:List (AM×Obj)} {σ:St} {H:Hp} {s:AE} {a:AM} {y v:V} {u r:AD} {o:Option V} {A:BC} {E:AD->AE->Prop}
theorem Inv.big (I:Inv X pins σ H s):Dy < s.heap.objs.size:=by
 have h:Af < s.heap.objs.size:=(I.mod.glob.keeps I.bk).lt;exact lB (by decide) h
theorem Y3 {Q:AD->AE->Prop} (hu:A.units+1 < Dr) (I:Inv X pins σ H s) (g:NK H a y (some v)) (ry:RelV y u) (h:∀w' s',Inv X pins σ H s'->RelV v w'->Q w' s') :
  Ac (AZ X.prog X.w) A (Ki (.ref a) u) Q E s:=by
 rcases g with ⟨kvs,k,e,ey,l⟩ | ⟨kvs,k,b,e,ey,eb,l⟩
 ·subst ey
  obtain ⟨z,hd,vs,rel,dd⟩:=Ut I.hok e;obtain ⟨w',hw,rw'⟩:=N8.some_of (v:=v) (o:=Qi vs k) (by rw [l];exact rel.val k);exact wpAny_getItem_of (Ui ry) dd.mapOf hw (h w' _ (I.tok _) rw')
 ·subst ey
  cases (show u=BD b from ry);obtain ⟨z,hd,xs,rel,dd⟩:=Us I.hok e;obtain ⟨w',hw,rw'⟩:=N8.some_of (v:=v) (o:=(VR xs k).map (·.2)) (by rw [l];exact rel.val k);obtain ⟨p,hp,hp2⟩:=Option.map_eq_some_iff.mp hw;refine wpAny_getItem_heap (Jg hu) (QD I.hok eb) dd hp ?_;rw [hp2];exact h w' _ (I.tok _) rw'
theorem d_in {Q:AD->AE->Prop} (hu:A.units+1 < Dr) (I:Inv X pins σ H s) (g:NK H a y o) (ry:RelV y u) (h:∀s',Inv X pins σ H s'->Q (.bool o.isSome) s') :
  Ac (AZ X.prog X.w) A (Bk .In u (.ref a)) Q E s:=by
 rcases g with ⟨kvs,k,e,ey,l⟩ | ⟨kvs,k,b,e,ey,eb,l⟩
 ·subst ey
  obtain ⟨z,hd,vs,rel,dd⟩:=Ut I.hok e;refine wpAny_in_of (Ui ry) hd dd.mapOf ?_;rw [<-(rel.val k).isSome_eq,<-l];exact h _ (I.tok _)
 ·subst ey
  cases (show u=BD b from ry);obtain ⟨z,hd,xs,rel,dd⟩:=Us I.hok e;refine wpAny_in_heap (Jg hu) (QD I.hok eb) hd dd ?_;have q:=(rel.val k).isSome_eq;rw [Gm] at q;rw [<-q,<-l];exact h _ (I.tok _)
theorem fS {Q:AD->AE->Prop} (hu:A.units+1 < Dr) (I:Inv X pins σ H s) (g:NK H a y o) (ry:RelV y u) (h:∀s',Inv X pins σ H s'->Q (.bool (!o.isSome)) s') :
  Ac (AZ X.prog X.w) A (Bk .NotIn u (.ref a)) Q E s:=by
 rcases g with ⟨kvs,k,e,ey,l⟩ | ⟨kvs,k,b,e,ey,eb,l⟩
 ·subst ey
  obtain ⟨z,hd,vs,rel,dd⟩:=Ut I.hok e;refine wpAny_notIn_of (Ui ry) hd dd.mapOf ?_;rw [<-(rel.val k).isSome_eq,<-l];exact h _ (I.tok _)
 ·subst ey
  cases (show u=BD b from ry);obtain ⟨z,hd,xs,rel,dd⟩:=Us I.hok e;refine wpAny_notIn_heap (Jg hu) (QD I.hok eb) hd dd ?_;have q:=(rel.val k).isSome_eq;rw [Gm] at q;rw [<-q,<-l];exact h _ (I.tok _)
theorem Xq {h':Bu} {t':Nat} {ob:HO} (I:Inv X pins σ H s) (mu:Mut (H a)) (hs:Ei a s.heap h') (he:∃q,h'.get? a=some q) (new:DP X.prog X.w (upd H a ob) h' a ob) :
  Inv X pins σ (upd H a ob) { s with heap:=h',toks:=t' }:=
 I.write (x:=a) (e:=a) mu (.inl rfl) (λb q hb z=>(hs.2 b hb).trans z) he new
theorem kD {P:Ap} {w:BE} {H':Hp} {h':Bu} {kvs:List (Key×V)} {vs:List (Key×AD)} (z:kvs.length<=sizeLine) (hd:(a==Dy)=false) (rel:KV kvs vs) (dd:h'.DictOf (EX P w) a vs) :
  DP P w H' h' a (.dK kvs):=⟨z,hd,vs,rel,dd⟩
theorem Y2 {H':Hp} {Q:Unit->AE->Prop} (hu:A.units+1 < Dr) (I:Inv X pins σ H s) (g:U7 H a y v H') (ry:RelV y u) (rv:RelV v r) (h:∀s',Inv X pins σ H' s'->Q () s') :
  Ac (AZ X.prog X.w) A (setItem (.ref a) u r) Q E s:=by
 rcases g with ⟨kvs,k,e,ey,l,eH⟩ | ⟨kvs,k,b,e,ey,eb,l,eH⟩
 ·subst ey eH
  obtain ⟨z,hd,vs,rel,dd⟩:=nF I.hok e
  have hz:vs.length<=sizeLine:=by rw [<-rel.length];exact z
  have hl:(Kb kvs k v).length<=sizeLine:=by have:=OK kvs k v;omega
  refine wpAny_setItem_pairs (hsz:=hz) (Ui ry) dd λh' dd' hs=>h _ ?_
  have he:∃q,h'.get? a=some q:=let ⟨q,_,_,hq,_⟩:=dd';⟨q,hq⟩
  exact Xq I (by rw [e];exact Eg) hs he (kD hl hd (rel.put k rv) dd')
 ·subst ey eH
  cases (show u=BD b from ry);obtain ⟨z,hd,xs,rel,dd⟩:=nE I.hok e
  have hz:xs.length<=sizeLine:=by rw [<-El rel];exact z
  have hl:(Kb kvs k v).length<=sizeLine:=by have:=OK kvs k v;omega
  refine wpAny_setItem_heap (hsz:=hz) (Jg hu) (QD I.hok eb) dd λh' dd' hs=>h _ ?_
  obtain ⟨q,es,ep,hq,h2,h3,h4,_,h5⟩:=dd';refine Xq I (by rw [e];exact Eg) hs ⟨q,hq⟩ ⟨hl,hd,_,(rel.put k eb rv).keeps λc ys ec=>?_,q,es,ep,hq,h2,h3,h4,h5⟩;rw [Bv (mO ec e (λz=>nomatch z))];exact ec
variable {X:Cx} {pins:List (AM×Obj)} {σ:St} {H:Hp} {s:AE} {l b:AM} {xs ys zs:List V}
theorem Inv.lset {its its':List AD} {n:Nat} {f:Array AD->Array AD} {t':Nat} (I:Inv X pins σ H s) (hH:H l=some (.lst xs))
  (e:s.heap.get? l=some { cls:=.type "list",data:=.seq its.toArray n }) (hf:f its.toArray=its'.toArray) (hv:Bs ys its') (hz:ys.length<=sizeLine) :
  Inv X pins σ (upd H l (.lst ys)) { s with heap:=s.heap.update l (Iz f),toks:=t' }:=by
 have q:=PySem.IsL.update e f;rw [hf] at q;refine I.write (x:=l) (e:=l) (by rw [hH];exact trivial) (.inl rfl) (λb' u hb hu=>(B3 s.heap (Iz f) (Bo hb)).trans hu) ⟨_,q⟩ ?_;exact ⟨hz,its',_,hv,q⟩
theorem Inv.lnew {its:List AD} {t':Nat} (I:Inv X pins σ H s) (hv:Bs ys its) (hz:ys.length<=sizeLine) :
  Inv X pins σ (upd H s.heap.objs.size (.lst ys)) { s with heap:=s.heap.push { cls:=.type "list",data:=.seq its.toArray },toks:=t' }:=
 I.laid (λ_ _ q=>AJ _ q) (AT _) ⟨hz,its,0,hv,Ai _ rfl⟩
theorem Inv.fresh (I:Inv X pins σ H s):H s.heap.objs.size=none:=I.hok.fresh (AT _)
theorem Inv.lstM (I:Inv X pins σ H s) (hH:H l=some (.lst xs)):xs.length<=sizeLine/\∃(its:List AD) (n:Nat),Bs xs its/\xs.length=its.length/\s.heap.get? l=some { cls:=.type "list",data:=.seq its.toArray n }:=by
 obtain ⟨z,its,n,r,e⟩:=I.hok l _ hH;exact ⟨z,its,n,r,r.length,e⟩
theorem aj {n:Nat} (h:n<=sizeLine):IF n=false:=by
 unfold IF;exact decide_eq_false (by omega)
end
section
variable {X:Cx} {pins:List (AM×Obj)} {σ:St} {H:Hp} {s:AE} {a:AM} {kvs:List (Key×V)} {k:Key} {u:AD} {A:BC} {E:AD->AE->Prop}
end
def kL (i:Expr):Prop:=∀ov iv,Td i false ov iv=operate [ov,iv] (Ki ov iv)
theorem dM {prog:Ap} {w:BE} {A:BC} {E:AD->AE->Prop} {s:AE} {env:Env} {value slice:Expr} {pos:Pos} {T id:String} {Q:AD->AE->Prop}
  (hl:gi (.type T) "__getitem__" = pure (some (.builtin id))) (hs:kL slice)
  (h:Ac (AZ prog w) A (CS value env) (λo s₁=>Ac (AZ prog w) A (CS slice env) (λi s₂=>s₂.TypeIs o T/\Ac (AZ prog w) A (Ki o i) Q E s₂) E s₁) E s) :
  Ac (AZ prog w) A (CS (.Subscript value slice pos) env) Q E s:=by
 refine gq (Dx h (λo s₁ h₁=>Dx h₁ (λi s₂ h₂=>?_) λ_ _ x=>x) λ_ _ x=>x);obtain ⟨hT,h₂⟩:=h₂;unfold X2;refine AA ?_;rw [getitemInPython_of_ne hT.not_modules];refine AA (wpAny_specialOf hT hl ?_)
 have fin:Ac (AZ prog w) A (Td slice false o i) (λr s₃=>Ac (AZ prog w) A (letTemporaryGo value o r >>= λ_=>pure r) Q E s₃) E s₂:=by
  rw [hs o i];exact wpAny_operating (Dx h₂ (λr s₃ h₃=>AA (wpAny_letTemporaryGo (AL h₃))) λ_ _ x=>x)
 first
  | exact AL (AA fin)
  | exact AA (AL (AA fin))
  | exact AA fin
theorem Uu {X:Cx} {pins:List (AM×Obj)} {σ:St} {H:Hp} {s:AE} {a:AM} {y:V} {o:Option V} (I:Inv X pins σ H s) (g:NK H a y o):s.TypeIs (.ref a) "dict":=by
 rcases g with ⟨kvs,k,e,_,_⟩ | ⟨kvs,k,b,e,_,_,_⟩
 ·obtain ⟨_,_,vs,_,dd⟩:=Ut I.hok e
  exact dd.typeIs
 ·obtain ⟨_,_,xs,_,dd⟩:=Us I.hok e
  exact dd.typeIs
def lW (td ty:TE):TE:=λσ H Q=>td σ H λx H1=>ty σ H1 λy H2=>∃a v,x=.ref a/\NK H2 a y (some v)/\Q v H2
def lV (ty td:TE):TE:=λσ H Q=>ty σ H λy H1=>td σ H1 λx H2=>∃a o,x=.ref a/\NK H2 a y o/\Q (.bl o.isSome) H2
def XG (ty td:TE):TE:=λσ H Q=>ty σ H λy H1=>td σ H1 λx H2=>∃a o,x=.ref a/\NK H2 a y o/\Q (.bl (!o.isSome)) H2
def lg (td ty tv:TE):TS:=λD σ H=>tv σ H λv H1=>td σ H1 λx H2=>ty σ H2 λy H3=>∃a H4,x=.ref a/\U7 H3 a y v H4/\D.nx σ H4
variable {X:Cx}
def de:V->List V->Hp->VK->Prop:=λx vs H Q=>∃l xs y,x=.ref l/\vs=[y]/\H l=some (.lst xs)/\xs.length < sizeLine/\Q .non (upd H l (.lst (xs++[y])))
theorem Re:MtM X "list.append" de:=by
 intro pins s σ H x vs v us Q I rx rv h;obtain ⟨l,xs,y,rfl,rfl,hH,hz,q⟩:=h;cases rx;obtain ⟨u,rfl,ru⟩:=rv.one;obtain ⟨z,its,n,r,hl,e⟩:=I.lstM hH;refine call_meets F.slot_list_append ⟨_,e,rfl⟩ F.entry_list_append (F.args_list_append_2 _ _) (PySem.list_append l its.toArray n u (by rw [Ad];omega)) ⟨e,?_⟩;refine ⟨.non,_,I.lset (its':=its++[u]) hH e (by simp) (r.append (.cons ru .nil)) ?_,rfl,q⟩;rw [AU,Au];omega
def dc:V->List V->Hp->VK->Prop:=λx vs H Q=>∃l b xs zs,x=.ref l/\vs=[.ref b]/\H l=some (.lst xs)/\H b=some (.lst zs)/\xs.length+zs.length<=sizeLine/\Q .non (upd H l (.lst (xs++zs)))
theorem Yl:MtM X "list.extend" dc:=by
 intro pins s σ H x vs v us Q I rx rv h;obtain ⟨l,b,xs,zs,rfl,rfl,hH,hB,hz,q⟩:=h;cases rx;obtain ⟨u,rfl,ru⟩:=rv.one;cases ru;obtain ⟨z,its,n,r,hl,e⟩:=I.lstM hH;obtain ⟨z2,its2,n2,r2,hl2,e2⟩:=I.lstM hB
 have hsz:its.toArray.size+its2.toArray.size<=sizeLine:=by rw [Ad,Ad];omega
 have hlong:¬(!its.toArray.isEmpty&&IF (its.toArray.size+its2.toArray.size))=true:=by
  rw [aj hsz,Bool.and_false];exact AQ
 refine call_meets F.slot_list_extend ⟨_,e,rfl⟩ F.entry_list_extend (F.args_list_extend_2 _ _)
  (AutoSeq1.list_extend_list_list_0 l its.toArray n b its2.toArray n2 hlong (by rw [Ad];omega) (by omega)) ⟨e,e2,?_⟩
 refine ⟨.non,_,I.lset (its':=its++its2) hH e (by simp) (r.append r2) ?_,rfl,q⟩;rw [AU];omega
def rCat:R2:=λx y H Q=>∃l b xs zs,x=.ref l/\y=.ref b/\H l=some (.lst xs)/\H b=some (.lst zs)/\xs.length+zs.length<=sizeLine/\∀p,H p=none->Q (.ref p) (upd H p (.lst (xs++zs)))
theorem jO:OpR X (Cr .Add) rCat:=by
 intro pins s σ H x y v u Q I rx ry h;obtain ⟨l,b,xs,zs,rfl,rfl,hH,hB,hz,q⟩:=h;cases rx;cases ry;obtain ⟨z,its,n,r,hl,e⟩:=I.lstM hH;obtain ⟨z2,its2,n2,r2,hl2,e2⟩:=I.lstM hB;refine PySem.P.add_list e e2 ?_ (by rw [Ad,Ad];omega)
 have ea:its.toArray++its2.toArray=(its++its2).toArray:=by simp
 rw [ea];exact ⟨.ref _,_,I.lnew (t':=s.toks) (r.append r2) (by rw [AU];omega),rfl,q _ I.fresh⟩
section
variable {X:Cx} {o i e value:Expr} {pos pos' tpos:Pos} {td ty tv:TE}
theorem d9 (hu:X.A.units+1 < Dr) (ho:PE X o td) (hi:PE X i ty) (hs:kL i):PE X (.Subscript o i pos) (lW td ty):=by
 intro pins s σ H Q I h;refine dM PySem.F.slot_dict_getitem.lookup hs (thn (ho pins s σ H _ I h) λu s1 ⟨x,H1,I1,rx,q1⟩=>thn (hi pins s1 σ H1 _ I1 q1) λiv s2 ⟨y,H2,I2,ry,a,v,ex,g,q2⟩=>?_);subst ex;obtain rfl:u=BD a:=rx;exact ⟨Uu I2 g,Y3 hu I2 g ry λw' s3 I3 rw'=>⟨v,H2,I3,rw',q2⟩⟩
theorem aU (hu:X.A.units+1 < Dr) (hi:PE X i ty) (ho:PE X o td):PC X .In i o (lV ty td):=by
 intro pins s σ H Q I h
 refine thn (hi pins s σ H _ I h) λiv s1 ⟨y,H1,I1,ry,q1⟩=>thn (ho pins s1 σ H1 _ I1 q1) λu s2 ⟨x,H2,I2,rx,a,ov,ex,g,q2⟩=>?_
 subst ex;obtain rfl:u=BD a:=rx
 exact d_in hu I2 g ry λs3 I3=>⟨.bl ov.isSome,H2,I3,rfl,q2⟩
theorem RY (hu:X.A.units+1 < Dr) (hi:PE X i ty) (ho:PE X o td):PC X .NotIn i o (XG ty td):=by
 intro pins s σ H Q I h
 refine thn (hi pins s σ H _ I h) λiv s1 ⟨y,H1,I1,ry,q1⟩=>thn (ho pins s1 σ H1 _ I1 q1) λu s2 ⟨x,H2,I2,rx,a,ov,ex,g,q2⟩=>?_
 subst ex;obtain rfl:u=BD a:=rx
 exact fS hu I2 g ry λs3 I3=>⟨.bl (!ov.isSome),H2,I3,rfl,q2⟩
theorem dn (hu:X.A.units+1 < Dr) (ho:PE X o td) (hi:PE X i ty) (hv:PE X value tv) (hs:GB value (some (.Subscript o i pos')) pos.line X.env=pure false) :
  PS X (.Assign [.Subscript o i pos'] value pos) (lg td ty tv):=by
 intro pins s σ H D I h;refine wpAny_Assign_Subscript (thn (hv pins s σ H _ I h) λr s1 ⟨v,H1,I1,rv,q1⟩=>thn (ho pins s1 σ H1 _ I1 q1) λu s2 ⟨x,H2,I2,rx,q2⟩=>thn (hi pins s2 σ H2 _ I2 q2) λiv s3 ⟨y,H3,I3,ry,a,H4,ex,g,q3⟩=>?_) hs;subst ex;obtain rfl:u=BD a:=rx
 exact Y2 hu I3 g ry rv λs4 I4=>⟨σ,H4,I4,q3⟩
end
theorem bo {P:Ap} {w:BE} {H:Hp} (h:Bu) (hb:Dy < h.objs.size):DP P w H (h.push { cls:=.type "dict",data:=.dict #[] }) h.objs.size (.dK []):=
 ⟨DI _,beq_eq_false_iff_ne.mpr (Bo (Av hb)),[],.nil,Bu.DictOf.new h⟩
theorem bm {P:Ap} {w:BE} {H:Hp} (h:Bu) (hb:Dy < h.objs.size):DP P w H (h.push { cls:=.type "dict",data:=.dict #[] }) h.objs.size (.dT []):=
 ⟨DI _,beq_eq_false_iff_ne.mpr (Bo (Av hb)),[],.nil,_,#[],0,Ai _ rfl,⟨rfl,rfl,rfl⟩,rfl,rfl,FL⟩
def iU:TE:=λ_ H Q=>∀p,H p=none->Q (.ref p) (upd H p (.dK []))
def iT:TE:=λ_ H Q=>∀p,H p=none->Q (.ref p) (upd H p (.dT []))
variable {prog:Ap} {w:BE} {A:BC} {E:AD->AE->Prop} {s:AE}
section
variable {X:Cx} {pos:Pos}
theorem aS:PE X (.Dict [] [] pos) iU:=λpins s σ H Q I h=>
 kn ⟨.ref s.heap.objs.size,_,I.laid (a:=s.heap.objs.size) (o:=.dK []) (t':=s.toks) (λ_ _ q=>AJ _ q) (AT _) (bo s.heap I.big),rfl,h _ (I.hok.fresh (AT _))⟩
theorem aR:PE X (.Dict [] [] pos) iT:=λpins s σ H Q I h=>
 kn ⟨.ref s.heap.objs.size,_,I.laid (a:=s.heap.objs.size) (o:=.dT []) (t':=s.toks) (λ_ _ q=>AJ _ q) (AT _) (bm s.heap I.big),rfl,h _ (I.hok.fresh (AT _))⟩
end
section
variable {X:Cx} {pins:List (AM×Obj)} {σ:St} {H:Hp} {s:AE} {a:AM} {y d:V} {u r:AD} {o:Option V} {A:BC} {E:AD->AE->Prop}
end
section
variable {X:Cx} {o e f:Expr} {apos cpos:Pos} {td ty tx:TE}
end
section
variable {X:Cx} {pins:List (AM×Obj)} {σ:St} {H:Hp} {s:AE} {a:AM} {kvs:List (Key×V)} {A:BC} {E:AD->AE->Prop}
end
section
variable {X:Cx} {pins:List (AM×Obj)} {σ:St} {H:Hp} {s:AE} {a:AM} {y:V} {u:AD} {A:BC} {E:AD->AE->Prop}
variable {X:Cx}
end
end L2
namespace Att
open PySem PySem.W PySem.Calls PyProof.Rows
theorem Of {P:Params} {h:Bu}:∀(ns:List Int) (vs:List AD),WellAll P h vs (ns.map nO)->Cy vs ns:=by
 intro ns
 induction ns with
 | nil=>
  intro vs w;rw [Kk] at w;cases w;exact .nil
 | cons n ns ih=>
  intro vs w;rw [A1] at w
  cases w with
  | cons a b=>
   cases a;exact .cons _ _ (ih _ b)
theorem YV {l:OpenLaw} {n:Nat} (hn:l.most=some n) {P:Params} {h:Bu} {args:List WData} {vals:List AD}
  (hpre:l.row.toRowW.claim.pre args=true) (hwl:WellAll P h vals args) :
  ∃a vs ns,vals=[BD a]/\args=[WData.list (ns.map nO)]/\h.get? a=some { cls:=.type "list",data:=.seq vs.toArray }/\Cy vs ns/\ns.length<=n:=by
 have hsh:WShape.hasAll [] args [.list .int]=true:=(pre_splitW hpre).1;have hc:l.pre.holds [] { args:=args }=true:=(pre_splitW hpre).2;obtain ⟨d,r,rfl,h1,h2⟩:=hasAllW_cons hsh;obtain rfl:=hasAllW_nil h2;obtain ⟨xs,rfl,h3⟩:=hasW_list h1;obtain ⟨ns,rfl⟩:=items_int h3
 have hlen:ns.length<=n:=by
  unfold OpenLaw.pre at hc
  have h4:(WTm.not (.lt (.lit (.int (n:Int))) (.len (.arg 0)))).holds [] { args:=[.list (ns.map .int)] }=true:=by
   have h4:=(holds_andW hc).1;rw [hn] at h4;exact h4
  have h5:=condW_of h4 (w_not (w_lt w_lit (w_len_list (w_arg rfl))));rw [AI] at h5
  refine PL λq=>?_
  have q':(n:Int) < ((ns.length:Nat):Int):=by omega
  first
   | (rw [decide_eq_true q'] at h5;exact absurd h5 (by decide))
   | (simp at h5;omega)
 cases hwl with
 | cons w1 w2=>
  cases w2
  cases w1 with
  | list ho hall=>exact ⟨_,_,ns,rfl,rfl,ho,Of ns _ hall,hlen⟩
theorem Yf (l:OpenLaw) (args:List WData):l.row.toRowW.claim.post args (.bool true) args=true:=
 postW_of (r:=l.row.toRowW) (X:=(true==true))
  (show ka [] (.bool true) .bool=true by first | rfl | decide | simp [ka,WShape.arms,WShape.armsAll])
  (show (WTm.eq .res (.lit (.bool true))).value [] { args:=args,res:=some (.bool true),after:=args }=some (.bool (true==true)) from w_eq_bool (w_res rfl) w_lit) rfl
theorem U2 {l:OpenLaw} {n:Nat} {q:Ap} {loose:List Str} {XP:(Str->Option AD)->Bu->Prop} {YP:BE->Bu->Prop} {d:DefRec}
  (hn:l.most=some n) (hdf:d.params.defaults=[])
  (call:∀(w:BE) (s₀ s₁:AE) (mg mb:Str->Option AD) (fa:AM) (o:Obj) (pm cd doc:AD) (a:AM) (vs:List AD) (ns:List Int),
   Ground q loose [] XP w s₀ mg mb s₁.heap->YP w s₁.heap ->
   s₁.heap.get? fa=some o->o.data=.func (docDef d.name d.params d.body d.scope pm cd doc)->s₁.heap.CodeRec cd d.name->mg d.name=some (.ref fa) ->
   s₁.heap.get? a=some { cls:=.type "list",data:=.seq vs.toArray }->Cy vs ns->ns.length<=n->s₁.gens = #[] ->
   Kj (AZ l.prog w) Qj (.call (.ref fa) ⟨[.ref a],[]⟩) (λr s'=>r=.ok (.ret (.bool true))/\OldK s₁.heap s'.heap/\s'.os=s₁.os/\JR s'.gens) s₁) :
  WalkO q loose XP YP l.row.toRowW d [] (λf vs=>X6 f vs):=by
 intro w s₀ s₁ mg mb G Y fa o pm cd doc dV kV ho hd hcd hD hmg hg args vals as hpre hlay hrd hwl hlo;obtain rfl:dV=.none:=Dflts.none hD hdf;obtain rfl:kV=.none:=Dflts.noKw hD;obtain ⟨a,vs,ns,rfl,rfl,hobj,hints,hlen⟩:=YV hn hpre hwl;refine enter_call (JO (call w s₀ s₁ mg mb fa o pm cd doc a vs ns G Y ho (fd_plain hd) hcd hmg hobj hints hlen hg) λr s' hq=>?_);obtain ⟨rfl,h2,h3,h4⟩:=hq;exact ⟨.inl ⟨.bool true,.bool true,[],rfl,λ_=>rfl,.bool true,Yf l _,λ_=>⟨RM,λ_ hm=>(nomatch hm)⟩⟩,h2,h3,h4⟩
section
variable {prog:Ap} {w:BE} {A:BC} {E:AD->AE->Prop} {s:AE} {K:Frag}
end
end Att
namespace L2
open PySem PySem.Spec PyProof.Rows
theorem RN:∀ {vs:List AD} {ns:List Int},Cy vs ns->Bs (ns.map V.int) vs
 | _,_,.nil=>.nil
 | _,_,.cons n t h=>.cons ⟨t,rfl⟩ (RN h)
def fm (H:Hp):Prop:=∀b,H b=none∨∃o xs,H b=some (.frz o (.lst xs))
theorem bG {P:Ap} {w:BE} {K:AB} {mg mb:Str->Option AD} {CX:CXT} {k:Nat} {fa a:AM} {fd:Df} {x:Str} {sp:Sp} {s₁:AE} {vs:List AD} {ns:List Int}
  (KX:K.In s₁.heap) (hns:s₁.heap.Ns Af mg) (hb:s₁.heap.Ns gl mb) (hbb:∀x:Str,x≠"__name__"->mb x=Ey x) (hlim:s₁.heap.NoLimit) (hg:s₁.gens = #[])
  (ha:s₁.heap.get? a=some { cls:=.type "list",data:=.seq vs.toArray }) (hi:Cy vs ns) (hl:ns.length<=sizeLine) (hr:Hj k Qj)
  (F:∀base:Bu,K.In base->base.Ns Af mg->Dq P w K mg base CX k fa fd [x] sp) (hbind:∀(s:AE) (u:AD),VM s fd ⟨[u],[]⟩ [(x,u)])
  (hsp:∀H:Hp,fm H->SqL K H a (ns.map V.int)->sp [.ref a] H (λv _=>v=.bl true) λ_ _ _=>False)
  (hCX:∀H e s',CX [] H s₁ (λ_ _ _=>False) e s'->False) :
  Kj (AZ P w) Qj (.call (.ref fa) ⟨[.ref a],[]⟩) (λr s'=>r=.ok (.ret (.bool true))/\OldK s₁.heap s'.heap/\s'.os=s₁.os/\JR s'.gens) s₁:=by
 have rv:=RN hi;have lenV:=hi.length
 have core:∀H:Hp,fm H->SqL K H a (ns.map V.int)->HOk P w H s₁.heap->(∀b,H b≠none->b=a)->(H a≠none->K.lookup a=none) ->
   Kj (AZ P w) Qj (.call (.ref fa) ⟨[.ref a],[]⟩) (λr s'=>r=.ok (.ret (.bool true))/\OldK s₁.heap s'.heap/\s'.os=s₁.os/\JR s'.gens) s₁:=by
  intro H hO hS hok hA hK
  have base_of:∀ {b:AM} {o:Obj},s₁.heap.get? b=some o->H b=none->(Sz s₁.heap H).get? b=some o:=λe n=>bQ e n
  have noA:∀ {b:AM} {o:Obj} {es:Array OE} {ep:Nat},s₁.heap.get? b=some o->o.data=.dict es ep->H b=none:=λ{b o es ep} e d=>by
   cases q:H b with
   | none=>rfl
   | some u=>
    have e':b=a:=hA b (by rw [q];simp);subst e';rw [ha] at e;cases e;have d':Data.seq vs.toArray _=Data.dict es ep:=d;cases d'
  have nsK:∀ {b:AM} {m:Str->Option AD},s₁.heap.Ns b m->(Sz s₁.heap H).Ns b m:=λ{b m} ⟨o,es,ep,e,d,r⟩=>⟨o,es,ep,base_of e (noA e d),d,r⟩
  have hKb:K.In (Sz s₁.heap H):=λb o e=>base_of (KX b o e) (by
   cases q:H b with
   | none=>rfl
   | some u=>
    have e':b=a:=hA b (by rw [q];simp);subst e'
    rw [hK (by rw [q];simp)] at e;cases e)
  have hM:Mod K mg (Sz s₁.heap H):=⟨hKb,nsK hns,⟨mb,nsK hb,hbb⟩,let ⟨mc,h1,h2⟩:=hlim;⟨mc,nsK h1,h2⟩⟩;have e0:Wl P w K mg (Sz s₁.heap H) Qj [] s₁ H:=⟨rfl,hM,λb o e=>eQ e,lC (Yu _ _),trivial,λb hb=>absurd (show b∈([]:List AM) from hb) (by simp),hok,.of_eq hg⟩
  refine JO ((F _ hKb (nsK hns)).run Qj [] s₁ H ⟨[.ref a],[]⟩ [.ref a] [.ref a] _ _ hr e0 (hbind s₁ (.ref a)) (.cons rfl .nil) (hsp H hO hS)) λr s' h=>?_
  cases r with
  | error e=>exact (hCX H e s' h).elim
  | ok fl=>
   cases fl with
   | next=>exact D5 h
   | brk=>exact D5 h
   | cont=>exact D5 h
   | ret u=>
    obtain ⟨v,H',os,bare,un,hok',r',q⟩:=h;have q':v=.bl true:=q;subst q';obtain rfl:u=Ka true:=r';refine ⟨rfl,OldK.of_keep λb o e=>?_,os,bare⟩
    cases q:H b with
    | none=>exact un.keep b o e q (by intro z;exact absurd (show b∈([]:List AM) from z) (by simp)) (by simp)
    | some u=>
     rcases hO b with z | ⟨ob,xs,z⟩
     ·rw [q] at z;cases z
     ·have z2:=un.frzs b ob _ z
      obtain ⟨e1,_⟩:=hok b _ z;obtain ⟨e2,_⟩:=hok' b _ z2;rw [e] at e1;cases e1;exact e2
 cases hk:K.lookup a with
 | some o=>
  have e:=KX a o hk;rw [ha] at e;cases e
  refine core (λ_=>none) (λ_=>.inl rfl) (.inr ⟨_,vs.toArray,_,hk,rfl,rfl,rfl,by rw [Ad,lenV];exact hl,by simpa using rv⟩) (λb u z=>by have z':(none:Option HO)=some u:=z;cases z') (λb z=>absurd rfl z) λz=>absurd rfl z
 | none=>
  refine core (λb=>if b=a then some (.frz { cls:=.type "list",data:=.seq vs.toArray } (.lst (ns.map V.int))) else none) (λb=>?_) (.inl (.inr ⟨{ cls:=.type "list",data:=.seq vs.toArray },if_pos rfl⟩)) (λb u z=>?_) (λb z=>?_) λ_=>hk
  ·by_cases hb:b=a
   ·exact .inr ⟨_,_,if_pos hb⟩
   ·exact .inl (if_neg hb)
  ·by_cases hb:b=a
   ·have z':=(if_pos hb).symm.trans z
    cases z';subst hb;exact ⟨ha,by rw [AI];exact hl,vs,_,rv,ha⟩
   ·have z':=(if_neg hb).symm.trans z
    cases z'
  ·by_cases hb:b=a
   ·exact hb
   ·exact absurd (if_neg hb) z
end L2
namespace L2
open PySem PySem.Spec PyProof.Rows
theorem cr {l:PySem.W.OpenLaw} {n k:Nat} {q:Ap} {loose:List Str} {XP:(Str->Option AD)->Bu->Prop} {YP:BE->Bu->Prop} {d:DefRec} {K:Params->AB} {CX:BE->CXT} {sp:BE->Sp} {x:Str}
  (hn:l.most=some n) (hn2:n<=sizeLine) (hdf:d.params.defaults=[]) (hr:Hj k Qj)
  (hY:∀(w:BE) (h:Bu),YP w h->(K w.params).In h)
  (F:∀(w:BE) (mg:Str->Option AD) (fa:AM) (h:Bu),(K w.params).In h->h.Ns Af mg->mg d.name=some (.ref fa) ->
   ∃fd:Df,(∀(s:AE) (u:AD),VM s fd ⟨[u],[]⟩ [(x,u)]) /\
    ∀base:Bu,(K w.params).In base->base.Ns Af mg->Dq l.prog w (K w.params) mg base (CX w) k fa fd [x] (sp w))
  (hsp:∀(w:BE) (H:Hp) (a:AM) (ns:List Int),ns.length<=n->fm H->SqL (K w.params) H a (ns.map V.int)->sp w [.ref a] H (λv _=>v=.bl true) λ_ _ _=>False)
  (hCX:∀(w:BE) (H:Hp) (s:AE) (e:AD) (s':AE),CX w [] H s (λ_ _ _=>False) e s'->False) :
  PySem.W.WalkO q loose XP YP l.row.toRowW d [] (λf vs=>X6 f vs):=by
 refine Att.U2 hn hdf λw s₀ s₁ mg mb fa o pm cd doc a vs ns G Y ho hd hcd hmg hobj hints hlen hg=>?_
 have KX:=hY w _ Y;obtain ⟨fd,hb,hF⟩:=F w mg fa _ KX G.T.g hmg
 exact bG KX G.T.g G.T.b G.T.builtins G.T.nolimit hg hobj hints (Am hlen hn2) hr hF hb (λH hO hS=>hsp w H a ns hlen hO hS) λH e s'=>hCX w H s₁ e s'
end L2
/- THE LAST THEOREM (shape;LID,My.* are yours):
   My.Adr: a structure of the addresses that your layer names (classes,functions);My.Txt K t: a structure (Prop) of the equations over K;
   My.txt_mk:{K} {implicit addresses ..} (e1:Eb K Af "law" = some (some (.ref f))) (e2:K.lookup f=some ⟨oc,od,.func (fnOf "law" "law" params body scope dV kV doc pm an cdv ct),sl⟩) (e3:codeIn K cdv "law" = true) ..:∃t,My.Txt K t
(the tactic k_is has no namespace: write k_is) -/
namespace L2
open PySem PySem.Spec PyProof.Rows
def em (s:C1) (j:Nat):C1:=match s with
 | .ClassDef _ _ _ body _ _ _ _ _ _ _=>body.getD j (.Pass ⟨0,0,0,0⟩)
 | _=>.Pass ⟨0,0,0,0⟩
def Bt (s:C1):Arguments:=match s with
 | .FunctionDef _ a _ _ _ _ _ _ _ _=>a
 | _=>{ posonlyargs:=[],args:=[],vararg:=none,kwonlyargs:=[],kw_defaults:=[],kwarg:=none,defaults:=[] }
def Bi (s:C1):List C1:=match s with
 | .FunctionDef _ _ b _ _ _ _ _ _ _=>b
 | _=>[]
def Al (s:C1):Ie:=match s with
 | .FunctionDef _ _ _ _ _ _ sc _ _ _=>sc
 | _=>{ kind:=.function,names:=[],isGenerator:=false,isCoroutine:=false }
structure Fun (K:AB) (x qual:Str) (st:C1) (f:AM) (fd:Df):Prop where
 ex:∃(oc:AD) (od:Option AM) (kV doc pm:AD) (an:Option AM) (cdv ct:AD) (osl:Array (Option AD)),
  fd=Hr x qual (Bt st) (Bi st) (Al st) .none kV doc pm an cdv ct/\K.lookup f=some ⟨oc,od,.func fd,osl⟩/\PF K cdv qual=true
 kp:GH K (.ref f)=true
section
variable {P:Ap} {w:BE} {K:AB} {mg:Str->Option AD} {base:Bu}
theorem Fun.binds {x qual:Str} {st:C1} {f:AM} {fd:Df} {ps:List Str} (F:Fun K x qual st f fd)
  (h:∀(kV doc pm:AD) (an:Option AM) (cdv ct:AD) (us:List AD),us.length=ps.length->bindArgs (Hr x qual (Bt st) (Bi st) (Al st) .none kV doc pm an cdv ct) ⟨us,[]⟩=pure (ps.zip us)):Binds K fd ps []:=by
 obtain ⟨oc,od,kV,doc,pm,an,cdv,ct,osl,rfl,lk,hcd⟩:=F.ex;exact .all (h kV doc pm an cdv ct)
theorem C0 {x qual:Str} {st:C1} {f:AM} {oc:AD} {od an:Option AM} {osl:Array (Option AD)} {kV doc pm cdv ct:AD} (l:K.lookup f=some ⟨oc,od,.func (Hr x qual (Bt st) (Bi st) (Al st) .none kV doc pm an cdv ct),osl⟩)
  (c:PF K cdv qual=true) (k:GH K (.ref f)=true):Fun K x qual st f (Hr x qual (Bt st) (Bi st) (Al st) .none kV doc pm an cdv ct):=⟨⟨oc,od,kV,doc,pm,an,cdv,ct,osl,rfl,l,c⟩,k⟩
end
section
variable {X:Cx}
theorem pv (i:Nat) {x:Str} {pos:Pos} (hN:X.N[i]?=some x:=by rfl) (hv:Vis X.env.scope x:=by first | exact KR rfl | exact JL (KR rfl) | exact JL (JL rfl)) (hd:(x==("__debug__" : Str))=false:=by decide)
  (hcd:(x==("__classdict__" : Str))=false:=by decide):PE X (.Name x pos) (iQ i):=i7 hN hv hd hcd
end
section
variable {κ:Type} [DecidableEq κ]
end
end L2
namespace L2
open PySem PySem.Spec PyProof.Rows
inductive D where
 | non | bl (b:Bool) | int (i:Int) | str (x:Str) | tup (ds:List D) | fro (ds:List D) | ref (n:Nat) | exc (C:AM)
def RE (K:AB) (H:Hp) (a:AM) (vs:List V):Prop:=
 (∃o,H a=some (.frz o (.lst vs))) ∨
  ∃(o:Obj) (its:Array AD) (n:Nat),K.lookup a=some o/\o.cls=.type "list"/\o.dict=none/\o.data=.seq its n/\its.size<=sizeLine/\Bs vs its.toList
theorem RE.sq {K:AB} {H:Hp} {a:AM} {vs:List V} (h:RE K H a vs):SqL K H a vs:=by
 rcases h with h | h
 ·exact .inl (.inr h)
 ·exact .inr h
def ExcO (o:Obj) (C:AM):Prop:=o.cls=.ref C/\o.dict=none/\∃vs,o.data=.fields vs
mutual
inductive By (K:AB) (ρ:List AM) (H:Hp):D->V->Prop where
 | non:By K ρ H .non .non
 | bl (b:Bool):By K ρ H (.bl b) (.bl b)
 | int (i:Int):By K ρ H (.int i) (.int i)
 | str (x:Str):By K ρ H (.str x) (.str x)
 | tup {ds:List D} {a:AM} {vs:List V}:H a=some (.tup vs)->Ay K ρ H ds vs->By K ρ H (.tup ds) (.ref a)
 | fro {ds:List D} {a:AM} {vs:List V}:RE K H a vs->Ay K ρ H ds vs->By K ρ H (.fro ds) (.ref a)
 | ref {n:Nat} {a:AM}:ρ[n]?=some a->By K ρ H (.ref n) (.ref a)
 | exc {C a:AM} {o:Obj} {u:HO}:H a=some (.frz o u)->ExcO o C->By K ρ H (.exc C) (.ref a)
inductive Ay (K:AB) (ρ:List AM) (H:Hp):List D->List V->Prop where
 | nil:Ay K ρ H [] []
 | cons {d:D} {v:V} {ds:List D} {vs:List V}:By K ρ H d v->Ay K ρ H ds vs->Ay K ρ H (d :: ds) (v :: vs)
end
structure Le (K:AB) (ρ:List AM) (H:Hp) (ρ':List AM) (H':Hp):Prop where
 pre:∀(n:Nat) a,ρ[n]?=some a->ρ'[n]?=some a
 tup:∀a xs,H a=some (.tup xs)->H' a=some (.tup xs)
 frz:∀a o u,H a=some (.frz o u)->H' a=some (.frz o u)
 oth:∀a o,H a=some o->(∀n:Nat,ρ[n]?≠some a)->H' a=some o/\∀n:Nat,ρ'[n]?≠some a
theorem RE.mono {K:AB} {H H':Hp} {a:AM} {xs:List V} (l:∀a o u,H a=some (.frz o u)->H' a=some (.frz o u)) (h:RE K H a xs):RE K H' a xs:=by
 rcases h with ⟨o,h⟩ | h
 ·exact .inl ⟨o,l _ _ _ h⟩
 ·exact .inr h
section
variable {K:AB} {ρ ρ' ρ'':List AM} {H H' H'':Hp}
theorem Le.fro (l:Le K ρ H ρ' H'):∀a xs,RE K H a xs->RE K H' a xs:=λ_ _ h=>h.mono l.frz
theorem Le.refl:Le K ρ H ρ H:=⟨λ_ _ h=>h,λ_ _ h=>h,λ_ _ _ h=>h,λ_ _ h n=>⟨h,n⟩⟩
theorem Le.trans (a:Le K ρ H ρ' H') (b:Le K ρ' H' ρ'' H''):Le K ρ H ρ'' H'':=
 ⟨λn x h=>b.pre n x (a.pre n x h),λx xs h=>b.tup x xs (a.tup x xs h),λx o u h=>b.frz x o u (a.frz x o u h),λx o h n=>b.oth x o (a.oth x o h n).1 (a.oth x o h n).2⟩
mutual
theorem By.mono (l:Le K ρ H ρ' H'):∀ {d:D} {v:V},By K ρ H d v->By K ρ' H' d v
 | _,_,.non=>.non
 | _,_,.bl b=>.bl b
 | _,_,.int i=>.int i
 | _,_,.str x=>.str x
 | _,_,.tup h r=>.tup (l.tup _ _ h) (Ay.mono l r)
 | _,_,.fro h r=>.fro (l.fro _ _ h) (Ay.mono l r)
 | _,_,.ref h=>.ref (l.pre _ _ h)
 | _,_,.exc h e=>.exc (l.frz _ _ _ h) e
theorem Ay.mono (l:Le K ρ H ρ' H'):∀ {ds:List D} {vs:List V},Ay K ρ H ds vs->Ay K ρ' H' ds vs
 | _,_,.nil=>.nil
 | _,_,.cons r t=>.cons (By.mono l r) (Ay.mono l t)
end
mutual
theorem By.more (l:∀(n:Nat) a,ρ[n]?=some a->ρ'[n]?=some a):∀ {d:D} {v:V},By K ρ H d v->By K ρ' H d v
 | _,_,.non=>.non
 | _,_,.bl b=>.bl b
 | _,_,.int i=>.int i
 | _,_,.str x=>.str x
 | _,_,.tup h r=>.tup h (Ay.more l r)
 | _,_,.fro h r=>.fro h (Ay.more l r)
 | _,_,.ref h=>.ref (l _ _ h)
 | _,_,.exc h e=>.exc h e
theorem Ay.more (l:∀(n:Nat) a,ρ[n]?=some a->ρ'[n]?=some a):∀ {ds:List D} {vs:List V},Ay K ρ H ds vs->Ay K ρ' H ds vs
 | _,_,.nil=>.nil
 | _,_,.cons r t=>.cons (By.more l r) (Ay.more l t)
end
mutual
theorem By.keep (h1:∀a xs,H a=some (.tup xs)->H' a=some (.tup xs)) (h2:∀a o u,H a=some (.frz o u)->H' a=some (.frz o u)):∀ {d:D} {v:V},By K ρ H d v->By K ρ H' d v
 | _,_,.non=>.non
 | _,_,.bl b=>.bl b
 | _,_,.int i=>.int i
 | _,_,.str x=>.str x
 | _,_,.tup h r=>.tup (h1 _ _ h) (Ay.keep h1 h2 r)
 | _,_,.fro h r=>.fro (h.mono h2) (Ay.keep h1 h2 r)
 | _,_,.ref h=>.ref h
 | _,_,.exc h e=>.exc (h2 _ _ _ h) e
theorem Ay.keep (h1:∀a xs,H a=some (.tup xs)->H' a=some (.tup xs)) (h2:∀a o u,H a=some (.frz o u)->H' a=some (.frz o u)):∀ {ds:List D} {vs:List V},Ay K ρ H ds vs->Ay K ρ H' ds vs
 | _,_,.nil=>.nil
 | _,_,.cons r t=>.cons (By.keep h1 h2 r) (Ay.keep h1 h2 t)
end
theorem Ay.length:∀ {ds:List D} {vs:List V},Ay K ρ H ds vs->ds.length=vs.length
 | _,_,.nil=>rfl
 | _,_,.cons _ t=>by rw [Ao,Ao,Ay.length t]
theorem Ay.get:∀ {ds:List D} {vs:List V} {i:Nat} {d:D},Ay K ρ H ds vs->ds[i]?=some d->∃v,vs[i]?=some v/\By K ρ H d v
 | _,_,_,_,.nil,e=>by simp at e
 | _,_,0,_,.cons r _,e=>by simp at e;subst e;exact ⟨_,rfl,r⟩
 | _,_,i+1,d,.cons _ t,e=>by
  obtain ⟨v,h1,h2⟩:=Ay.get (i:=i) (d:=d) t (by simpa using e);exact ⟨v,by simpa using h1,h2⟩
theorem Ay.get':∀ {ds:List D} {vs:List V} {i:Nat} {v:V},Ay K ρ H ds vs->vs[i]?=some v->∃d,ds[i]?=some d/\By K ρ H d v
 | _,_,_,_,.nil,e=>by simp at e
 | _,_,0,_,.cons r _,e=>by simp at e;subst e;exact ⟨_,rfl,r⟩
 | _,_,i+1,d,.cons _ t,e=>by
  obtain ⟨v,h1,h2⟩:=Ay.get' (i:=i) (v:=d) t (by simpa using e);exact ⟨v,by simpa using h1,h2⟩
theorem Ay.append:∀ {ds es:List D} {vs us:List V},Ay K ρ H ds vs->Ay K ρ H es us->Ay K ρ H (ds++es) (vs++us)
 | _,_,_,_,.nil,s=>s
 | _,_,_,_,.cons r t,s=>.cons r (Ay.append t s)
theorem Ay.take:∀ {ds:List D} {vs:List V} (n:Nat),Ay K ρ H ds vs->Ay K ρ H (ds.take n) (vs.take n)
 | _,_,0,_=>.nil
 | _,_,_+1,.nil=>.nil
 | _,_,n+1,.cons r t=>.cons r (Ay.take n t)
theorem Ay.drop:∀ {ds:List D} {vs:List V} (n:Nat),Ay K ρ H ds vs->Ay K ρ H (ds.drop n) (vs.drop n)
 | _,_,0,r=>r
 | _,_,_+1,.nil=>.nil
 | _,_,n+1,.cons _ t=>Ay.drop n t
theorem Ay.reverse {ds:List D} {vs:List V} (h:Ay K ρ H ds vs):Ay K ρ H ds.reverse vs.reverse:=by
 induction ds generalizing vs with
 | nil=>cases h;exact .nil
 | cons d ds ih=>
  cases h with
  | cons r t=>rw [ZT,ZT];exact (ih t).append (.cons r .nil)
theorem Ay.of_ints:∀(ns:List Int),Ay K ρ H (ns.map D.int) (ns.map V.int)
 | []=>.nil
 | n :: ns=>.cons (.int n) (Ay.of_ints ns)
theorem Ay.ints:∀ {ns:List Int} {vs:List V},Ay K ρ H (ns.map D.int) vs->vs=ns.map V.int
 | [],_,.nil=>rfl
 | n :: ns,_,.cons r t=>by
  cases r;rw [Ay.ints (ns:=ns) t];rfl
end
inductive Ob where
 | lst (ds:List D)
 | dK (kvs:List (Key×D))
 | dT (kvs:List (List Key×D))
 | ins (C:AM) (fs:List (Str×D))
abbrev Sto:=List Ob
abbrev KVR {κ:Type} (K:AB) (ρ:List AM) (H:Hp):List (κ×D)->List (κ×V)->Prop:=HX λ(p:κ×D) (q:κ×V)=>p.1=q.1/\By K ρ H p.2 q.2
def FN (K:AB) (ρ:List AM) (H:Hp) (a:AM):Ob->Prop
 | .lst ds=>∃vs,H a=some (.lst vs)/\Ay K ρ H ds vs
 | .dK kvs=>∃kvs',H a=some (.dK kvs')/\KVR K ρ H kvs kvs'
 | .dT kvs=>∃kvs',H a=some (.dT kvs')/\KVR K ρ H kvs kvs'
 | .ins C fs=>∃dx fs',H a=some (.ins C dx fs')/\KVR K ρ H fs fs'
structure CI (K:AB) (ρ:List AM) (S:Sto) (H:Hp):Prop where
 len:ρ.length=S.length
 nd:∀(i j:Nat) a,ρ[i]?=some a->ρ[j]?=some a->i=j
 ob:∀(n:Nat) o a,S[n]?=some o->ρ[n]?=some a->FN K ρ H a o
section
variable {K:AB} {ρ ρ':List AM} {H H':Hp} {S:Sto} {a p:AM} {o:Ob} {n:Nat} {ho:HO}
theorem KVR.mono {κ:Type} (l:Le K ρ H ρ' H') {x:List (κ×D)} {y:List (κ×V)} (h:KVR K ρ H x y):KVR K ρ' H' x y:=HX.mapP h λ_ _ z=>⟨z.1,z.2.mono l⟩
theorem FN.mut (h:FN K ρ H a o):Mut (H a):=by
 cases o with
 | lst ds=>obtain ⟨_,e,_⟩:=h;rw [e];trivial
 | dK ds=>obtain ⟨_,e,_⟩:=h;rw [e];trivial
 | dT ds=>obtain ⟨_,e,_⟩:=h;rw [e];trivial
 | ins C fs=>obtain ⟨_,_,e,_⟩:=h;rw [e];trivial
theorem FN.mono (l:Le K ρ H ρ' H') (e:H' a=H a) (h:FN K ρ H a o):FN K ρ' H' a o:=by
 cases o with
 | lst ds=>obtain ⟨vs,h1,h2⟩:=h;exact ⟨vs,e.trans h1,h2.mono l⟩
 | dK ds=>obtain ⟨vs,h1,h2⟩:=h;exact ⟨vs,e.trans h1,h2.mono l⟩
 | dT ds=>obtain ⟨vs,h1,h2⟩:=h;exact ⟨vs,e.trans h1,h2.mono l⟩
 | ins C fs=>obtain ⟨dx,vs,h1,h2⟩:=h;exact ⟨dx,vs,e.trans h1,h2.mono l⟩
theorem FN.keep (h1:∀a xs,H a=some (.tup xs)->H' a=some (.tup xs)) (h2:∀a o u,H a=some (.frz o u)->H' a=some (.frz o u)) (e:H' a=H a) (h:FN K ρ H a o):FN K ρ H' a o:=by
 cases o with
 | lst ds=>obtain ⟨vs,q1,q2⟩:=h;exact ⟨vs,e.trans q1,q2.keep h1 h2⟩
 | dK ds=>obtain ⟨vs,q1,q2⟩:=h;exact ⟨vs,e.trans q1,HX.mapP q2 λ_ _ z=>⟨z.1,z.2.keep h1 h2⟩⟩
 | dT ds=>obtain ⟨vs,q1,q2⟩:=h;exact ⟨vs,e.trans q1,HX.mapP q2 λ_ _ z=>⟨z.1,z.2.keep h1 h2⟩⟩
 | ins C fs=>obtain ⟨dx,vs,q1,q2⟩:=h;exact ⟨dx,vs,e.trans q1,HX.mapP q2 λ_ _ z=>⟨z.1,z.2.keep h1 h2⟩⟩
theorem FN.mono' (l:∀(n:Nat) a,ρ[n]?=some a->ρ'[n]?=some a) (h:FN K ρ H a o):FN K ρ' H a o:=by
 cases o with
 | lst ds=>obtain ⟨vs,h1,h2⟩:=h;exact ⟨vs,h1,h2.more l⟩
 | dK ds=>obtain ⟨vs,h1,h2⟩:=h;exact ⟨vs,h1,HX.mapP h2 λ_ _ z=>⟨z.1,z.2.more l⟩⟩
 | dT ds=>obtain ⟨vs,h1,h2⟩:=h;exact ⟨vs,h1,HX.mapP h2 λ_ _ z=>⟨z.1,z.2.more l⟩⟩
 | ins C fs=>obtain ⟨dx,vs,h1,h2⟩:=h;exact ⟨dx,vs,h1,HX.mapP h2 λ_ _ z=>⟨z.1,z.2.more l⟩⟩
theorem Gb (hp:H p=none∨Mut (H p)):(∀a xs,H a=some (.tup xs)->upd H p ho a=some (.tup xs))/\∀a o u,H a=some (.frz o u)->upd H p ho a=some (.frz o u):=by
 have ne:∀a u,H a=some u->¬Mut (some u)->a≠p:=λa u e nm z=>by
  subst z
  rcases hp with h | h
  ·rw [e] at h;cases h
  ·rw [e] at h;exact nm h
 refine ⟨λa xs e=>?_,λa o u e=>?_⟩
 ·rw [Bv (ne a _ e λz=>z)];exact e
 ·rw [Bv (ne a _ e λz=>z)];exact e
theorem Le.fresh (hp:H p=none):Le K ρ H ρ (upd H p ho):=
 ⟨λ_ _ h=>h,(Gb (.inl hp)).1,(Gb (.inl hp)).2,λa o e n=>⟨by rw [Bv (CN e hp)];exact e,n⟩⟩
theorem Le.write (hn:ρ[n]?=some p) (hm:Mut (H p)):Le K ρ H ρ (upd H p ho):=
 ⟨λ_ _ h=>h,(Gb (.inr hm)).1,(Gb (.inr hm)).2,λa o e h=>⟨by rw [Bv λz=>h n (by rw [z];exact hn)];exact e,h⟩⟩
theorem IT {α:Type} {l:List α} {x:α} {m:Nat} {a:α} (e:(l++[x])[m]?=some a):(l[m]?=some a/\m < l.length)∨(m=l.length/\a=x):=by
 by_cases hm:m < l.length
 ·rw [Ak hm] at e;exact .inl ⟨e,hm⟩
 ·rw [BB (by lia)] at e
  have:m - l.length=0:=by
   have:=(AH.mp e).1;simp at this;omega
  rw [this] at e;exact .inr ⟨by lia,by simpa using e.symm⟩
theorem Le.alloc (hp:H p=none):Le K ρ H (ρ++[p]) (upd H p ho):=by
 refine ⟨λn a h=>by rw [Ak (AH.mp h).1];exact h,(Gb (.inl hp)).1,(Gb (.inl hp)).2,λa o e h=>⟨by rw [Bv (CN e hp)];exact e,λn q=>?_⟩⟩
 rcases IT q with ⟨q,_⟩ | ⟨_,q⟩
 ·exact h n q
 ·exact CN e hp q
theorem CI.there (h:CI K ρ S H) {m:Nat} (e:ρ[m]?=some a):∃o,S[m]?=some o/\FN K ρ H a o:=by
 have hn:m < S.length:=by rw [<-h.len];exact (AH.mp e).1
 exact ⟨S[m],by simp [hn],h.ob m _ a (by simp [hn]) e⟩
theorem CI.notIn (h:CI K ρ S H) (hp:H p=none) {m:Nat} (e:ρ[m]?=some p):False:=by
 obtain ⟨o,_,r⟩:=h.there e;have:=r.mut;rw [hp] at this;exact this
theorem CI.alloc (h:CI K ρ S H) (hp:H p=none) (hob:FN K (ρ++[p]) (upd H p ho) p o):CI K (ρ++[p]) (S++[o]) (upd H p ho)/\Le K ρ H (ρ++[p]) (upd H p ho)/\(ρ++[p])[S.length]?=some p:=by
 have le:Le K ρ H (ρ++[p]) (upd H p ho):=Le.alloc hp
 have at':∀(m:Nat) a,(ρ++[p])[m]?=some a->(ρ[m]?=some a/\m < ρ.length)∨(m=ρ.length/\a=p):=λm a e=>IT e
 refine ⟨⟨by simp [h.len],λi j a hi hj=>?_,λm ob a hm ha=>?_⟩,le,by rw [<-h.len];simp⟩
 ·rcases at' i a hi with ⟨hi1,_⟩ | ⟨hi1,ea⟩ <;> rcases at' j a hj with ⟨hj1,_⟩ | ⟨hj1,ea'⟩
  ·exact h.nd i j a hi1 hj1
  ·rw [ea'] at hi1;exact (h.notIn hp hi1).elim
  ·rw [ea] at hj1;exact (h.notIn hp hj1).elim
  ·lia
 ·rcases at' m a ha with ⟨ha1,hlt⟩ | ⟨rfl,rfl⟩
  ·rw [Ak (by rw [<-h.len];exact hlt)] at hm
   refine (h.ob m ob a hm ha1).mono le (Bv λz=>?_);rw [z] at ha1;exact h.notIn hp ha1
  ·rw [h.len] at hm
   simp at hm;subst hm;exact hob
theorem CI.write (h:CI K ρ S H) (hn:ρ[n]?=some a) (hob:FN K ρ (upd H a ho) a o):CI K ρ (S.set n o) (upd H a ho)/\Le K ρ H ρ (upd H a ho):=by
 obtain ⟨o',e',r'⟩:=h.there hn;have le:Le K ρ H ρ (upd H a ho):=Le.write hn r'.mut;refine ⟨⟨by simp [h.len],h.nd,λm ob b hm hb=>?_⟩,le⟩
 by_cases e:m=n
 ·subst e
  rw [hn] at hb;cases hb;rw [A6 (by rw [<-h.len];exact (AH.mp hn).1)] at hm;cases hm;exact hob
 ·rw [At (Bo e)] at hm
  refine (h.ob m ob b hm hb).mono le (Bv λz=>?_);subst z;exact e (h.nd m n b hb hn)
theorem Le.back {S':Sto} (l:Le K ρ H ρ' H') (s:CI K ρ S H) (s':CI K ρ' S' H') (hp:H' p=none):H p=none:=by
 cases q:H p with
 | none=>rfl
 | some o=>
  by_cases hn:∃n:Nat,ρ[n]?=some p
  ·obtain ⟨n,hn⟩:=hn
   exact (s'.notIn hp (l.pre n p hn)).elim
  ·have:=(l.oth p o q λn h=>hn ⟨n,h⟩).1
   rw [hp] at this;cases this
theorem CI.adopt (h:CI K ρ S H) (hn:∀m:Nat,ρ[m]?≠some p) (hob:FN K (ρ++[p]) H p o):CI K (ρ++[p]) (S++[o]) H/\(ρ++[p])[S.length]?=some p:=by
 have le:∀a ob,FN K ρ H a ob->FN K (ρ++[p]) H a ob:=λa ob r=>by
  have l0:∀(n:Nat) a,ρ[n]?=some a->(ρ++[p])[n]?=some a:=λn a h=>by rw [Ak (AH.mp h).1];exact h
  exact r.mono' l0
 refine ⟨⟨by simp [h.len],λi j a hi hj=>?_,λm ob a hm ha=>?_⟩,by rw [<-h.len];simp⟩
 ·rcases IT hi with ⟨hi1,_⟩ | ⟨hi1,ea⟩ <;> rcases IT hj with ⟨hj1,_⟩ | ⟨hj1,ea'⟩
  ·exact h.nd i j a hi1 hj1
  ·rw [ea'] at hi1;exact (hn i hi1).elim
  ·rw [ea] at hj1;exact (hn j hj1).elim
  ·lia
 ·rcases IT ha with ⟨ha,hlt⟩ | ⟨rfl,rfl⟩
  ·rw [Ak (by rw [<-h.len];exact hlt)] at hm
   exact le a ob (h.ob m ob a hm ha)
  ·rw [h.len] at hm
   simp at hm;subst hm;exact hob
end
end L2
namespace L2
open PySem PySem.Spec PyProof.Rows
inductive Res (α:Type) where
 | ok (a:α) (S:Sto) | err (c:AM) (S:Sto) | bad
def Res.bind {α β:Type} (r:Res α) (f:α->Sto->Res β):Res β:=match r with
 | .ok a S=>f a S
 | .err c S=>.err c S
 | .bad=>.bad
abbrev Lo:=List (Option D)
abbrev ME:=Lo->Sto->Res D
abbrev MT:=Lo->Sto->Res Bool
abbrev ML:=Lo->Sto->Res (List D)
inductive Fl where
 | nx (e:Lo) | rt (d:D) | bk (e:Lo) | ct (e:Lo) | ex (c:AM) (e:Lo)
abbrev MS:=Lo->Sto->Res Fl
abbrev MG:=D->Lo->Sto->Res Lo
abbrev JJ:=Sto->Option (List D)
abbrev MI:=Lo->Sto->Res JJ
structure GD (K:AB) (ρ:List AM) (H:Hp) (e:Lo) (σ:St):Prop where
 len:e.length=σ.length
 at':∀(i:Nat) d,e[i]?=some (some d)->∃v,σ[i]?=some (some v)/\By K ρ H d v
section
variable {K:AB} {ρ ρ':List AM} {H H':Hp} {S:Sto} {e:Lo} {σ:St}
theorem GD.mono (l:Le K ρ H ρ' H') (h:GD K ρ H e σ):GD K ρ' H' e σ:=⟨h.len,λi d q=>by
 obtain ⟨v,h1,h2⟩:=h.at' i d q
 exact ⟨v,h1,h2.mono l⟩⟩
theorem GD.set {d:D} {v:V} (h:GD K ρ H e σ) (r:By K ρ H d v) (i:Nat):GD K ρ H (e.set i (some d)) (σ.set i (some v)):=by
 refine ⟨by simp [h.len],λj d' q=>?_⟩
 by_cases hj:i=j
 ·subst hj
  have hi:i < e.length:=by
   have:=(AH.mp q).1;simpa using this
  rw [A6 hi] at q;cases q;exact ⟨v,by rw [A6 (by rw [<-h.len];exact hi)],r⟩
 ·rw [At hj] at q ⊢
  exact h.at' j d' q
end
abbrev EW:=AM->St->Hp->Prop
abbrev EH:=AM->Hp->Prop
abbrev noE:EW:=λ_ _ _=>False
abbrev noH:EH:=λ_ _=>False
def CM {α:Type} (K:AB) (E:EH) (ρ:List AM) (H:Hp) (r:Res α) (k:α->Sto->Prop):Prop:=match r with
 | .ok a S=>k a S
 | .err c S=>∀ρ' H',Le K ρ H ρ' H'->CI K ρ' S H'->E c H'
 | .bad=>False
section
variable {α β:Type} {K:AB} {E:EH} {ρ ρ1:List AM} {H H1:Hp}
theorem CM.seq {r:Res α} {F:α->Sto->Res β} {k:β->Sto->Prop} {k':α->Sto->Prop} (h:CM K E ρ H (r.bind F) k) (f:∀a S,CM K E ρ H (F a S) k->k' a S):CM K E ρ H r k':=by
 cases r with
 | ok a S=>exact f a S h
 | err c S=>exact h
 | bad=>exact h
theorem CM.later {r:Res α} {k:α->Sto->Prop} (h:CM K E ρ H r k) (l:Le K ρ H ρ1 H1):CM K E ρ1 H1 r k:=by
 cases r with
 | ok a S=>exact h
 | err c S=>exact λρ' H' l'=>h ρ' H' (l.trans l')
 | bad=>exact h
theorem CM.imp {r:Res α} {k k':α->Sto->Prop} (h:CM K E ρ H r k) (f:∀a S,k a S->k' a S):CM K E ρ H r k':=by
 cases r with
 | ok a S=>exact f a S h
 | err c S=>exact h
 | bad=>exact h
theorem CM.go {r:Res α} {k k':α->Sto->Prop} (h:CM K E ρ H r k) (l:Le K ρ H ρ1 H1) (f:∀a S,k a S->k' a S):CM K E ρ1 H1 r k':=(h.later l).imp f
end
def okR {α:Type}:Res α->Res α
 | .ok a S=>.ok a S
 | _=>.bad
theorem CM.okR {α:Type} {K:AB} {E:EH} {ρ:List AM} {H:Hp} {r:Res α} {k:α->Sto->Prop} (h:CM K E ρ H (L2.okR r) k):∃a S,r=.ok a S/\k a S:=by
 cases r with
 | ok a S=>exact ⟨a,S,rfl,h⟩
 | err c S=>exact h.elim
 | bad=>exact h.elim
section
variable (K:AB) (E:EW)
def gE (m:ME):TE:=λσ H Q=>∃ρ e S,GD K ρ H e σ/\CI K ρ S H/\CM K (λc=>E c σ) ρ H (m e S) λd S'=>∀ρ' H' x,Le K ρ H ρ' H'->CI K ρ' S' H'->By K ρ' H' d x->Q x H'
def gT (m:MT):TT:=λσ H Q=>∃ρ e S,GD K ρ H e σ/\CI K ρ S H/\CM K (λc=>E c σ) ρ H (m e S) λb S'=>∀ρ' H',Le K ρ H ρ' H'->CI K ρ' S' H'->Q b H'
def gA (m:ML):TA:=λσ H Q=>∃ρ e S,GD K ρ H e σ/\CI K ρ S H/\CM K (λc=>E c σ) ρ H (m e S) λds S'=>∀ρ' H' xs,Le K ρ H ρ' H'->CI K ρ' S' H'->Ay K ρ' H' ds xs->Q xs H'
def gL (m:ML):TE:=λσ H Q=>∃ρ e S,GD K ρ H e σ/\CI K ρ S H/\CM K (λc=>E c σ) ρ H (m e S) λds S'=>∀ρ' H' p xs,Le K ρ H ρ' H'->CI K ρ' S' H'->Ay K ρ' H' ds xs->H' p=some (.lst xs)->(∀n:Nat,ρ'[n]?≠some p)->H p=none->Q (.ref p) H'
def gQ (m:ML):TE:=λσ H Q=>∃ρ e S,GD K ρ H e σ/\CI K ρ S H/\CM K (λc=>E c σ) ρ H (m e S) λds S'=>∀ρ' H' p xs,Le K ρ H ρ' H'->CI K ρ' S' H'->Ay K ρ' H' ds xs->(SqL K H' p xs∨SqT K H' p xs)->Q (.ref p) H'
def S9 (K:AB) (E:EW) (ρ:List AM) (H:Hp) (S':Sto) (D:Wm):Fl->Prop
 | .ex c e'=>∀ρ' H' σ',Le K ρ H ρ' H'->CI K ρ' S' H'->GD K ρ' H' e' σ'->E c σ' H'
 | .nx e'=>∀ρ' H' σ',Le K ρ H ρ' H'->CI K ρ' S' H'->GD K ρ' H' e' σ'->D.nx σ' H'
 | .bk e'=>∀ρ' H' σ',Le K ρ H ρ' H'->CI K ρ' S' H'->GD K ρ' H' e' σ'->D.bk σ' H'
 | .ct e'=>∀ρ' H' σ',Le K ρ H ρ' H'->CI K ρ' S' H'->GD K ρ' H' e' σ'->D.ct σ' H'
 | .rt d=>∀ρ' H' x,Le K ρ H ρ' H'->CI K ρ' S' H'->By K ρ' H' d x->D.rt x H'
def gS (m:MS):TS:=λD σ H=>∃ρ e S,GD K ρ H e σ/\CI K ρ S H/\CM K noH ρ H (m e S) λfl S'=>S9 K E ρ H S' D fl
def gG (m:MG):TG:=λv σ H Q=>∃ρ e S d,By K ρ H d v/\GD K ρ H e σ/\CI K ρ S H/\CM K noH ρ H (m d e S) λe' S'=>∀ρ' H' σ',Le K ρ H ρ' H'->CI K ρ' S' H'->GD K ρ' H' e' σ'->Q σ' H'
def LU (ρ0:List AM) (H0:Hp) (J:It) (v:JJ):Prop:=∀ρ H S ds (i:Nat),Le K ρ0 H0 ρ H->CI K ρ S H->v S=some ds ->
 (ds[i]?=none->J.stop i H)/\∀d,ds[i]?=some d->J.go i H/\∀x H',J.yld i H x H'->∃ρ',Le K ρ H ρ' H'/\CI K ρ' S H'/\By K ρ' H' d x
def gI (m:MI):TI:=λσ H R=>∃ρ e S,GD K ρ H e σ/\CI K ρ S H/\CM K (λc=>E c σ) ρ H (m e S) λv S'=>∀ρ' H' J,Le K ρ H ρ' H'->CI K ρ' S' H'->LU K ρ' H' J v->R J H'
end
abbrev GE (X:Cx) (E:EW) (e:Expr) (m:ME):Prop:=PE X e (gE X.K E m)
abbrev GT (X:Cx) (E:EW) (e:Expr) (m:MT):Prop:=PT X e (gT X.K E m)
abbrev GA (X:Cx) (E:EW) (es:List Expr) (m:ML):Prop:=PA X es (gA X.K E m)
abbrev GL (X:Cx) (E:EW) (e:Expr) (m:ML):Prop:=PE X e (gL X.K E m)
abbrev GQ (X:Cx) (E:EW) (e:Expr) (m:ML):Prop:=PE X e (gQ X.K E m)
abbrev GS (X:Cx) (E:EW) (s:C1) (m:MS):Prop:=PS X s (gS X.K E m)
abbrev GSs (X:Cx) (E:EW) (s:List C1) (m:MS):Prop:=PSs X s (gS X.K E m)
abbrev GG (X:Cx) (t:Expr) (m:MG):Prop:=PG X t (gG X.K m)
abbrev GI (X:Cx) (E:EW) (tg t:Expr) (m:MI):Prop:=PI X tg t (gI X.K E m)
theorem PE.imp {X:Cx} {e:Expr} {t t':TE} (h:PE X e t) (i:∀σ H Q,t' σ H Q->t σ H Q):PE X e t':=λpins s σ H Q I q=>h pins s σ H Q I (i σ H Q q)
theorem PT.imp {X:Cx} {e:Expr} {t t':TT} (h:PT X e t) (i:∀σ H Q,t' σ H Q->t σ H Q):PT X e t':=λpins s σ H Q I q=>h pins s σ H Q I (i σ H Q q)
theorem PW.imp {X:Cx} {e:Expr} {t t':TT} (h:PW X e t) (i:∀σ H Q,t' σ H Q->t σ H Q):PW X e t':=λwh pins s σ H Q I q=>h wh pins s σ H Q I (i σ H Q q)
theorem PA.imp {X:Cx} {e:List Expr} {t t':TA} (h:PA X e t) (i:∀σ H Q,t' σ H Q->t σ H Q):PA X e t':=λpos pins s σ H Q I q=>h pos pins s σ H Q I (i σ H Q q)
theorem PS.imp {X:Cx} {e:C1} {t t':TS} (h:PS X e t) (i:∀D σ H,t' D σ H->t D σ H):PS X e t':=λpins s σ H D I q=>h pins s σ H D I (i D σ H q)
theorem PSs.imp {X:Cx} {e:List C1} {t t':TS} (h:PSs X e t) (i:∀D σ H,t' D σ H->t D σ H):PSs X e t':=λpins s σ H D I q=>h pins s σ H D I (i D σ H q)
theorem PG.imp {X:Cx} {e:Expr} {t t':TG} (h:PG X e t) (i:∀v σ H Q,t' v σ H Q->t v σ H Q):PG X e t':=λpins s σ H v u Q I r q=>h pins s σ H v u Q I r (i v σ H Q q)
theorem PI.imp {X:Cx} {tg e:Expr} {t t':TI} (h:PI X tg e t) (i:∀σ H R,t' σ H R->t σ H R):PI X tg e t':=λpins s σ H R I q=>h pins s σ H R I (i σ H R q)
theorem OpR.imp {X:Cx} {f:AD->AD->Sem AD} {r r':R2} (h:OpR X f r) (i:∀x y H Q,r' x y H Q->r x y H Q):OpR X f r':=λpins s σ H x y v u Q I rx ry q=>h pins s σ H x y v u Q I rx ry (i x y H Q q)
theorem IxR.imp {X:Cx} {r r':R2} (h:IxR X r) (i:∀x y H Q,r' x y H Q->r x y H Q):IxR X r':=λva sl pins s σ H x y v u Q I rx ry q=>h va sl pins s σ H x y v u Q I rx ry (i x y H Q q)
def AG (i:Nat):ME:=λe S=>match e[i]? with
 | some (some d)=>.ok d S
 | _=>.bad
def mC (d:D):ME:=λ_ S=>.ok d S
section
variable {X:Cx} {E:EW} {e a b:Expr} {pos:Pos} {ma mb:ME}
theorem AC {i:Nat} (h:PE X e (iQ i)):GE X E e (AG i):=h.imp λσ H Q ⟨ρ,l,S,hl,hs,hm⟩=>by
 unfold AG at hm;split at hm
 ·rename_i d' hd
  obtain ⟨v,h1,h2⟩:=hl.at' i _ hd;exact ⟨v,h1,hm ρ H v .refl hs h2⟩
 ·exact hm.elim
theorem bY {v:V} {d:D} (h:PE X e (tC v)) (hd:∀ρ H,By X.K ρ H d v):GE X E e (mC d):=h.imp λσ H Q ⟨ρ,l,S,hl,hs,hm⟩=>by
 exact hm ρ H v .refl hs (hd _ _)
theorem ge_int {i j pos}:GE X E (.Constant (.int i) j pos) (mC (.int i)):=bY aP λ_ _=>.int i
theorem IV {b j pos}:GE X E (.Constant (.bool b) j pos) (mC (.bl b)):=bY lz λ_ _=>.bl b
theorem JF {j pos}:GE X E (.Constant .none j pos) (mC .non):=bY jC λ_ _=>.non
theorem WR {x j pos}:GE X E (.Constant (.str x) j pos) (mC (.str x)):=bY i9 λ_ _=>.str x
theorem bX {x:Str} {i:Int} {tk:Tok} {pos:Pos} (hg:Gl X x) (hm:X.mg x=some (.int i tk)) (hd:(x==("__debug__" : Str))=false:=by decide):GE X E (.Name x pos) (mC (.int i)):=
 bY (d8 (v:=.int i) hg hm ⟨tk,rfl⟩ hd) λ_ _=>.int i
def m2 (f:D->D->Sto->Res D) (ma mb:ME):ME:=λe S=>(ma e S).bind λx S1=>(mb e S1).bind λy S2=>okR (f x y S2)
def rD (K:AB) (f:D->D->Sto->Res D):R2:=λu v H Q=>∃ρ S x y d S',CI K ρ S H/\By K ρ H x u/\By K ρ H y v/\f x y S=.ok d S' /\
 ∀ρ' H' z,Le K ρ H ρ' H'->CI K ρ' S' H'->By K ρ' H' d z->Q z H'
theorem MA {K:AB} {f:D->D->Sto->Res D} {σ:St} {H:Hp} {Q:VK} (h:gE K E (m2 f ma mb) σ H Q):tOp (rD K f) (gE K E ma) (gE K E mb) σ H Q:=by
 obtain ⟨ρ,l,S,hl,hs,hm⟩:=h;refine ⟨ρ,l,S,hl,hs,hm.seq λx S1 hm ρ1 H1 u l1 s1 r1=>⟨ρ1,l,S1,hl.mono l1,s1,(hm.later l1).seq λy S2 hm ρ2 H2 v l2 s2 r2=>?_⟩⟩;obtain ⟨d,S',e,k⟩:=hm.okR;exact ⟨ρ2,S2,x,y,d,S',s2,r1.mono l2,r2,e,λρ' H' z l' s' r'=>k ρ' H' z (l1.trans (l2.trans l')) s' r'⟩
theorem BV {op:Qk} {f:D->D->Sto->Res D} (ho:OpR X (Cr op) (rD X.K f)) (ha:GE X E a ma) (hb:GE X E b mb):GE X E (.BinOp a op b pos) (m2 f ma mb):=(lw ho ha hb).imp λ_ _ _ h=>MA h
theorem MY {op:Qo} {f:D->D->Sto->Res D} (ho:OpR X (Bk op) (rD X.K f)) (ha:GE X E a ma) (hb:GE X E b mb) (hm:B2 op b=false):GE X E (.Compare a [op] [b] pos) (m2 f ma mb):=(eD ho ha hb hm).imp λ_ _ _ h=>MA h
theorem m9 {f:D->D->Sto->Res D} (ho:IxR X (rD X.K f)) (ha:GE X E a ma) (hb:GE X E b mb) (hs:TZ b:=by intro _ _;rfl):GE X E (.Subscript a b pos) (m2 f ma mb):=(ly ho ha hb hs).imp λ_ _ _ h=>MA h
def mB (m:ME):MT:=λe S=>(m e S).bind λd S1=>match d with
 | .bl b=>.ok b S1
 | _=>.bad
def XX (d:D) (S:Sto):Option Bool:=match d with
 | .non=>some false
 | .bl b=>some b
 | .int i=>some (i != 0)
 | .tup ds=>some (!ds.isEmpty)
 | .fro ds=>some (!ds.isEmpty)
 | .ref n=>match S[n]? with
  | some (.lst ds)=>some (!ds.isEmpty)
  | some (.dK kvs)=>some (!kvs.isEmpty)
  | _=>none
 | _=>none
def HU (m:ME):MT:=λe S=>(m e S).bind λd S1=>match XX d S1 with
 | some b=>.ok b S1
 | none=>.bad
theorem Ay.empty {K:AB} {ρ:List AM} {H:Hp} {ds:List D} {vs:List V} (h:Ay K ρ H ds vs):ds.isEmpty=vs.isEmpty:=by cases h <;> rfl
theorem KVR.empty {κ:Type} {K:AB} {ρ:List AM} {H:Hp} {x:List (κ×D)} {y:List (κ×V)} (h:KVR K ρ H x y):x.isEmpty=y.isEmpty:=by cases h <;> rfl
theorem dH {K:AB} {ρ:List AM} {H:Hp} {S:Sto} {d:D} {x:V} {b:Bool} (hs:CI K ρ S H) (r:By K ρ H d x) (h:XX d S=some b):kJ K x H b:=by
 cases r with
 | non=>cases h;rfl
 | bl c=>cases h;rfl
 | int i=>cases h;rfl
 | str x=>cases h
 | tup h1 h2=>cases h;rw [h2.empty];exact .inr (.inl ⟨_,.inl (.inl h1),rfl⟩)
 | fro h1 h2=>cases h;rw [h2.empty];exact .inl ⟨_,h1.sq,rfl⟩
 | exc _ _=>cases h
 | @ref n a hn=>
  obtain ⟨o,ho,ro⟩:=hs.there hn;unfold XX at h;simp only [ho] at h
  cases o with
  | lst ds=>cases h;obtain ⟨vs,e,rr⟩:=ro;rw [rr.empty];exact .inl ⟨_,.inl (.inl e),rfl⟩
  | dK kvs=>cases h;obtain ⟨vs,e,rr⟩:=ro;rw [KVR.empty rr];exact .inr (.inr ⟨_,e,rfl⟩)
  | dT kvs=>cases h
  | ins C fs=>cases h
theorem bS (h:GE X E e ma) (he:∀whole,VN e X.env whole=(do let v <-whole;kT e.pos;ZP [v] (gj v)):=by intro _;rfl):GT X E e (mB ma):=(iq h he).imp λσ H Q ⟨ρ,l,S,hl,hs,hm⟩=>by
 refine ⟨ρ,l,S,hl,hs,hm.seq λd S1 hm ρ1 H1 x l1 s1 r1=>?_⟩
 cases d <;> first | exact hm.elim | skip
 cases r1;exact ⟨_,rfl,hm ρ1 H1 l1 s1⟩
theorem FZ (h:GE X E e ma) (he:∀whole,VN e X.env whole=(do let v <-whole;kT e.pos;ZP [v] (gj v)):=by intro _;rfl):GT X E e (HU ma):=(aF h he).imp λσ H Q ⟨ρ,l,S,hl,hs,hm⟩=>by
 refine ⟨ρ,l,S,hl,hs,hm.seq λd S1 hm ρ1 H1 x l1 s1 r1=>?_⟩
 cases hb:XX d S1 with
 | none=>rw [hb] at hm;exact hm.elim
 | some c=>
  rw [hb] at hm;exact ⟨c,dH s1 r1 hb,hm ρ1 H1 l1 s1⟩
theorem Do {op:Qo} {f:D->D->Sto->Res D} (ho:OpR X (Bk op) (rD X.K f)) (ha:GE X E a ma) (hb:GE X E b mb) (hm:B2 op b=false):GT X E (.Compare a [op] [b] pos) (mB (m2 f ma mb)):=(di ho ha hb hm).imp λσ H Q ⟨ρ,l,S,hl,hs,hm⟩=>by
 refine MA (Q:=λx H'=>∃k,x=.bl k/\Q k H') ⟨ρ,l,S,hl,hs,hm.seq λd S1 hm ρ1 H1 x l1 s1 r1=>?_⟩
 cases d <;> first | exact hm.elim | skip
 cases r1;exact ⟨_,rfl,hm ρ1 H1 l1 s1⟩
def MU (m:MT):MT:=λe S=>(m e S).bind λb S1=>.ok (!b) S1
def Nr (ma mb:MT):MT:=λe S=>(ma e S).bind λb S1=>if b=true then mb e S1 else .ok false S1
def mOr (ma mb:MT):MT:=λe S=>(ma e S).bind λb S1=>if b=true then .ok true S1 else mb e S1
variable {ta tb:MT} {rest:List Expr}
theorem LD (h:GT X E a ta):GT X E (.UnaryOp .Not a pos) (MU ta):=(ir h).imp λσ H Q ⟨ρ,l,S,hl,hs,hm⟩=>by
 exact ⟨ρ,l,S,hl,hs,hm.seq λd S1 hm ρ1 H1 l1 s1=>hm ρ1 H1 l1 s1⟩
theorem dL {K:AB} {σ:St} {H:Hp} {Q:Bool->Hp->Prop} (h:gT K E (Nr ta tb) σ H Q):lf (gT K E ta) (gT K E tb) σ H Q:=by
 obtain ⟨ρ,l,S,hl,hs,hm⟩:=h;refine ⟨ρ,l,S,hl,hs,hm.seq λc S1 hm ρ1 H1 l1 s1=>?_⟩
 cases c with
 | true=>rw [if_pos rfl] at hm ⊢;exact ⟨ρ1,l,S1,hl.mono l1,s1,hm.go l1 λ_ _ k ρ2 H2 l2 s2=>k ρ2 H2 (l1.trans l2) s2⟩
 | false=>rw [if_neg AQ] at hm ⊢;exact hm ρ1 H1 l1 s1
theorem iR {K:AB} {σ:St} {H:Hp} {Q:Bool->Hp->Prop} (h:gT K E (mOr ta tb) σ H Q):tOr (gT K E ta) (gT K E tb) σ H Q:=by
 obtain ⟨ρ,l,S,hl,hs,hm⟩:=h;refine ⟨ρ,l,S,hl,hs,hm.seq λc S1 hm ρ1 H1 l1 s1=>?_⟩
 cases c with
 | false=>rw [if_neg AQ] at hm ⊢;exact ⟨ρ1,l,S1,hl.mono l1,s1,hm.go l1 λ_ _ k ρ2 H2 l2 s2=>k ρ2 H2 (l1.trans l2) s2⟩
 | true=>rw [if_pos rfl] at hm ⊢;exact hm ρ1 H1 l1 s1
abbrev GW (X:Cx) (E:EW) (e:Expr) (m:MT):Prop:=PW X e (gT X.K E m)
theorem O3 (ha:GT X E a ta):GW X E (.BoolOp .And [a] pos) ta:=df ha
theorem WN (ha:GT X E a ta):GW X E (.BoolOp .Or [a] pos) ta:=io ha
theorem S6 (ha:GT X E a ta) (hb:GW X E (.BoolOp .And (b :: rest) pos) tb):GW X E (.BoolOp .And (a :: b :: rest) pos) (Nr ta tb):=(ip ha hb).imp λ_ _ _ h=>dL h
theorem Xf (ha:GT X E a ta) (hb:GW X E (.BoolOp .Or (b :: rest) pos) tb):GW X E (.BoolOp .Or (a :: b :: rest) pos) (mOr ta tb):=(lr ha hb).imp λ_ _ _ h=>iR h
theorem WO {t:MT} (h:GW X E e t):GT X E e t:=PW.pt h
def Rh (ma mb:ME):ME:=λe S=>(ma e S).bind λd S1=>match d with
 | .bl true=>mb e S1
 | .bl false=>.ok (.bl false) S1
 | _=>.bad
def aw (ma mb:ME):ME:=λe S=>(ma e S).bind λd S1=>match d with
 | .bl true=>.ok (.bl true) S1
 | .bl false=>mb e S1
 | _=>.bad
def Ud (ma:ME):ME:=λe S=>(ma e S).bind λd S1=>match d with
 | .bl c=>.ok (.bl (!c)) S1
 | _=>.bad
theorem WS {op} (h:GE X E a ma):GE X E (.BoolOp op [a] pos) ma:=jA h
theorem bZ (ha:GE X E a ma) (hb:GE X E (.BoolOp .And (b :: rest) pos) mb):GE X E (.BoolOp .And (a :: b :: rest) pos) (Rh ma mb):=(jF ha hb).imp λσ H Q ⟨ρ,l,S,hl,hs,hm⟩=>by
 refine ⟨ρ,l,S,hl,hs,hm.seq λc S1 hm ρ1 H1 x l1 s1 r1=>?_⟩
 cases c with
 | bl c=>
  cases r1;refine ⟨c,rfl,?_⟩
  cases c with
  | true=>rw [if_pos rfl];exact ⟨ρ1,l,S1,hl.mono l1,s1,hm.go l1 λ_ _ k ρ2 H2 z l2 s2 r2=>k ρ2 H2 z (l1.trans l2) s2 r2⟩
  | false=>rw [if_neg AQ];exact hm ρ1 H1 _ l1 s1 (.bl false)
 | _=>exact hm.elim
theorem m8 (ha:GE X E a ma) (hb:GE X E (.BoolOp .Or (b :: rest) pos) mb):GE X E (.BoolOp .Or (a :: b :: rest) pos) (aw ma mb):=(lv ha hb).imp λσ H Q ⟨ρ,l,S,hl,hs,hm⟩=>by
 refine ⟨ρ,l,S,hl,hs,hm.seq λc S1 hm ρ1 H1 x l1 s1 r1=>?_⟩
 cases c with
 | bl c=>
  cases r1;refine ⟨c,rfl,?_⟩
  cases c with
  | false=>rw [if_neg AQ];exact ⟨ρ1,l,S1,hl.mono l1,s1,hm.go l1 λ_ _ k ρ2 H2 z l2 s2 r2=>k ρ2 H2 z (l1.trans l2) s2 r2⟩
  | true=>rw [if_pos rfl];exact hm ρ1 H1 _ l1 s1 (.bl true)
 | _=>exact hm.elim
theorem bV (ha:GE X E a ma):GE X E (.UnaryOp .Not a pos) (Ud ma):=(jB ha).imp λσ H Q ⟨ρ,l,S,hl,hs,hm⟩=>by
 refine ⟨ρ,l,S,hl,hs,hm.seq λc S1 hm ρ1 H1 x l1 s1 r1=>?_⟩
 cases c with
 | bl c=>cases r1;exact ⟨c,rfl,hm ρ1 H1 _ l1 s1 (.bl _)⟩
 | _=>exact hm.elim
def ax (t:MT) (ma mb:ME):ME:=λe S=>(t e S).bind λb S1=>if b=true then ma e S1 else mb e S1
theorem bW {c:Expr} (hc:GT X E c ta) (ha:GE X E a ma) (hb:GE X E b mb):GE X E (.IfExp c a b pos) (ax ta ma mb):=(aQ hc ha hb).imp λσ H Q ⟨ρ,l,S,hl,hs,hm⟩=>by
 refine ⟨ρ,l,S,hl,hs,hm.seq λc S1 hm ρ1 H1 l1 s1=>?_⟩
 cases c with
 | true=>rw [if_pos rfl] at hm ⊢;exact ⟨ρ1,l,S1,hl.mono l1,s1,hm.go l1 λ_ _ k ρ2 H2 z l2 s2 r2=>k ρ2 H2 z (l1.trans l2) s2 r2⟩
 | false=>rw [if_neg AQ] at hm ⊢;exact ⟨ρ1,l,S1,hl.mono l1,s1,hm.go l1 λ_ _ k ρ2 H2 z l2 s2 r2=>k ρ2 H2 z (l1.trans l2) s2 r2⟩
def m3 (f g:D->D->Sto->Res D) (ma mb mc:ME):ME:=λe S=>(ma e S).bind λx S1=>(mb e S1).bind λy S2=>(okR (f x y S2)).bind λz S3=>match z with
 | .bl true=>(mc e S3).bind λw S4=>okR (g y w S4)
 | .bl false=>.ok (.bl false) S3
 | _=>.bad
def BH:ML:=λ_ S=>.ok [] S
def AR (m:ME) (r:ML):ML:=λe S=>(m e S).bind λd S1=>(r e S1).bind λds S2=>.ok (d :: ds) S2
variable {es:List Expr} {ml:ML}
theorem Aq:GA X E [] BH:=Hd.imp λσ H Q ⟨ρ,l,S,hl,hs,hm⟩=>by
 exact hm ρ H [] .refl hs .nil
theorem AK (ha:GE X E e ma) (hr:GA X E es ml) (hs:Ab (e :: es) X.env=(false,CS e X.env) :: Ab es X.env:=by rfl):GA X E (e :: es) (AR ma ml):=(FI ha hr hs).imp λσ H Q ⟨ρ,l,S,hl,hs,hm⟩=>by
 exact ⟨ρ,l,S,hl,hs,hm.seq λd S1 hm ρ1 H1 x l1 s1 r1=>⟨ρ1,l,S1,hl.mono l1,s1,(hm.later l1).seq λds' S2 hm ρ2 H2 xs l2 s2 r2=>hm ρ2 H2 (x :: xs) (l1.trans l2) s2 (.cons (r1.mono l2) r2)⟩⟩
def Gp (m:ML):ME:=λe S=>(m e S).bind λds S1=>if ds.length<=sizeLine then .ok (.tup ds) S1 else .bad
theorem GK {K:AB} {ρ:List AM} {H:Hp} {S:Sto} {p:AM} {ho:HO} (hs:CI K ρ S H) (hp:H p=none):CI K ρ S (upd H p ho)/\Le K ρ H ρ (upd H p ho):=by
 have le:Le K ρ H ρ (upd H p ho):=Le.fresh hp;refine ⟨⟨hs.len,hs.nd,λn o a h1 h2=>(hs.ob n o a h1 h2).mono le (Bv λz=>?_)⟩,le⟩;subst z;exact hs.notIn hp h2
theorem EY {x1} (h:GA X E es ml):GE X E (.Tuple es x1 pos) (Gp ml):=(i8 h).imp λσ H Q ⟨ρ,l,S,hl,hs,hm⟩=>by
 refine ⟨ρ,l,S,hl,hs,hm.seq λds S1 hm ρ1 H1 xs l1 s1 r1=>?_⟩;split at hm
 ·rename_i hz
  refine ⟨by rw [<-r1.length];exact hz,λp hp=>?_⟩;obtain ⟨s2,l2⟩:=GK (ho:=.tup xs) s1 hp;exact hm ρ1 _ _ (l1.trans l2) s2 (.tup Bw (r1.mono l2))
 ·exact hm.elim
def Dm (m:ML):ML:=λe S=>(m e S).bind λds S1=>if ds.length<=sizeLine then .ok ds S1 else .bad
theorem E4 (h:GA X E es ml):GL X E (.List es pos) (Dm ml):=(jD h).imp λσ H Q ⟨ρ,l,S,hl,hs,hm⟩=>by
 refine ⟨ρ,l,S,hl,hs,hm.seq λds S1 hm ρ1 H1 xs l1 s1 r1=>?_⟩;split at hm
 ·rename_i hz
  refine ⟨by rw [<-r1.length];exact hz,λp hp=>?_⟩;obtain ⟨s2,l2⟩:=GK (ho:=.lst xs) s1 hp;exact hm ρ1 _ p xs (l1.trans l2) s2 (r1.mono l2) Bw (λn q=>s1.notIn hp q) (l1.back hs s1 hp)
 ·exact hm.elim
def Da (m:ML):ME:=λe S=>(m e S).bind λds S1=>.ok (.ref S1.length) (S1++[.lst ds])
theorem CY (h:GL X E e ml):GE X E e (Da ml):=PE.imp h λσ H Q ⟨ρ,l,S,hl,hs,hm⟩=>by
 refine ⟨ρ,l,S,hl,hs,hm.seq λds S1 hm ρ1 H1 p xs l1 s1 r1 hp hn hp0=>?_⟩
 have l0:∀(n:Nat) a,ρ1[n]?=some a->(ρ1++[p])[n]?=some a:=λn a h=>by rw [Ak (AH.mp h).1];exact h
 obtain ⟨s2,at2⟩:=s1.adopt (o:=.lst ds) hn ⟨xs,hp,r1.more l0⟩;refine hm _ _ _ ⟨λn a h=>l0 n a (l1.pre n a h),l1.tup,l1.frz,λa o e h=>⟨(l1.oth a o e h).1,λn q=>?_⟩⟩ s2 (.ref at2)
 rcases IT q with ⟨q,_⟩ | ⟨_,q⟩
 ·exact (l1.oth a o e h).2 n q
 ·exact CN e hp0 q
def G1 (d:D) (S:Sto):Option (List D):=match d with
 | .tup ds=>some ds
 | .fro ds=>some ds
 | .ref n=>match S[n]? with
  | some (.lst ds)=>some ds
  | _=>none
 | _=>none
def MR (m:ME):ML:=λe S=>(m e S).bind λd S1=>match G1 d S1 with
 | some ds=>.ok ds S1
 | none=>.bad
theorem Ow {K:AB} {ρ:List AM} {H:Hp} {S:Sto} {d:D} {x:V} {ds:List D} (hs:CI K ρ S H) (r:By K ρ H d x) (h:G1 d S=some ds):∃p xs,x=.ref p/\Ay K ρ H ds xs/\(SqL K H p xs∨SqT K H p xs):=by
 cases r with
 | tup h1 h2=>cases h;exact ⟨_,_,rfl,h2,.inr (.inl (.inl h1))⟩
 | fro h1 h2=>cases h;exact ⟨_,_,rfl,h2,.inl h1.sq⟩
 | @ref n a hn=>
  obtain ⟨o,ho,ro⟩:=hs.there hn;unfold G1 at h;simp only [ho] at h
  cases o with
  | lst es=>cases h;obtain ⟨vs,e,rr⟩:=ro;exact ⟨_,_,rfl,rr,.inl (.inl (.inl e))⟩
  | _=>cases h
 | _=>cases h
theorem Uj (h:GE X E e ma):GQ X E e (MR ma):=PE.imp h λσ H Q ⟨ρ,l,S,hl,hs,hm⟩=>by
 refine ⟨ρ,l,S,hl,hs,hm.seq λx S1 hm ρ1 H1 v l1 s1 r1=>?_⟩
 cases hq:G1 x S1 with
 | none=>rw [hq] at hm;exact hm.elim
 | some ds=>
  rw [hq] at hm;obtain ⟨p,xs,rfl,r2,sq⟩:=Ow s1 r1 hq;exact hm ρ1 H1 p xs l1 s1 r2 sq
end
def Res.lift {α:Type} (r:Res α) (e:Lo) (f:α->Sto->Res Fl):Res Fl:=match r with
 | .ok a S=>f a S
 | .err c S=>.ok (.ex c e) S
 | .bad=>.bad
theorem CM.lift {α:Type} {K:AB} {E:EW} {ρ ρ1:List AM} {H H1:Hp} {σ:St} {e:Lo} {D:Wm} {r:Res α} {F:α->Sto->Res Fl} {k':α->Sto->Prop} (h:CM K noH ρ1 H1 (r.lift e F) λfl S'=>S9 K E ρ H S' D fl) (hl:GD K ρ1 H1 e σ) (l:Le K ρ H ρ1 H1)
  (f:∀a S,(CM K noH ρ1 H1 (F a S) λfl S'=>S9 K E ρ H S' D fl)->k' a S):CM K (λc=>E c σ) ρ1 H1 r k':=by
 cases r with
 | ok a S=>exact f a S h
 | err c S=>exact λρ' H' l' s'=>h ρ' H' σ (l.trans l') s' (hl.mono l')
 | bad=>exact h
def sNx:MS:=λe S=>.ok (.nx e) S
def Qz:MS:=λ_ _=>.bad
def BN (a b:MS):MS:=λe S=>(a e S).bind λf S1=>match f with
 | .nx e1=>b e1 S1
 | f=>.ok f S1
def GP (m:ME):MS:=λe S=>(m e S).lift e λ_ S1=>.ok (.nx e) S1
def Ct (m:ME):MS:=λe S=>(m e S).lift e λd S1=>.ok (.rt d) S1
def sIf (t:MT) (a b:MS):MS:=λe S=>(t e S).lift e λc S1=>if c=true then a e S1 else b e S1
def lh (m:ME) (g:MG):MS:=λe S=>(m e S).lift e λd S1=>(g d e S1).bind λe1 S2=>.ok (.nx e1) S2
def tgN (i:Nat):MG:=λd e S=>.ok (e.set i (some d)) S
def CP (i:Nat) (m:ME):MS:=lh m (tgN i)
section
variable {X:Cx} {E:EW} {st:C1} {rest:List C1} {e:Expr} {pos:Pos} {a b:MS} {m:ME} {t:MT}
theorem S9.later {K:AB} {ρ ρ1:List AM} {H H1:Hp} {S:Sto} {D:Wm} {f:Fl} (l:Le K ρ H ρ1 H1) (h:S9 K E ρ H S D f):S9 K E ρ1 H1 S D f:=by
 cases f with
 | nx e=>exact λρ' H' σ' l'=>h ρ' H' σ' (l.trans l')
 | bk e=>exact λρ' H' σ' l'=>h ρ' H' σ' (l.trans l')
 | ct e=>exact λρ' H' σ' l'=>h ρ' H' σ' (l.trans l')
 | ex c e=>exact λρ' H' σ' l'=>h ρ' H' σ' (l.trans l')
 | rt d=>exact λρ' H' x l'=>h ρ' H' x (l.trans l')
theorem B5:GSs X E [] sNx:=dk.imp λD σ H ⟨ρ,l,S,hl,hs,hm⟩=>by
 exact hm ρ H σ .refl hs hl
theorem AX (h1:GS X E st a) (h2:GSs X E rest b):GSs X E (st :: rest) (BN a b):=(aI h1 h2).imp λD σ H ⟨ρ,l,S,hl,hs,hm⟩=>by
 refine ⟨ρ,l,S,hl,hs,hm.seq λg S1 hm=>?_⟩
 cases g with
 | nx e'=>exact λρ1 H1 σ1 l1 s1 r1=>⟨ρ1,e',S1,r1,s1,hm.go l1 λ_ _ k=>k.later l1⟩
 | rt d=>exact hm
 | bk d=>exact hm
 | ct d=>exact hm
 | ex c d=>exact hm
theorem Aj (h1:GS X E st a):GSs X E [st] a:=dj h1
theorem Jc:GS X E st Qz:=(aJ (X:=X) (st:=st)).imp λD σ H ⟨ρ,l,S,hl,hs,hm⟩=>hm.elim
theorem HI (he:GE X E e m) (hs:GB e none pos.line X.env=pure false:=by rfl):GS X E (.Expr e pos) (GP m):=(dm he hs).imp λD σ H ⟨ρ,l,S,hl,hs,hm⟩=>by
 exact ⟨ρ,l,S,hl,hs,hm.lift hl .refl λd S1 hm ρ1 H1 x l1 s1 r1=>hm ρ1 H1 σ l1 s1 (hl.mono l1)⟩
theorem Bd (he:GE X E e m):GS X E (.Return (some e) pos) (Ct m):=(iw he).imp λD σ H ⟨ρ,l,S,hl,hs,hm⟩=>by
 exact ⟨ρ,l,S,hl,hs,hm.lift hl .refl λd S1 hm ρ1 H1 x l1 s1 r1=>hm ρ1 H1 x l1 s1 r1⟩
theorem Dk {c:Expr} {sa sb:List C1} (hc:GT X E c t) (ha:GSs X E sa a) (hb:GSs X E sb b):GS X E (.If c sa sb pos) (sIf t a b):=(ls hc ha hb).imp λD σ H ⟨ρ,l,S,hl,hs,hm⟩=>by
 refine ⟨ρ,l,S,hl,hs,hm.lift hl .refl λc S1 hm ρ1 H1 l1 s1=>?_⟩
 cases c with
 | true=>rw [if_pos rfl] at hm ⊢;exact ⟨ρ1,l,S1,hl.mono l1,s1,hm.go l1 λ_ _ k=>k.later l1⟩
 | false=>rw [if_neg AQ] at hm ⊢;exact ⟨ρ1,l,S1,hl.mono l1,s1,hm.go l1 λ_ _ k=>k.later l1⟩
theorem fA {i:Nat} {tg:Expr} (h:PG X tg (Xj i)):GG X tg (tgN i):=h.imp λv σ H Q ⟨ρ,l,S,d,hd,hl,hs,hm⟩=>by
 exact hm ρ H _ .refl hs (hl.set hd i)
theorem jq {i:Nat} {x:Str} {pos':Pos} (hN:X.N.Nodup) (hi:X.N[i]?=some x) (hx:Loc X.env.scope x) (he:GE X E e m) (hs:GB e (some (.Name x pos')) pos.line X.env=pure false:=by rfl)
  (hf:X.fn x=true∨X.env.scope.names.lookup x=some .local:=by first | exact .inl rfl | exact .inr rfl | assumption):GS X E (.Assign [.Name x pos'] e pos) (CP i m):=(iu hN hi hx he hs hf).imp λD σ H ⟨ρ,l,S,hl,hs,hm⟩=>by
 exact ⟨ρ,l,S,hl,hs,hm.lift hl .refl λd S1 hm ρ1 H1 x l1 s1 r1=>hm ρ1 H1 _ l1 s1 ((hl.mono l1).set r1 i)⟩
def Kd (v:JJ) (g:MG) (b:MS):Nat->Nat->Lo->Sto->Res Fl
 | k,i,e,S=>match v S with
  | none=>.bad
  | some ds=>match ds[i]? with
   | none=>.ok (.nx e) S
   | some d=>match k with
    | 0=>.bad
    | k+1=>(g d e S).bind λe1 S1=>(b e1 S1).bind λf S2=>match f with
     | .nx e2=>Kd v g b k (i+1) e2 S2
     | .ct e2=>Kd v g b k (i+1) e2 S2
     | .bk e2=>.ok (.nx e2) S2
     | .rt d=>.ok (.rt d) S2
     | .ex c e2=>.ok (.ex c e2) S2
def De (v:JJ) (S:Sto):Nat:=match v S with
 | none=>0
 | some ds=>ds.length
def GN (m:MI) (g:MG) (b:MS):MS:=λe S=>(m e S).lift e λv S1=>Kd v g b (De v S1) 0 e S1
theorem DU {tg iter:Expr} {body:List C1} {mi:MI} {g:MG} (hp:kz (AZ X.prog X.w) X.A X.env X.xe) (hc:X.calm=true) (hi:GI X E tg iter mi) (hg:GG X tg g) (hb:GSs X E body b)
  (hs:∀x,FS iter X.env x=pure x:=by intro _;rfl):GS X E (.For tg iter body [] pos) (GN mi g b):=(iy hp hc hi hg hb hs).imp λD σ H ⟨ρ,l,S,hl,hs,hm⟩=>by
 refine ⟨ρ,l,S,hl,hs,hm.lift hl .refl λv S1 hm ρ1 H1 J l1 s1 vo=>?_⟩;refine ⟨λi n σ2 H2=>∃ρ2 e2 S2,Le X.K ρ1 H1 ρ2 H2/\GD X.K ρ2 H2 e2 σ2/\CI X.K ρ2 S2 H2/\CM X.K noH ρ2 H2 (Kd v g b n i e2 S2) λfl S'=>S9 X.K E ρ H S' D fl,⟨De v S1,ρ1,l,S1,.refl,hl.mono l1,s1,hm.later l1⟩,?_⟩;rintro i n σ2 H2 ⟨ρ2,e2,S2,l2,r2,s2,hm2⟩;unfold Kd at hm2
 cases hv:v S2 with
 | none=>rw [hv] at hm2;exact hm2.elim
 | some ds=>
  rw [hv] at hm2;dsimp only at hm2;obtain ⟨v1,v2⟩:=vo ρ2 H2 S2 ds i l2 s2 hv
  cases hd:ds[i]? with
  | none=>
   rw [hd] at hm2;exact .inl ⟨v1 hd,hm2 ρ2 H2 σ2 (l1.trans l2) s2 r2⟩
  | some d=>
   rw [hd] at hm2;dsimp only at hm2;obtain ⟨go,yl⟩:=v2 d hd
   cases n with
   | zero=>exact hm2.elim
   | succ n=>
    dsimp only at hm2;refine .inr ⟨go,λσ' H'=>∃ρ2 e2 S2,Le X.K ρ1 H1 ρ2 H'/\GD X.K ρ2 H' e2 σ'/\CI X.K ρ2 S2 H'/\CM X.K noH ρ2 H' (Kd v g b n (i+1) e2 S2) λfl S'=>S9 X.K E ρ H S' D fl,λσ' H' q=>⟨n,ER n,q⟩,λx H' y=>?_⟩;obtain ⟨ρ3,l3,s3,rd⟩:=yl x H' y;refine ⟨ρ3,e2,S2,d,rd,r2.mono l3,s3,(hm2.later l3).seq λe3 S3 hm2 ρ4 H4 σ4 l4 s4 r4=>?_⟩;refine ⟨ρ4,e3,S3,r4,s4,(hm2.later l4).seq λf4 S4 hm2=>?_⟩
    cases f4 with
    | nx e5=>exact λρ5 H5 σ5 l5 s5 r5=>⟨ρ5,e5,S4,l2.trans (l3.trans (l4.trans l5)),r5,s5,hm2.later l5⟩
    | ct e5=>exact λρ5 H5 σ5 l5 s5 r5=>⟨ρ5,e5,S4,l2.trans (l3.trans (l4.trans l5)),r5,s5,hm2.later l5⟩
    | bk e5=>exact λρ5 H5 σ5 l5 s5 r5=>hm2 ρ5 H5 σ5 (l1.trans (l2.trans (l3.trans (l4.trans l5)))) s5 r5
    | ex c e5=>exact λρ5 H5 σ5 l5 s5 r5=>hm2 ρ5 H5 σ5 (l1.trans (l2.trans (l3.trans (l4.trans l5)))) s5 r5
    | rt d5=>exact λρ5 H5 x5 l5 s5 r5=>hm2 ρ5 H5 x5 (l1.trans (l2.trans (l3.trans (l4.trans l5)))) s5 r5
end
end L2
namespace L2
open PySem PySem.Spec PyProof.Rows
section
variable {X:Cx} {E:EW} {tg e:Expr} {m:ME} {ml:ML} {K:AB}
def OG (d:D):JJ:=λS=>match d with
 | .ref n=>match S[n]? with
  | some (.lst ds)=>some ds
  | _=>none
 | .fro ds=>some ds
 | _=>none
def Gr (ds:List D):JJ:=λ_=>some ds
def mn (m:ME):MI:=λe S=>(m e S).bind λd S1=>match OG d S1 with
 | some _=>.ok (OG d) S1
 | none=>.bad
def ga (m:ME):MI:=λe S=>(m e S).bind λd S1=>match d with
 | .tup ds=>.ok (Gr ds) S1
 | _=>.bad
theorem PY {ρ:List AM} {H:Hp} {S:Sto} {a:AM} {d:D} {ds:List D} (s:CI K ρ S H) (r:By K ρ H d (.ref a)) (hv:OG d S=some ds):∃xs,SqL K H a xs/\Ay K ρ H ds xs:=by
 cases r with
 | tup h1 h2=>cases hv
 | exc _ _=>cases hv
 | fro h1 h2=>cases hv;exact ⟨_,h1.sq,h2⟩
 | @ref n _ hn=>
  obtain ⟨o,ho,ro⟩:=s.there hn;unfold OG at hv;simp only [ho] at hv
  cases o with
  | lst es=>
   cases hv;obtain ⟨vs,e,rr⟩:=ro;exact ⟨vs,.inl (.inl e),rr⟩
  | _=>cases hv
theorem PX {ρ:List AM} {H:Hp} {a:AM} {d:D} (r:By K ρ H d (.ref a)):LU K ρ H (Itl K a) (OG d):=by
 intro ρ2 H2 S ds i l s hv;obtain ⟨xs,sq,rr⟩:=PY s (r.mono l) hv;refine ⟨λhn=>⟨xs,sq,by rw [<-rr.length];exact CO.mp hn⟩,λd hd=>?_⟩;obtain ⟨x,hx,rx⟩:=rr.get hd;refine ⟨⟨xs,x,sq,hx⟩,λy H' ⟨e,hy⟩=>?_⟩;subst e;have:=hy xs sq;rw [hx] at this;cases this;exact ⟨ρ2,.refl,s,rx⟩
theorem jv (h:GE X E e m):GI X E tg e (mn m):=(dv h).imp λσ H R ⟨ρ,l,S,hl,hs,hm⟩=>by
 refine ⟨ρ,l,S,hl,hs,hm.seq λd S1 hm ρ1 H1 x l1 s1 r1=>?_⟩
 cases hv:OG d S1 with
 | none=>rw [hv] at hm;exact hm.elim
 | some ds=>
  rw [hv] at hm
  have:∃a,x=.ref a:=by
   cases r1 <;> first | exact ⟨_,rfl⟩ | (cases hv;done)
  obtain ⟨a,rfl⟩:=this;obtain ⟨xs,sq,_⟩:=PY s1 r1 hv;exact ⟨a,rfl,⟨xs,sq⟩,hm ρ1 H1 _ l1 s1 (PX r1)⟩
theorem PU {ρ:List AM} {H:Hp} {a:AM} {ds:List D} {xs:List V} (h1:H a=some (.tup xs)) (h2:Ay K ρ H ds xs):LU K ρ H (Itt K a) (Gr ds):=by
 intro ρ2 H2 S ds' i l s hv;cases hv;have rr:=h2.mono l;have sq:SqT K H2 a xs:=.inl (.inl (l.tup _ _ h1));refine ⟨λhn=>⟨xs,sq,by rw [<-rr.length];exact CO.mp hn⟩,λd hd=>?_⟩;obtain ⟨x,hx,rx⟩:=rr.get hd;refine ⟨⟨xs,x,sq,hx⟩,λy H' ⟨e,hy⟩=>?_⟩;subst e;have:=hy xs sq;rw [hx] at this;cases this;exact ⟨ρ2,.refl,s,rx⟩
theorem jt (h:GE X E e m):GI X E tg e (ga m):=(i4 h).imp λσ H R ⟨ρ,l,S,hl,hs,hm⟩=>by
 refine ⟨ρ,l,S,hl,hs,hm.seq λd S1 hm ρ1 H1 x l1 s1 r1=>?_⟩
 cases d <;> first | exact hm.elim | skip
 cases r1 with
 | tup q1 q2=>exact ⟨_,rfl,⟨_,.inl (.inl q1)⟩,hm ρ1 H1 _ l1 s1 (PU q1 q2)⟩
def IN (lo:Int) (n:Nat):List D:=(Cw n).map λi:Nat=>D.int (lo+i)
theorem RX (lo:Int) (n i:Nat):(IN lo n)[i]?=if i < n then some (.int (lo+i)) else none:=by
 unfold IN;rw [As]
 by_cases h:i < n
 ·rw [DV h,if_pos h];rfl
 ·rw [if_neg h,CO.mpr (by simpa using h)];rfl
theorem PV {ρ:List AM} {H:Hp} (lo:Int) (n:Nat):LU K ρ H (Itr lo n) (Gr (IN lo n)):=by
 intro ρ2 H2 S ds' i l s hv;cases hv;rw [RX];refine ⟨λhn=>?_,λd hd=>?_⟩
 ·split at hn
  ·cases hn
  ·rename_i h;exact PL h
 ·split at hd
  ·rename_i h
   cases hd;refine ⟨h,λy H' ⟨e,hy⟩=>?_⟩;subst e;subst hy;exact ⟨ρ2,.refl,s,.int _⟩
  ·cases hd
def iR1 (ml:ML):MI:=λe S=>(ml e S).bind λds S1=>match ds with
 | [.int j]=>if -(2 ^ 62)<=j/\j < 2 ^ 62 then .ok (Gr (IN 0 j.toNat)) S1 else .bad
 | _=>.bad
def iR2 (ml:ML):MI:=λe S=>(ml e S).bind λds S1=>match ds with
 | [.int i,.int j]=>if -(2 ^ 62)<=i/\i < 2 ^ 62/\-(2 ^ 62)<=j/\j < 2 ^ 62 then .ok (Gr (IN i (j - i).toNat)) S1 else .bad
 | _=>.bad
theorem G7 {a:Expr} {p pos:Pos} (hg:Gl X "range") (hm:X.mg "range" = none) (ha:GA X E [a] ml) (hs:Ab [a] X.env=[(false,CS a X.env)]:=by rfl):GI X E tg (.Call (.Name "range" p) [a] [] pos) (iR1 ml):=(Yh hg hm ha hs).imp λσ H R ⟨ρ,l,S,hl,hs,hm⟩=>by
 refine ⟨ρ,l,S,hl,hs,hm.seq λds S1 hm ρ1 H1 xs l1 s1 r1=>?_⟩;split at hm
 ·rename_i j
  split at hm
  ·rename_i hj
   cases r1 with
   | cons r t=>
    cases t;cases r;exact ⟨j,rfl,hj.1,hj.2,hm ρ1 H1 _ l1 s1 (PV 0 j.toNat)⟩
  ·exact hm.elim
 ·exact hm.elim
theorem Lh {a b:Expr} {p pos:Pos} (hg:Gl X "range") (hm:X.mg "range" = none) (ha:GA X E [a,b] ml) (hs:Ab [a,b] X.env=[(false,CS a X.env),(false,CS b X.env)]:=by rfl) (hs2:Ab [b] X.env=[(false,CS b X.env)]:=by rfl) :
  GI X E tg (.Call (.Name "range" p) [a,b] [] pos) (iR2 ml):=(Yg hg hm ha hs hs2).imp λσ H R ⟨ρ,l,S,hl,hs,hm⟩=>by
 refine ⟨ρ,l,S,hl,hs,hm.seq λds S1 hm ρ1 H1 xs l1 s1 r1=>?_⟩;split at hm
 ·rename_i i j
  split at hm
  ·rename_i hj
   cases r1 with
   | cons r t=>
    cases t with
    | cons r' t=>
     cases t;cases r;cases r';exact ⟨i,j,rfl,hj,hm ρ1 H1 _ l1 s1 (PV i _)⟩
  ·exact hm.elim
 ·exact hm.elim
end
def Kt:List D->Lo->Sto->Res Lo
 | [],e,S=>.ok e S
 | _,_,_=>.bad
def D1 (g:MG) (r:List D->Lo->Sto->Res Lo):List D->Lo->Sto->Res Lo
 | d :: ds,e,S=>(g d e S).bind λe1 S1=>r ds e1 S1
 | [],_,_=>.bad
def KW (n:Nat) (r:List D->Lo->Sto->Res Lo):MG:=λd e S=>match d with
 | .tup ds=>if ds.length=n then r ds e S else .bad
 | _=>.bad
section
variable {X:Cx} {E:EW} {pos:Pos}
def gGs (K:AB) (r:List D->Lo->Sto->Res Lo):TGs:=λvs σ H Q=>∃ρ e S ds,Ay K ρ H ds vs/\GD K ρ H e σ/\CI K ρ S H/\CM K noH ρ H (r ds e S) λe' S'=>∀ρ' H' σ',Le K ρ H ρ' H'->CI K ρ' S' H'->GD K ρ' H' e' σ'->Q σ' H'
abbrev GGs (X:Cx) (ts:List Expr) (r:List D->Lo->Sto->Res Lo):Prop:=PGs X ts (gGs X.K r)
theorem PGs.imp {X:Cx} {ts:List Expr} {t t':TGs} (h:PGs X ts t) (i:∀vs σ H Q,t' vs σ H Q->t vs σ H Q):PGs X ts t':=λpins s σ H vs us Q I r q=>h pins s σ H vs us Q I r (i vs σ H Q q)
theorem NE:GGs X [] Kt:=dy.imp λvs σ H Q ⟨ρ,l,S,ds,hd,hl,hs,hm⟩=>by
 cases ds with
 | nil=>cases hd;exact ⟨rfl,hm ρ H σ .refl hs hl⟩
 | cons d ds=>exact hm.elim
theorem Fa {e:Expr} {es:List Expr} {g:MG} {r:List D->Lo->Sto->Res Lo} (h1:GG X e g) (h2:GGs X es r)
  (hs:(Gw (e :: es) X.env).map (·.2)=VU e X.env :: (Gw es X.env).map (·.2):=by rfl):GGs X (e :: es) (D1 g r):=(aO h1 h2 hs).imp λvs σ H Q ⟨ρ,l,S,ds,hd,hl,hs,hm⟩=>by
 cases ds with
 | nil=>exact hm.elim
 | cons d ds=>
  cases hd with
  | cons q1 q2=>
   exact ⟨_,_,rfl,ρ,l,S,d,q1,hl,hs,hm.seq λe1 S1 hm ρ1 H1 σ1 l1 s1 r1=>⟨ρ1,e1,S1,ds,q2.mono l1,r1,s1,hm.go l1 λ_ _ k ρ2 H2 σ2 l2 s2 r2=>k ρ2 H2 σ2 (l1.trans l2) s2 r2⟩⟩
theorem QH {es:List Expr} {k:Nat} {r:List D->Lo->Sto->Res Lo} {n:Nat} (hc:X.calm=true) (h:GGs X es r)
  (hn:(Gw es X.env).length=n:=by rfl) (hst:(Gw es X.env).findIdx? (·.1)=none:=by rfl):GG X (.Tuple es k pos) (KW n r):=(i6 hc h hn hst).imp λv σ H Q ⟨ρ,l,S,d,hd,hl,hs,hm⟩=>by
 cases d <;> first | exact hm.elim | skip
 rename_i ds
 cases hd with
 | tup q1 q2=>
  unfold KW at hm;dsimp only at hm;split at hm
  ·rename_i hlen
   exact ⟨_,_,rfl,.inl (.inl q1),by rw [<-q2.length];exact hlen,ρ,l,S,ds,q2,hl,hs,hm⟩
  ·exact hm.elim
end
def spM (K:AB) (n:Nat) (f:List D->Sto->Res D):Sp:=λvs H Q E=>∃ρ ds S,ds.length=n/\Ay K ρ H ds vs/\CI K ρ S H/\CM K (λc H'=>E (.ref c) none H') ρ H (f ds S) λd S'=>
 ∀ρ' H' x,Le K ρ H ρ' H'->CI K ρ' S' H'->By K ρ' H' d x->Q x H'
theorem spM.len {K:AB} {n:Nat} {f:List D->Sto->Res D} {vs:List V} {H:Hp} {Q:VK} {E:XK} (h:spM K n f vs H Q E):vs.length=n:=by
 obtain ⟨ρ,ds,S,h1,h2,_⟩:=h;rw [<-h2.length];exact h1
def B7 (n:Nat) (f:List D->Sto->Res D) (m:ML):ME:=λe S=>(m e S).bind λds S1=>if ds.length=n then f ds S1 else .bad
def Rg (C:AM) (n:Nat) (f:List D->Sto->Res D) (m:ML):ME:=λe S=>(m e S).bind λds S1=>if ds.length+1=n then (f (.ref S1.length :: ds) (S1++[.ins C []])).bind (λd S2=>match d with
  | .non=>.ok (.ref S1.length) S2
  | _=>.bad) else .bad
def YF (E:EW) (σ:St):XK:=λv o H=>o=none/\∃c,v=.ref c/\E c σ H
section
variable {X:Cx} {E:EW} {CX:CXT} {k n:Nat} {f C:AM} {fd:Df} {ps:List Str} {x:Str} {p pos:Pos} {e:Expr} {es:List Expr} {ml:ML} {g:List D->Sto->Res D}
theorem CM.xk {α:Type} {K:AB} {σ:St} {ρ ρ1:List AM} {H H1:Hp} {r:Res α} {k k':α->Sto->Prop} (h:CM K (λc=>E c σ) ρ H r k) (l:Le K ρ H ρ1 H1) (f:∀a S,k a S->k' a S):CM K (λc H'=>YF E σ (.ref c) none H') ρ1 H1 r k':=by
 cases r with
 | ok a S=>exact f a S h
 | err c S=>exact λρ' H' l' s=>⟨rfl,c,rfl,h ρ' H' (l.trans l') s⟩
 | bad=>exact h
theorem BP (F:Dq X.prog X.w X.K X.mg X.base CX k f fd ps (spM X.K n g)) (hx:Ma CX X (YF E)) (hr:Hj k X.A) (hg:Gl X x) (hm:X.mg x=some (.ref f)) (hk:GH X.K (.ref f)=true) (hb:Binds X.K fd ps [])
  (ha:GA X E (e :: es) ml) (hdb:(x==("__debug__" : Str))=false:=by decide) (he:Ab (e :: es) X.env=(false,CS e X.env) :: Ab es X.env:=by rfl) (hpl:(Dz pos (Ab es X.env)).any (·.1)=false:=by rfl) :
  GE X E (.Call (.Name x p) (e :: es) [] pos) (B7 n g ml):=(eE (E:=YF E) F hr hg hm hk hb .nil hx ha hdb he hpl).imp λσ H Q ⟨ρ,l,S,hl,hs,hm⟩=>by
 refine ⟨ρ,l,S,hl,hs,hm.seq λds S1 hm ρ1 H1 xs l1 s1 r1=>?_⟩;split at hm
 ·rename_i hlen
  rw [BK];exact ⟨ρ1,ds,S1,hlen,r1,s1,hm.xk l1 λ_ _ k ρ' H' z l' s' r'=>k ρ' H' z (l1.trans l') s' r'⟩
 ·exact hm.elim
theorem fE (M:Mk X.K C f) (F:Dq X.prog X.w X.K X.mg X.base CX k f fd ps (spM X.K n g)) (hx:Ma CX X (YF E)) (hr:Hj (k+1) X.A) (hg:Gl X x) (hm:X.mg x=some (.ref C)) (hb:Binds X.K fd ps [])
  (ha:GA X E (e :: es) ml) (hdb:(x==("__debug__" : Str))=false:=by decide) (he:Ab (e :: es) X.env=(false,CS e X.env) :: Ab es X.env:=by rfl) (hpl:(Dz pos (Ab es X.env)).any (·.1)=false:=by rfl) :
  GE X E (.Call (.Name x p) (e :: es) [] pos) (Rg C n g ml):=(d7 (E:=YF E) M F hr hg hm hb .nil hx ha hdb he hpl).imp λσ H Q ⟨ρ,l,S,hl,hs,hm⟩=>by
 refine ⟨ρ,l,S,hl,hs,hm.seq λds S1 hm ρ1 H1 xs l1 s1 r1 a dx ha hdx hne=>?_⟩;split at hm
 ·rename_i hlen
  rw [BK];obtain ⟨s2,l2⟩:=GK (ho:=.own a) s1 hdx
  have ha2:upd H1 dx (.own a) a=none:=by rw [Bv (Bo hne)];exact ha
  obtain ⟨s3,l3,at3⟩:=s2.alloc (p:=a) (ho:=.ins C dx []) (o:=.ins C []) ha2 ⟨dx,[],Bw,.nil⟩;refine ⟨ρ1++[a],.ref S1.length :: ds,S1++[.ins C []],by simpa using hlen,.cons (.ref at3) (r1.mono (l2.trans l3)),s3,CM.xk (hm.seq λz S2 hm=>hm) (l1.trans (l2.trans l3)) λz S2 hm ρ' H' y l' s' r'=>?_⟩
  cases z <;> first | exact hm.elim | skip
  cases r';exact ⟨rfl,hm ρ' H' _ (l1.trans (l2.trans (l3.trans l'))) s' (.ref (l'.pre _ _ at3))⟩
 ·exact hm.elim
end
theorem KVR.lookup {K:AB} {ρ:List AM} {H:Hp} (f:Str):∀ {x:List (Str×D)} {y:List (Str×V)} {d:D},KVR K ρ H x y->x.lookup f=some d->∃v,y.lookup f=some v/\By K ρ H d v
 | _,_,_,.nil,h=>by simp at h
 | (g,a) :: x,(g',b) :: y,d,.cons r t,h=>by
  obtain ⟨r1,r2⟩:=r;dsimp only at r1 r2;subst r1;rw [Ci] at h ⊢
  cases hq:(f==g) with
  | true=>rw [hq] at h;cases h;exact ⟨b,rfl,r2⟩
  | false=>rw [hq] at h;exact KVR.lookup f t h
def OY (f:Str) (v:D):List (Str×D)->List (Str×D)
 | []=>[(f,v)]
 | (g,x) :: r=>if g=f then (g,v) :: r else (g,x) :: OY f v r
theorem KVR.putF {K:AB} {ρ:List AM} {H:Hp} (f:Str) {d:D} {v:V} (rd:By K ρ H d v):∀ {x:List (Str×D)} {y:List (Str×V)},KVR K ρ H x y->KVR K ρ H (OY f d x) (putF f v y)
 | _,_,.nil=>.cons ⟨rfl,rd⟩ .nil
 | (g,a) :: x,(g',b) :: y,.cons r t=>by
  obtain ⟨r1,r2⟩:=r;dsimp only at r1 r2;subst r1;unfold OY L2.putF
  by_cases hq:g=f
  ·rw [if_pos hq,if_pos hq];exact .cons ⟨rfl,rd⟩ t
  ·rw [if_neg hq,if_neg hq];exact .cons ⟨rfl,r2⟩ (KVR.putF f rd t)
theorem KVR.length {κ:Type} {K:AB} {ρ:List AM} {H:Hp} {x:List (κ×D)} {y:List (κ×V)} (h:KVR K ρ H x y):x.length=y.length:=El h
def Oc (C:AM) (f:Str) (m:ME):ME:=λe S=>(m e S).bind λd S1=>match d with
 | .ref n=>match S1[n]? with
  | some (.ins C' fs)=>if C'=C then (match fs.lookup f with | some v=>.ok v S1 | none=>.bad) else .bad
  | _=>.bad
 | _=>.bad
def RU (C:AM) (f:Str) (mo mv:ME):MS:=λe S=>(mv e S).lift e λv S1=>(mo e S1).lift e λd S2=>match d with
 | .ref n=>match S2[n]? with
  | some (.ins C' fs)=>if C'=C/\fs.length < 1000 then .ok (.nx e) (S2.set n (.ins C (OY f v fs))) else .bad
  | _=>.bad
 | _=>.bad
section
variable {X:Cx} {E:EW} {o e value:Expr} {f:Str} {pos pos':Pos} {m mv:ME} {C:AM}
theorem QI (hc:Cls X.K C) (hn:IZ X.K C f) (he:GE X E e m) (hb:Ia e f X.env (CS e X.env)=CS e X.env:=by rfl):GE X E (.Attribute e f pos) (Oc C f m):=(jE he hb).imp λσ H Q ⟨ρ,l,S,hl,hs,hm⟩=>by
 refine ⟨ρ,l,S,hl,hs,hm.seq λx S1 hm ρ1 H1 v l1 s1 r1=>?_⟩
 cases x <;> first | exact hm.elim | skip
 rename_i n;dsimp only at hm
 cases ho:S1[n]? with
 | none=>rw [ho] at hm;exact hm.elim
 | some ob=>
  rw [ho] at hm
  cases ob <;> first | exact hm.elim | skip
  rename_i C' fs;dsimp only at hm;split at hm
  ·rename_i hC
   rw [hC] at ho
   cases r1 with
   | ref hn'=>
    obtain ⟨dx,fs',e1,e2⟩:=s1.ob n _ _ ho hn'
    cases hq:fs.lookup f with
    | none=>rw [hq] at hm;exact hm.elim
    | some w=>
     rw [hq] at hm;obtain ⟨v,h3,h4⟩:=KVR.lookup f e2 hq;exact ⟨_,_,dx,fs',v,rfl,e1,hc,hn,h3,hm ρ1 H1 v l1 s1 h4⟩
  ·exact hm.elim
theorem WP (hc:Cls X.K C) (hn:IZ X.K C f) (ha:GE X E o m) (hv:GE X E value mv) (hs:GB value (some (.Attribute o f pos')) pos.line X.env=pure false:=by rfl):GS X E (.Assign [.Attribute o f pos'] value pos) (RU C f m mv):=(iz ha hv hs).imp λD σ H ⟨ρ,l,S,hl,hs,hm⟩=>by
 refine ⟨ρ,l,S,hl,hs,hm.lift hl .refl λv S1 hm ρ1 H1 y l1 s1 r1=>⟨ρ1,l,S1,hl.mono l1,s1,(hm.later l1).lift (hl.mono l1) l1 λx S2 hm ρ2 H2 u l2 s2 r2=>?_⟩⟩
 cases x <;> first | exact hm.elim | skip
 rename_i n;dsimp only at hm
 cases ho:S2[n]? with
 | none=>rw [ho] at hm;exact hm.elim
 | some ob=>
  rw [ho] at hm
  cases ob <;> first | exact hm.elim | skip
  rename_i C' fs;dsimp only at hm;split at hm
  ·rename_i hC
   obtain ⟨hC,hlen⟩:=hC;rw [hC] at ho
   cases r2 with
   | ref hn'=>
    obtain ⟨dx,fs',e1,e2⟩:=s2.ob n _ _ ho hn';have le:Le X.K ρ2 H2 ρ2 (upd H2 _ (.ins C dx (putF f y fs'))):=Le.write hn' (by rw [e1];trivial);obtain ⟨s3,l3⟩:=s2.write (ho:=.ins C dx (putF f y fs')) (o:=.ins C (OY f v fs)) hn' ⟨dx,_,Bw,(KVR.putF f (r1.mono l2) e2).mono le⟩;refine ⟨_,C,dx,fs',rfl,e1,hc,hn,by rw [<-KVR.length e2];exact hlen,?_⟩;exact hm ρ2 _ σ (l1.trans (l2.trans l3)) s3 (hl.mono (l1.trans (l2.trans l3)))
  ·exact hm.elim
end
end L2
namespace L2
open PySem PySem.Spec PyProof.Rows
def ExAt (Nw:AM->Prop) (F:Option AD->Prop) (ea C:AM) (H:Hp) (h:Bu):Prop:=
 H ea=none/\Nw ea/\∃(oe:Obj) (vs:Array AD) (a0:AD),h.get? ea=some oe/\oe.cls=.ref C/\(oe.dict=none/\oe.data=.fields vs)/\vs[0]?=some a0 /\
  ((F none/\vs[1]?=some .none)∨∃(T:AM) (oT:Obj) (ts:Array AD) (fl:AD),F (some fl)/\vs[1]?=some (.ref T)/\T≠ea/\H T=none/\Nw T/\h.get? T=some oT/\oT.data=.fields ts/\ts[3]?=some fl)
section
variable {X:Cx} {pins:List (AM×Obj)} {σ:St} {H:Hp} {s:AE} {h':Bu} {ea C:AM} {F:Option AD->Prop}
end
def CXG (P:Ap) (w:BE):CXT:=λouter H s E e s'=>∃ea C H',e=.ref ea/\s'.os=s.os/\JR s'.gens/\Un (frs outer) [] H H' s.heap s'.heap/\HOk P w H' s'.heap/\ExAt (λb=>s.heap.get? b=none) (· = some .none) ea C H' s'.heap/\E (.ref C) none H'
theorem Inv.with {X:Cx} {pins:List (AM×Obj)} {σ:St} {H:Hp} {s:AE} (I:Inv X pins σ H s) (z:AD->AE->Prop):Inv { X with xe:=z } pins σ H s:=by
 obtain ⟨ok,a,b,c,d,e,f,g,i,j,l⟩:=I;obtain ⟨o1,o2,o3,o4,o5,o6,o7,o8,o9,o10,o11,o12,o13,o14,o15,o16,o17,o18⟩:=ok;exact ⟨⟨o1,o2,o3,o4,o5,o6,o7,o8,o9,o10,o11,o12,o13,o14,o15,o16,o17,o18⟩,a,b,c,d,e,f,g,i,j,l⟩
theorem Inv.without {X:Cx} {pins:List (AM×Obj)} {σ:St} {H:Hp} {s:AE} {z:AD->AE->Prop} (I:Inv { X with xe:=z } pins σ H s):Inv X pins σ H s:=by
 have:=I.with X.xe
 exact this
structure Good (X:Cx) (E:EW):Prop where
 pass:Ma (CXG X.prog X.w) X (YF E)
 own:kz (AZ X.prog X.w) X.A X.env X.xe
 made:∀(pins:List (AM×Obj)) (σ:St) (H:Hp) (s:AE) (h':Bu) (ea C:AM) (args:List AD),Inv X pins σ H s->E C σ H->Bu.MadeExcOf s.heap h' ea (.ref C) args->X.xe (.ref ea) { s with heap:=h' }
theorem good_none {X:Cx} (hx:X.xe=λ_ _=>False):Good X noE:=by
 refine ⟨λpins σ H s e s' I h=>?_,by rw [hx];exact kz.never,λ_ _ _ _ _ _ _ _ _ w _=>w.elim⟩;obtain ⟨ea,C,H',rfl,os,bare,un,hok,x,_,c,ec,w⟩:=h;exact w.elim
end L2
namespace L2
open PySem PySem.Spec PyProof.Rows
section
variable {X:Cx} {E:EW} {x:Str} {np cpos pos:Pos} {e:Expr} {es:List Expr} {ml:ML} {C:AM}
end
section
variable {X:Cx} {E:EW} {body suite:List C1} {b₀:C1} {g n:Str} {gp hpos pos:Pos} {cs:List AM} {i:Nat} {mb mh:MS} {G:AM}
end
def Hb (n:Nat) (ds:List D):Lo:=ds.map some++BY (n - ds.length) none
theorem Vu {K:AB} {ρ:List AM} {H:Hp} {N:List Str} {ds:List D} {vs:List V} (r:Ay K ρ H ds vs):GD K ρ H (Hb N.length ds) (start N vs):=by
 refine ⟨by simp [Hb,start,r.length],λi d q=>?_⟩;unfold Hb at q;unfold start
 by_cases hi:i < ds.length
 ·rw [Ak (by simpa using hi),As] at q
  rw [Ak (by rw [AI,<-r.length];exact hi),As]
  cases e:ds[i]? with
  | none=>rw [e] at q;cases q
  | some d'=>
   rw [e] at q;cases q;obtain ⟨v,h1,h2⟩:=r.get e;exact ⟨v,by rw [h1];rfl,h2⟩
 ·rw [BB (by simpa using hi),DL] at q
  split at q <;> cases q
section
variable {P:Ap} {w:BE} {K:AB} {mg:Str->Option AD} {base:Bu}
end
end L2
namespace L2
open PySem PySem.Spec PyProof.Rows
section
variable {X:Cx}
def intOp (C:Int->Int->Prop) [∀i j,Decidable (C i j)] (g:Int->Int->D):D->D->Sto->Res D
 | .int i,.int j,S=>if C i j then .ok (g i j) S else .bad
 | _,_,_=>.bad
theorem bO {C:Int->Int->Prop} [∀i j,Decidable (C i j)] {g:Int->Int->D} {a b d:D} {S S':Sto} (h:intOp C g a b S=.ok d S'):∃i j,a=.int i/\b=.int j/\C i j/\d=g i j/\S'=S:=by
 unfold intOp at h;split at h
 ·split at h
  ·rename_i i j _ hc
   cases h;exact ⟨_,_,rfl,rfl,hc,rfl,rfl⟩
  ·cases h
 ·cases h
theorem Px {f:AD->AD->Sem AD} {C:Int->Int->Prop} [∀i j,Decidable (C i j)] {g:Int->Int->D} {v:Int->Int->V} (hv:∀ρ H i j,By X.K ρ H (g i j) (v i j)) (h:OpR X f (rI C v)):OpR X f (rD X.K (intOp C g)):=h.imp λx y H Q ⟨ρ,S,a,b,d,S',hs,ra,rb,hm,k⟩=>by
 obtain ⟨i,j,rfl,rfl,hc,rfl,rfl⟩:=bO hm;cases ra;cases rb;exact ⟨i,j,rfl,rfl,hc,k ρ H _ .refl hs (hv _ _ _ _)⟩
theorem Lg {f:AD->AD->Sem AD} {g:Int->Int->D} {v:Int->Int->V} (hv:∀ρ H i j,By X.K ρ H (g i j) (v i j)) (h:OpR X f (rI0 v)):OpR X f (rD X.K (intOp (λ_ _=>True) g)):=
 Px (C:=λ_ _=>True) hv (h.imp λx y H Q ⟨i,j,e1,e2,_,q⟩=>⟨i,j,e1,e2,q⟩)
instance (i j:Int):Decidable (fu i j):=inferInstanceAs (Decidable (_/\_))
instance (i j:Int):Decidable (fq i j):=inferInstanceAs (Decidable (_/\_/\_))
abbrev SL:=intOp (λ_ _=>True) λi j=>.int (i - j)
abbrev QM:=intOp fu λi j=>.int (i / j)
abbrev Np:=intOp (λ_ j=>0 < j) λi j=>.int (i % j)
abbrev ltD:=intOp (λ_ _=>True) λi j=>.bl (decide (i < j))
abbrev leD:=intOp (λ_ _=>True) λi j=>.bl (decide (i<=j))
abbrev geD:=intOp (λ_ _=>True) λi j=>.bl (decide (j<=i))
theorem MM:OpR X (Cr .Sub) (rD X.K SL):=Lg (λ_ _ _ _=>.int _) jJ
theorem Oy:OpR X (Cr .FloorDiv) (rD X.K QM):=Px (λ_ _ _ _=>.int _) eJ
theorem J1:OpR X (Cr .Mod) (rD X.K Np):=Px (λ_ _ _ _=>.int _) jM
theorem XT:OpR X (Bk .Lt) (rD X.K ltD):=Lg (λ_ _ _ _=>.bl _) mD
theorem XU:OpR X (Bk .LtE) (rD X.K leD):=Lg (λ_ _ _ _=>.bl _) mE
theorem mI:OpR X (Bk .GtE) (rD X.K geD):=Lg (λ_ _ _ _=>.bl _) mF
def Hi:D->D->Sto->Res D
 | .int i,.int j,S=>.ok (.int (i+j)) S
 | .tup xs,.tup ys,S=>if xs.length+ys.length<=sizeLine then .ok (.tup (xs++ys)) S else .bad
 | .ref l,.ref b,S=>match S[l]?,S[b]? with
  | some (.lst xs),some (.lst ys)=>if xs.length+ys.length<=sizeLine then .ok (.ref S.length) (S++[.lst (xs++ys)]) else .bad
  | _,_=>.bad
 | _,_,_=>.bad
def lq (K:AB):R2:=λx y H Q=>∃a b xs ys,x=.ref a/\y=.ref b/\H a=some (.tup xs)/\H b=some (.tup ys)/\xs.length+ys.length<=sizeLine /\
 (xs=[]->Q (.ref b) H)/\(ys=[]->Q (.ref a) H)/\(∀p,H p=none->Q (.ref p) (upd H p (.tup (xs++ys))))
theorem eM:OpR X (Cr .Add) (lq X.K):=by
 intro pins s σ H x y v u Q I rx ry h;obtain ⟨a,b,xs,ys,rfl,rfl,ha,hb,hz,q0,q1,q2⟩:=h;cases rx;cases ry;obtain ⟨its,r1,p1,_⟩:=I.tuple (a:=a) (xs:=xs) (.inl (.inl ha));obtain ⟨its2,r2,p2,_⟩:=I.tuple (a:=b) (xs:=ys) (.inl (.inl hb))
 by_cases hx:xs=[]
 ·obtain ⟨⟨cls,dd,data,sl⟩,ho,hc,n,hd⟩:=id p1
  obtain ⟨⟨cls2,dd2,data2,sl2⟩,ho2,hc2,n2,hd2⟩:=id p2;simp only at hc hd hc2 hd2;subst hc hd hc2 hd2;have hi:its=[]:=r1.nil_iff.mpr hx
  exact ZQ ⟨_,ho,rfl⟩ ⟨_,ho2,rfl⟩ R3 X3 Jl JP (Iy _ _)
   (tuple_addW0 a b its.toArray its2.toArray n n2 dd dd2 sl sl2 (by simp [hi])) ⟨ho,ho2,⟨.ref b,H,I,rfl,q0 hx⟩⟩
 ·exact eK pins s σ H (.ref a) (.ref b) _ _ Q I rfl rfl ⟨a,b,xs,ys,rfl,rfl,.inl (.inl ha),.inl (.inl hb),hx,hz,q1,λ_ p hp=>q2 p hp⟩
theorem Ay.nil_of {K:AB} {ρ:List AM} {H:Hp} {xs:List D} {vs:List V} (r:Ay K ρ H xs vs) (e:vs=[]):xs=[]:=by
 subst e;cases r;rfl
theorem FO:OpR X (Cr .Add) (rD X.K Hi):=(jQ.or (eM.or jO)).imp λx y H Q ⟨ρ,S,a,b,d,S',hs,ra,rb,hm,k⟩=>by
 cases ra with
 | int i=>
  cases rb <;> first | (cases hm;done) | skip
  cases hm;exact .inl ⟨_,_,rfl,rfl,k ρ H _ .refl hs (.int _)⟩
 | @tup xs a1 vs h1 h2=>
  cases rb with
  | @tup ys b1 ws h3 h4=>
   unfold Hi at hm;dsimp only at hm;split at hm
   ·rename_i hz
    cases hm;refine .inr (.inl ⟨_,_,_,_,rfl,rfl,h1,h3,by rw [<-h2.length,<-h4.length];exact hz,λe=>?_,λe=>?_,λp hp=>?_⟩)
    ·rw [h2.nil_of e,Qb] at k
     exact k ρ H _ .refl hs (.tup h3 h4)
    ·rw [h4.nil_of e,BK] at k
     exact k ρ H _ .refl hs (.tup h1 h2)
    ·obtain ⟨s2,l2⟩:=GK (ho:=.tup (vs++ws)) hs hp
     exact k ρ _ _ l2 s2 (.tup Bw ((h2.append h4).mono l2))
   ·cases hm
  | _=>cases hm
 | @ref n a1 hn=>
  cases rb with
  | @ref m b1 hn'=>
   unfold Hi at hm;dsimp only at hm;split at hm
   ·rename_i xs ys h1 h2
    split at hm
    ·rename_i hz
     cases hm;obtain ⟨vs,e1,r1⟩:=hs.ob _ _ _ h1 hn;obtain ⟨us,e2,r2⟩:=hs.ob _ _ _ h2 hn';refine .inr (.inr ⟨_,_,_,_,rfl,rfl,e1,e2,by rw [<-r1.length,<-r2.length];exact hz,λp hp=>?_⟩);have le:Le X.K ρ H (ρ++[p]) (upd H p (.lst (vs++us))):=Le.alloc hp;obtain ⟨s2,l2,at2⟩:=hs.alloc (ho:=.lst (vs++us)) (o:=.lst (xs++ys)) hp ⟨_,Bw,(r1.append r2).mono le⟩;exact k _ _ _ l2 s2 (.ref at2)
    ·cases hm
   ·cases hm
  | _=>cases hm
 | _=>cases hm
def ixD:D->D->Sto->Res D:=λa b S=>match G1 a S,b with
 | some ds,.int i=>match atI ds i with
  | some d=>.ok d S
  | none=>.bad
 | _,_=>.bad
theorem fZ {K:AB} {ρ:List AM} {H:Hp} {ds:List D} {vs:List V} {i:Int} {d:D} (r:Ay K ρ H ds vs) (h:atI ds i=some d):∃v,atI vs i=some v/\By K ρ H d v:=by
 unfold atI at h ⊢;rw [<-r.length]
 cases hq:ixN ds.length i with
 | none=>rw [hq] at h;cases h
 | some j=>
  rw [hq] at h;exact r.get h
theorem mH:IxR X (rD X.K ixD):=(ix_list.or ji).imp λx y H Q ⟨ρ,S,a,b,d,S',hs,ra,rb,hm,k⟩=>by
 unfold ixD at hm;split at hm
 ·rename_i ds i hq
  split at hm
  ·rename_i d' hd
   cases hm;cases rb;obtain ⟨p,xs,rfl,rr,sq⟩:=Ow hs ra hq;obtain ⟨v,h1,h2⟩:=fZ rr hd
   rcases sq with sq | sq
   ·exact .inl ⟨p,xs,_,v,rfl,rfl,sq,h1,k ρ H v .refl hs h2⟩
   ·exact .inr ⟨p,xs,_,v,rfl,rfl,sq,h1,k ρ H v .refl hs h2⟩
  ·cases hm
 ·cases hm
def Nu (neg:Bool) (x y:D) (S:Sto):Res D:=match y with
 | .non=>match x with
  | .non=>.ok (.bl (!neg)) S
  | _=>.ok (.bl neg) S
 | _=>.bad
theorem MN:OpR X (Bk .Is) (rD X.K (Nu false)):=jN.imp λx y H Q ⟨ρ,S,a,b,d,S',hs,ra,rb,hm,k⟩=>by
 cases rb <;> first | (cases hm;done) | skip
 refine ⟨rfl,?_⟩
 cases ra <;> (cases hm;exact k ρ H _ .refl hs (.bl _))
end
def mQ (f:List D->Sto->Res D) (m:ML):ME:=λe S=>(m e S).bind λds S1=>okR (f ds S1)
section
variable {X:Cx} {E:EW} {e:Expr} {es:List Expr} {x:Str} {p pos:Pos} {ml:ML} {id T:String} {r:List V->Hp->VK->Prop} {f:List D->Sto->Res D}
def fk (K:AB) (r:List V->Hp->VK->Prop) (f:List D->Sto->Res D):Prop:=∀ρ H S ds q xs d S' (Q:VK),CI K ρ S H->Ay K ρ H ds xs->(SqL K H q xs∨SqT K H q xs)->f ds S=.ok d S' ->
 (∀ρ' H' z,Le K ρ H ρ' H'->CI K ρ' S' H'->By K ρ' H' d z->Q z H')->r [.ref q] H Q
def kN (K:AB) (r:List V->Hp->VK->Prop) (f:List D->Sto->Res D):Prop:=∀ρ H S ds xs d S' (Q:VK),CI K ρ S H->Ay K ρ H ds xs->f ds S=.ok d S' ->
 (∀ρ' H' z,Le K ρ H ρ' H'->CI K ρ' S' H'->By K ρ' H' d z->Q z H')->r xs H Q
def nL (K:AB) (r:List V->Hp->VK->Prop) (f:List D->Option (List D)):Prop:=∀ρ H S ds q xs es (Q:VK),CI K ρ S H->Ay K ρ H ds xs->(SqL K H q xs∨SqT K H q xs)->f ds=some es ->
 (∀ρ' H' p ys,Le K ρ H ρ' H'->CI K ρ' S H'->Ay K ρ' H' es ys->H' p=some (.lst ys)->(∀n:Nat,ρ'[n]?≠some p)->H p=none->Q (.ref p) H')->r [.ref q] H Q
theorem O6 (hc:Hq X (.builtin id) r) (hf:fk X.K r f) (hg:Gl X x) (hm:X.mg x=none) (hv:Ey x=some (.builtin id)) (h:GQ X E e ml) (hn:x≠"__name__":=by decide) (hdb:(x==("__debug__" : Str))=false:=by decide)
  (he:Ab [e] X.env=(false,CS e X.env) :: Ab [] X.env:=by rfl):GE X E (.Call (.Name x p) [e] [] pos) (mQ f ml):=(M2 hc hg hm hv (FI h Hd he) hn hdb he rfl).imp λσ H Q ⟨ρ,l,S,hl,hs,hm⟩=>by
 refine ⟨ρ,l,S,hl,hs,hm.seq λds S1 hm ρ1 H1 q xs l1 s1 r1 sq=>?_⟩;obtain ⟨d,S',e,k⟩:=hm.okR
 exact hf ρ1 H1 S1 ds q xs d S' Q s1 r1 sq e λρ' H' z l' s' r'=>k ρ' H' z (l1.trans l') s' r'
theorem Xh (hc:Hq X (.builtin id) r) (hf:kN X.K r f) (hg:Gl X x) (hm:X.mg x=none) (hv:Ey x=some (.builtin id)) (h:GA X E (e :: es) ml) (hn:x≠"__name__":=by decide) (hdb:(x==("__debug__" : Str))=false:=by decide)
  (he:Ab (e :: es) X.env=(false,CS e X.env) :: Ab es X.env:=by rfl) (hpl:(Dz pos (Ab es X.env)).any (·.1)=false:=by rfl):GE X E (.Call (.Name x p) (e :: es) [] pos) (mQ f ml):=(M2 hc hg hm hv h hn hdb he hpl).imp λσ H Q ⟨ρ,l,S,hl,hs,hm⟩=>by
 refine ⟨ρ,l,S,hl,hs,hm.seq λds S1 hm ρ1 H1 xs l1 s1 r1=>?_⟩;obtain ⟨d,S',e,k⟩:=hm.okR
 exact hf ρ1 H1 S1 ds xs d S' Q s1 r1 e λρ' H' z l' s' r'=>k ρ' H' z (l1.trans l') s' r'
def mN (f:List D->Option (List D)) (m:ML):ML:=λe S=>(m e S).bind λds S1=>match f ds with
 | some es=>.ok es S1
 | none=>.bad
theorem eu {f:List D->Option (List D)} (hc:Hq X (.type T) r) (hf:nL X.K r f) (hg:Gl X x) (hm:X.mg x=none) (hv:Ey x=some (.type T)) (h:GQ X E e ml) (hn:x≠"__name__":=by decide) (hdb:(x==("__debug__" : Str))=false:=by decide)
  (he:Ab [e] X.env=(false,CS e X.env) :: Ab [] X.env:=by rfl):GL X E (.Call (.Name x p) [e] [] pos) (mN f ml):=(Nk hc hg hm hv (FI h Hd he) hn hdb he rfl).imp λσ H Q ⟨ρ,l,S,hl,hs,hm⟩=>by
 refine ⟨ρ,l,S,hl,hs,hm.seq λds S1 hm ρ1 H1 q xs l1 s1 r1 sq=>?_⟩
 cases hq:f ds with
 | none=>rw [hq] at hm;exact hm.elim
 | some es=>
  rw [hq] at hm
  exact hf ρ1 H1 S1 ds q xs es Q s1 r1 sq hq λρ' H' p ys l' s' r' hp hn hp0=>hm ρ' H' p ys (l1.trans l') s' r' hp hn (l1.back hs s1 hp0)
def mU (ds:List D) (S:Sto):Res D:=.ok (.int ds.length) S
theorem iZ:fk X.K (λxs H Q=>∃p ys,xs=[.ref p]/\(SqL X.K H p ys∨SqT X.K H p ys)/\Q (.int ys.length) H) mU:=λρ H S ds q xs d S' Q hs rr sq hm k=>by
 cases hm;exact ⟨q,xs,rfl,sq,k ρ H _ .refl hs (by rw [rr.length];exact .int _)⟩
def M7:List D->Sto->Res D
 | [.int i,.int j],S=>.ok (.int (if j < i then j else i)) S
 | _,_=>.bad
def Rf:List D->Sto->Res D
 | [.int i,.int j],S=>.ok (.int (if j > i then j else i)) S
 | _,_=>.bad
theorem fh:kN X.K (λxs H Q=>∃i j,xs=[.int i,.int j]/\Q (.int (if j < i then j else i)) H) M7:=λρ H S ds xs d S' Q hs rr hm k=>by
 unfold M7 at hm;split at hm
 ·cases hm
  cases rr with
  | cons a t=>
   cases t with
   | cons b t=>
    cases t;cases a;cases b;exact ⟨_,_,rfl,k ρ H _ .refl hs (.int _)⟩
 ·cases hm
theorem fj:kN X.K (λxs H Q=>∃i j,xs=[.int i,.int j]/\Q (.int (if j > i then j else i)) H) Rf:=λρ H S ds xs d S' Q hs rr hm k=>by
 unfold Rf at hm;split at hm
 ·cases hm
  cases rr with
  | cons a t=>
   cases t with
   | cons b t=>
    cases t;cases a;cases b;exact ⟨_,_,rfl,k ρ H _ .refl hs (.int _)⟩
 ·cases hm
def Xa (ds:List D):Option (List D):=some ds
theorem dO:nL X.K (λxs H Q=>∃p ys,xs=[.ref p]/\(SqL X.K H p ys∨SqT X.K H p ys)/\∀l,H l=none->Q (.ref l) (upd H l (.lst ys))) Xa:=λρ H S ds q xs es Q hs rr sq hm k=>by
 cases hm;refine ⟨q,xs,rfl,sq,λl hl=>?_⟩;obtain ⟨s2,l2⟩:=GK (ho:=.lst xs) hs hl;exact k ρ _ l xs l2 s2 (rr.mono l2) Bw (λn e=>hs.notIn hl e) hl
end
end L2
namespace L2
open PySem PySem.Spec PyProof.Rows
def D3 (X:Cx) (scope:Ie) (N':List Str) (cl:List (Str×AM)) (C:AM) (s₁:AE) (H₁:Hp) (ex:List AM) (pn:List (AM×Obj)):Cx where
 prog:=X.prog
 w:=X.w
 K:=X.K
 mg:=X.mg
 base:=X.base
 A:=X.A
 N:=N'
 s₀:=s₁
 H₀:=H₁
 env:=compEnvC scope cl C X.env
 outer:=X.stack
 stack:=X.stack
 ex:=ex
 fn:=λ_=>false
 calm:=X.calm
 pn:=pn
 xe:=λ_ _=>False
theorem TJ {env:Env}:∀(names:List (Str×Ql)) (acc:List (Str×AM)),(∀y∈names,y.2=.free->∃c,env.cells.lookup y.1=some c)->(∀n c,acc.lookup n=some c->env.cells.lookup n=some c) ->
  ∃cl,(forIn names acc (λ(x:Str×Ql) (cs:List (Str×AM))=>match x with | (name,kind)=>if (kind==Ig)=true then do let a <-cellOf env name;pure (HN ((name,a) :: cs)) else pure (HN cs)):Sem (List (Str×AM)))=pure cl /\
   (∀n c,cl.lookup n=some c->env.cells.lookup n=some c)/\(∀n c,acc.lookup n=some c->∃c',cl.lookup n=some c')/\∀y∈names,y.2=.free->∃c,cl.lookup y.1=some c
 | [],acc,_,ha=>⟨acc,rfl,ha,λn c h=>⟨c,h⟩,λ_ h=>nomatch h⟩
 | (n,k) :: r,acc,h,ha=>by
  rw [cZ]
  by_cases hk:k=.free
  ·subst hk
   obtain ⟨c,hc⟩:=h (n,.free) A3 rfl
   obtain ⟨cl,e,h1,h2,h3⟩:=TJ r ((n,c) :: acc) (λy hy=>h y (Ah _ hy)) (λm d hm=>by
    rw [Ci] at hm
    cases hq:(m==n) with
    | true=>rw [hq] at hm;cases hm;rw [eq_of_beq hq];exact hc
    | false=>rw [hq] at hm;exact ha m d hm)
   have e0:cellOf env n=pure c:=by unfold cellOf;rw [hc]
   refine ⟨cl,?_,h1,λm d hm=>h2 m (if m==n then c else d) ?_,λy hy hf=>?_⟩
   ·simp only [beq_self_eq_true,if_true,e0,pure_bind]
    exact e
   ·rw [Ci]
    cases hq:(m==n) with
    | true=>rfl
    | false=>exact hm
   ·rcases A2.mp hy with rfl | hy
    ·exact h2 n c (by rw [Ci,beq_self_eq_true])
    ·exact h3 y hy hf
  ·have hb:(k==Ig)=false:=by simpa using hk
   obtain ⟨cl,e,h1,h2,h3⟩:=TJ r acc (λy hy=>h y (Ah _ hy)) ha;refine ⟨cl,?_,h1,h2,λy hy hf=>?_⟩
   ·simp only [hb,B4,if_false,pure_bind]
    exact e
   ·rcases A2.mp hy with rfl | hy
    ·exact (hk hf).elim
    ·exact h3 y hy hf
theorem Xs {scope:Ie} {env:Env} (h:∀y∈scope.names,y.2=.free->∃c,env.cells.lookup y.1=some c):∃cl,closureFor scope env=pure cl /\
  (∀n c,cl.lookup n=some c->env.cells.lookup n=some c)/\∀y∈scope.names,y.2=.free->∃c,cl.lookup y.1=some c:=by
 obtain ⟨cl,e,h1,_,h3⟩:=TJ scope.names [] h (λn c z=>by simp at z);refine ⟨cl,?_,h1,h3⟩;unfold closureFor;exact (congrArg (λz=>z >>= λcs=>pure cs) e).trans (by rw [pure_bind])
def Wj (X:Cx) (ifs:List Expr) (t:TT):Prop:=
 ∀(pins:List (AM×Obj)) (s:AE) (σ:St) (H:Hp) (Q:Bool->Hp->Prop),Inv X pins σ H s->t σ H Q ->
  Ac (AZ X.prog X.w) X.A (forIn ifs true λc r=>if r=true then do let ok <-VN c X.env (CS c X.env);pure (HN ok) else pure (HN r)) (TP X pins σ Q) X.xe s
theorem aL {X:Cx}:Wj X [] (λ_ H Q=>Q true H):=λpins s σ H Q I h=>wpAny_tests_nil ⟨H,I,h⟩
theorem aK {X:Cx} {c:Expr} {t:TT} (h:PT X c t):Wj X [c] t:=λpins s σ H Q I q=>wpAny_tests_one (h pins s σ H Q I q)
structure Mc (X:Cx) (scope:Ie) (own N':List Str):Prop where
 kind:scope.kind=.function
 nocell:∀y∈scope.names,y.2≠.cell
 names:∀y∈scope.names,y.2=.local->scope.names.lookup y.1=some .local
 free:∀y∈scope.names,y.2=.free->X.env.kindOf y.1=some .cell∨X.env.kindOf y.1=some .free
 len:N'.length=own.length+X.N.length
 up:∀i x,N'[own.length+i]?=some x->Vis (JN scope X.env) x->X.N[i]?=some x/\Vis X.env.scope x/\((JN scope X.env).names.lookup x=some .cell∨(JN scope X.env).names.lookup x=some .free)/\X.env.kindOf x≠some .local
 vis:∀x,((JN scope X.env).names.lookup x=some .cell∨(JN scope X.env).names.lookup x=some .free)->(x,Ig)∈scope.names
section
variable {X:Cx} {pins:List (AM×Obj)} {σ:St} {H2:Hp} {s2:AE} {scope:Ie} {own N':List Str} {cl:List (Str×AM)} {fp:List AM} {C:AM} {s:AE} {H:Hp}
theorem WY (Sc:Mc X scope own N') (I:Inv X pins σ H2 s2) (hf:∀b∈fp,Mb X pins H2 b) (hfl:∀b∈fp,b < s2.heap.objs.size)
  (c1:∀n c,cl.lookup n=some c->X.env.cells.lookup n=some c) (c2:∀y∈scope.names,y.2=.free->∃c,cl.lookup y.1=some c)
  (hC:s2.heap.objs.size<=C) {m:Str->Option AD} (hn:s.heap.Ns C m) (hos:s.os=s2.os) (hg:JR s.gens)
  (u:Un (frs X.stack) fp H2 H s2.heap s.heap) (hok:HOk X.prog X.w H s.heap) (hHC:H C=none) :
  Inv (D3 X scope N' cl C s2 H2 fp (X.pn++pins)) [] (BY own.length none++σ) H s:=by
 have cellK:∀x c v,cl.lookup x=some c->s2.heap.IsCell c v->s.heap.IsCell c v:=λx c v e ⟨o,ho,hd⟩=>by
  obtain ⟨sl,q⟩:=u.any ho (I.freeC x c (c1 x c e)) λz=>(hf c z).2.2.2.2.1 x c (c1 x c e) rfl
  exact ⟨_,q,hd⟩
 have ok':(D3 X scope N' cl C s2 H2 fp (X.pn++pins)).Ok:=by
  refine ⟨I.ok.mod,Sc.kind,I.ok.glob,I.ok.blt,hC,λx y c h1 h2=>I.ok.inj x y c (c1 x c h1) (c1 y c h2),λx hx=>?_,λx c z=>?_,I.ok.hd,I.ok.frames,.inl rfl,λb hb=>?_,I.bs,Am I.ok.bsz I.sz,λb o e hb=>?_,λb hb hb'=>?_,I.stack,I.stkFree⟩
  ·obtain ⟨c,hc⟩:=c2 _ (Sc.vis x hx) rfl
   exact ⟨c,hc⟩
  ·exact absurd (show false=true from z) AQ
  ·exact ⟨Av (Ag (hfl b hb) hC),λx c e=>(hf b hb).2.2.2.2.1 x c (c1 x c e)⟩
  ·obtain ⟨_,_,_,z,_⟩:=hf b hb
   rcases z with z | z
   ·exact I.ok.noex b o e z
   ·exact absurd (Ag (Aa (I.ok.bs b o e).1) z) (Cu _)
  ·obtain ⟨_,z1,z2,_⟩:=hf b hb
   rcases A2.mp (I.stkSub b hb') with e | e
   ·exact z1 e
   ·exact z2 e
 refine ⟨ok',hos,hg,u,⟨m,hn,λi x v e1 e2 e3=>?_⟩,λx c e=>?_,hHC,λx c e=>?_,λp hp=>?_,hok,?_⟩
 ·have hi:own.length<=i:=by
   apply PL
   intro hlt;rw [Ak (by simpa using hlt),DL,if_pos hlt] at e2;cases e2
  obtain ⟨j,rfl⟩:∃j,i=own.length+j:=⟨i - own.length,by lia⟩
  rw [BB (by simp)] at e2
  have e2':σ[j]?=some (some v):=by simpa using e2
  obtain ⟨n1,n2,n3,n4⟩:=Sc.up j x e1 e3;obtain ⟨m0,hn0,hl⟩:=I.loc;obtain ⟨w',r,lk⟩:=hl j x v n1 e2' n2;refine ⟨w',r,.inr ⟨n3,?_⟩⟩
  rcases lk with ⟨k,_⟩ | ⟨_,c,hc,hcell⟩
  ·exact (n4 k).elim
  ·obtain ⟨c',hc'⟩:=c2 _ (Sc.vis x n3) rfl
   have e:=c1 x c' hc';rw [hc] at e;cases e;exact ⟨c,hc',cellK x c _ hc' hcell⟩
 ·obtain ⟨v,z⟩:=I.cell x c (c1 x c e)
  exact ⟨v,cellK x c v e z⟩
 ·obtain ⟨v,o,ho,hd⟩:=I.cell x c (c1 x c e)
  exact u.free c o ho (I.freeC x c (c1 x c e)) λz=>(hf c z).2.2.2.2.1 x c (c1 x c e) rfl
 ·have hp':p∈X.pn++pins:=by
   have hp:p∈(X.pn++pins)++[]:=hp;rwa [BK] at hp
  obtain ⟨e,n,ne,nf,d⟩:=I.pin p hp'
  have nfs:p.1∉frs X.stack:=λz=>(A2.mp (I.stkSub _ z)).elim ne nf
  have nfp:p.1∉fp:=λz=>(hf _ z).2.2.2.2.2 p hp' rfl
  exact ⟨u.keep p.1 p.2 e n nfs nfp,u.free p.1 p.2 e n nfp,Av (Ag (Aa e) hC),nfs,d⟩
 ·show (BY own.length none++σ).length=N'.length
  rw [AU,LW,I.len,Sc.len]
def Zx (k:Nat) (wi:TI) (g:TG) (tc:TT) (te:TE):TE:=λσ H Q=>wi σ H λJ H1=>∀p,H1 p=none->∃W:Nat->Nat->St->Hp->List V->Prop,(∃m,W 0 m (BY k none++σ) (upd H1 p (.lst [])) []) /\
 ∀i m σ' H' xs,W i m σ' H' xs->H' p=some (.lst xs)/\((J.stop i H'/\Q (.ref p) H')∨(J.go i H'/\xs.length < sizeLine/\∀x H'',J.yld i H' x H''->g x σ' H'' λσ2 H2=>tc σ2 H2 λb H3=>
  if b=true then te σ2 H3 λy H4=>H4 p=some (.lst xs)/\∃m',m' < m/\W (i+1) m' σ2 (upd H4 p (.lst (xs++[y]))) (xs++[y]) else ∃m',m' < m/\W (i+1) m' σ2 H3 xs))
theorem Y4 {X':Cx} {elt target iter:Expr} {ifs:List Expr} {pos:Pos} {J:It} {it p:AM} {tn:Nat->Bu->Prop} {g:TG} {tc:TT} {te:TE} {R:gt->AE->Prop} {Q:Hp->Prop}
  (hc:X'.calm=true) (hx:X'.xe=λ_ _=>False) (T:RC X'.prog X'.w X'.K target J fp it tn) (hg:PG X' target g) (hif:Wj X' ifs tc) (he:PE X' elt te)
  (W:Nat->Nat->St->Hp->List V->Prop) (turn:∀i m σ' H' xs,W i m σ' H' xs->H' p=some (.lst xs)/\((J.stop i H'/\Q H')∨(J.go i H'/\xs.length < sizeLine/\∀x H'',J.yld i H' x H''->g x σ' H'' λσ2 H2=>tc σ2 H2 λb H3=>
   if b=true then te σ2 H3 λy H4=>H4 p=some (.lst xs)/\∃m',m' < m/\W (i+1) m' σ2 (upd H4 p (.lst (xs++[y]))) (xs++[y]) else ∃m',m' < m/\W (i+1) m' σ2 H3 xs)))
  (fin:∀σ' H' s',Inv X' [] σ' H' s'->Q H'->R (.ok .next) s')
  {m0:Nat} {σ0:St} {H0:Hp} {s0:AE} (I0:Inv X' [] σ0 H0 s0) (st0:tn 0 s0.heap) (f0:∀b∈fp,Mb X' [] H0 b) (w0:W 0 m0 σ0 H0 []) :
  Kj (AZ X'.prog X'.w) X'.A (.compLoop (.ListComp elt [⟨target,iter,ifs,0⟩] scope pos) 0 (.ref it) (.ref p) X'.env) R s0:=by
 have stat:∀ {H':Hp},(∀b∈fp,H' b=none)->∀b∈fp,Mb X' [] H' b:=λhn b hb=>⟨hn b hb,(f0 b hb).2⟩
 refine codeAny_loop rfl (λn s'=>∃i σ' H' xs,Inv X' [] σ' H' s'/\tn i s'.heap/\(∀b∈fp,H' b=none)/\W i n σ' H' xs) (λn s1 hI=>?_) m0 ⟨0,σ0,H0,[],I0,st0,λb hb=>(f0 b hb).1,w0⟩;obtain ⟨i,σ1,H1,xs,I1,st1,fr1,w1⟩:=hI;show Ac _ X'.A ((compTurn (.ListComp elt [⟨target,iter,ifs,0⟩] scope pos) 0 (.ref it) (.ref p) X'.env).onRaise (λx=>do noteFrame x X'.env;theTreesLotGoes x)) _ _ s1;refine wpAny_noted ?_;rw [compTurn_list]
 have up:∀ {α:Type} {t:Sem α} {P:α->AE->Prop} {E:AD->AE->Prop} {s:AE},Ac (AZ X'.prog X'.w) X'.A t P X'.xe s->Ac (AZ X'.prog X'.w) X'.A t P E s:=λh=>Dx h (λ_ _ z=>z) λ_ _ z=>by rw [hx] at z;exact z.elim
 obtain ⟨hp,hcase⟩:=turn i n σ1 H1 xs w1;refine AA (X0 (AA ?_))
 rcases hcase with ⟨stop,q⟩ | ⟨go,hz,step⟩
 ·refine up (thn (T.done X' rfl rfl rfl hc i [] s1 σ1 H1 X'.xe I1 (stat fr1) st1 stop) λr s4 ⟨hr,I4⟩=>?_)
  subst hr;exact AL (fin σ1 H1 s4 I4 q)
 ·refine up (thn (T.item X' rfl rfl rfl hc i [] s1 σ1 H1 X'.xe I1 (stat fr1) st1 go) λr s4 ⟨u,hr,h4⟩=>?_)
  subst hr;refine AA (up (thn h4 λ_ s5 ⟨x,H5,I5,r5,y5,st5,fr5⟩=>?_));have I5':=I5.pinned (stat fr5) (T.obj _ _ st5);refine AA (up (thn (hg _ s5 σ1 H5 x u _ I5' r5 (step x H5 y5)) λ_ s6 ⟨σ6,H6,I6,q6⟩=>?_))
  have kY:∀ {s7:AE} {σ7:St} {H7:Hp} {ys:List V},Inv X' ([]++Pr fp s5.heap) σ7 H7 s7->(∃m',m' < n/\W (i+1) m' σ7 H7 ys)->∃m,m < n/\∃i σ' H' xs,Inv X' [] σ' H' s7/\tn i s7.heap/\(∀b∈fp,H' b=none)/\W i m σ' H' xs:=λ{s7 σ7 H7 ys} I7 ⟨m',hm,w7⟩=>by
   refine ⟨m',hm,i+1,σ7,H7,ys,I7.unpinned,T.keep _ _ _ st5 λb hb o e=>(I7.pin (b,o) (BA _ (BA _ (J2 hb e)))).1,λb hb=>?_,w7⟩;obtain ⟨o,e,d⟩:=T.obj _ _ st5 b hb;exact (I7.pin (b,o) (BA _ (BA _ (J2 hb e)))).2.1
  refine AA (up (thn (hif _ s6 σ6 H6 _ I6 q6) λok s7 ⟨H7,I7,q7⟩=>?_))
  cases ok with
  | false=>
   rw [if_neg AQ] at q7;exact AL ⟨rfl,kY I7 q7⟩
  | true=>
   rw [if_pos rfl] at q7;refine AA (AA (up (thn (he _ s7 σ6 H7 _ I7 q7) λyv s8 ⟨y,H8,I8,r8,hp8,q8⟩=>?_)));refine AA (up (thn (Re (X:=X') _ s8 σ6 H8 (.ref p) [y] (.ref p) [yv] (λv H9=>v=.non/\H9=upd H8 p (.lst (xs++[y]))) I8 rfl (.cons r8 .nil) ⟨p,xs,y,rfl,rfl,hp8,hz,rfl,rfl⟩) λv9 s9 ⟨v,H9,I9,r9,e9,e10⟩=>?_));subst e10;exact AL (AL ⟨rfl,kY I9 q8⟩)
end
end L2
namespace L2
open PySem PySem.Spec PyProof.Rows
section
variable {X:Cx} {pins:List (AM×Obj)} {σ:St} {H2:Hp} {s2:AE} {scope:Ie} {own N':List Str} {cl:List (Str×AM)} {fp:List AM} {C:AM}
theorem Rs {σ':St} {H':Hp} {s':AE} {h':Bu} (I2:Inv X pins σ H2 s2) (J:Inv (D3 X scope N' cl C s2 H2 fp (X.pn++pins)) [] σ' H' s') (hC:s2.heap.objs.size<=C) (hf:∀b∈fp,Mb X pins H2 b)
  (sb:Ei C s'.heap h'):Inv X pins σ H' { s' with heap:=h' }:=by
 have ne:∀b o,s2.heap.get? b=some o->b≠C:=λb o e=>Av (Ag (Aa e) hC)
 have jb:Un (frs X.stack) fp H2 H' s2.heap s'.heap:=J.base
 have u:Un (frs X.stack) fp H2 H' s2.heap h':=by
  refine ⟨λb o e n hb hx=>(sb.2 b (ne b o e)).trans (jb.keep b o e n hb hx),λb o e n hb hx=>?_,jb.free,λb o e hx=>?_,jb.tups,jb.frzs,jb.tbls⟩
  ·obtain ⟨sl,q⟩:=jb.slot b o e n hb hx
   exact ⟨sl,(sb.2 b (ne b o e)).trans q⟩
  ·obtain ⟨o',q⟩:=jb.there b o e hx
   exact ⟨o',(sb.2 b (ne b o e)).trans q⟩
 have hHC:H' C=none:=J.free
 have hok:HOk X.prog X.w H' h':=λa o e=>(J.hok a o e).stay (λb u hb q=>(sb.2 b λz=>by
  subst z
  rcases hb with z | z
  ·subst z;rw [hHC] at e;cases e
  ·rw [hHC] at z;cases z).trans q) (λ_ q=>q) λ_ _ q=>q
 exact I2.call' (s':={ s' with heap:=h' }) (ch:=fp) J.os u hok J.bare λb hb=>by
  obtain ⟨_,z1,z2,z3,z4,z5⟩:=hf b hb;exact ⟨z3,z1,z4,z5⟩
variable {elt iter target:Expr} {ifs:List Expr} {pos:Pos} {wi:TI} {g:TG} {tc:TT} {te:TE}
theorem QU {σ:St} {E:AD->AE->Prop} {Qf:AM->Hp->Prop} {RR:AD->AM->gt->AE->Prop} {it:AM} {J:It} {tn:Nat->Bu->Prop} (hc:X.calm=true) (Sc:Mc X scope own N')
  (hg:∀cl C s₁ H₁ ex pn,PG (D3 X scope N' cl C s₁ H₁ ex pn) target g) (hif:∀cl C s₁ H₁ ex pn,Wj (D3 X scope N' cl C s₁ H₁ ex pn) ifs tc) (he:∀cl C s₁ H₁ ex pn,PE (D3 X scope N' cl C s₁ H₁ ex pn) elt te)
  (c1:∀n c,cl.lookup n=some c->X.env.cells.lookup n=some c) (c2:∀y∈scope.names,y.2=.free->∃c,cl.lookup y.1=some c)
  (I2:Inv X pins σ H2 s2) (T:RC X.prog X.w X.K target J fp it tn) (st2:tn 0 s2.heap) (f2:∀b∈fp,Mb X pins H2 b)
  (q2:∀p,H2 p=none->∃W:Nat->Nat->St->Hp->List V->Prop,(∃m,W 0 m (BY own.length none++σ) (upd H2 p (.lst [])) []) /\
   ∀i m σ' H' xs,W i m σ' H' xs->H' p=some (.lst xs)/\((J.stop i H'/\Qf p H')∨(J.go i H'/\xs.length < sizeLine/\∀x H'',J.yld i H' x H''->g x σ' H'' λσ2 H2=>tc σ2 H2 λb H3=>
    if b=true then te σ2 H3 λy H4=>H4 p=some (.lst xs)/\∃m',m' < m/\W (i+1) m' σ2 (upd H4 p (.lst (xs++[y]))) (xs++[y]) else ∃m',m' < m/\W (i+1) m' σ2 H3 xs)))
  (hRR:∀D C σ' H' s',s2.heap.objs.size<=C->Inv (D3 X scope N' cl C s2 H2 fp (X.pn++pins)) [] σ' H' s'->Qf D H'->RR (.ref D) C (.ok .next) s') :
  Ac (AZ X.prog X.w) X.A (newList []) (λacc s₃=>Ac (AZ X.prog X.w) X.A (newFunctionEnv scope X.env.globals cl [] X.env.qual none .none (some X.env)) (λcenv s₄=>
   Kj (AZ X.prog X.w) X.A (.compStart (.ListComp elt [⟨target,iter,ifs,0⟩] scope pos) 0 (.ref it) acc { cenv with scope:=JN scope X.env }) (RR acc cenv.locals) s₄) E s₃) E s2:=by
 have hfl:∀b∈fp,b < s2.heap.objs.size:=λb hb=>by
  obtain ⟨o,e,_⟩:=T.obj _ _ st2 b hb;exact Aa e
 refine CG (wpAny_newFunctionEnv Sc.nocell (by intro y hy;simp at hy) (λh₁ hns₁ hsb₁=>?_) Sc.kind);dsimp only at hns₁ hsb₁ ⊢;generalize hH3:s2.heap.push { cls:=.type "list",dict:=none,data:=.seq ([]:List AD).toArray }=H3 at hns₁ hsb₁ ⊢
 have hC:H3.objs.size=s2.heap.objs.size+1:=by rw [<-hH3,Dh]
 have hDC:s2.heap.objs.size≠H3.objs.size:=by rw [hC];exact Av (ER _)
 have hCle:s2.heap.objs.size<=H3.objs.size:=by rw [hC];exact Je _
 have old:∀b o,s2.heap.get? b=some o->h₁.get? b=some o:=λb o e=>hsb₁.extBut b o (Av (by rw [hC];exact Gy (Aa e))) (AJ _ (hH3▸AJ _ e))
 have hacc:h₁.get? s2.heap.objs.size=some { cls:=.type "list",dict:=none,data:=.seq ([]:List AD).toArray }:=hsb₁.extBut _ _ hDC (AJ _ (hH3▸Ai _ rfl));have hD:H2 s2.heap.objs.size=none:=I2.hok.fresh (AT _);have u:Un (frs X.stack) fp H2 (upd H2 s2.heap.objs.size (.lst [])) s2.heap h₁:=Un.laid old (AT _) hD;have hok:HOk X.prog X.w (upd H2 s2.heap.objs.size (.lst [])) h₁:=I2.hok.laid old (AT _) ⟨DI _,[],0,.nil,hacc⟩
 have hHC:upd H2 s2.heap.objs.size (.lst []) H3.objs.size=none:=by rw [Bv (Bo hDC)];exact I2.hok.fresh hCle
 obtain ⟨W,⟨m0,w0⟩,turn⟩:=q2 s2.heap.objs.size hD
 have loop:∀s₃:AE,s₃={ s2 with heap:=h₁,toks:=s2.toks+([]:List (Str×AD)).length } ->
   Kj (AZ X.prog X.w) X.A (.compLoop (.ListComp elt [⟨target,iter,ifs,0⟩] scope pos) 0 (.ref it) (.ref s2.heap.objs.size) (compEnvC scope cl H3.objs.size X.env))
    (RR (.ref s2.heap.objs.size) H3.objs.size) s₃:=by
  rintro s₃ rfl
  have J0:Inv (D3 X scope N' cl H3.objs.size s2 H2 fp (X.pn++pins)) [] (BY own.length none++σ) (upd H2 s2.heap.objs.size (.lst [])) { s2 with heap:=h₁,toks:=s2.toks+([]:List (Str×AD)).length }:=
   WY (s:={ s2 with heap:=h₁,toks:=s2.toks+([]:List (Str×AD)).length }) Sc I2 f2 hfl c1 c2 hCle hns₁ rfl I2.bare u hok hHC
  refine Y4 (X':=D3 X scope N' cl H3.objs.size s2 H2 fp (X.pn++pins)) (fp:=fp) (Q:=Qf s2.heap.objs.size) hc rfl T (hg _ _ _ _ _ _) (hif _ _ _ _ _ _) (he _ _ _ _ _ _) W turn (λσ' H' s' J q=>hRR _ _ σ' H' s' hCle J q) J0 (T.keep _ _ _ st2 λb _ o e=>old b o e) (λb hb=>?_) w0;obtain ⟨z0,z1,z2,z3,z4,z5⟩:=f2 b hb;refine ⟨by rw [Bv (Av (hfl b hb))];exact z0,Av (Ag (hfl b hb) hCle),λz=>?_,.inl hb,λx c e=>z4 x c (c1 x c e),λp hp=>?_⟩
  ·exact (A2.mp (I2.stkSub _ z)).elim z1 z2
  ·have hp:p∈(X.pn++pins)++[]:=hp
   rw [BK] at hp;exact z5 p hp
 exact codeAny_compStart_list (loop _ rfl) (T.self X.A 0 _ _ _ (T.keep _ _ _ st2 λb _ o e=>old b o e) (loop _ rfl))
theorem eC (hc:X.calm=true) (Sc:Mc X scope own N') (hi:PI X target iter wi)
  (hg:∀cl C s₁ H₁ ex pn,PG (D3 X scope N' cl C s₁ H₁ ex pn) target g) (hif:∀cl C s₁ H₁ ex pn,Wj (D3 X scope N' cl C s₁ H₁ ex pn) ifs tc) (he:∀cl C s₁ H₁ ex pn,PE (D3 X scope N' cl C s₁ H₁ ex pn) elt te)
  (hs:∀x,FS iter X.env x=pure x:=by intro _;rfl):PE X (.ListComp elt [⟨target,iter,ifs,0⟩] scope pos) (Zx own.length wi g tc te):=by
 intro pins s σ H Q I h;rw [eval_ListComp];obtain ⟨cl,hclos,c1,c2⟩:=Xs (scope:=scope) (env:=X.env) (λy hy hf=>I.ok.has y.1 (Sc.free y hy hf));refine X1 (use:=none) rfl hs hclos Sc.kind Sc.names (thn (hi pins s σ H _ I h) λv s1 h1=>thn h1 λitv s2 h2=>?_);obtain ⟨it,fp,tn,J,H2,rfl,I2,T,st2,f2,q2⟩:=h2
 refine QU (Qf:=λp H'=>Q (.ref p) H') (RR:=λacc C=>compPost (AZ X.prog X.w) X.A X.xe none (EP X pins σ Q) acc C) hc Sc hg hif he c1 c2 I2 T st2 f2 q2 λD C σ' H' s' hC J q=>?_
 obtain ⟨m,hn,_⟩:=J.loc;exact ⟨m,hn,λh' sb=>⟨.ref D,H',Rs I2 J hC f2 sb,rfl,q⟩⟩
theorem dq {i:Nat} {y:Str} {py spos:Pos} (hc:X.calm=true) (hsw:GB (.ListComp elt [⟨target,iter,ifs,0⟩] scope pos) (some (.Name y py)) spos.line X.env=pure true)
  (hN:X.N.Nodup) (hy:X.N[i]?=some y) (hloc:Loc X.env.scope y) (Sc:Mc X scope own N') (hi:PI X target iter wi)
  (hg:∀cl C s₁ H₁ ex pn,PG (D3 X scope N' cl C s₁ H₁ ex pn) target g) (hif:∀cl C s₁ H₁ ex pn,Wj (D3 X scope N' cl C s₁ H₁ ex pn) ifs tc) (he:∀cl C s₁ H₁ ex pn,PE (D3 X scope N' cl C s₁ H₁ ex pn) elt te)
  (hs:∀x,FS iter X.env x=pure x:=by intro _;rfl) (hf:X.fn y=true∨X.env.scope.names.lookup y=some .local:=by first | exact .inl rfl | exact .inr rfl | assumption) :
  PS X (.Assign [.Name y py] (.ListComp elt [⟨target,iter,ifs,0⟩] scope pos) spos) (lZ (Zx own.length wi g tc te) (Xj i)):=by
 intro pins s σ H D I h;rw [exec_Assign_Name_used _ _ _ _ hsw];refine AA (X0 (AA ?_));show Ac _ X.A (do let _ <-comprehension (.ListComp elt [⟨target,iter,ifs,0⟩] scope pos) scope X.env _ (newList []) false (CS iter X.env) (some (VU (.Name y py) X.env))) _ _ s;obtain ⟨cl,hclos,c1,c2⟩:=Xs (scope:=scope) (env:=X.env) (λy hy hf=>I.ok.has y.1 (Sc.free y hy hf))
 refine AA (Dx (X1 (use:=some (VU (.Name y py) X.env)) (Q:=λ_ s'=>SP X pins D .next s') rfl hs hclos Sc.kind Sc.names
  (thn (hi pins s σ H _ I h) λv s1 h1=>thn h1 λitv s2 h2=>?_)) (λ_ s' hq=>AL (AL hq)) λ_ _ e=>e)
 obtain ⟨it,fp,tn,J,H2,rfl,I2,T,st2,f2,q2⟩:=h2
 refine QU (Qf:=λp H'=>D.nx (σ.set i (some (.ref p))) H') (RR:=λacc C=>compPost (AZ X.prog X.w) X.A X.xe (some (VU (.Name y py) X.env)) (λ_ s'=>SP X pins D .next s') acc C) hc Sc hg hif he c1 c2 I2 T st2 f2 q2 λA C σ' H' s' hC J q=>?_
 obtain ⟨m,hn,_⟩:=J.loc;have I3:Inv X pins σ H' s':=Rs I2 J hC f2 (nh ..);have hHC:H' C=none:=J.free
 have hcell:∀x c,X.env.cells.lookup x=some c->c≠C:=λx c e z=>by
  obtain ⟨v,q⟩:=I2.cell x c e;exact absurd (Ag q.lt (by rw [z];exact hC)) (Cu _)
 have hloc':C≠X.env.locals:=OT (Ag I2.lt hC);show Ac _ X.A (VU (.Name y py) X.env (.ref A)) _ _ s';refine kQ (RQ (v:=.ref A) I3 hN hy hloc rfl (λs4 I4 ⟨a,sb,ha⟩=>?_) hf)
 have haC:C≠a:=by
  rcases ha with e | e
  ·rw [e];exact hloc'
  ·exact Bo (hcell _ _ e)
 refine ⟨m,hn.sameBut sb haC,λh' sb'=>⟨_,H',?_,q⟩⟩
 refine I4.turned (t':=s4.toks) (it:=C) (λb o hb e=>(sb'.2 b hb).trans e) hHC hloc' (.inr (Am I2.sz hC)) hcell λp hp z=>?_
 exact absurd (Ag (Aa (I2.pin p hp).1) (by rw [z];exact hC)) (Cu _)
end
def F0 (v:JJ) (g:MG) (c:MT) (m:ME):Nat->Nat->Lo->Sto->List D->Res (List D)
 | k,i,e,S,acc=>match v S with
  | none=>.bad
  | some ds=>match ds[i]? with
   | none=>.ok acc S
   | some d=>match k with
    | 0=>.bad
    | k+1=>if acc.length < sizeLine then (okR (g d e S)).bind λe1 S1=>(okR (c e1 S1)).bind λb S2=>if b=true then (okR (m e1 S2)).bind λy S3=>F0 v g c m k (i+1) e1 S3 (acc++[y]) else F0 v g c m k (i+1) e1 S2 acc else .bad
def Di (n:Nat) (mi:MI) (g:MG) (c:MT) (m:ME):ML:=λe S=>(mi e S).bind λv S1=>F0 v g c m (De v S1) 0 (BY n none++e) S1 []
def Gu:MT:=λ_ S=>.ok true S
section
variable {X:Cx} {E:EW} {scope:Ie} {own N':List Str} {elt iter target:Expr} {ifs:List Expr} {pos:Pos} {mi:MI} {g:MG} {c:MT} {m:ME}
abbrev fo (X:Cx) (E:EW) (ifs:List Expr) (c:MT):Prop:=Wj X ifs (gT X.K E c)
theorem Ef:fo X E [] Gu:=λpins s σ H Q I ⟨ρ,l,S,hl,hs,hm⟩=>by
 exact aL pins s σ H Q I (hm ρ H .refl hs)
theorem Ge {e:Expr} (h:GT X E e c):fo X E [e] c:=aK h
theorem GD.grow {K:AB} {ρ:List AM} {H:Hp} {e:Lo} {σ:St} (n:Nat) (h:GD K ρ H e σ):GD K ρ H (BY n none++e) (BY n none++σ):=by
 refine ⟨by simp [h.len],λi d q=>?_⟩
 by_cases hi:i < n
 ·rw [Ak (by simpa using hi),DL,if_pos hi] at q
  cases q
 ·rw [BB (by simpa using hi)] at q ⊢
  simp only [LW] at q ⊢;exact h.at' _ d q
theorem CM.ok_of {α:Type} {K:AB} {E:EH} {ρ:List AM} {H:Hp} {r:Res α} {k:α->Sto->Prop} {a:α} {S:Sto} (e:r=.ok a S) (h:k a S):CM K E ρ H r k:=by
 subst e;exact h
theorem Pw {α β:Type} {r:Res α} {F:α->Sto->Res β} {b:β} {S:Sto} (h:(okR r).bind F=.ok b S):∃a S1,r=.ok a S1/\F a S1=.ok b S:=by
 cases r with
 | ok a S1=>exact ⟨a,S1,rfl,h⟩
 | err c S1=>cases h
 | bad=>cases h
theorem Uy {v:JJ} {g:MG} {c:MT} {m:ME} {er:AM} {S':Sto}:∀(k i:Nat) (e:Lo) (S:Sto) (acc:List D),F0 v g c m k i e S acc≠.err er S':=by
 intro k
 induction k with
 | zero=>
  intro i e S acc h;unfold F0 at h;split at h
  ·cases h
  ·split at h <;> cases h
 | succ k ih=>
  intro i e S acc h;unfold F0 at h;split at h
  ·cases h
  ·split at h
   ·cases h
   ·dsimp only at h
    split at h
    ·cases h1:g _ e S with
     | ok e1 S1=>
      rw [h1] at h;dsimp only [okR,Res.bind] at h
      cases h2:c e1 S1 with
      | ok b S2=>
       rw [h2] at h;dsimp only [okR,Res.bind] at h
       cases b with
       | true=>
        rw [if_pos rfl] at h
        cases h3:m e1 S2 with
        | ok y S3=>rw [h3] at h;exact ih _ _ _ _ h
        | err _ _=>rw [h3] at h;cases h
        | bad=>rw [h3] at h;cases h
       | false=>
        rw [if_neg AQ] at h;exact ih _ _ _ _ h
      | err _ _=>rw [h2] at h;cases h
      | bad=>rw [h2] at h;cases h
     | err _ _=>rw [h1] at h;cases h
     | bad=>rw [h1] at h;cases h
    ·cases h
theorem UE {K:AB} {n:Nat} {σ:St} {H:Hp} {Q:VK} (h:gL K E (Di n mi g c m) σ H Q):Zx n (gI K E mi) (gG K g) (gT K noE c) (gE K noE m) σ H Q:=by
 obtain ⟨ρ,l,S,hl,hs,hm⟩:=h;refine ⟨ρ,l,S,hl,hs,hm.seq λv S1 hm ρ1 H1 J l1 s1 vo p hp=>?_⟩
 obtain ⟨ds,S',hm,k⟩:∃ds S',F0 v g c m (De v S1) 0 (BY n none++l) S1 []=.ok ds S'/\∀ρ' H' p xs,Le K ρ H ρ' H'->CI K ρ' S' H'->Ay K ρ' H' ds xs->H' p=some (.lst xs)->(∀n:Nat,ρ'[n]?≠some p)->H p=none->Q (.ref p) H':=by
  cases hc:F0 v g c m (De v S1) 0 (BY n none++l) S1 [] with
  | ok ds S'=>rw [hc] at hm;exact ⟨ds,S',rfl,hm⟩
  | err c S'=>exact (Uy _ _ _ _ _ hc).elim
  | bad=>rw [hc] at hm;exact hm.elim
 obtain ⟨s1',l1'⟩:=GK (ho:=.lst []) s1 hp;have hp0:H p=none:=l1.back hs s1 hp
 refine ⟨λi j σ2 H2 xs=>∃ρ2 e2 S2 acc,Le K ρ1 H1 ρ2 H2/\GD K ρ2 H2 e2 σ2/\CI K ρ2 S2 H2/\Ay K ρ2 H2 acc xs/\H2 p=some (.lst xs)/\(∀q:Nat,ρ2[q]?≠some p)/\F0 v g c m j i e2 S2 acc=.ok ds S',
  ⟨De v S1,ρ1,_,S1,[],l1',(hl.mono (l1.trans l1')).grow n,s1',.nil,Bw,λq e=>s1.notIn hp e,hm⟩,?_⟩
 rintro i j σ2 H2 xs ⟨ρ2,e2,S2,acc,l2,r2,s2,ra,hp2,hn2,hm2⟩;refine ⟨hp2,?_⟩;unfold F0 at hm2
 cases hv:v S2 with
 | none=>rw [hv] at hm2;cases hm2
 | some vs=>
  rw [hv] at hm2;dsimp only at hm2;obtain ⟨v1,v2⟩:=vo ρ2 H2 S2 vs i l2 s2 hv
  cases hd:vs[i]? with
  | none=>
   rw [hd] at hm2;cases hm2;exact .inl ⟨v1 hd,k ρ2 H2 p xs (l1.trans l2) s2 ra hp2 hn2 hp0⟩
  | some d=>
   rw [hd] at hm2;dsimp only at hm2;obtain ⟨go,yl⟩:=v2 d hd
   cases j with
   | zero=>cases hm2
   | succ j=>
    dsimp only at hm2;split at hm2
    ·rename_i hz
     obtain ⟨e3,S3,h3,hm2⟩:=Pw hm2;obtain ⟨b,S4,h4,hm2⟩:=Pw hm2;refine .inr ⟨go,by rw [<-ra.length];exact hz,λx H' y=>?_⟩;obtain ⟨ρ3,l3,s3,rd⟩:=yl x H' y;obtain ⟨hp3,hn3⟩:=l3.oth p _ hp2 hn2;refine ⟨ρ3,e2,S2,d,rd,r2.mono l3,s3,CM.ok_of h3 λρ4 H4 σ4 l4 s4 r4=>?_⟩;obtain ⟨hp4,hn4⟩:=l4.oth p _ hp3 hn3;refine ⟨ρ4,e3,S3,r4,s4,CM.ok_of h4 λρ5 H5 l5 s5=>?_⟩;obtain ⟨hp5,hn5⟩:=l5.oth p _ hp4 hn4
     cases b with
     | false=>
      rw [if_neg AQ] at hm2 ⊢;exact ⟨j,ER j,ρ5,e3,S4,acc,l2.trans (l3.trans (l4.trans l5)),r4.mono l5,s5,ra.mono (l3.trans (l4.trans l5)),hp5,hn5,hm2⟩
     | true=>
      rw [if_pos rfl] at hm2 ⊢;obtain ⟨yv,S5,h5,hm2⟩:=Pw hm2;refine ⟨ρ5,e3,S4,r4.mono l5,s5,CM.ok_of h5 λρ6 H6 y6 l6 s6 r6=>?_⟩;obtain ⟨hp6,hn6⟩:=l6.oth p _ hp5 hn5
      have l7:∀xs',Le K ρ6 H6 ρ6 (upd H6 p (.lst xs'))->True:=λ_ _=>trivial
      have up7:∀xs':List V,CI K ρ6 S5 (upd H6 p (.lst xs'))/\(∀a o,FN K ρ6 H6 a o->a≠p->FN K ρ6 (upd H6 p (.lst xs')) a o)/\∀e' w',By K ρ6 H6 e' w'->By K ρ6 (upd H6 p (.lst xs')) e' w':=λxs'=>by
       have kk:=Gb (H:=H6) (p:=p) (ho:=.lst xs') (.inr (by rw [hp6];trivial))
       have mono:∀e' w',By K ρ6 H6 e' w'->By K ρ6 (upd H6 p (.lst xs')) e' w':=λe' w' r=>r.keep kk.1 kk.2
       have mob:∀a o,FN K ρ6 H6 a o->a≠p->FN K ρ6 (upd H6 p (.lst xs')) a o:=λa o r ne=>r.keep kk.1 kk.2 (Bv ne)
       exact ⟨⟨s6.len,s6.nd,λn o a q1 q2=>mob a o (s6.ob n o a q1 q2) λz=>hn6 n (by rw [<-z];exact q2)⟩,mob,mono⟩
      obtain ⟨u1,u2,u3⟩:=up7 (xs++[y6]);refine ⟨hp6,j,ER j,ρ6,e3,S5,acc++[yv],?_,?_,u1,?_,Bw,hn6,hm2⟩
      ·have lx:=l2.trans (l3.trans (l4.trans (l5.trans l6)))
       have kk:=Gb (H:=H6) (p:=p) (ho:=.lst (xs++[y6])) (.inr (by rw [hp6];trivial))
       exact ⟨lx.pre,λa zs q=>kk.1 a zs (lx.tup a zs q),λa o u q=>kk.2 a o u (lx.frz a o u q),λa o q z=>by
        have nap:a≠p:=CN q hp;obtain ⟨z1,z2⟩:=lx.oth a o q z
        exact ⟨by rw [Bv nap];exact z1,z2⟩⟩
      ·have rr:=r4.mono (l5.trans l6)
       exact ⟨rr.len,λq d' hq=>by
        obtain ⟨w',z1,z2⟩:=rr.at' q d' hq
        exact ⟨w',z1,u3 _ _ z2⟩⟩
      ·have ra6:=ra.mono (l3.trans (l4.trans (l5.trans l6)))
       have kk:=Gb (H:=H6) (p:=p) (ho:=.lst (xs++[y6])) (.inr (by rw [hp6];trivial));exact (ra6.keep kk.1 kk.2).append (.cons (u3 _ _ r6) .nil)
    ·cases hm2
theorem Et (hc:X.calm=true) (Sc:Mc X scope own N') (hi:GI X E target iter mi)
  (hg:∀cl C s₁ H₁ ex pn,GG (D3 X scope N' cl C s₁ H₁ ex pn) target g) (hif:∀cl C s₁ H₁ ex pn,fo (D3 X scope N' cl C s₁ H₁ ex pn) noE ifs c) (he:∀cl C s₁ H₁ ex pn,GE (D3 X scope N' cl C s₁ H₁ ex pn) noE elt m)
  (hs:∀x,FS iter X.env x=pure x:=by intro _;rfl):GL X E (.ListComp elt [⟨target,iter,ifs,0⟩] scope pos) (Di own.length mi g c m):=
 (eC (g:=gG X.K g) (tc:=gT X.K noE c) (te:=gE X.K noE m) hc Sc hi hg hif he hs).imp λ_ _ _ h=>UE h
theorem J7 {i:Nat} {y:Str} {py spos:Pos} (hc:X.calm=true) (hsw:GB (.ListComp elt [⟨target,iter,ifs,0⟩] scope pos) (some (.Name y py)) spos.line X.env=pure true)
  (hN:X.N.Nodup) (hy:X.N[i]?=some y) (hloc:Loc X.env.scope y) (Sc:Mc X scope own N') (hi:GI X E target iter mi)
  (hg:∀cl C s₁ H₁ ex pn,GG (D3 X scope N' cl C s₁ H₁ ex pn) target g) (hif:∀cl C s₁ H₁ ex pn,fo (D3 X scope N' cl C s₁ H₁ ex pn) noE ifs c) (he:∀cl C s₁ H₁ ex pn,GE (D3 X scope N' cl C s₁ H₁ ex pn) noE elt m)
  (hs:∀x,FS iter X.env x=pure x:=by intro _;rfl) (hf:X.fn y=true∨X.env.scope.names.lookup y=some .local:=by first | exact .inl rfl | exact .inr rfl | assumption) :
  GS X E (.Assign [.Name y py] (.ListComp elt [⟨target,iter,ifs,0⟩] scope pos) spos) (CP i (Da (Di own.length mi g c m))):=by
 refine (dq (g:=gG X.K g) (tc:=gT X.K noE c) (te:=gE X.K noE m) hc hsw hN hy hloc Sc hi hg hif he hs hf).imp λD σ H ⟨ρ,l,S,hl,hs,hm⟩=>?_
 refine UE (E:=E) (Q:=λx H'=>D.nx (σ.set i (some x)) H') ⟨ρ,l,S,hl,hs,CM.seq (F:=λds S1=>Res.ok (L2.D.ref S1.length) (S1++[Ob.lst ds])) (k:=λd S2=>CM X.K noH ρ H ((tgN i d l S2).bind λe1 S2=>.ok (.nx e1) S2) λfl S'=>S9 X.K E ρ H S' D fl) (CM.lift hm hl .refl λd S2 h=>h) λds S1 hm ρ1 H1 p xs l1 s1 r1 hp hn hp0=>?_⟩
 have l0:∀(n:Nat) a,ρ1[n]?=some a->(ρ1++[p])[n]?=some a:=λn a h=>by rw [Ak (AH.mp h).1];exact h
 obtain ⟨s2,at2⟩:=s1.adopt (o:=.lst ds) hn ⟨xs,hp,r1.more l0⟩
 have l2:Le X.K ρ H (ρ1++[p]) H1:=⟨λn a h=>l0 n a (l1.pre n a h),l1.tup,l1.frz,λa o e h=>⟨(l1.oth a o e h).1,λn q=>by
  rcases IT q with ⟨q,_⟩ | ⟨_,q⟩
  ·exact (l1.oth a o e h).2 n q
  ·exact CN e hp0 q⟩⟩
 exact hm _ _ _ l2 s2 ((hl.mono l2).set (.ref at2) i)
end
end L2
namespace L2
open PySem PySem.Spec PyProof.Rows PySem.SeqAt
def KH:D->D->Option Bool
 | .non,.non=>some true
 | .bl a,.bl b=>some (a==b)
 | .int a,.int b=>some (a==b)
 | .str a,.str b=>some (a==b)
 | .non,.int _=>some false
 | .non,.str _=>some false
 | .non,.bl _=>some false
 | .non,.tup _=>some false
 | .int _,.non=>some false
 | .str _,.non=>some false
 | .bl _,.non=>some false
 | .tup _,.non=>some false
 | .int _,.tup _=>some false
 | .tup _,.int _=>some false
 | _,_=>none
def eqL (f:D->D->Option Bool):List D->List D->Option Bool
 | [],[]=>some true
 | [],_ :: _=>some false
 | _ :: _,[]=>some false
 | x :: xs,y :: ys=>match f x y,eqL f xs ys with
  | some a,some b=>some (a&&b)
  | _,_=>none
def eqP:Nat->D->D->Option Bool
 | 0,x,y=>KH x y
 | n+1,x,y=>match x,y with
  | .tup xs,.tup ys=>eqL (eqP n) xs ys
  | x,y=>KH x y
theorem LK {f:D->D->Option Bool} {x y:D} {xs ys:List D} {b:Bool} (h:eqL f (x :: xs) (y :: ys)=some b):∃a c,f x y=some a/\eqL f xs ys=some c/\b=(a&&c):=by
 unfold eqL at h;split at h
 ·rename_i a c h1 h2
  cases h;exact ⟨a,c,h1,h2,rfl⟩
 ·cases h
theorem Xp {f:D->D->Option Bool}:∀ {xs ys:List D} {b:Bool},eqL f xs ys=some b->(∀(j:Nat) x y,xs[j]?=some x->ys[j]?=some y->∃c,f x y=some c) /\
  b=((Cw (min xs.length ys.length)).all (λj=>match xs[j]?,ys[j]? with | some x,some y=>(f x y).getD false | _,_=>false)&&xs.length==ys.length)
 | [],[],b,h=>by cases h;exact ⟨λj x y h=>by simp at h,by simp⟩
 | [],y :: ys,b,h=>by cases h;exact ⟨λj x y h=>by simp at h,by simp⟩
 | x :: xs,[],b,h=>by cases h;exact ⟨λj x y _ h=>by simp at h,by simp⟩
 | x :: xs,y :: ys,b,h=>by
  obtain ⟨a,c,h1,h2,rfl⟩:=LK h;obtain ⟨i1,i2⟩:=Xp h2;refine ⟨λj x' y' e1 e2=>?_,?_⟩
  ·cases j with
   | zero=>simp at e1 e2;subst e1;subst e2;exact ⟨a,h1⟩
   | succ j=>exact i1 j x' y' (by simpa using e1) (by simpa using e2)
  ·rw [i2,Ao,Ao,show min (xs.length+1) (ys.length+1)=min xs.length ys.length+1 by lia,List.range_succ_eq_map,gw,VH]
   simp only [List.getElem?_cons_zero,h1,ZI,Function.comp_def,Tr];rw [Bool.and_assoc]
   congr 1
   congr 1
   rw [cf];simp
section
variable {K:AB} {ρ:List AM} {H:Hp}
theorem Xm (n k:Nat) (y:D):eqP n (.ref k) y=none:=by cases n <;> cases y <;> rfl
theorem Xn (n:Nat) (ds:List D) (y:D):eqP n (.fro ds) y=none:=by cases n <;> cases y <;> rfl
theorem Xo (n:Nat) (c:AM) (y:D):eqP n (.exc c) y=none:=by cases n <;> cases y <;> rfl
theorem M1 {x x':D} {v:V} (r1:By K ρ H x v) (r2:By K ρ H x' v):x=x'∨(∃ds ds' vs,x=.tup ds/\x'=.tup ds'/\Ay K ρ H ds vs/\Ay K ρ H ds' vs)∨(∀n y,eqP n x y=none)∨∀n y,eqP n x' y=none:=by
 cases r1 with
 | non=>cases r2;exact .inl rfl
 | bl b=>cases r2;exact .inl rfl
 | int b=>cases r2;exact .inl rfl
 | str b=>cases r2;exact .inl rfl
 | fro _ _=>exact .inr (.inr (.inl λn y=>Xn n _ y))
 | ref _=>exact .inr (.inr (.inl λn y=>Xm n _ y))
 | exc _ _=>exact .inr (.inr (.inl λn y=>Xo n _ y))
 | tup u1 u2=>
  cases r2 with
  | fro _ _=>exact .inr (.inr (.inr λn y=>Xn n _ y))
  | ref _=>exact .inr (.inr (.inr λn y=>Xm n _ y))
  | exc _ _=>exact .inr (.inr (.inr λn y=>Xo n _ y))
  | tup w1 w2=>
   rw [u1] at w1;cases w1;exact .inr (.inl ⟨_,_,_,rfl,rfl,u2,w2⟩)
theorem fP:∀(n:Nat) {x x' y:D} {v:V} {b b':Bool},By K ρ H x v->By K ρ H x' v->eqP n x y=some b->eqP n x' y=some b'->b=b':=by
 intro n
 induction n with
 | zero=>
  intro x x' y v b b' r1 r2 h h'
  rcases M1 r1 r2 with rfl | ⟨ds,ds',vs,rfl,rfl,_,_⟩ | q | q
  ·rw [h] at h';cases h';rfl
  ·have:eqP 0 (.tup ds) y=eqP 0 (.tup ds') y:=by cases y <;> rfl
   rw [<-this,h] at h';cases h';rfl
  ·rw [q] at h;cases h
  ·rw [q] at h';cases h'
 | succ n ih=>
  intro x x' y v b b' r1 r2 h h'
  have lists:∀ {xs:List D} {vs:List V} {xs' ys:List D} {b b':Bool},Ay K ρ H xs vs->Ay K ρ H xs' vs->eqL (eqP n) xs ys=some b->eqL (eqP n) xs' ys=some b'->b=b':=by
   intro xs
   induction xs with
   | nil=>
    intro vs xs' ys b b' q1 q2 g g';cases q1;cases q2;rw [g] at g';cases g';rfl
   | cons d ds ihl=>
    intro vs xs' ys b b' q1 q2 g g'
    cases q1 with
    | cons a1 a2=>
     cases q2 with
     | cons c1 c2=>
      cases ys with
      | nil=>cases g;cases g';rfl
      | cons y ys=>
       obtain ⟨p,q,g1,g2,rfl⟩:=LK g;obtain ⟨p',q',g1',g2',rfl⟩:=LK g';rw [ih a1 c1 g1 g1',ihl a2 c2 g2 g2']
  rcases M1 r1 r2 with rfl | ⟨ds,ds',vs,rfl,rfl,q1,q2⟩ | q | q
  ·rw [h] at h';cases h';rfl
  ·by_cases c:∃ys,y=.tup ys
   ·obtain ⟨ys,rfl⟩:=c
    exact lists q1 q2 h h'
   ·have:eqP (n+1) (.tup ds) y=eqP (n+1) (.tup ds') y:=by
     cases y <;> first | rfl | exact (c ⟨_,rfl⟩).elim
    rw [<-this,h] at h';cases h';rfl
  ·rw [q] at h;cases h
  ·rw [q] at h';cases h'
theorem EN {x:D} {b:Bool} (h:KH x x=some b):b=true:=by
 cases x <;> first | (cases h;done) | (cases h;simp)
theorem QP:∀(n:Nat) {x:D} {b:Bool},eqP n x x=some b->b=true
 | 0,_,_,h=>EN h
 | n+1,x,b,h=>by
  have lists:∀ {xs:List D} {b:Bool},eqL (eqP n) xs xs=some b->b=true:=by
   intro xs
   induction xs with
   | nil=>intro b g;cases g;rfl
   | cons d ds ih=>
    intro b g;obtain ⟨p,q,g1,g2,rfl⟩:=LK g;rw [QP n g1,ih g2];rfl
  cases x with
  | tup xs=>exact lists h
  | non=>exact EN (x:=.non) h
  | bl c=>exact EN (x:=.bl c) h
  | int c=>exact EN (x:=.int c) h
  | str c=>exact EN (x:=.str c) h
  | ref c=>exact EN (x:=.ref c) h
  | fro c=>exact EN (x:=.fro c) h
  | exc c=>exact EN (x:=.exc c) h
theorem Ll {x y:D} (hy:(∃f,y=.fro f)∨(∃r,y=.ref r)∨∃c,y=.exc c) (n:Nat):eqP n x y=none:=by
 rcases hy with ⟨f,rfl⟩ | ⟨r,rfl⟩ | ⟨c,rfl⟩ <;> (cases n <;> cases x <;> rfl)
theorem bg (n:Nat) {x y:D} {v:V} {b:Bool} (h1:By K ρ H x v) (h2:By K ρ H y v) (h:eqP n x y=some b):b=true:=by
 induction n generalizing x y v b with
 | zero=>
  rcases M1 h1 h2 with rfl | ⟨ds,ds',vs,rfl,rfl,_,_⟩ | q | q
  ·exact QP 0 h
  ·cases h
  ·rw [q] at h;cases h
  ·cases h2 with
   | fro _ _=>rw [Ll (.inl ⟨_,rfl⟩)] at h;cases h
   | ref _=>rw [Ll (.inr (.inl ⟨_,rfl⟩))] at h;cases h
   | exc _ _=>rw [Ll (.inr (.inr ⟨_,rfl⟩))] at h;cases h
   | non=>cases (q 0 .non)
   | bl b=>cases (q 0 (.bl b))
   | int b=>cases (q 0 (.int b))
   | str b=>cases (q 0 (.str b))
   | tup _ _=>cases (q 0 .non)
 | succ n ih=>
  have lists:∀ {xs ys:List D} {vs:List V} {b:Bool},Ay K ρ H xs vs->Ay K ρ H ys vs->eqL (eqP n) xs ys=some b->b=true:=by
   intro xs
   induction xs with
   | nil=>intro ys vs b q1 q2 g;cases q1;cases q2;cases g;rfl
   | cons d ds ihl=>
    intro ys vs b q1 q2 g
    cases q1 with
    | cons a1 a2=>
     cases q2 with
     | cons c1 c2=>
      obtain ⟨p,q,g1,g2,rfl⟩:=LK g;rw [ih a1 c1 g1,ihl a2 c2 g2];rfl
  rcases M1 h1 h2 with rfl | ⟨ds,ds',vs,rfl,rfl,q1,q2⟩ | q | q
  ·exact QP (n+1) h
  ·exact lists q1 q2 h
  ·rw [q] at h;cases h
  ·cases h2 with
   | fro _ _=>rw [Ll (.inl ⟨_,rfl⟩)] at h;cases h
   | ref _=>rw [Ll (.inr (.inl ⟨_,rfl⟩))] at h;cases h
   | exc _ _=>rw [Ll (.inr (.inr ⟨_,rfl⟩))] at h;cases h
   | non=>cases (q 0 .non)
   | bl b=>cases (q 0 (.bl b))
   | int b=>cases (q 0 (.int b))
   | str b=>cases (q 0 (.str b))
   | tup _ _=>cases (q 0 .non)
end
section
variable {X:Cx} {pins:List (AM×Obj)} {σ:St} {H:Hp} {s:AE} {ρ:List AM}
theorem Fx (A:BC):A.in1.units=A.units+1:=rfl
theorem Bs.at_ {vs:List V} {its:List AD} (r:Bs vs its) {j:Nat} (h:j < its.toArray.size):∃v,vs[j]?=some v/\RelV v its.toArray[j]:=by
 have hj:j < its.length:=by simpa using h
 have hv:j < vs.length:=by rw [r.length];exact hj
 obtain ⟨u,h1,h2⟩:=r.get (i:=j) (x:=vs[j]) (by simp [hv]);refine ⟨vs[j],by simp [hv],?_⟩
 have:its.toArray[j]=u:=by
  have:=AH.mp h1;obtain ⟨_,e⟩:=this;simpa using e
 rw [this];exact h2
theorem SS {n:Nat} {A:BC} (ih:∀(x y:D) (b:Bool) (xv yv:V) (u v:AD),eqP n x y=some b->By X.K ρ H x xv->By X.K ρ H y yv->RelV xv u->RelV yv v->EqAt A s u v b)
  {xs ys:List D} {vs ws:List V} {us zs:List AD} {b:Bool} (h:eqL (eqP n) xs ys=some b) (r1:Ay X.K ρ H xs vs) (r2:Ay X.K ρ H ys ws) (q1:Bs vs us) (q2:Bs ws zs) :
  ∃e:Nat->Bool,(∀j (h1:j < us.toArray.size) (h2:j < zs.toArray.size),EqAt A s us.toArray[j] zs.toArray[j] (e j))/\b=((Cw (min us.toArray.size zs.toArray.size)).all e&&us.toArray.size==zs.toArray.size):=by
 obtain ⟨i1,i2⟩:=Xp h;refine ⟨λj=>match xs[j]?,ys[j]? with | some x,some y=>(eqP n x y).getD false | _,_=>false,λj h1 h2=>?_,?_⟩
 ·obtain ⟨v,e1,rv⟩:=Bs.at_ q1 h1
  obtain ⟨w,e2,rw'⟩:=Bs.at_ q2 h2;obtain ⟨x,e3,rx⟩:=r1.get' e1;obtain ⟨y,e4,ry⟩:=r2.get' e2;obtain ⟨c,hc⟩:=i1 j x y e3 e4;have:=ih x y c v w _ _ hc rx ry rv rw';simp only [e3,e4,hc,ZI];exact this
 ·rw [i2,r1.length,r2.length,q1.length,q2.length]
  simp
theorem Nz {A:BC} {x y:D} {b:Bool} {xv yv:V} {u v:AD} (I:Inv X pins σ H s) (hu:A.units < Dr) (h:KH x y=some b) (r1:By X.K ρ H x xv) (r2:By X.K ρ H y yv) (q1:RelV xv u) (q2:RelV yv v) :
  EqAt A s u v b/\RcAt A s u v b/\RcNeAt A s u v (!b):=by
 cases r1 with
 | non=>
  cases q1
  cases r2 with
  | non=>cases q2;cases h;exact ⟨EqAt.same _,RcAt.none_none,RcNeAt.none_none⟩
  | bl c=>cases q2;cases h;exact ⟨EqAt.none_bool _,RcAt.none_bool _,RcNeAt.none_bool _⟩
  | int i=>obtain ⟨t,rfl⟩:=q2;cases h;exact ⟨EqAt.none_int _ _,RcAt.none_int _ _,RcNeAt.none_int _ _⟩
  | str z=>obtain ⟨t,rfl⟩:=q2;cases h;exact ⟨EqAt.none_str _ _,RcAt.none_str _ _,RcNeAt.none_str _ _⟩
  | tup a1 a2=>
   cases q2;cases h;obtain ⟨its,_,p,_⟩:=I.tuple (.inl (.inl a1));exact ⟨EqAt.none_tuple p hu,RcAt.none_tuple p hu,RcNeAt.none_tuple p hu⟩
  | _=>cases h
 | bl a=>
  cases q1
  cases r2 with
  | non=>cases q2;cases h;exact ⟨EqAt.bool_none _,RcAt.bool_none _,RcNeAt.bool_none _⟩
  | bl c=>cases q2;cases h;exact ⟨EqAt.bool_bool _ _,RcAt.bool_bool _ _,RcNeAt.bool_bool _ _⟩
  | _=>cases h
 | int a=>
  obtain ⟨t,rfl⟩:=q1
  cases r2 with
  | non=>cases q2;cases h;exact ⟨EqAt.int_none _ _,RcAt.int_none _ _,RcNeAt.int_none _ _⟩
  | int i=>obtain ⟨t',rfl⟩:=q2;cases h;exact ⟨EqAt.int_int _ _ _ _,RcAt.int_int _ _ _ _,RcNeAt.int_int _ _ _ _⟩
  | tup a1 a2=>
   cases q2;cases h;obtain ⟨its,_,p,_⟩:=I.tuple (.inl (.inl a1));exact ⟨EqAt.int_tuple _ _ p hu,RcAt.int_tuple _ _ p hu,RcNeAt.int_tuple _ _ p hu⟩
  | _=>cases h
 | str a=>
  obtain ⟨t,rfl⟩:=q1
  cases r2 with
  | non=>cases q2;cases h;exact ⟨EqAt.str_none _ _,RcAt.str_none _ _,RcNeAt.str_none _ _⟩
  | str i=>obtain ⟨t',rfl⟩:=q2;cases h;exact ⟨EqAt.str_str _ _ _ _,RcAt.str_str _ _ _ _,RcNeAt.str_str _ _ _ _⟩
  | _=>cases h
 | tup a1 a2=>
  cases q1;obtain ⟨its,_,p,_⟩:=I.tuple (.inl (.inl a1))
  cases r2 with
  | non=>cases q2;cases h;exact ⟨EqAt.tuple_none p hu,RcAt.tuple_none p hu,RcNeAt.tuple_none p hu⟩
  | int i=>obtain ⟨t',rfl⟩:=q2;cases h;exact ⟨EqAt.tuple_int _ _ p hu,RcAt.tuple_int _ _ p hu,RcNeAt.tuple_int _ _ p hu⟩
  | _=>cases h
 | _=>cases h
theorem WV (I:Inv X pins σ H s):∀(n:Nat) (A:BC) (x y:D) (b:Bool) (xv yv:V) (u v:AD),A.units+n < Dr->eqP n x y=some b->By X.K ρ H x xv->By X.K ρ H y yv->RelV xv u->RelV yv v->EqAt A s u v b:=by
 intro n
 induction n with
 | zero=>exact λA x y b xv yv u v hu h r1 r2 q1 q2=>(Nz I (by omega) h r1 r2 q1 q2).1
 | succ n ih=>
  intro A x y b xv yv u v hu h r1 r2 q1 q2
  by_cases ht:∃xs ys,x=.tup xs/\y=.tup ys
  ·obtain ⟨xs,ys,rfl,rfl⟩:=ht
   cases r1 with
   | @tup _ a vs a1 a2=>
    cases r2 with
    | @tup _ c ws b1 b2=>
     cases q1;cases q2
     by_cases hac:a=c
     ·subst hac
      rw [bg (n+1) (.tup a1 a2) (.tup b1 b2) h];exact EqAt.same _
     ·obtain ⟨its,rv,p,_⟩:=I.tuple (.inl (.inl a1))
      obtain ⟨its2,rw',p2,_⟩:=I.tuple (.inl (.inl b1));obtain ⟨e,he,rfl⟩:=SS (A:=A.in1) (λx y b xv yv u v g1 g2 g3 g4 g5=>ih A.in1 x y b xv yv u v (by rw [Fx];lia) g1 g2 g3 g4 g5) h a2 b2 rv rw';exact EqAt.of_refs hac (ku p p2 (by lia) he)
  ·have hf:KH x y=some b:=by
    cases x <;> cases y <;> first | exact h | exact (ht ⟨_,_,rfl,rfl⟩).elim
   exact (Nz I (by lia) hf r1 r2 q1 q2).1
def Oe (d:D) (S:Sto):Option (List D):=match d with
 | .fro ds=>some ds
 | .ref n=>match S[n]? with
  | some (.lst ds)=>some ds
  | _=>none
 | _=>none
def eqB (x y:D) (S:Sto):Option Bool:=match Oe x S,Oe y S with
 | some xs,some ys=>if xs.length=ys.length then eqL (eqP 8) xs ys else some false
 | none,none=>eqP 8 x y
 | some _,none=>match y with
  | .tup _=>some false
  | .non=>some false
  | _=>none
 | none,some _=>match x with
  | .tup _=>some false
  | .non=>some false
  | _=>none
def eqD (neg:Bool) (x y:D) (S:Sto):Res D:=match eqB x y S with
 | some b=>.ok (.bl (if neg then !b else b)) S
 | none=>.bad
theorem J4 {K:AB} {S:Sto} {d:D} {x:V} {ds:List D} (hs:CI K ρ S H) (r:By K ρ H d x) (h:Oe d S=some ds):∃p xs,x=.ref p/\Ay K ρ H ds xs/\SqL K H p xs:=by
 cases r with
 | fro h1 h2=>cases h;exact ⟨_,_,rfl,h2,h1.sq⟩
 | @ref n a hn=>
  obtain ⟨o,ho,ro⟩:=hs.there hn;unfold Oe at h;simp only [ho] at h
  cases o with
  | lst es=>cases h;obtain ⟨vs,e,rr⟩:=ro;exact ⟨_,_,rfl,rr,.inl (.inl e)⟩
  | _=>cases h
 | _=>cases h
theorem bi {S:Sto} {x y:D} {b:Bool} {xv yv:V} {u v:AD} (I:Inv X pins σ H s) (hu:X.A.units+64 < Dr) (hs:CI X.K ρ S H) (r1:By X.K ρ H x xv) (r2:By X.K ρ H y yv) (q1:RelV xv u) (q2:RelV yv v) (h:eqB x y S=some b) :
  RcAt X.A s u v b/\RcNeAt X.A s u v (!b):=by
 unfold eqB at h;split at h
 ·rename_i xs ys h1 h2
  obtain ⟨p,vs,rfl,rr,sq⟩:=J4 hs r1 h1;obtain ⟨p',vs',rfl,rr',sq'⟩:=J4 hs r2 h2;cases q1;cases q2;obtain ⟨its,rv,pl,_⟩:=I.list sq;obtain ⟨its2,rv2,pl2,_⟩:=I.list sq';split at h
  ·rename_i hlen
   obtain ⟨e,he,rfl⟩:=SS (A:=X.A.in1) (λx y b xv yv u v g1 g2 g3 g4 g5=>WV I 8 X.A.in1 x y b xv yv u v (by rw [Fx];lia) g1 g2 g3 g4 g5) h rr rr' rv rv2
   have hsz:its.toArray.size=its2.toArray.size:=by
    simp only [Ad];rw [<-rv.length,<-rv2.length,<-rr.length,<-rr'.length];exact hlen
   have e1:((Cw (min its.toArray.size its2.toArray.size)).all e&&its.toArray.size==its2.toArray.size)=(Cw its.toArray.size).all e:=by
    rw [<-hsz,Nat.min_self,beq_self_eq_true,Bool.and_true]
   rw [e1];exact ⟨RcAt.lists pl.isList pl2.isList hsz (by lia) he,RcNeAt.lists pl.isList pl2.isList hsz (by lia) he⟩
  ·rename_i hlen
   cases h
   have hsz:(its.toArray.size != its2.toArray.size)=true:=by
    simp only [Ad];rw [<-rv.length,<-rv2.length,<-rr.length,<-rr'.length];simpa using hlen
   exact ⟨RcAt.lists_lengths pl.isList pl2.isList hsz (by lia),RcNeAt.lists_lengths pl.isList pl2.isList hsz (by lia)⟩
 ·by_cases ht:∃xs ys,x=.tup xs/\y=.tup ys
  ·obtain ⟨xs,ys,rfl,rfl⟩:=ht
   cases r1 with
   | tup a1 a2=>
    cases r2 with
    | tup b1 b2=>
     cases q1;cases q2;obtain ⟨its,rv,p,_⟩:=I.tuple (.inl (.inl a1));obtain ⟨its2,rw',p2,_⟩:=I.tuple (.inl (.inl b1));obtain ⟨e,he,rfl⟩:=SS (n:=7) (A:=X.A.in1) (λx y b xv yv u v g1 g2 g3 g4 g5=>WV I 7 X.A.in1 x y b xv yv u v (by rw [Fx];lia) g1 g2 g3 g4 g5) h a2 b2 rv rw';exact ⟨ku p p2 (by lia) he,RcNeAt.tuples p p2 (by lia) he⟩
  ·have hf:KH x y=some b:=by
    cases x <;> cases y <;> first | exact h | exact (ht ⟨_,_,rfl,rfl⟩).elim
   exact (Nz I (by lia) hf r1 r2 q1 q2).2
 ·rename_i xs h1 h2
  obtain ⟨p,vs,rfl,rr,sq⟩:=J4 hs r1 h1;cases q1;obtain ⟨its,rv,pl,_⟩:=I.list sq;split at h
  ·cases h
   cases r2 with
   | tup b1 b2=>
    cases q2;obtain ⟨its2,rw',p2,_⟩:=I.tuple (.inl (.inl b1));exact ⟨RcAt.list_tuple pl.isList p2 (by lia),RcNeAt.list_tuple pl.isList p2 (by lia)⟩
  ·cases h
   cases r2;cases q2;exact ⟨RcAt.list_none pl.isList (by lia),RcNeAt.list_none pl.isList (by lia)⟩
  ·cases h
 ·rename_i xs h1 h2
  obtain ⟨p,vs,rfl,rr,sq⟩:=J4 hs r2 h2;cases q2;obtain ⟨its,rv,pl,_⟩:=I.list sq;split at h
  ·cases h
   cases r1 with
   | tup b1 b2=>
    cases q1;obtain ⟨its2,rw',p2,_⟩:=I.tuple (.inl (.inl b1));exact ⟨RcAt.tuple_list p2 pl.isList (by lia),RcNeAt.tuple_list p2 pl.isList (by lia)⟩
  ·cases h
   cases r1;cases q1;exact ⟨RcAt.none_list pl.isList (by lia),RcNeAt.none_list pl.isList (by lia)⟩
  ·cases h
theorem Kz (hu:X.A.units+64 < Dr):OpR X (Bk .Eq) (rD X.K (eqD false)):=by
 intro pins s σ H x y v u Q I rx ry h;obtain ⟨ρ,S,a,b,d,S',hs,ra,rb,hm,k⟩:=h;unfold eqD at hm;split at hm
 ·rename_i c hc
  cases hm;exact (bi I hu hs ra rb rx ry hc).1 _ _ _ _ ⟨.bl c,H,I,rfl,k ρ H _ .refl hs (.bl _)⟩
 ·cases hm
theorem ag (hu:X.A.units+64 < Dr):OpR X (Bk .NotEq) (rD X.K (eqD true)):=by
 intro pins s σ H x y v u Q I rx ry h;obtain ⟨ρ,S,a,b,d,S',hs,ra,rb,hm,k⟩:=h;unfold eqD at hm;split at hm
 ·rename_i c hc
  cases hm;exact (bi I hu hs ra rb rx ry hc).2 _ _ _ _ ⟨.bl (!c),H,I,rfl,k ρ H _ .refl hs (.bl _)⟩
 ·cases hm
def L5 (x:D):List D->Option Bool
 | []=>some false
 | d :: ds=>match eqP 8 d x,L5 x ds with
  | some a,some b=>some (a||b)
  | _,_=>none
def inD (neg:Bool) (x y:D) (S:Sto):Res D:=match G1 y S with
 | some ds=>match L5 x ds with
  | some b=>.ok (.bl (if neg then !b else b)) S
  | none=>.bad
 | none=>.bad
theorem Wg {x d:D} {ds:List D} {b:Bool} (h:L5 x (d :: ds)=some b):∃a c,eqP 8 d x=some a/\L5 x ds=some c/\b=(a||c):=by
 unfold L5 at h;split at h
 ·rename_i a c h1 h2
  cases h;exact ⟨a,c,h1,h2,rfl⟩
 ·cases h
open Classical in
theorem NI {x:D} {xv:V} {v:AD} (I:Inv X pins σ H s) {A:BC} (hu:A.units+8 < Dr) (rx:By X.K ρ H x xv) (qx:RelV xv v):∀ {ds:List D} {vs:List V} {us:List AD} {b:Bool},Ay X.K ρ H ds vs->Bs vs us->L5 x ds=some b ->
  ∃e:AD->Bool,(∀y∈us,EqAt A s y v (e y))/\b=us.any e:=by
 intro ds vs us b r q h
 let e:AD->Bool:=λy=>decide (∃d w,d∈ds/\By X.K ρ H d w/\RelV w y/\eqP 8 d x=some true)
 have all:∀ {ds':List D} {vs':List V} {us':List AD} {b':Bool},(∀d∈ds',d∈ds)->Ay X.K ρ H ds' vs'->Bs vs' us'->L5 x ds'=some b'->(∀y∈us',EqAt A s y v (e y))/\b'=us'.any e:=by
  intro ds'
  induction ds' with
  | nil=>intro vs' us' b' _ r q h;cases r;cases q;cases h;exact ⟨(λ_ z=>nomatch z),rfl⟩
  | cons d ds' ih=>
   intro vs' us' b' hsub r q h
   cases r with
   | cons r1 r2=>
    cases q with
    | @cons w y _ _ q1 q2=>
     obtain ⟨a,c,h1,h2,rfl⟩:=Wg h;obtain ⟨i1,i2⟩:=ih (λz hz=>hsub z (Ah _ hz)) r2 q2 h2
     have ha:e y=a:=by
      by_cases hq:∃d w,d∈ds/\By X.K ρ H d w/\RelV w y/\eqP 8 d x=some true
      ·obtain ⟨d',w',_,g1,g2,g3⟩:=id hq
       rw [RelV.inj g2 q1] at g1;have:=fP 8 g1 r1 g3 h1;rw [<-this];exact decide_eq_true hq
      ·have:a=false:=by
        cases a with
        | false=>rfl
        | true=>exact (hq ⟨d,_,hsub d A3,r1,q1,h1⟩).elim
       rw [this];exact decide_eq_false hq
     refine ⟨λz hz=>?_,by rw [HY,ha,<-i2]⟩
     rcases A2.mp hz with rfl | hz
     ·rw [ha]
      exact WV I 8 A d x a _ _ _ _ hu h1 r1 rx q1 qx
     ·exact i1 z hz
 obtain ⟨e1,e2⟩:=all (λ_ h=>h) r q h;exact ⟨e,e1,e2⟩
theorem gR (hu:X.A.units+64 < Dr):OpR X (Bk .In) (rD X.K (inD false)):=by
 intro pins s σ H x y v u Q I rx ry h;obtain ⟨ρ,S,a,b,d,S',hs,ra,rb,hm,k⟩:=h;unfold inD at hm;split at hm
 ·rename_i ds hq
  split at hm
  ·rename_i c hc
   cases hm;obtain ⟨p,xs,rfl,rr,sq⟩:=Ow hs rb hq;cases ry
   rcases sq with sq | sq
   ·obtain ⟨its,rv,pl,_⟩:=I.list sq
    obtain ⟨e,he,rfl⟩:=NI I (A:=X.A.in1) (by rw [Fx];lia) ra rx rr rv hc;exact in_listAt e pl.isList (λz hz=>he z (by simpa using hz)) ⟨.bl (its.toArray.any e),H,I,rfl,by rw [KU];exact k ρ H _ .refl hs (.bl _)⟩
   ·obtain ⟨its,rv,pl,_⟩:=I.tuple sq
    obtain ⟨e,he,rfl⟩:=NI I (A:=X.A.in1) (by rw [Fx];lia) ra rx rr rv hc;exact in_tupleAt e pl (λz hz=>he z (by simpa using hz)) ⟨.bl (its.toArray.any e),H,I,rfl,by rw [KU];exact k ρ H _ .refl hs (.bl _)⟩
  ·cases hm
 ·cases hm
theorem UW (hu:X.A.units+64 < Dr):OpR X (Bk .NotIn) (rD X.K (inD true)):=by
 intro pins s σ H x y v u Q I rx ry h;obtain ⟨ρ,S,a,b,d,S',hs,ra,rb,hm,k⟩:=h;unfold inD at hm;split at hm
 ·rename_i ds hq
  split at hm
  ·rename_i c hc
   cases hm;obtain ⟨p,xs,rfl,rr,sq⟩:=Ow hs rb hq;cases ry
   rcases sq with sq | sq
   ·obtain ⟨its,rv,pl,_⟩:=I.list sq
    obtain ⟨e,he,rfl⟩:=NI I (A:=X.A.in1) (by rw [Fx];lia) ra rx rr rv hc;exact notIn_listAt e pl.isList (λz hz=>he z (by simpa using hz)) ⟨.bl (!its.toArray.any e),H,I,rfl,by rw [KU];exact k ρ H _ .refl hs (.bl _)⟩
   ·obtain ⟨its,rv,pl,_⟩:=I.tuple sq
    obtain ⟨e,he,rfl⟩:=NI I (A:=X.A.in1) (by rw [Fx];lia) ra rx rr rv hc;exact notIn_tupleAt e pl (λz hz=>he z (by simpa using hz)) ⟨.bl (!its.toArray.any e),H,I,rfl,by rw [KU];exact k ρ H _ .refl hs (.bl _)⟩
  ·cases hm
 ·cases hm
end
end L2
namespace L2
open PySem PySem.Spec PyProof.Rows
def Od (mo ma:ME):ME:=λe S=>(mo e S).bind λd S1=>match d with
 | .ref n=>match S1[n]? with
  | some (.lst _)=>(ma e S1).bind λy S2=>match S2[n]? with
   | some (.lst xs)=>if xs.length < sizeLine then .ok .non (S2.set n (.lst (xs++[y]))) else .bad
   | _=>.bad
  | _=>.bad
 | _=>.bad
section
variable {X:Cx} {E:EW} {o e:Expr} {apos cpos:Pos} {mo ma:ME}
theorem XM {K:AB} {ρ:List AM} {S:Sto} {H:Hp} {n:Nat} {x:V} {xs:List D} (s:CI K ρ S H) (r:By K ρ H (.ref n) x) (h:S[n]?=some (.lst xs)):∃a vs,x=.ref a/\ρ[n]?=some a/\H a=some (.lst vs)/\Ay K ρ H xs vs:=by
 cases r with
 | ref hn=>
  obtain ⟨vs,e,rr⟩:=s.ob n _ _ h hn;exact ⟨_,vs,rfl,hn,e,rr⟩
theorem Jd (ho:GE X E o mo) (ha:GE X E e ma) (hbase:Ia o "append" X.env (CS o X.env)=CS o X.env:=by rfl)
  (hfew:((Dz cpos (Ab [e] X.env)).all (λx=>!x.1)&&(Jk cpos (Fj [] X.env)).all (λx=>x.1.isSome)
    &&decide ([e].length+([]:List OD).length+(if ([]:List OD).isEmpty then 0 else 1) < 30))=true:=by rfl)
  (hline:(apos.endLine==cpos.line)=true:=by rfl) (hs:Ab [e] X.env=(false,CS e X.env) :: Ab [] X.env:=by rfl) (hplain:(Dz cpos (Ab [] X.env)).any (·.1)=false:=by rfl) :
  GE X E (.Call (.Attribute o "append" apos) [e] [] cpos) (Od mo ma):=(gP RG PySem.F.slot_list_append PySem.F.type_list_append Re ho (FI ha Hd hs) hbase hfew hline hs hplain).imp λσ H Q ⟨ρ,l,S,hl,hs,hm⟩=>by
 refine ⟨ρ,l,S,hl,hs,hm.seq λx S1 hm ρ1 H1 v l1 s1 r1=>?_⟩
 cases x <;> first | exact hm.elim | skip
 rename_i n;dsimp only at hm;split at hm
 ·rename_i xs0 h0
  obtain ⟨a,vs,rfl,hn,e0,_⟩:=XM s1 r1 h0;refine ⟨.inl ⟨rfl,vs,.inl (.inl e0)⟩,ρ1,l,S1,hl.mono l1,s1,(hm.later l1).seq λy S2 hm ρ2 H2 u l2 s2 r2=>?_⟩;split at hm
  ·rename_i xs h3
   split at hm
   ·rename_i hz
    have hn2:=l2.pre n a hn;obtain ⟨ws,e3,rr⟩:=s2.ob n _ _ h3 hn2;have le:Le X.K ρ2 H2 ρ2 (upd H2 a (.lst (ws++[u]))):=Le.write hn2 (by rw [e3];trivial);obtain ⟨s3,l3⟩:=s2.write (ho:=.lst (ws++[u])) (o:=.lst (xs++[y])) hn2 ⟨_,Bw,(rr.append (.cons r2 .nil)).mono le⟩;exact ⟨a,ws,u,rfl,rfl,e3,by rw [<-rr.length];exact hz,hm ρ2 _ _ (l1.trans (l2.trans l3)) s3 .non⟩
   ·exact hm.elim
  ·exact hm.elim
 ·exact hm.elim
end
def A9 {κ β:Type} [DecidableEq κ] (kvs:List (κ×β)) (k:κ):Option β:=(kvs.find? λkv=>decide (kv.1=k)).map (·.2)
def CW {κ β:Type} [DecidableEq κ] (kvs:List (κ×β)) (k:κ) (v:β):List (κ×β):=
 if (kvs.any λkv=>decide (kv.1=k))=true then kvs.map (λkv=>if kv.1=k then (kv.1,v) else kv) else kvs++[(k,v)]
section
variable {κ:Type} [DecidableEq κ] {K:AB} {ρ:List AM} {H:Hp}
theorem KVR.val (k:κ):∀ {x:List (κ×D)} {y:List (κ×V)},KVR K ρ H x y->(A9 x k=none->Ks y k=none)/\∀d,A9 x k=some d->∃v,Ks y k=some v/\By K ρ H d v
 | _,_,.nil=>⟨λ_=>rfl,λd h=>by cases h⟩
 | (g,a) :: x,(g',b) :: y,.cons r t=>by
  obtain ⟨r1,r2⟩:=r;dsimp only at r1 r2;subst r1;unfold A9 Ks;rw [B6,B6]
  by_cases e:g=k
  ·simp only [e,decide_true]
   exact ⟨(λh=>nomatch h),(λd h=>by cases h;exact ⟨b,rfl,r2⟩)⟩
  ·simp only [e,decide_false]
   exact KVR.val k t
theorem KVR.any (k:κ):∀ {x:List (κ×D)} {y:List (κ×V)},KVR K ρ H x y->(x.any λkv=>decide (kv.1=k))=y.any λkv=>decide (kv.1=k)
 | _,_,.nil=>rfl
 | (g,a) :: x,(g',b) :: y,.cons r t=>by
  rw [HY,HY,KVR.any k t,show g=g' from r.1]
theorem KVR.repl (k:κ) {d:D} {v:V} (rd:By K ρ H d v):∀ {x:List (κ×D)} {y:List (κ×V)},KVR K ρ H x y->KVR K ρ H (x.map λkv=>if kv.1=k then (kv.1,d) else kv) (y.map λkv=>if kv.1=k then (kv.1,v) else kv)
 | _,_,.nil=>.nil
 | (g,a) :: x,(g',b) :: y,.cons r t=>by
  obtain ⟨r1,r2⟩:=r;dsimp only at r1 r2;subst r1;rw [A1,A1];refine .cons ?_ (KVR.repl k rd t)
  by_cases e:g=k
  ·rw [if_pos e,if_pos e];exact ⟨rfl,rd⟩
  ·rw [if_neg e,if_neg e];exact ⟨rfl,r2⟩
theorem KVR.put (k:κ) {d:D} {v:V} (rd:By K ρ H d v) {x:List (κ×D)} {y:List (κ×V)} (h:KVR K ρ H x y):KVR K ρ H (CW x k d) (Kb y k v):=by
 unfold CW Kb;rw [KVR.any k h];split
 ·exact KVR.repl k rd h
 ·exact U9 h ⟨rfl,rd⟩
end
def ee:D->Option Key
 | .int i=>some (.inl i)
 | .str x=>some (.inr x)
 | _=>none
def Ug:List D->Option (List Key)
 | []=>some []
 | d :: ds=>match ee d,Ug ds with
  | some k,some ks=>some (k :: ks)
  | _,_=>none
theorem Sv {K:AB} {ρ:List AM} {H:Hp} {d:D} {v:V} {k:Key} (r:By K ρ H d v) (h:ee d=some k):v=kV k:=by
 cases r <;> first | (cases h;done) | (cases h;rfl)
theorem QC {K:AB} {ρ:List AM} {H:Hp}:∀ {ds:List D} {vs:List V} {ks:List Key},Ay K ρ H ds vs->Ug ds=some ks->vs=ks.map kV
 | _,_,_,.nil,h=>by cases h;rfl
 | _,_,_,.cons r t,h=>by
  unfold Ug at h;split at h
  ·rename_i k ks h1 h2
   cases h;rw [Sv r h1,QC t h2];rfl
  ·cases h
def Og (x y:D) (S:Sto):Option (Option D):=match x with
 | .ref n=>match S[n]? with
  | some (.dK kvs)=>match ee y with
   | some k=>some (A9 kvs k)
   | none=>none
  | some (.dT kvs)=>match y with
   | .tup ds=>match Ug ds with
    | some ks=>some (A9 kvs ks)
    | none=>none
   | _=>none
  | _=>none
 | _=>none
theorem TF {K:AB} {ρ:List AM} {S:Sto} {H:Hp} {x y:D} {xv yv:V} {o:Option D} (s:CI K ρ S H) (rx:By K ρ H x xv) (ry:By K ρ H y yv) (h:Og x y S=some o) :
  ∃a o',xv=.ref a/\NK H a yv o'/\(o=none->o'=none)/\∀d,o=some d->∃v,o'=some v/\By K ρ H d v:=by
 unfold Og at h;split at h
 ·rename_i n
  cases rx with
  | @ref _ a hn=>
   split at h
   ·rename_i kvs h1
    split at h
    ·rename_i k hk
     cases h;obtain ⟨kvs',e,r⟩:=s.ob n _ _ h1 hn;rw [Sv ry hk];obtain ⟨v1,v2⟩:=KVR.val k r;exact ⟨a,Ks kvs' k,rfl,NK.k e,v1,v2⟩
    ·cases h
   ·rename_i kvs h1
    split at h
    ·rename_i ds
     split at h
     ·rename_i ks hk
      cases h;obtain ⟨kvs',e,r⟩:=s.ob n _ _ h1 hn
      cases ry with
      | tup b1 b2=>
       obtain ⟨v1,v2⟩:=KVR.val ks r;rw [QC b2 hk] at b1;exact ⟨a,Ks kvs' ks,rfl,NK.t e b1,v1,v2⟩
     ·cases h
    ·cases h
   ·cases h
 ·cases h
def QS (x y:D) (S:Sto):Res D:=match Og x y S with
 | some (some d)=>.ok d S
 | _=>.bad
def LL (neg:Bool) (y x:D) (S:Sto):Res D:=match Og x y S with
 | some o=>.ok (.bl (if neg then !o.isSome else o.isSome)) S
 | none=>.bad
section
variable {X:Cx} {E:EW} {o i value:Expr} {pos pos':Pos} {mo mi mv:ME}
theorem fH (hu:X.A.units+1 < Dr) (ho:GE X E o mo) (hi:GE X E i mi) (hs:kL i:=by intro _ _;rfl):GE X E (.Subscript o i pos) (m2 QS mo mi):=(d9 hu ho hi hs).imp λσ H Q h=>by
 refine (MA h:tOp (rD X.K QS) (gE X.K E mo) (gE X.K E mi) σ H Q) |> λt=>?_
 obtain ⟨ρ,l,S,hl,hs,k⟩:=t;refine ⟨ρ,l,S,hl,hs,k.imp λx S1 k ρ1 H1 u l1 s1 r1=>?_⟩;obtain ⟨ρ2,l2,S2,hl2,hs2,k2⟩:=k ρ1 H1 u l1 s1 r1;refine ⟨ρ2,l2,S2,hl2,hs2,k2.imp λy S3 k2 ρ3 H3 v l3 s3 r3=>?_⟩;obtain ⟨ρ4,S4,x4,y4,d,S5,s4,r4,r5,hm,k4⟩:=k2 ρ3 H3 v l3 s3 r3;unfold QS at hm;split at hm
 ·rename_i d' hd
  cases hm;obtain ⟨a,o',rfl,g,_,g2⟩:=TF s4 r4 r5 hd;obtain ⟨w',rfl,rw'⟩:=g2 _ rfl;exact ⟨a,w',rfl,g,k4 ρ4 H3 w' .refl s4 rw'⟩
 ·cases hm
theorem XH {σ:St} {H:Hp} {Q:VK} (h:gE X.K E (m2 (LL false) mi mo) σ H Q):lV (gE X.K E mi) (gE X.K E mo) σ H Q:=by
 obtain ⟨ρ,l,S,hl,hs,k⟩:=(MA h:tOp (rD X.K (LL false)) (gE X.K E mi) (gE X.K E mo) σ H Q);refine ⟨ρ,l,S,hl,hs,k.imp λx S1 k ρ1 H1 u l1 s1 r1=>?_⟩;obtain ⟨ρ2,l2,S2,hl2,hs2,k2⟩:=k ρ1 H1 u l1 s1 r1;refine ⟨ρ2,l2,S2,hl2,hs2,k2.imp λy S3 k2 ρ3 H3 v l3 s3 r3=>?_⟩;obtain ⟨ρ4,S4,x4,y4,d,S5,s4,r4,r5,hm,k4⟩:=k2 ρ3 H3 v l3 s3 r3;unfold LL at hm;split at hm
 ·rename_i o' hd
  cases hm;obtain ⟨a,o2,rfl,g,g1,g2⟩:=TF s4 r5 r4 hd;refine ⟨a,o2,rfl,g,?_⟩
  have:o2.isSome=o'.isSome:=by
   cases o' with
   | none=>rw [g1 rfl];rfl
   | some d=>obtain ⟨w',rfl,_⟩:=g2 d rfl;rfl
  rw [this];exact k4 ρ4 H3 _ .refl s4 (.bl _)
 ·cases hm
theorem Ph {σ:St} {H:Hp} {Q:VK} (h:gE X.K E (m2 (LL true) mi mo) σ H Q):XG (gE X.K E mi) (gE X.K E mo) σ H Q:=by
 obtain ⟨ρ,l,S,hl,hs,k⟩:=(MA h:tOp (rD X.K (LL true)) (gE X.K E mi) (gE X.K E mo) σ H Q);refine ⟨ρ,l,S,hl,hs,k.imp λx S1 k ρ1 H1 u l1 s1 r1=>?_⟩;obtain ⟨ρ2,l2,S2,hl2,hs2,k2⟩:=k ρ1 H1 u l1 s1 r1;refine ⟨ρ2,l2,S2,hl2,hs2,k2.imp λy S3 k2 ρ3 H3 v l3 s3 r3=>?_⟩;obtain ⟨ρ4,S4,x4,y4,d,S5,s4,r4,r5,hm,k4⟩:=k2 ρ3 H3 v l3 s3 r3;unfold LL at hm;split at hm
 ·rename_i o' hd
  cases hm;obtain ⟨a,o2,rfl,g,g1,g2⟩:=TF s4 r5 r4 hd;refine ⟨a,o2,rfl,g,?_⟩
  have:o2.isSome=o'.isSome:=by
   cases o' with
   | none=>rw [g1 rfl];rfl
   | some d=>obtain ⟨w',rfl,_⟩:=g2 d rfl;rfl
  rw [this];exact k4 ρ4 H3 _ .refl s4 (.bl _)
 ·cases hm
theorem jy (hu:X.A.units+1 < Dr) (hi:GE X E i mi) (ho:GE X E o mo) (h1:B2 .In o=false:=by rfl):GE X E (.Compare i [.In] [o] pos) (m2 (LL false) mi mo):=(aT (aU hu hi ho) h1).imp λ_ _ _ h=>XH h
theorem Yx (hu:X.A.units+1 < Dr) (hi:GE X E i mi) (ho:GE X E o mo) (h1:B2 .NotIn o=false:=by rfl):GE X E (.Compare i [.NotIn] [o] pos) (m2 (LL true) mi mo):=(aT (RY hu hi ho) h1).imp λ_ _ _ h=>Ph h
theorem ay {K:AB} {m:ME} {σ:St} {H:Hp} {Q:Bool->Hp->Prop} (h:gT K E (mB m) σ H Q):gE K E m σ H λx H1=>∃c,x=.bl c/\Q c H1:=by
 obtain ⟨ρ,l,S,hl,hs,hm⟩:=h;refine ⟨ρ,l,S,hl,hs,hm.seq λd S1 hm ρ1 H1 x l1 s1 r1=>?_⟩
 cases d <;> first | exact hm.elim | skip
 cases r1;exact ⟨_,rfl,hm ρ1 H1 l1 s1⟩
theorem jo (hu:X.A.units+1 < Dr) (hi:GE X E i mi) (ho:GE X E o mo) (h1:B2 .In o=false:=by rfl):GT X E (.Compare i [.In] [o] pos) (mB (m2 (LL false) mi mo)):=(aG (aU hu hi ho) h1).imp λ_ _ _ h=>XH (ay h)
theorem Yw (hu:X.A.units+1 < Dr) (hi:GE X E i mi) (ho:GE X E o mo) (h1:B2 .NotIn o=false:=by rfl):GT X E (.Compare i [.NotIn] [o] pos) (mB (m2 (LL true) mi mo)):=(aG (RY hu hi ho) h1).imp λ_ _ _ h=>Ph (ay h)
def Nq:ME:=λ_ S=>.ok (.ref S.length) (S++[.dK []])
def So:ME:=λ_ S=>.ok (.ref S.length) (S++[.dT []])
theorem Uo:GE X E (.Dict [] [] pos) Nq:=(aS (X:=X) (pos:=pos)).imp λσ H Q ⟨ρ,l,S,hl,hs,k⟩ p hp=>by
 obtain ⟨s2,l2,at2⟩:=hs.alloc (ho:=.dK []) (o:=.dK []) hp ⟨[],Bw,.nil⟩;exact k _ _ _ l2 s2 (.ref at2)
theorem Um:GE X E (.Dict [] [] pos) So:=(aR (X:=X) (pos:=pos)).imp λσ H Q ⟨ρ,l,S,hl,hs,k⟩ p hp=>by
 obtain ⟨s2,l2,at2⟩:=hs.alloc (ho:=.dT []) (o:=.dT []) hp ⟨[],Bw,.nil⟩;exact k _ _ _ l2 s2 (.ref at2)
def Uv (x y v:D) (S:Sto):Option Sto:=match x with
 | .ref n=>match S[n]? with
  | some (.dK kvs)=>match ee y with
   | some k=>if kvs.length < sizeLine then some (S.set n (.dK (CW kvs k v))) else none
   | none=>none
  | some (.dT kvs)=>match y with
   | .tup ds=>match Ug ds with
    | some ks=>if kvs.length < sizeLine then some (S.set n (.dT (CW kvs ks v))) else none
    | none=>none
   | _=>none
  | _=>none
 | _=>none
def D2 (mo mi mv:ME):MS:=λe S=>(mv e S).lift e λv S1=>(mo e S1).lift e λx S2=>(mi e S2).lift e λy S3=>match Uv x y v S3 with
 | some S4=>.ok (.nx e) S4
 | none=>.bad
theorem J6 (hu:X.A.units+1 < Dr) (ho:GE X E o mo) (hi:GE X E i mi) (hv:GE X E value mv) (hs:GB value (some (.Subscript o i pos')) pos.line X.env=pure false:=by rfl):GS X E (.Assign [.Subscript o i pos'] value pos) (D2 mo mi mv):=(dn hu ho hi hv hs).imp λD σ H ⟨ρ,l,S,hl,hs,hm⟩=>by
 refine ⟨ρ,l,S,hl,hs,hm.lift hl .refl λv S1 hm ρ1 H1 vv l1 s1 r1=>⟨ρ1,l,S1,hl.mono l1,s1,(hm.later l1).lift (hl.mono l1) l1 λx S2 hm ρ2 H2 xv l2 s2 r2=>⟨ρ2,l,S2,hl.mono (l1.trans l2),s2,(hm.later l2).lift (hl.mono (l1.trans l2)) (l1.trans l2) λy S3 hm ρ3 H3 yv l3 s3 r3=>?_⟩⟩⟩;have r1':=r1.mono (l2.trans l3);have r2':=r2.mono l3;have hl3:=hl.mono (l1.trans (l2.trans l3));split at hm
 ·rename_i S4 hp
  unfold Uv at hp;split at hp
  ·rename_i n
   cases r2' with
   | @ref _ a hn=>
    split at hp
    ·rename_i kvs h4
     split at hp
     ·rename_i ky hk
      split at hp
      ·rename_i hz
       cases hp;obtain ⟨kvs',e,r⟩:=s3.ob n _ _ h4 hn;rw [Sv r3 hk];have le:Le X.K ρ3 H3 ρ3 (upd H3 a (.dK (Kb kvs' ky vv))):=Le.write hn (by rw [e];trivial);obtain ⟨s5,l5⟩:=s3.write (ho:=.dK (Kb kvs' ky vv)) (o:=.dK (CW kvs ky v)) hn ⟨_,Bw,(KVR.put ky r1' r).mono le⟩;exact ⟨a,_,rfl,U7.k e (by rw [<-KVR.length r];exact hz),hm ρ3 _ σ (l1.trans (l2.trans (l3.trans l5))) s5 (hl3.mono l5)⟩
      ·cases hp
     ·cases hp
    ·rename_i kvs h4
     split at hp
     ·rename_i ds
      split at hp
      ·rename_i ks hk
       split at hp
       ·rename_i hz
        cases hp;obtain ⟨kvs',e,r⟩:=s3.ob n _ _ h4 hn
        cases r3 with
        | tup b1 b2=>
         rw [QC b2 hk] at b1;have le:Le X.K ρ3 H3 ρ3 (upd H3 a (.dT (Kb kvs' ks vv))):=Le.write hn (by rw [e];trivial);obtain ⟨s5,l5⟩:=s3.write (ho:=.dT (Kb kvs' ks vv)) (o:=.dT (CW kvs ks v)) hn ⟨_,Bw,(KVR.put ks r1' r).mono le⟩;exact ⟨a,_,rfl,U7.t e b1 (by rw [<-KVR.length r];exact hz),hm ρ3 _ σ (l1.trans (l2.trans (l3.trans l5))) s5 (hl3.mono l5)⟩
       ·cases hp
      ·cases hp
     ·cases hp
    ·cases hp
  ·cases hp
 ·exact hm.elim
end
end L2
namespace L2
open PySem PySem.Spec PyProof.Rows
section
variable {X:Cx} {E:EW} {a b c:Expr} {pos:Pos} {ma mb mc:ME}
theorem YL {K:AB} {f g:D->D->Sto->Res D} {σ:St} {H:Hp} {Q:VK} (h:gE K E (m3 f g ma mb mc) σ H Q):Zy (rD K f) (rD K g) (gE K E ma) (gE K E mb) (gE K E mc) σ H Q:=by
 obtain ⟨ρ,l,S,hl,hs,hm⟩:=h;refine ⟨ρ,l,S,hl,hs,hm.seq λx S1 hm ρ1 H1 u l1 s1 r1=>⟨ρ1,l,S1,hl.mono l1,s1,(hm.later l1).seq λy S2 hm ρ2 H2 v l2 s2 r2=>?_⟩⟩
 cases hf:f x y S2 with
 | bad=>rw [hf] at hm;exact hm.elim
 | err _ _=>rw [hf] at hm;exact hm.elim
 | ok z S3=>
  rw [hf] at hm;dsimp only [okR,Res.bind] at hm;refine ⟨ρ2,S2,x,y,z,S3,s2,r1.mono l2,r2,hf,λρ3 H3 w l3 s3 r3=>?_⟩
  cases z with
  | bl k=>
   cases r3;refine ⟨k,rfl,?_⟩
   cases k with
   | true=>
    rw [if_pos rfl];refine ⟨ρ3,l,S3,hl.mono (l1.trans (l2.trans l3)),s3,CM.seq (hm.later (l2.trans l3)) λw S4 hm ρ4 H4 wv l4 s4 r4=>?_⟩;obtain ⟨d,S',e,k⟩:=hm.okR;exact ⟨ρ4,S4,y,w,d,S',s4,r2.mono (l3.trans l4),r4,e,λρ' H' z l' s' r'=>k ρ' H' z (l1.trans (l2.trans (l3.trans (l4.trans l')))) s' r'⟩
   | false=>rw [if_neg AQ];exact hm ρ3 H3 _ (l1.trans (l2.trans l3)) s3 (.bl false)
  | _=>exact hm.elim
theorem QG {op op':Qo} {f g:D->D->Sto->Res D} (ho:OpR X (Bk op) (rD X.K f)) (ho':OpR X (Bk op') (rD X.K g)) (ha:GE X E a ma) (hb:GE X E b mb) (hc:GE X E c mc)
  (hm:lastMarks [op,op'] [b,c]=false:=by with_unfolding_all rfl):GT X E (.Compare a [op,op'] [b,c] pos) (mB (m3 f g ma mb mc)):=(aH ho ho' ha hb hc hm).imp λ_ _ _ h=>YL (ay h)
def eW (m:ME):ME:=λe S=>(m e S).bind λd S1=>match d with
 | .int i=>.ok (.int (-i)) S1
 | _=>.bad
theorem jx (h:GE X E a ma):GE X E (.UnaryOp .USub a pos) (eW ma):=(lu iK h).imp λσ H Q ⟨ρ,l,S,hl,hs,hm⟩=>by
 refine ⟨ρ,l,S,hl,hs,hm.seq λd S1 hm ρ1 H1 x l1 s1 r1=>?_⟩
 cases d <;> first | exact hm.elim | skip
 cases r1;exact ⟨_,rfl,hm ρ1 H1 _ l1 s1 (.int _)⟩
end
abbrev MO:=Lo->Sto->Res (Option Int)
def gO (K:AB) (E:EW) (m:MO):TO:=λσ H Q=>∃ρ e S,GD K ρ H e σ/\CI K ρ S H/\CM K (λc=>E c σ) ρ H (m e S) λo S'=>∀ρ' H',Le K ρ H ρ' H'->CI K ρ' S' H'->Q o H'
abbrev GO (X:Cx) (E:EW) (e:Option Expr) (m:MO):Prop:=PO X e (gO X.K E m)
def Rb:MO:=λ_ S=>.ok none S
def Py (m:ME):MO:=λe S=>(m e S).bind λd S1=>match d with
 | .int i=>.ok (some i) S1
 | _=>.bad
def ID {α:Type} (xs:List α) (lo hi:Option Int):List α:=(xs.drop (HT.sIx xs.length 0 lo)).take (HT.sIx xs.length xs.length hi - HT.sIx xs.length 0 lo)
def ZZ (n:Nat) (lo hi:Option Int):Bool:=decide (HT.sIx n 0 lo=0/\HT.sIx n n hi=n)
def SQ (d:D) (lo hi:Option Int) (S:Sto):Res D:=match d with
 | .tup ds=>if ZZ ds.length lo hi=true then .bad else .ok (.tup (ID ds lo hi)) S
 | _=>match Oe d S with
  | some ds=>.ok (.ref S.length) (S++[.lst (ID ds lo hi)])
  | none=>.bad
def P4 (m:ME) (ml mh:MO):ME:=λe S=>(m e S).bind λd S1=>(ml e S1).bind λlo S2=>(mh e S2).bind λhi S3=>okR (SQ d lo hi S3)
section
variable {X:Cx} {E:EW} {e:Expr} {lo hi:Option Expr} {pos p2:Pos} {m:ME} {ml mh:MO}
theorem PO.imp {o:Option Expr} {t t':TO} (h:PO X o t) (i:∀σ H Q,t' σ H Q->t σ H Q):PO X o t':=λpins s σ H Q I q=>h pins s σ H Q I (i σ H Q q)
theorem O5:GO X E none Rb:=PO.imp du λσ H Q ⟨ρ,l,S,hl,hs,hm⟩=>hm ρ H .refl hs
theorem O4 (h:GE X E e m):GO X E (some e) (Py m):=PO.imp (dr h) λσ H Q ⟨ρ,l,S,hl,hs,hm⟩=>by
 refine ⟨ρ,l,S,hl,hs,hm.seq λd S1 hm ρ1 H1 x l1 s1 r1=>?_⟩
 cases d <;> first | exact hm.elim | skip
 cases r1;exact ⟨_,rfl,hm ρ1 H1 l1 s1⟩
theorem QT {K:AB} {ρ:List AM} {H:Hp} {ds:List D} {vs:List V} (r:Ay K ρ H ds vs) (lo hi:Option Int):Ay K ρ H (ID ds lo hi) (Oh vs lo hi):=by
 unfold ID Oh;rw [r.length];exact (r.drop _).take _
theorem Ul (he:GE X E e m) (hl:GO X E lo ml) (hu:GO X E hi mh):GE X E (.Subscript e (.Slice lo hi none p2) pos) (P4 m ml mh):=(UT (dP.or Z4) he hl hu).imp λσ H Q ⟨ρ,l,S,hl,hs,hm⟩=>by
 refine ⟨ρ,l,S,hl,hs,hm.seq λd S1 hm ρ1 H1 x l1 s1 r1=>⟨ρ1,l,S1,hl.mono l1,s1,(hm.later l1).seq λlo S2 hm ρ2 H2 l2 s2=>⟨ρ2,l,S2,hl.mono (l1.trans l2),s2,(hm.later l2).seq λhi S3 hm ρ3 H3 l3 s3=>?_⟩⟩⟩;obtain ⟨d',S',e,k⟩:=hm.okR;have r3:=r1.mono (l2.trans l3)
 have lst:∀ds,Oe d S3=some ds->Res.ok (.ref S3.length) (S3++[.lst (ID ds lo hi)])=Res.ok d' S'->ll X.K x lo hi H3 Q:=λds hq e=>by
  cases e;obtain ⟨p,xs,rfl,rr,sq⟩:=J4 s3 r3 hq;refine ⟨p,xs,rfl,sq,λq hq=>?_⟩;have le:Le X.K ρ3 H3 (ρ3++[q]) (upd H3 q (.lst (Oh xs lo hi))):=Le.alloc hq;obtain ⟨s4,l4,at4⟩:=s3.alloc (ho:=.lst (Oh xs lo hi)) (o:=.lst (ID ds lo hi)) hq ⟨_,Bw,(QT rr lo hi).mono le⟩;exact k _ _ _ (l1.trans (l2.trans (l3.trans l4))) s4 (.ref at4)
 cases d with
 | tup ds=>
  unfold SQ at e;dsimp only at e;split at e
  ·cases e
  ·rename_i hw
   cases e
   cases r3 with
   | @tup _ a vs h1 h2=>
    refine .inr ⟨a,vs,rfl,.inl (.inl h1),λz=>hw ?_,λq hq=>?_⟩
    ·unfold ZZ
     rw [h2.length];exact decide_eq_true z
    ·obtain ⟨s4,l4⟩:=GK (ho:=.tup (Oh vs lo hi)) s3 hq
     exact k _ _ _ (l1.trans (l2.trans (l3.trans l4))) s4 (.tup Bw ((QT h2 lo hi).mono l4))
 | non=>cases e
 | bl _=>cases e
 | int _=>cases e
 | str _=>cases e
 | exc _=>cases e
 | fro ds=>exact .inl (lst ds rfl e)
 | ref n=>
  unfold SQ at e;dsimp only at e;split at e
  ·rename_i ds hq
   exact .inl (lst ds hq e)
  ·cases e
end
section
variable {X:Cx} {E:EW} {e:Expr} {p pos:Pos} {m:ME} {ml:ML}
def G6 (m:ME):ME:=λe S=>(m e S).bind λd S1=>match G1 d S1 with
 | some ds=>.ok (.tup ds) S1
 | none=>.bad
theorem IU (hg:Gl X "tuple") (hm:X.mg "tuple" = none) (h:GE X E e m) (he:Ab [e] X.env=(false,CS e X.env) :: Ab [] X.env:=by rfl):GE X E (.Call (.Name "tuple" p) [e] [] pos) (G6 m):=
 (Nk RB hg hm OS (FI h Hd he) (by decide) (by decide) he rfl).imp λσ H Q ⟨ρ,l,S,hl,hs,hm⟩=>by
 refine ⟨ρ,l,S,hl,hs,hm.seq λd S1 hm ρ1 H1 x l1 s1 r1=>?_⟩
 cases hq:G1 d S1 with
 | none=>rw [hq] at hm;exact hm.elim
 | some ds=>
  rw [hq] at hm
  have newL:∀a vs,x=.ref a->SqL X.K H1 a vs->Ay X.K ρ1 H1 ds vs->∃p ys,[x]=[.ref p]/\((SqL X.K H1 p ys/\∀l,H1 l=none->Q (.ref l) (upd H1 l (.tup ys)))∨(SqT X.K H1 p ys/\Q (.ref p) H1)):=λa vs e sq rr=>by
   subst e;refine ⟨a,vs,rfl,.inl ⟨sq,λq hq=>?_⟩⟩;obtain ⟨s2,l2⟩:=GK (ho:=.tup vs) s1 hq;exact hm _ _ _ (l1.trans l2) s2 (.tup Bw (rr.mono l2))
  cases r1 with
  | @tup _ a vs h1 h2=>cases hq;exact ⟨a,vs,rfl,.inr ⟨.inl (.inl h1),hm ρ1 H1 _ l1 s1 (.tup h1 h2)⟩⟩
  | @fro _ a vs h1 h2=>cases hq;exact newL a vs rfl h1.sq h2
  | @ref n a hn=>
   obtain ⟨o,ho,ro⟩:=s1.there hn;unfold G1 at hq;simp only [ho] at hq
   cases o with
   | lst es=>cases hq;obtain ⟨vs,e,rr⟩:=ro;exact newL a vs rfl (.inl (.inl e)) rr
   | _=>cases hq
  | _=>cases hq
variable {o:Expr} {apos cpos:Pos} {mo ma:ME}
def atL (d:D) (S:Sto):Option (Nat×List D):=match d with
 | .ref n=>match S[n]? with
  | some (.lst xs)=>some (n,xs)
  | _=>none
 | _=>none
theorem We {K:AB} {ρ:List AM} {S:Sto} {H:Hp} {d:D} {x:V} {n:Nat} {xs:List D} (s:CI K ρ S H) (r:By K ρ H d x) (h:atL d S=some (n,xs)):d=.ref n/\S[n]?=some (.lst xs)/\∃a vs,x=.ref a/\ρ[n]?=some a/\H a=some (.lst vs)/\Ay K ρ H xs vs:=by
 unfold atL at h;split at h
 ·split at h
  ·rename_i ds hd
   cases h;exact ⟨rfl,hd,XM s r hd⟩
  ·cases h
 ·cases h
theorem dh {K:AB} {ρ:List AM} {S:Sto} {H:Hp} {n:Nat} {a:AM} {vs ws:List V} {ys:List D} (s:CI K ρ S H) (hn:ρ[n]?=some a) (e:H a=some (.lst vs)) (r:Ay K ρ H ys ws) :
  CI K ρ (S.set n (.lst ys)) (upd H a (.lst ws))/\Le K ρ H ρ (upd H a (.lst ws)):=by
 have le:Le K ρ H ρ (upd H a (.lst ws)):=Le.write hn (by rw [e];trivial);exact s.write (ho:=.lst ws) (o:=.lst ys) hn ⟨_,Bw,r.mono le⟩
end
end L2
namespace L2
open PySem PySem.Spec PyProof.Rows
section
variable {X:Cx} {E:EW}
theorem range_getD {α:Type} (d:α) (bs:List α):(Cw bs.length).map (λi=>bs.getD i d)=bs:=by
 apply JQ
 intro i;rw [As]
 by_cases h:i < bs.length
 ·rw [DV h]
  simp [List.getD,h]
 ·rw [CO.mpr (by simpa using h),CO.mpr (by simpa using h)]
  rfl
theorem dE {bs:List Bool} {its:List AD} (r:Bs (bs.map V.bl) its) {i:Nat} {v:AD} (h:its.toArray[i]?=some v):v=.bool (bs.getD i false):=by
 have h':its[i]?=some v:=by simpa using h
 obtain ⟨hi,e⟩:=AH.mp h'
 have hb:i < bs.length:=by have:=r.length;simp at this;lia
 obtain ⟨u,hu,ru⟩:=r.get (show (bs.map V.bl)[i]?=some (V.bl bs[i]) by simp [hb]);rw [h'] at hu;cases hu;rw [show v=Ka bs[i] from ru];simp [List.getD,hb]
def V3 (K:AB) (f:List Bool->Bool):List V->Hp->VK->Prop:=λxs H Q=>∃p bs,xs=[.ref p]/\(SqL K H p (bs.map V.bl)∨SqT K H p (bs.map V.bl))/\Q (.bl (f bs)) H
theorem QW {pins:List (AM×Obj)} {s:AE} {σ:St} {H:Hp} {p:AM} {bs:List Bool} {R:AD->AE->Prop} {E:AD->AE->Prop} (hc:X.calm=true) (I:Inv X pins σ H s) (hq:SqL X.K H p (bs.map V.bl)∨SqT X.K H p (bs.map V.bl))
  (h:∀itv s2,(∃I fp wr n P St tr,itv=BD I/\Walks X.prog X.w X.A.in1 I fp wr n P St/\St 0 s2.heap/\TruthOf X.prog X.w X.A.in1 P tr/\(Cw n).map tr=bs /\
   ∀(h':Bu) (tk:Nat),(∀b o,¬b∈wr->s2.heap.get? b=some o->h'.get? b=some o)->Inv X pins σ H { s2 with heap:=h',toks:=tk })->R itv s2) :
  Ac (AZ X.prog X.w) X.A.in1 (ZO (.ref p)) R E s:=by
 have hh:X.A.in1.handled=none:=I.ok.hd hc
 have fin:∀(its:List AD),Bs (bs.map V.bl) its->(Cw its.toArray.size).map (λi=>bs.getD i false)=bs:=λits r=>by
  have:its.toArray.size=bs.length:=by have:=r.length;simp at this;simpa using this.symm
  rw [this,range_getD]
 have tru:∀(its:List AD),Bs (bs.map V.bl) its->TruthOf X.prog X.w X.A.in1 (λi v=>its.toArray[i]?=some v) (λi=>bs.getD i false):=λits r i v s Q E hv q=>by
  rw [dE r hv];exact B1 q
 have kp:∀(ob:Obj) (h':Bu) (tk:Nat),(∀b o,¬b∈[s.heap.objs.size]->(s.heap.push ob).get? b=some o->h'.get? b=some o)->Inv X pins σ H { s with heap:=h',toks:=tk }:=λob h' tk k=>
  I.kept λb o e=>k b o (by simpa using Av (Aa e)) (AJ _ e)
 rcases hq with hq | hq
 ·obtain ⟨its,r',pl,hz⟩:=I.list hq
  refine Qg pl.isList (h _ _ ⟨s.heap.objs.size,_,_,_,_,_,_,rfl,kt hh _ p (Av (Aa pl.isList.choose_spec.1)) its.toArray,⟨⟨_,Ai _ rfl,rfl,rfl⟩,?_⟩,tru its r',fin its r',kp _⟩)
  exact pl.isList.at λo e=>AJ _ e
 ·obtain ⟨its,r',pl,hz⟩:=I.tuple hq
  have pt:s.heap.IsTuple p its.toArray:=pl;refine Cm pt (h _ _ ⟨s.heap.objs.size,_,_,_,_,_,_,rfl,kZ hh _ p (Av pl.lt) its.toArray,⟨⟨_,Ai _ rfl,rfl,rfl⟩,?_⟩,tru its r',fin its r',kp _⟩);obtain ⟨o,e,c⟩:=pt;exact ⟨o,AJ _ e,c⟩
theorem ZB (hc:X.calm=true):Hq X (.builtin "all") (V3 X.K λbs=>bs.all id):=by
 intro pins s σ H xs us Q I r h;obtain ⟨p,bs,rfl,hq,q⟩:=h;obtain ⟨u,rfl,rx⟩:=vals1 r;cases rx;refine call_all_walk (QW hc I hq λitv s2 ⟨J,fp,wr,n,P,St,tr,e,W,st,tru,eb,kp⟩=>⟨J,fp,wr,n,P,St,tr,e,W,st,tru,λh' tk k=>⟨.bl _,H,kp h' tk k,rfl,?_⟩⟩);rw [<-eb] at q;dsimp only at q;rw [VH] at q;exact q
theorem ZA (hc:X.calm=true):Hq X (.builtin "any") (V3 X.K λbs=>bs.any id):=by
 intro pins s σ H xs us Q I r h;obtain ⟨p,bs,rfl,hq,q⟩:=h;obtain ⟨u,rfl,rx⟩:=vals1 r;cases rx;refine call_any_walk (QW hc I hq λitv s2 ⟨J,fp,wr,n,P,St,tr,e,W,st,tru,eb,kp⟩=>⟨J,fp,wr,n,P,St,tr,e,W,st,tru,λh' tk k=>⟨.bl _,H,kp h' tk k,rfl,?_⟩⟩);rw [<-eb] at q;dsimp only at q;rw [VD] at q;exact q
def Wa:List D->Option (List Bool)
 | []=>some []
 | .bl b :: ds=>(Wa ds).map (b :: ·)
 | _ :: _=>none
theorem Xu {K:AB} {ρ:List AM} {H:Hp}:∀ {ds:List D} {vs:List V} {bs:List Bool},Ay K ρ H ds vs->Wa ds=some bs->vs=bs.map V.bl
 | _,_,_,.nil,h=>by cases h;rfl
 | .bl b :: ds,_,bs,.cons r t,h=>by
  unfold Wa at h
  cases hq:Wa ds with
  | none=>rw [hq] at h;cases h
  | some cs=>rw [hq] at h;cases h;cases r;rw [Xu t hq];rfl
 | .non :: _,_,_,.cons r t,h=>by cases h
 | .int _ :: _,_,_,.cons r t,h=>by cases h
 | .str _ :: _,_,_,.cons r t,h=>by cases h
 | .tup _ :: _,_,_,.cons r t,h=>by cases h
 | .fro _ :: _,_,_,.cons r t,h=>by cases h
 | .ref _ :: _,_,_,.cons r t,h=>by cases h
 | .exc _ :: _,_,_,.cons r t,h=>by cases h
def ZC (f:List Bool->Bool) (ds:List D) (S:Sto):Res D:=match Wa ds with
 | some bs=>.ok (.bl (f bs)) S
 | none=>.bad
theorem UH {f:List Bool->Bool}:fk X.K (V3 X.K f) (ZC f):=λρ H S ds q xs d S' Q hs rr sq hm k=>by
 unfold ZC at hm;split at hm
 ·rename_i bs hb
  cases hm;rw [Xu rr hb] at sq;exact ⟨q,bs,rfl,sq,k ρ H _ .refl hs (.bl _)⟩
 ·cases hm
abbrev fg:=ZC λbs=>bs.all id
abbrev fc:=ZC λbs=>bs.any id
def Gc:List D->Option (List Int)
 | []=>some []
 | .int b :: ds=>(Gc ds).map (b :: ·)
 | _ :: _=>none
theorem Jb:∀ {ds:List D} {ns:List Int},Gc ds=some ns->ds=ns.map D.int
 | [],_,h=>by cases h;rfl
 | .int b :: ds,ns,h=>by
  unfold Gc at h
  cases hq:Gc ds with
  | none=>rw [hq] at h;cases h
  | some cs=>rw [hq] at h;cases h;rw [Jb hq];rfl
 | .non :: _,_,h=>by cases h
 | .bl _ :: _,_,h=>by cases h
 | .str _ :: _,_,h=>by cases h
 | .tup _ :: _,_,h=>by cases h
 | .fro _ :: _,_,h=>by cases h
 | .ref _ :: _,_,h=>by cases h
 | .exc _ :: _,_,h=>by cases h
variable {e:Expr} {m:ME} {ml:ML} {p pos:Pos}
def tyD (d:D) (S:Sto):Option String:=match d with
 | .non=>some "NoneType"
 | .bl _=>some "bool"
 | .int _=>some "int"
 | .str _=>some "str"
 | .tup _=>some "tuple"
 | .ref n=>match S[n]? with
  | some (.lst _)=>some "list"
  | some (.dK _)=>some "dict"
  | some (.dT _)=>some "dict"
  | _=>none
 | .fro _=>none
 | .exc _=>none
theorem iM {K:AB} {ρ:List AM} {S:Sto} {H:Hp} {d:D} {x:V} {T:String} (s:CI K ρ S H) (r:By K ρ H d x) (h:tyD d S=some T):NJ K H x (.type T):=by
 cases r with
 | non=>cases h;exact .non
 | bl b=>cases h;exact .bl b
 | int i=>cases h;exact .int i
 | str i=>cases h;exact .str i
 | tup h1 _=>cases h;exact .tup h1
 | fro _ _=>cases h
 | exc _ _=>cases h
 | @ref n a hn=>
  obtain ⟨o,ho,ro⟩:=s.there hn;unfold tyD at h;simp only [ho] at h
  cases o with
  | lst es=>cases h;obtain ⟨vs,e,rr⟩:=ro;exact .lst e
  | dK es=>cases h;obtain ⟨vs,e,rr⟩:=ro;exact .dK e
  | dT es=>cases h;obtain ⟨vs,e,rr⟩:=ro;exact .dT e
  | ins _ _=>cases h
def gY (c T:String):Option Bool:=if T==c then some true else if T=="bool"&&c=="int" then some true else if ["NoneType", "bool", "int", "str", "tuple", "list", "dict"].contains T&&["bool", "int", "str", "tuple", "list", "dict"].contains c then some false else none
end
end L2
namespace L2
open PySem PySem.Spec PyProof.Rows
def IQ {α:Type} (r r':Res α):Res α:=match r with
 | .bad=>r'
 | r=>r
theorem Yj {α:Type} (r r':Res α):IQ r r'=r∨IQ r r'=r':=by cases r <;> simp [IQ]
def op2 (f g:D->D->Sto->Res D):D->D->Sto->Res D:=λx y S=>IQ (f x y S) (g x y S)
theorem Ue (f g:D->D->Sto->Res D) (ma mb:ME) (l:Lo) (S:Sto):m2 (op2 f g) ma mb l S=m2 f ma mb l S∨m2 (op2 f g) ma mb l S=m2 g ma mb l S:=by
 unfold m2
 cases ma l S with
 | ok x S1=>
  dsimp only [Res.bind]
  cases mb l S1 with
  | ok y S2=>
   dsimp only [Res.bind];unfold op2
   rcases Yj (f x y S2) (g x y S2) with e | e <;> rw [e] <;> simp
  | err c S2=>exact .inl rfl
  | bad=>exact .inl rfl
 | err c S1=>exact .inl rfl
 | bad=>exact .inl rfl
section
variable {X:Cx} {E:EW} {e o i:Expr} {pos:Pos} {m m1 m2':ME}
theorem WU {m m1 m2:ME} (h1:GE X E e m1) (h2:GE X E e m2) (h:∀l S,m l S=m1 l S∨m l S=m2 l S):GE X E e m:=λpins s σ H Q I ⟨ρ,l,S,hl,hs,a⟩=>by
 rcases h l S with q | q
 ·rw [q] at a;exact h1 pins s σ H Q I ⟨ρ,l,S,hl,hs,a⟩
 ·rw [q] at a;exact h2 pins s σ H Q I ⟨ρ,l,S,hl,hs,a⟩
theorem bT {t t1 t2:MT} (h1:GT X E e t1) (h2:GT X E e t2) (h:∀l S,t l S=t1 l S∨t l S=t2 l S):GT X E e t:=λpins s σ H Q I ⟨ρ,l,S,hl,hs,a⟩=>by
 rcases h l S with q | q
 ·rw [q] at a;exact h1 pins s σ H Q I ⟨ρ,l,S,hl,hs,a⟩
 ·rw [q] at a;exact h2 pins s σ H Q I ⟨ρ,l,S,hl,hs,a⟩
theorem jw {tg:Expr} {t t1 t2:MI} (h1:GI X E tg e t1) (h2:GI X E tg e t2) (h:∀l S,t l S=t1 l S∨t l S=t2 l S):GI X E tg e t:=λpins s σ H R I ⟨ρ,l,S,hl,hs,a⟩=>by
 rcases h l S with q | q
 ·rw [q] at a;exact h1 pins s σ H R I ⟨ρ,l,S,hl,hs,a⟩
 ·rw [q] at a;exact h2 pins s σ H R I ⟨ρ,l,S,hl,hs,a⟩
theorem gW {m m1 m2:ME} (h:∀l S,m l S=m1 l S∨m l S=m2 l S) (l:Lo) (S:Sto):mB m l S=mB m1 l S∨mB m l S=mB m2 l S:=by
 unfold mB
 rcases h l S with q | q <;> rw [q] <;> simp
abbrev inA (neg:Bool):=op2 (inD neg) (LL neg)
variable {mi mo:ME}
theorem nA (hu:X.A.units+64 < Dr) (hi:GE X E i mi) (ho:GE X E o mo) (h1:B2 .In o=false:=by with_unfolding_all rfl):GE X E (.Compare i [.In] [o] pos) (m2 (inA false) mi mo):=
 WU (MY (gR hu) hi ho h1) (jy (by lia) hi ho h1) λ_ _=>Ue _ _ _ _ _ _
theorem bU (hu:X.A.units+64 < Dr) (hi:GE X E i mi) (ho:GE X E o mo) (h1:B2 .NotIn o=false:=by with_unfolding_all rfl):GE X E (.Compare i [.NotIn] [o] pos) (m2 (inA true) mi mo):=
 WU (MY (UW hu) hi ho h1) (Yx (by lia) hi ho h1) λ_ _=>Ue _ _ _ _ _ _
theorem Rn (hu:X.A.units+64 < Dr) (hi:GE X E i mi) (ho:GE X E o mo) (h1:B2 .In o=false:=by with_unfolding_all rfl):GT X E (.Compare i [.In] [o] pos) (mB (m2 (inA false) mi mo)):=
 bT (Do (gR hu) hi ho h1) (jo (by lia) hi ho h1) (gW λ_ _=>Ue _ _ _ _ _ _)
theorem IS (hu:X.A.units+64 < Dr) (hi:GE X E i mi) (ho:GE X E o mo) (h1:B2 .NotIn o=false:=by with_unfolding_all rfl):GT X E (.Compare i [.NotIn] [o] pos) (mB (m2 (inA true) mi mo)):=
 bT (Do (UW hu) hi ho h1) (Yw (by lia) hi ho h1) (gW λ_ _=>Ue _ _ _ _ _ _)
abbrev ixA:=op2 ixD QS
theorem Dw (hu:X.A.units+64 < Dr) (ho:GE X E o mo) (hi:GE X E i mi) (hs:TZ i:=by intro _ _;rfl):GE X E (.Subscript o i pos) (m2 ixA mo mi):=
 WU (m9 mH ho hi hs) (fH (by lia) ho hi hs) λ_ _=>Ue _ _ _ _ _ _
def GJ (d:D):JJ:=match d with
 | .tup ds=>Gr ds
 | d=>OG d
def Dg (m:ME):MI:=λe S=>(m e S).bind λd S1=>match GJ d S1 with
 | some _=>.ok (GJ d) S1
 | none=>.bad
theorem Ch {tg:Expr} (h:GE X E e m):GI X E tg e (Dg m):=jw (jv h) (jt h) λl S=>by
 unfold Dg mn ga
 cases m l S with
 | ok d S1=>
  dsimp only [Res.bind]
  cases d <;> first | exact .inl rfl | exact .inr rfl
 | err c S1=>exact .inl rfl
 | bad=>exact .inl rfl
def M9 (m:ME):ME:=λe S=>(m e S).bind λd S1=>match G1 d S1 with
 | some ds=>.ok (.int ds.length) S1
 | none=>.bad
variable {p:Pos} {ml:ML} {es:List Expr}
theorem MX (hg:Gl X "len") (hm:X.mg "len" = none) (h:GE X E e m) (he:Ab [e] X.env=(false,CS e X.env) :: Ab [] X.env:=by rfl):GE X E (.Call (.Name "len" p) [e] [] pos) (M9 m):=
 (O6 TN iZ hg hm PySem.boot_len (Uj h) (by decide) (by decide) he).imp λσ H Q ⟨ρ,l,S,hl,hs,a⟩=>⟨ρ,l,S,hl,hs,by
  have q:mQ mU (MR m) l S=M9 m l S:=by
   unfold mQ MR M9
   cases m l S with
   | ok d S1=>
    dsimp only [Res.bind]
    cases G1 d S1 <;> rfl
   | err c S1=>rfl
   | bad=>rfl
  rw [q];exact a⟩
theorem S7 {a b:Expr} (hc:X.calm=true) (hg:Gl X "min") (hm:X.mg "min" = none) (h:GA X E [a,b] ml) (he:Ab [a,b] X.env=(false,CS a X.env) :: Ab [b] X.env:=by rfl) (hpl:(Dz pos (Ab [b] X.env)).any (·.1)=false:=by rfl):GE X E (.Call (.Name "min" p) [a,b] [] pos) (mQ M7 ml):=
 Xh (Y7 hc) fh hg hm PH h (by decide) (by decide) he hpl
theorem fD {a b:Expr} (hc:X.calm=true) (hg:Gl X "max") (hm:X.mg "max" = none) (h:GA X E [a,b] ml) (he:Ab [a,b] X.env=(false,CS a X.env) :: Ab [b] X.env:=by rfl) (hpl:(Dz pos (Ab [b] X.env)).any (·.1)=false:=by rfl):GE X E (.Call (.Name "max" p) [a,b] [] pos) (mQ Rf ml):=
 Xh (Y8 hc) fj hg hm nU h (by decide) (by decide) he hpl
theorem fF (hg:Gl X "list") (hm:X.mg "list" = none) (h:GE X E e m) (he:Ab [e] X.env=(false,CS e X.env) :: Ab [] X.env:=by rfl):GE X E (.Call (.Name "list" p) [e] [] pos) (Da (mN Xa (MR m))):=
 CY (eu TM dO hg hm nV (Uj h) (by decide) (by decide) he)
theorem j0 (hc:X.calm=true) (hg:Gl X "all") (hm:X.mg "all" = none) (h:GE X E e m) (he:Ab [e] X.env=(false,CS e X.env) :: Ab [] X.env:=by rfl):GE X E (.Call (.Name "all" p) [e] [] pos) (mQ fg (MR m)):=
 O6 (ZB hc) UH hg hm nZ (Uj h) (by decide) (by decide) he
theorem jz (hc:X.calm=true) (hg:Gl X "any") (hm:X.mg "any" = none) (h:GE X E e m) (he:Ab [e] X.env=(false,CS e X.env) :: Ab [] X.env:=by rfl):GE X E (.Call (.Name "any" p) [e] [] pos) (mQ fc (MR m)):=
 O6 (ZA hc) UH hg hm nY (Uj h) (by decide) (by decide) he
end
end L2
namespace L2
open PySem PySem.Spec PyProof.Rows
section
variable {X:Cx} {E:EW} {e a b:Expr} {es:List Expr} {pos:Pos} {m:ME} {mj:MJ}
end
def J3 (mo ma:ME):ME:=λe S=>(mo e S).bind λd S1=>match atL d S1 with
 | some (n,_)=>(ma e S1).bind λy S2=>match atL d S2,atL y S2 with
  | some (_,xs),some (k,ys)=>if k≠n/\xs.length+ys.length<=sizeLine then .ok .non (S2.set n (.lst (xs++ys))) else .bad
  | _,_=>.bad
 | none=>.bad
section
variable {X:Cx} {E:EW} {o e:Expr} {apos cpos:Pos} {mo ma:ME}
theorem Nv (ho:GE X E o mo) (ha:GE X E e ma) (hbase:Ia o "extend" X.env (CS o X.env)=CS o X.env:=by rfl)
  (hfew:((Dz cpos (Ab [e] X.env)).all (λx=>!x.1)&&(Jk cpos (Fj [] X.env)).all (λx=>x.1.isSome)
    &&decide ([e].length+([]:List OD).length+(if ([]:List OD).isEmpty then 0 else 1) < 30))=true:=by rfl)
  (hline:(apos.endLine==cpos.line)=true:=by rfl) (hs:Ab [e] X.env=(false,CS e X.env) :: Ab [] X.env:=by rfl) (hplain:(Dz cpos (Ab [] X.env)).any (·.1)=false:=by rfl) :
  GE X E (.Call (.Attribute o "extend" apos) [e] [] cpos) (J3 mo ma):=(gP RG PySem.F.slot_list_extend PySem.F.type_list_extend Yl ho (FI ha Hd hs) hbase hfew hline hs hplain).imp λσ H Q ⟨ρ,l,S,hl,hs,hm⟩=>by
 refine ⟨ρ,l,S,hl,hs,hm.seq λd S1 hm ρ1 H1 v l1 s1 r1=>?_⟩
 cases hq:atL d S1 with
 | none=>rw [hq] at hm;exact hm.elim
 | some z=>
  obtain ⟨n,xs0⟩:=z;rw [hq] at hm;dsimp only at hm;obtain ⟨rfl,h0,a,vs0,rfl,hn,e0,_⟩:=We s1 r1 hq;refine ⟨.inl ⟨rfl,vs0,.inl (.inl e0)⟩,ρ1,l,S1,hl.mono l1,s1,(hm.later l1).seq λy S2 hm ρ2 H2 u l2 s2 r2=>?_⟩;split at hm
  ·rename_i n' xs k ys h2 h3
   split at hm
   ·rename_i hz
    obtain ⟨e',h4,a',vs,ea,hn2,e2,rr⟩:=We s2 (r1.mono l2) h2;cases e';cases ea;obtain ⟨ey,h5,p,ws,rfl,hk,e3,rw'⟩:=We s2 r2 h3;obtain ⟨s3,l3⟩:=dh s2 hn2 e2 (rr.append rw');exact ⟨a,p,vs,ws,rfl,rfl,e2,e3,by rw [<-rr.length,<-rw'.length];exact hz.2,hm ρ2 _ _ (l1.trans (l2.trans l3)) s3 .non⟩
   ·exact hm.elim
  ·exact hm.elim
end
def isB (t A:String):Option Bool:=if ["NoneType", "bool", "int", "str", "tuple", "list", "dict"].contains A then gY t A else none
def c9 (sc:Ie) (x:Str):Bool:=decide (sc.names.lookup x=some .local)||decide (sc.names.lookup x=some .cell)||decide (sc.names.lookup x=some .free)
def bv (X:Cx) (scope:Ie) (own N':List Str):Bool:=
 decide (scope.kind=.function)&&scope.names.all (λy=>!decide (y.2=.cell))&&scope.names.all (λy=>!decide (y.2=.local)||decide (scope.names.lookup y.1=some .local)) &&
 scope.names.all (λy=>!decide (y.2=.free)||decide (X.env.kindOf y.1=some .cell)||decide (X.env.kindOf y.1=some .free))&&decide (N'.length=own.length+X.N.length) &&
 ((N'.drop own.length).zip X.N).all (λp=>!c9 (JN scope X.env) p.1||(decide (p.1=p.2)&&c9 X.env.scope p.1&&(decide ((JN scope X.env).names.lookup p.1=some .cell)||decide ((JN scope X.env).names.lookup p.1=some .free))&&!decide (X.env.kindOf p.1=some .local))) &&
 (JN scope X.env).names.all (λy=>(!decide (y.2=.cell)&&!decide (y.2=.free))||scope.names.any (λz=>decide (z=(y.1,Ig))))
theorem Tx {sc:Ie} {x:Str}:c9 sc x=true↔Vis sc x:=by
 unfold c9 Vis;simp [or_assoc]
theorem C6 {X:Cx} {scope:Ie} {own N':List Str} (h:bv X scope own N'=true):Mc X scope own N':=by
 unfold bv at h;simp only [EL] at h;obtain ⟨⟨⟨⟨⟨⟨h1,h2⟩,h3⟩,h4⟩,h5⟩,h6⟩,h7⟩:=h;rw [FU] at h2 h3 h4 h6 h7;refine ⟨of_decide_eq_true h1,λy hy=>?_,λy hy e=>?_,λy hy e=>?_,of_decide_eq_true h5,λi x e v=>?_,λx hx=>?_⟩
 ·simpa using h2 y hy
 ·have:=h3 y hy
  simpa [e] using this
 ·have:=h4 y hy
  simpa [e] using this
 ·have hlen:=of_decide_eq_true h5
  have hi:own.length+i < N'.length:=(AH.mp e).1
  have hx:i < X.N.length:=by lia
  have hm:(x,X.N[i])∈(N'.drop own.length).zip X.N:=by
   rw [List.mem_iff_getElem?];refine ⟨i,?_⟩;rw [R6];exact ⟨by rw [Ii];exact e,by simp [hx]⟩
  have:=h6 _ hm;rw [Tx.mpr v] at this;simp only [Ti,gy,EL,cc,decide_eq_true_eq,Bool.not_eq_true',decide_eq_false_iff_not] at this;obtain ⟨⟨⟨z1,z2⟩,z3⟩,z4⟩:=this;exact ⟨by rw [z1];simp [hx],Tx.mp z2,z3,z4⟩
 ·have key:∀k,(JN scope X.env).names.lookup x=some k->(k=.cell∨k=.free)->(x,Ig)∈scope.names:=λk e hk=>by
   have:=h7 _ (EI e)
   rcases hk with rfl | rfl
   ·simpa using this
   ·simpa using this
  rcases hx with e | e
  ·exact key _ e (.inl rfl)
  ·exact key _ e (.inr rfl)
structure Dfn (K:AB) (mg:Str->Option AD) (x qual:Str) (st:C1) (ps:List Str) where
 f:AM
 fd:Df
 F:Fun K x qual st f fd
 b:Binds K fd ps []
 m:mg x=some (.ref f)
theorem Dfn.kp {K:AB} {mg:Str->Option AD} {x qual:Str} {st:C1} {ps:List Str} (d:Dfn K mg x qual st ps):GH K (.ref d.f)=true:=d.F.kp
structure Mtd (K:AB) (x qual:Str) (st:C1) (ps:List Str) where
 f:AM
 fd:Df
 F:Fun K x qual st f fd
 b:Binds K fd ps []
structure Own (K:AB) (mg:Str->Option AD) (x:Str) (C f:AM):Prop where
 cl:Cls K C
 mk':Mk K C f
 m:mg x=some (.ref C)
end L2
namespace L2
open PySem PySem.Spec PyProof.Rows
section
variable {prog:Ap} {w:BE} {A:BC} {E:AD->AE->Prop} {s:AE} {K:AB} {a C:AM} {o:Obj}
end
section
variable {X:Cx} {E:EW} {e ce:Expr} {p pos:Pos} {m:ME} {c:V} {cv:AD} {tab:String->Option Bool} {tabC:AM->Option Bool}
end
end L2
namespace Srt
open PySem PyProof.Rows
structure Ord (U:An->Prop) (lt:An->An->Bool):Prop where
 asym:∀x y,U x->U y->lt x y=true->lt y x=false
 ntr:∀x y z,U x->U y->U z->lt y x=false->lt z y=false->lt z x=false
theorem Ord.irr {U:An->Prop} {lt:An->An->Bool} (o:Ord U lt) {x:An} (h:U x):lt x x=false:=by
 cases e:lt x x with
 | false=>rfl
 | true=>exact (o.asym x x h h e).symm.trans e |>.symm▸rfl
def ix (xs:Array An) (i:Nat):An:=xs.getD i (.none,.none)
theorem Ja {xs ys:Array An} {i j:Nat} (h:xs[i]?=ys[j]?):ix xs i=ix ys j:=by
 unfold ix;rw [Ex,Ex,h]
theorem DT {xs:Array An} {i:Nat} (h:i < xs.size):xs[i]?=some (ix xs i):=by
 unfold ix;rw [Ex,getElem?_pos xs i h];rfl
theorem Yp {xs:Array An} {src d:Nat} (hs:src < xs.size) (hd:d<=src) (k:Nat) :
  ix (gm xs src d) k=if k=src - d then ix xs src else if src - d < k/\k<=src then ix xs (k - 1) else ix xs k:=by
 have e:=getElem?_bubble hs d hd k;split
 ·rename_i h;rw [if_pos h] at e;exact Ja e
 ·rename_i h
  rw [if_neg h] at e;split
  ·rename_i h2;rw [if_pos h2] at e;exact Ja e
  ·rename_i h2;rw [if_neg h2] at e;exact Ja e
theorem EG {xs:Array An} {i j:Nat} (hj:j<=xs.size) (k:Nat) :
  ix (Jj xs i j ((j - i) / 2)) k=if i<=k/\k < j then ix xs (i+j - 1 - k) else ix xs k:=by
 have e:=getElem?_mirror_all (i:=i) hj k;split
 ·rename_i h;rw [if_pos h] at e;exact Ja e
 ·rename_i h;rw [if_neg h] at e;exact Ja e
section
variable {prog:Ap} {w:BE} {A:BC} {E:AD->AE->Prop} {s:AE} {a₀:Array An} {κ:Fk} {lt:An->An->Bool}
def KZ (prog:Ap) (w:BE) (A:BC) (s:AE) (a₀:Array An) (κ:Fk) (lt:An->An->Bool):Prop:=
 ∀x y,x∈a₀->y∈a₀->∀(Q:Bool->AE->Prop) (E:AD->AE->Prop),Q (lt x y) s->Ac (AZ prog w) A (keyLt' κ x.1 y.1) Q E s
structure Good (a₀:Array An) (κ:Fk) (st:BI):Prop where
 perm:(AW st).Perm a₀
 kind:kindOf st=κ
 failed:Ic st=none
theorem Good.size {st:BI} (g:Good a₀ κ st):(AW st).size=a₀.size:=g.perm.size_eq
theorem Good.mem {st:BI} (g:Good a₀ κ st) {i:Nat} (h:i < a₀.size):ix (AW st) i∈a₀:=by
 have h':i < (AW st).size:=by rw [g.size];exact h
 have e:=DT h';have:=C3 e;exact BO.mp ((E8.mp g.perm).mem_iff.mp (BO.mpr this))
theorem Good.setArr {st:BI} (g:Good a₀ κ st) {xs:Array An} (hp:xs.Perm (AW st)):Good a₀ κ (setArr st xs):=⟨hp.trans g.perm,g.kind,g.failed⟩
theorem PR {st:BI} {x y:An} {Q:Option Bool->BI->Prop} (C:KZ prog w A s a₀ κ lt) (g:Good a₀ κ st) (hx:x∈a₀) (hy:y∈a₀) (h:Q (some (lt x y)) st):wpS (AZ prog w) A E s (lt' x y) Q st:=by
 rw [lt'_eq];refine AO (HW ?_);rw [g.kind];refine AO (wpS_lift (Kn ?_));refine C x y hx hy _ _ ⟨rfl,?_⟩;exact AS h
theorem NU {st:BI} {i j:Nat} {Q:Option Bool->BI->Prop} (C:KZ prog w A s a₀ κ lt) (g:Good a₀ κ st) (hi:i < a₀.size) (hj:j < a₀.size) (h:Q (some (lt (ix (AW st) i) (ix (AW st) j))) st) :
  wpS (AZ prog w) A E s (kW i j) Q st:=by
 rw [ltAt'_eq];refine AO (HW ?_);show wpS _ _ _ _ (do let x <-elem' (AW st) i;let y <-elem' (AW st) j;lt' x y) Q st;rw [cU,cU,DT (by rw [g.size];exact hi),DT (by rw [g.size];exact hj)];exact AO (AS (AO (AS (PR C g (g.mem hi) (g.mem hj) h))))
def Up (lt:An->An->Bool) (xs:Array An) (lo hi:Nat):Prop:=∀i j,lo<=i->i<=j->j < hi->lt (ix xs j) (ix xs i)=false
def Dn (lt:An->An->Bool) (xs:Array An) (lo hi:Nat):Prop:=∀i j,lo<=i->i<=j->j < hi->lt (ix xs i) (ix xs j)=false
def Out (xs ys:Array An) (lo hi:Nat):Prop:=∀i,(i < lo∨hi<=i)->ix ys i=ix xs i
theorem Out.refl {xs:Array An} {lo hi:Nat}:Out xs xs lo hi:=λ_ _=>rfl
theorem Out.trans {xs ys zs:Array An} {lo hi:Nat} (a:Out xs ys lo hi) (b:Out ys zs lo hi):Out xs zs lo hi:=λi h=>(b i h).trans (a i h)
theorem Up.out {xs ys:Array An} {lo hi l h:Nat} (u:Up lt xs l h) (o:Out xs ys lo hi) (d:h<=lo∨hi<=l):Up lt ys l h:=λi j h1 h2 h3=>by
 rw [o i (by lia),o j (by lia)];exact u i j h1 h2 h3
theorem Up.grow {st:BI} (O:Ord (·∈a₀) lt) (g:Good a₀ κ st) {lo hi:Nat} (hs:hi < a₀.size) (u:Up lt (AW st) lo hi) (h0:lo < hi) (h:lt (ix (AW st) hi) (ix (AW st) (hi - 1))=false):Up lt (AW st) lo (hi+1):=λi j h1 h2 h3=>by
 by_cases hj:j < hi
 ·exact u i j h1 h2 hj
 ·have:j=hi:=by lia
  subst this
  by_cases hi':i=j
  ·subst hi';exact O.irr (g.mem hs)
  ·exact O.ntr _ _ _ (g.mem (by lia)) (g.mem (show j - 1 < _ by omega)) (g.mem hs) (u i (j - 1) h1 (by lia) (by lia)) h
theorem wpS_binarySort {st:BI} {lo n ok:Nat} {Q:Bool->BI->Prop} (C:KZ prog w A s a₀ κ lt) (O:Ord (·∈a₀) lt) (hn:lo+n<=a₀.size) (hok:ok<=n) (g:Good a₀ κ st) (u:Up lt (AW st) lo (lo+ok))
  (h:∀st',Good a₀ κ st'->Up lt (AW st') lo (lo+n)->Out (AW st) (AW st') lo (lo+n)->AY st'=AY st->Q true st'):wpS (AZ prog w) A E s (binarySort' lo n ok) Q st:=by
 rw [binarySort'_eq]
 refine AO (DR (B9 (I:=λk c st'=>c=(none,())/\Good a₀ κ st'/\Up lt (AW st') lo (lo+min k n)/\Out (AW st) (AW st') lo (lo+n)/\AY st'=AY st)
  (Q:=λc st'=>c=(none,())/\Good a₀ κ st'/\Up lt (AW st') lo (lo+n)/\Out (AW st) (AW st') lo (lo+n)/\AY st'=AY st) ?step ?fin ?init) ?post)
 case post=>
  rintro c st' ⟨rfl,g',u',o',p'⟩;exact AS (h st' g' u' o' p')
 case init=>
  refine ⟨rfl,g,λi j h1 h2 h3=>?_,.refl,rfl⟩
  by_cases h0:ok=0
  ·have:i=j:=by lia
   subst this;exact O.irr (g.mem (by omega))
  ·exact u i j h1 h2 (by lia)
 case fin=>
  rintro c st' ⟨hc,g',u',o',p'⟩;refine ⟨hc,g',?_,o',p'⟩;rwa [show min (max (max ok 1) n) n=n by lia] at u'
 case step=>
  rintro k c st1 hak hkn ⟨rfl,g1,u1,o1,p1⟩;rw [show min k n=k by lia] at u1
  have hk:lo+k < a₀.size:=by lia
  refine AO (DR (B9 (I:=λx c st2=>st2=st1/\∃l r,c=(none,l,r)/\l<=r/\r<=k/\r - l<=k - x /\
    (∀i,i < l->lt (ix (AW st1) (lo+k)) (ix (AW st1) (lo+i))=false)/\(∀i,r<=i->i < k->lt (ix (AW st1) (lo+k)) (ix (AW st1) (lo+i))=true))
   (Q:=λc st2=>st2=st1/\∃l r,c=(none,l,r)/\l<=k /\
    (∀i,i < l->lt (ix (AW st1) (lo+k)) (ix (AW st1) (lo+i))=false)/\(∀i,l<=i->i < k->lt (ix (AW st1) (lo+k)) (ix (AW st1) (lo+i))=true)) ?istep ?ifin ?iinit) ?ipost)
  case iinit=>exact ⟨rfl,0,k,rfl,by lia,by lia,by lia,λi hi=>by lia,λi h1 h2=>by lia⟩
  case ifin=>
   rintro c st2 ⟨rfl,l,r,rfl,hlr,hrk,hm,hlo,hhi⟩
   have:l=r:=by lia
   subst this;exact ⟨rfl,l,l,rfl,hrk,hlo,hhi⟩
  case istep=>
   rintro x c st2 _ hxk ⟨rfl,l,r,rfl,hlr,hrk,hm,hlo,hhi⟩;dsimp only
   by_cases hge:l ≥ r
   ·rw [if_pos hge]
    have:l=r:=by lia
    subst this;exact AS ⟨rfl,l,l,rfl,hrk,hlo,hhi⟩
   ·rw [if_neg hge]
    refine AO (NU C g1 hk (by lia) ?_)
    cases hless:lt (ix (AW st2) (lo+k)) (ix (AW st2) (lo+(l+r) / 2)) with
    | true=>
     refine AS ⟨rfl,l,(l+r) / 2,rfl,by lia,by lia,by omega,hlo,λi h1 h2=>?_⟩
     cases e:lt (ix (AW st2) (lo+k)) (ix (AW st2) (lo+i)) with
     | true=>rfl
     | false=>
      have:=O.ntr _ _ _ (g1.mem (show lo+(l+r) / 2 < _ by lia)) (g1.mem (show lo+i < _ by lia)) (g1.mem hk) (u1 (lo+(l+r) / 2) (lo+i) (by lia) (by lia) (by lia)) e;rw [hless] at this;cases this
    | false=>
     refine AS ⟨rfl,(l+r) / 2+1,r,rfl,by lia,by omega,by omega,λi h1=>?_,hhi⟩;exact O.ntr _ _ _ (g1.mem (show lo+i < _ by lia)) (g1.mem (show lo+(l+r) / 2 < _ by lia)) (g1.mem hk) (u1 (lo+i) (lo+(l+r) / 2) (by lia) (by lia) (by lia)) hless
  case ipost=>
   rintro c st2 ⟨rfl,l,r,rfl,hlk,hlo,hhi⟩;show wpS _ _ _ _ (do moveDown' (lo+k) (lo+l);pure (HN (none,()))) _ _;rw [moveDown'_eq]
   have hks:lo+k < (AW st2).size:=by rw [g1.size];exact hk
   have e:∀i,ix (gm (AW st2) (lo+k) (lo+k - (lo+l))) i=if i=lo+l then ix (AW st2) (lo+k) else if lo+l < i/\i<=lo+k then ix (AW st2) (i - 1) else ix (AW st2) i:=λi=>by
    rw [Yp hks (by lia),show lo+k - (lo+k - (lo+l))=lo+l by lia]
   refine AO (Db (AS ⟨rfl,g1.setArr (bubble_perm _ _ _),?_,o1.trans λi hi=>?_,p1⟩))
   ·rw [show min (k+1) n=k+1 by lia]
    intro i j h1 h2 h3;show lt (ix (gm (AW st2) (lo+k) (lo+k - (lo+l))) j) (ix (gm (AW st2) (lo+k) (lo+k - (lo+l))) i)=false;rw [e,e]
    repeat' split
    all_goals first
     | (exfalso;lia)
     | exact O.irr (g1.mem hk)
     | (have q:=hlo (i - lo) (by lia);rw [show lo+(i - lo)=i by lia] at q;exact q)
     | (have q:=hhi (j - 1 - lo) (by omega) (by omega);rw [show lo+(j - 1 - lo)=j - 1 by lia] at q;exact O.asym _ _ (g1.mem hk) (g1.mem (by lia)) q)
     | exact u1 _ _ (by omega) (by omega) (by lia)
   ·show ix (gm (AW st2) (lo+k) (lo+k - (lo+l))) i=ix (AW st2) i
    rw [e,if_neg (by lia),if_neg (by lia)]
end
end Srt
namespace Srt
open PySem PyProof.Rows
section
variable {prog:Ap} {w:BE} {A:BC} {E:AD->AE->Prop} {s:AE} {a₀:Array An} {κ:Fk} {lt:An->An->Bool}
theorem JT {σ:Type} {M:kf} {r:String} {Q:PUnit->σ->Prop} {st:σ} (h:Q ⟨⟩ st):wpS M A E s (liftM (rule r):StateT σ Sem PUnit) Q st:=wpS_lift (PB ⟨rfl,h⟩)
theorem Dn.flip {xs:Array An} {lo hi:Nat} (hs:hi<=xs.size) (d:Dn lt xs lo hi):Up lt (Jj xs lo hi ((hi - lo) / 2)) lo hi:=λi j h1 h2 h3=>by
 rw [EG hs,EG hs,if_pos (by lia),if_pos (by lia)];exact d _ _ (by omega) (by omega) (by omega)
theorem Dn.part {xs:Array An} {lo hi m:Nat} (hs:hi<=xs.size) (hm:lo<=m) (hmh:m<=hi) (d:Dn lt xs lo hi) (e:Up lt xs m hi):Dn lt (Jj xs m hi ((hi - m) / 2)) lo hi:=λi j h1 h2 h3=>by
 rw [EG hs,EG hs]
 by_cases hi':m<=i
 ·rw [if_pos (by lia),if_pos (by lia)]
  exact e _ _ (by omega) (by omega) (by omega)
 ·rw [if_neg (by lia)]
  split
  ·exact d _ _ (by omega) (by lia) (by omega)
  ·exact d _ _ (by omega) (by omega) (by omega)
theorem Jz {xs:Array An} {i j lo hi:Nat} (hj:j<=xs.size) (h1:lo<=i) (h2:j<=hi):Out xs (Jj xs i j ((j - i) / 2)) lo hi:=λk hk=>by
 rw [EG hj,if_neg (by lia)]
theorem Dn.grow {st:BI} (O:Ord (·∈a₀) lt) (g:Good a₀ κ st) {lo hi:Nat} (hs:hi < a₀.size) (u:Dn lt (AW st) lo hi) (h0:lo < hi) (h:lt (ix (AW st) (hi - 1)) (ix (AW st) hi)=false):Dn lt (AW st) lo (hi+1):=λi j h1 h2 h3=>by
 by_cases hj:j < hi
 ·exact u i j h1 h2 hj
 ·have:j=hi:=by lia
  subst this
  by_cases hi':i=j
  ·subst hi';exact O.irr (g.mem hs)
  ·exact O.ntr _ _ _ (g.mem hs) (g.mem (show j - 1 < _ by omega)) (g.mem (by lia)) h (u i (j - 1) h1 (by lia) (by lia))
theorem Vk (O:Ord (·∈a₀) lt) {st:BI} (g:Good a₀ κ st) {lo:Nat} (h:lo < a₀.size):Up lt (AW st) lo (lo+1):=λi j h1 h2 h3=>by
 have e1:i=lo:=by lia
 have e2:j=lo:=by lia
 rw [e1,e2];exact O.irr (g.mem h)
theorem cp {st:BI} {lo nrem n:Nat} {Q:Option Nat->BI->Prop} (C:KZ prog w A s a₀ κ lt) (O:Ord (·∈a₀) lt) (h1:1<=n) (h2:n<=nrem) (hn:lo+nrem<=a₀.size) (g:Good a₀ κ st) (u:Up lt (AW st) lo (lo+n))
  (h:∀n,1<=n->n<=nrem->Up lt (AW st) lo (lo+n)->Q (some n) st):wpS (AZ prog w) A E s (do
   let mut n:=n
   for _ in [n:nrem] do
    let some smaller <-kW (lo+n) (lo+n - 1) | return none
    if smaller then break
    n:=n+1
   return some n) Q st:=by
 refine AO (DR (B9 (I:=λx c st'=>st'=st/\c=(none,x)/\Up lt (AW st) lo (lo+x))
  (Q:=λc st'=>st'=st/\∃n,c=(none,n)/\1<=n/\n<=nrem/\Up lt (AW st) lo (lo+n)) ?step ?fin ⟨rfl,rfl,u⟩) ?post)
 case fin=>
  rintro c st' ⟨rfl,rfl,u⟩
  have e:max n nrem=nrem:=by lia
  rw [e] at u ⊢;exact ⟨rfl,nrem,rfl,by lia,AT _,u⟩
 case step=>
  rintro x c st' hx1 hx2 ⟨rfl,rfl,u⟩;dsimp only;refine AO (NU C g (by lia) (by lia) ?_)
  cases hq:lt (ix (AW st') (lo+x)) (ix (AW st') (lo+x - 1)) with
  | true=>exact AS ⟨rfl,x,rfl,by lia,by lia,u⟩
  | false=>exact AS ⟨rfl,rfl,Up.grow (hi:=lo+x) O g (by lia) u (by lia) hq⟩
 case post=>
  rintro c st' ⟨rfl,n,rfl,hn1,hn2,u⟩;exact AS (h n hn1 hn2 u)
theorem wpS_countRun {st:BI} {lo nrem:Nat} {Q:Option Nat->BI->Prop} (C:KZ prog w A s a₀ κ lt) (O:Ord (·∈a₀) lt) (h1:1<=nrem) (hn:lo+nrem<=a₀.size) (g:Good a₀ κ st)
  (h:∀st' n,Good a₀ κ st'->1<=n->n<=nrem->Up lt (AW st') lo (lo+n)->Out (AW st) (AW st') lo (lo+nrem)->AY st'=AY st->Q (some n) st'):wpS (AZ prog w) A E s (countRun' lo nrem) Q st:=by
 rw [countRun'_eq]
 refine AO (DR (B9 (I:=λx c st'=>st'=st/\c=(none,x)/\Up lt (AW st) lo (lo+x))
  (Q:=λc st'=>st'=st/\∃n,c=(none,n)/\1<=n/\n<=nrem/\Up lt (AW st) lo (lo+n)/\(n=nrem∨lt (ix (AW st) (lo+n)) (ix (AW st) (lo+n - 1))=true)) ?step ?fin ?init) ?post)
 case init=>
  refine ⟨rfl,rfl,λi j a1 a2 a3=>?_⟩
  have:i=j:=by lia
  subst this;exact O.irr (g.mem (by lia))
 case fin=>
  rintro c st' ⟨rfl,rfl,u⟩
  have e:max 1 nrem=nrem:=by lia
  rw [e] at u ⊢;exact ⟨rfl,nrem,rfl,h1,AT _,u,.inl rfl⟩
 case step=>
  rintro x c st' hx1 hx2 ⟨rfl,rfl,u⟩;dsimp only;refine AO (NU C g (by lia) (by lia) ?_)
  cases hq:lt (ix (AW st') (lo+x)) (ix (AW st') (lo+x - 1)) with
  | true=>exact AS ⟨rfl,x,rfl,hx1,by lia,u,.inr hq⟩
  | false=>exact AS ⟨rfl,rfl,Up.grow (hi:=lo+x) O g (by lia) u (by lia) hq⟩
 case post=>
  rintro c st' ⟨rfl,n,rfl,hn1,hn2,u,hd⟩;dsimp only
  by_cases hnn:n=nrem
  ·rw [if_pos (by simpa using hnn)]
   exact AS (h st' n g hn1 hn2 u .refl rfl)
  ·rw [if_neg (by simpa using hnn)]
   have hd':=hd.resolve_left hnn
   have desc:∀(st1:BI),Good a₀ κ st1->Dn lt (AW st1) lo (lo+(n+1))->Out (AW st') (AW st1) lo (lo+nrem)->AY st1=AY st' ->
     wpS (AZ prog w) A E s (do
      liftM (rule "list.sort.descending-run")
      let mut n:=n+1
      let mut neq:=0
      for _ in [n:nrem] do
       let some smaller <-kW (lo+n) (lo+n - 1) | return none
       if smaller then
        if neq > 0 then Oj (lo+n - (neq+1)) (lo+n)
        neq:=0
       else
        let some larger <-kW (lo+n - 1) (lo+n) | return none
        if larger then break
        neq:=neq+1
       n:=n+1
      if neq > 0 then Oj (lo+n - (neq+1)) (lo+n)
      Oj lo (lo+n)
      for _ in [n:nrem] do
       let some smaller <-kW (lo+n) (lo+n - 1) | return none
       if smaller then break
       n:=n+1
      return some n) Q st1:=by
    intro st1 g1 d1 o1 p1;refine AO (JT ?_)
    refine AO (DR (B9 (I:=λx c st2=>Good a₀ κ st2/\∃q,c=(none,x,q)/\q+1<=x/\Dn lt (AW st2) lo (lo+x)/\Up lt (AW st2) (lo+x - (q+1)) (lo+x)/\Out (AW st') (AW st2) lo (lo+nrem)/\AY st2=AY st')
     (Q:=λc st2=>Good a₀ κ st2/\∃n q,c=(none,n,q)/\n<=nrem/\q+1<=n/\Dn lt (AW st2) lo (lo+n)/\Up lt (AW st2) (lo+n - (q+1)) (lo+n)/\Out (AW st') (AW st2) lo (lo+nrem)/\AY st2=AY st') ?dstep ?dfin ?dinit) ?dpost)
    case dinit=>
     refine ⟨g1,0,rfl,by lia,d1,?_,o1,p1⟩;have:=Vk O g1 (lo:=lo+n) (by lia);rwa [show lo+(n+1) - (0+1)=lo+n by lia,show lo+(n+1)=lo+n+1 by lia]
    case dfin=>
     rintro c st2 ⟨g2,q,rfl,hq,d2,u2,o2,p2⟩
     have e:max (n+1) nrem=nrem:=by lia
     rw [e] at d2 u2 hq ⊢;exact ⟨g2,nrem,q,rfl,AT _,hq,d2,u2,o2,p2⟩
    case dstep=>
     rintro x c st2 hx1 hx2 ⟨g2,q,rfl,hq,d2,u2,o2,p2⟩;dsimp only;refine AO (NU C g2 (by lia) (by lia) ?_)
     cases hs:lt (ix (AW st2) (lo+x)) (ix (AW st2) (lo+x - 1)) with
     | true=>
      dsimp only;rw [if_pos rfl];have hlt:=O.asym _ _ (g2.mem (show lo+x < _ by lia)) (g2.mem (show lo+x - 1 < _ by lia)) hs
      by_cases hq0:q > 0
      ·rw [if_pos hq0,Ln]
       have hsz:lo+x<=(AW st2).size:=by rw [g2.size];lia
       have g3:Good a₀ κ (setArr st2 (Jj (AW st2) (lo+x - (q+1)) (lo+x) ((lo+x - (lo+x - (q+1))) / 2))):=g2.setArr (Te _ _ _ _);have d3:=Dn.part (lt:=lt) (lo:=lo) hsz (show lo<=lo+x - (q+1) by lia) (by omega) d2 u2;refine AO (Db (AS ⟨g3,0,rfl,by lia,?_,?_,o2.trans (Jz hsz (by lia) (by lia)),p2⟩))
       ·refine Dn.grow (hi:=lo+x) O g3 (by lia) d3 (by lia) ?_
        show lt (ix (Jj (AW st2) (lo+x - (q+1)) (lo+x) ((lo+x - (lo+x - (q+1))) / 2)) (lo+x - 1)) (ix (Jj (AW st2) (lo+x - (q+1)) (lo+x) ((lo+x - (lo+x - (q+1))) / 2)) (lo+x))=false;rw [EG hsz,EG hsz,if_pos (by omega),if_neg (by lia)];exact O.ntr _ _ _ (g2.mem (by lia)) (g2.mem (show lo+x - 1 < _ by lia)) (g2.mem (by omega)) hlt (d2 _ _ (by lia) (by omega) (by lia))
       ·have:=Vk O g3 (lo:=lo+x) (by lia)
        rwa [show lo+(x+1) - (0+1)=lo+x by lia,show lo+(x+1)=lo+x+1 by lia]
      ·rw [if_neg hq0]
       refine AS ⟨g2,0,rfl,by lia,Dn.grow (hi:=lo+x) O g2 (by lia) d2 (by lia) hlt,?_,o2,p2⟩;have:=Vk O g2 (lo:=lo+x) (by lia);rwa [show lo+(x+1) - (0+1)=lo+x by lia,show lo+(x+1)=lo+x+1 by lia]
     | false=>
      dsimp only;rw [if_neg AQ];refine AO (NU C g2 (by lia) (by lia) ?_)
      cases hl:lt (ix (AW st2) (lo+x - 1)) (ix (AW st2) (lo+x)) with
      | true=>exact AS ⟨g2,x,q,rfl,by lia,hq,d2,u2,o2,p2⟩
      | false=>
       refine AS ⟨g2,q+1,rfl,by lia,Dn.grow (hi:=lo+x) O g2 (by lia) d2 (by lia) hl,?_,o2,p2⟩;rw [show lo+(x+1) - (q+1+1)=lo+x - (q+1) by lia];exact Up.grow (hi:=lo+x) O g2 (by lia) u2 (by omega) hs
    case dpost=>
     rintro c st2 ⟨g2,m,q,rfl,hm,hq,d2,u2,o2,p2⟩;dsimp only
     have hsz:lo+m<=(AW st2).size:=by rw [g2.size];lia
     have last:∀st3,Good a₀ κ st3->Dn lt (AW st3) lo (lo+m)->Out (AW st') (AW st3) lo (lo+nrem)->AY st3=AY st'->∀(R:StateT BI Sem (Option Nat)),R=(do
        let mut n:=m
        for _ in [n:nrem] do
         let some smaller <-kW (lo+n) (lo+n - 1) | return none
         if smaller then break
         n:=n+1
        return some n)->wpS (AZ prog w) A E s (do Oj lo (lo+m);R) Q st3:=by
      rintro st3 g3 d3 o3 p3 R rfl
      have hsz3:lo+m<=(AW st3).size:=by rw [g3.size];lia
      rw [Ln];refine AO (Db ?_);have g4:Good a₀ κ (setArr st3 (Jj (AW st3) lo (lo+m) ((lo+m - lo) / 2))):=g3.setArr (Te _ _ _ _)
      exact cp C O (by lia) hm hn g4 (Dn.flip hsz3 d3) λk k1 k2 k3=>h _ k g4 k1 k2 k3 (o3.trans (Jz hsz3 (by lia) (by lia))) p3
     by_cases hq0:q > 0
     ·rw [if_pos hq0,Ln]
      refine AO (Db ?_);exact last _ (g2.setArr (Te _ _ _ _)) (Dn.part hsz (by lia) (by omega) d2 u2) (o2.trans (Jz hsz (by lia) (by lia))) p2 _ rfl
     ·rw [if_neg hq0]
      exact last _ g2 d2 o2 p2 _ rfl
   have hlt:=O.asym _ _ (g.mem (show lo+n < _ by lia)) (g.mem (show lo+n - 1 < _ by omega)) hd'
   by_cases hn0:n > 1
   ·rw [if_pos hn0]
    refine AO (NU C g (by lia) (by omega) ?_)
    cases hr:lt (ix (AW st') lo) (ix (AW st') (lo+n - 1)) with
    | true=>exact AS (h st' n g hn1 hn2 u .refl rfl)
    | false=>
     dsimp only;rw [if_neg AQ,Ln]
     have hsz:lo+n<=(AW st').size:=by rw [g.size];lia
     have g1:Good a₀ κ (setArr st' (Jj (AW st') lo (lo+n) ((lo+n - lo) / 2))):=g.setArr (Te _ _ _ _)
     have al:∀i j,lo<=i->i < lo+n->lo<=j->j < lo+n->lt (ix (AW st') i) (ix (AW st') j)=false:=λi j i1 i2 j1 j2=>by
      have q1:=u j (lo+n - 1) (by omega) (by lia) (by omega);have q2:=u lo i (by lia) (by omega) (by omega);exact O.ntr _ _ _ (g.mem (by lia)) (g.mem (show lo < _ by lia)) (g.mem (by lia)) (O.ntr _ _ _ (g.mem (by lia)) (g.mem (show lo+n - 1 < _ by lia)) (g.mem (by lia)) q1 hr) q2
     refine AO (Db ?_);refine desc _ g1 ?_ (Jz hsz (by lia) (by lia)) rfl;refine Dn.grow (hi:=lo+n) O g1 (by lia) (λi j a1 a2 a3=>?_) (by lia) ?_
     ·show lt (ix (Jj (AW st') lo (lo+n) ((lo+n - lo) / 2)) i) (ix (Jj (AW st') lo (lo+n) ((lo+n - lo) / 2)) j)=false
      rw [EG hsz,EG hsz,if_pos (by lia),if_pos (by lia)];exact al _ _ (by omega) (by omega) (by omega) (by omega)
     ·show lt (ix (Jj (AW st') lo (lo+n) ((lo+n - lo) / 2)) (lo+n - 1)) (ix (Jj (AW st') lo (lo+n) ((lo+n - lo) / 2)) (lo+n))=false
      rw [EG hsz,EG hsz,if_pos (by omega),if_neg (by lia),show lo+(lo+n) - 1 - (lo+n - 1)=lo by omega];exact O.ntr _ _ _ (g.mem (by lia)) (g.mem (show lo+n - 1 < _ by lia)) (g.mem (by lia)) hlt hr
   ·rw [if_neg hn0]
    have e:n=1:=by lia
    subst e;refine desc _ g (Dn.grow (hi:=lo+1) O g (by lia) (λi j a1 a2 a3=>?_) (by lia) hlt) .refl rfl
    have e1:i=lo:=by lia
    have e2:j=lo:=by lia
    rw [e1,e2];exact O.irr (g.mem (by lia))
end
end Srt
namespace Srt
open PySem PyProof.Rows
def nB:Bool->An->Array An->Nat->Nat->Nat->StateT BI Sem (Option Nat):=sortPriv% PySem.Builtin.gallop
section
variable {prog:Ap} {w:BE} {A:BC} {E:AD->AE->Prop} {s:AE} {a₀:Array An} {κ:Fk} {lt:An->An->Bool}
abbrev BS:=Option (Option Nat)×Nat×Nat
theorem fX {st:BI} {p:Nat->Bool} {n lo hi:Nat} {F:Nat->BS->StateT BI Sem (ForInStep BS)} {T:BS->StateT BI Sem (Option Nat)} {Q:Option Nat->BI->Prop} (hlh:lo<=hi) (hhn:hi<=n)
  (hlo:∀i,i < lo->p i=true) (hhi:∀i,hi<=i->i < n->p i=false) (mono:∀i j,i<=j->j < n->p j=true->p i=true)
  (hF:∀x l h (R:ForInStep BS->BI->Prop),l<=h->h<=n->(l ≥ h->R (.done (none,l,h)) st)->(l < h->p (l+(h - l) / 2)=true->R (.yield (none,l+(h - l) / 2+1,h)) st)->(l < h->p (l+(h - l) / 2)=false->R (.yield (none,l,l+(h - l) / 2)) st) ->
   wpS (AZ prog w) A E s (F x (none,l,h)) R st)
  (hT:∀l h,h<=n->(∀i,i < h->p i=true)->(∀i,h<=i->i < n->p i=false)->wpS (AZ prog w) A E s (T (none,l,h)) Q st):wpS (AZ prog w) A E s (forIn [0:n] (none,lo,hi) F >>= T) Q st:=by
 refine AO (DR (B9 (I:=λx c st'=>st'=st/\∃l h,c=(none,l,h)/\l<=h/\h<=n/\h - l<=n - x/\(∀i,i < l->p i=true)/\(∀i,h<=i->i < n->p i=false))
  (Q:=λc st'=>st'=st/\∃l h,c=(none,l,h)/\h<=n/\(∀i,i < h->p i=true)/\(∀i,h<=i->i < n->p i=false)) ?step ?fin ⟨rfl,lo,hi,rfl,hlh,hhn,by lia,hlo,hhi⟩) ?post)
 case fin=>
  rintro c st' ⟨rfl,l,h,rfl,h1,h2,h3,h4,h5⟩
  have:l=h:=by lia
  subst this;exact ⟨rfl,l,l,rfl,h2,h4,h5⟩
 case step=>
  rintro x c st' _ hx ⟨rfl,l,h,rfl,h1,h2,h3,h4,h5⟩
  refine hF x l h _ h1 h2 (λhge=>?_) (λhlt hp=>?_) λhlt hp=>?_
  ·have:l=h:=by lia
   subst this;exact ⟨rfl,l,l,rfl,h2,h4,h5⟩
  ·exact ⟨rfl,_,_,rfl,by lia,h2,by omega,λi hi=>mono i (l+(h - l) / 2) (by lia) (by lia) hp,h5⟩
  ·refine ⟨rfl,_,_,rfl,by lia,by lia,by omega,h4,λi hi1 hi2=>?_⟩
   cases e:p i with
   | false=>rfl
   | true=>rw [mono _ i hi1 hi2 e] at hp;cases hp
 case post=>
  rintro c st' ⟨rfl,l,h,rfl,h2,h4,h5⟩;exact hT l h h2 h4 h5
theorem Xi {st:BI} {q:Nat->Bool} {n mx:Nat} {F:Nat->BS->StateT BI Sem (ForInStep BS)} {T:BS->StateT BI Sem (Option Nat)} {Q:Option Nat->BI->Prop} (hm:mx<=n) (q0:q 0=true)
  (hF:∀x a b (R:ForInStep BS->BI->Prop),a < b->(b ≥ mx->R (.done (none,a,b)) st)->(b < mx->q b=false->R (.done (none,a,b)) st)->(b < mx->q b=true->R (.yield (none,b,2 * b+1)) st)->wpS (AZ prog w) A E s (F x (none,a,b)) R st)
  (hT:∀a b,a < b->q a=true->(a=0∨a < mx)->(b < mx->q b=false)->wpS (AZ prog w) A E s (T (none,a,b)) Q st):wpS (AZ prog w) A E s (forIn [0:n] (none,0,1) F >>= T) Q st:=by
 refine AO (DR (B9 (I:=λx c st'=>st'=st/\∃a b,c=(none,a,b)/\a < b/\x+1<=b/\q a=true/\(a=0∨a < mx))
  (Q:=λc st'=>st'=st/\∃a b,c=(none,a,b)/\a < b/\q a=true/\(a=0∨a < mx)/\(b < mx->q b=false)) ?step ?fin ⟨rfl,0,1,rfl,by lia,by lia,q0,.inl rfl⟩) ?post)
 case fin=>
  rintro c st' ⟨rfl,a,b,rfl,h1,h2,h3,h4⟩;exact ⟨rfl,a,b,rfl,h1,h3,h4,λh=>by lia⟩
 case step=>
  rintro x c st' _ hx ⟨rfl,a,b,rfl,h1,h2,h3,h4⟩
  refine hF x a b _ h1 (λhge=>?_) (λhlt hp=>?_) λhlt hp=>?_
  ·exact ⟨rfl,a,b,rfl,h1,h3,h4,λh=>by lia⟩
  ·exact ⟨rfl,a,b,rfl,h1,h3,h4,λ_=>hp⟩
  ·exact ⟨rfl,b,2 * b+1,rfl,by lia,by lia,hp,.inr hlt⟩
 case post=>
  rintro c st' ⟨rfl,a,b,rfl,h1,h3,h4,h5⟩;exact hT a b h1 h3 h4 h5
theorem E1 {st:BI} {left:Bool} {key:An} {arr:Array An} {base n hint:Nat} {Q:Option Nat->BI->Prop} (C:KZ prog w A s a₀ κ lt) (g:Good a₀ κ st) (p:Nat->Bool)
  (hkey:key∈a₀) (harr:∀i,i < n->base+i < arr.size/\ix arr (base+i)∈a₀) (hp:∀i,i < n->p i=if left=true then lt (ix arr (base+i)) key else !lt key (ix arr (base+i)))
  (mono:∀i j,i<=j->j < n->p j=true->p i=true) (hh:hint < n)
  (h:∀k,k<=n->(∀i,i < k->p i=true)->(∀i,k<=i->i < n->p i=false)->Q (some k) st):wpS (AZ prog w) A E s (nB left key arr base n hint) Q st:=by
 have bey:∀i,i < n->∀R:Option Bool->BI->Prop,R (some (p i)) st->wpS (AZ prog w) A E s (do let x <-elem' arr (base+i);if left=true then lt' x key else do let y <-lt' key x;pure (y.map (!·))) R st:=by
  intro i hi R hR;obtain ⟨h1,h2⟩:=harr i hi;rw [cU,DT h1];refine AO (AS ?_);rw [hp i hi] at hR
  cases left with
  | true=>exact PR C g h2 hkey hR
  | false=>exact AO (PR C g hkey h2 (AS hR))
 refine (AO ?_:wpS _ _ _ _ (nB left key arr base n hint) Q st);refine bey hint hh _ ?_
 have fin:∀(lo hi:Nat) {F:Nat->BS->StateT BI Sem (ForInStep BS)} {T:BS->StateT BI Sem (Option Nat)},lo<=hi->hi<=n->(∀i,i < lo->p i=true)->(∀i,hi<=i->i < n->p i=false) ->
   (∀x l h' (R:ForInStep BS->BI->Prop),l<=h'->h'<=n->(l ≥ h'->R (.done (none,l,h')) st)->(l < h'->p (l+(h' - l) / 2)=true->R (.yield (none,l+(h' - l) / 2+1,h')) st)->(l < h'->p (l+(h' - l) / 2)=false->R (.yield (none,l,l+(h' - l) / 2)) st) ->
    wpS (AZ prog w) A E s (F x (none,l,h')) R st)->(∀l h',T (none,l,h')=pure (some h'))->wpS (AZ prog w) A E s (forIn [0:n] (none,lo,hi) F >>= T) Q st:=λlo hi F T h1 h2 h3 h4 hF hT=>
  fX h1 h2 h3 h4 mono hF λl h' q1 q2 q3=>by rw [hT];exact AS (h h' q1 q2 q3)
 cases hq:p hint with
 | true=>
  dsimp only;rw [if_pos rfl]
  refine Xi (q:=λi=>decide (hint+i < n)&&p (hint+i)) (mx:=n - hint) (by lia) (by simp [hq,hh]) (λx a b R hab r1 r2 r3=>?_) λa b hab qa ha hb=>?_
  ·dsimp only
   by_cases hge:b ≥ n - hint
   ·rw [if_pos hge];exact AS (r1 hge)
   ·rw [if_neg hge]
    refine AO (bey (hint+b) (by lia) _ ?_);have hd:decide (hint+b < n)=true:=decide_eq_true (by lia)
    cases e:p (hint+b) with
    | true=>exact AS (r3 (by lia) (by simp [hd,e]))
    | false=>exact AS (r2 (by lia) (by simp [hd,e]))
  ·dsimp only
   have pa:p (hint+a)=true:=by simp at qa;exact qa.2
   have han:hint+a < n:=by simp at qa;exact qa.1
   refine fin (hint+a+1) (hint+min b (n - hint)) (by omega) (by omega) (λi hi=>mono i (hint+a) (by lia) han pa) (λi h1 h2=>?_) (λx l h' R l1 l2 r1 r2 r3=>?_) λl h'=>rfl
   ·by_cases hbm:b < n - hint
    ·have:=hb hbm
     have hd:decide (hint+b < n)=true:=decide_eq_true (by lia);rw [hd,gx] at this
     cases e:p i with
     | false=>rfl
     | true=>rw [mono (hint+b) i (by lia) h2 e] at this;cases this
    ·omega
   ·dsimp only
    by_cases hge:l ≥ h'
    ·rw [if_pos hge];exact AS (r1 hge)
    ·rw [if_neg hge]
     refine AO (bey (l+(h' - l) / 2) (by lia) _ ?_)
     cases e:p (l+(h' - l) / 2) with
     | true=>exact AS (r2 (by lia) e)
     | false=>exact AS (r3 (by lia) e)
 | false=>
  dsimp only;rw [if_neg AQ]
  refine Xi (q:=λi=>decide (i<=hint)&&!p (hint - i)) (mx:=hint+1) (by lia) (by simp [hq]) (λx a b R hab r1 r2 r3=>?_) λa b hab qa ha hb=>?_
  ·dsimp only
   by_cases hge:b ≥ hint+1
   ·rw [if_pos hge];exact AS (r1 hge)
   ·rw [if_neg hge]
    refine AO (bey (hint - b) (by omega) _ ?_);have hd:decide (b<=hint)=true:=decide_eq_true (by lia)
    cases e:p (hint - b) with
    | true=>exact AS (r2 (by lia) (by simp [hd,e]))
    | false=>exact AS (r3 (by lia) (by simp [hd,e]))
  ·dsimp only
   have pa:p (hint - a)=false:=by simp at qa;exact qa.2
   have han:a<=hint:=by simp at qa;exact qa.1
   refine fin (hint+1 - min b (hint+1)) (hint - a) (by omega) (by omega) (λi hi=>?_) (λi h1 h2=>?_) (λx l h' R l1 l2 r1 r2 r3=>?_) λl h'=>rfl
   ·by_cases hbm:b < hint+1
    ·have:=hb hbm
     have hd:decide (b<=hint)=true:=decide_eq_true (by lia);rw [hd,gx] at this;exact mono i (hint - b) (by omega) (by lia) (by simpa using this)
    ·omega
   ·cases e:p i with
    | false=>rfl
    | true=>rw [mono (hint - a) i h1 h2 e] at pa;cases pa
   ·dsimp only
    by_cases hge:l ≥ h'
    ·rw [if_pos hge];exact AS (r1 hge)
    ·rw [if_neg hge]
     refine AO (bey (l+(h' - l) / 2) (by lia) _ ?_)
     cases e:p (l+(h' - l) / 2) with
     | true=>exact AS (r2 (by lia) e)
     | false=>exact AS (r3 (by lia) e)
end
end Srt
namespace Srt
open PySem PyProof.Rows
structure MI (R:An->An->Prop) (T o ra rb:List An):Prop where
 perm:(o++(ra++rb)).Perm T
 srt:o.Pairwise R
 low:∀x∈o,∀y∈ra++rb,R x y
 sa:ra.Pairwise R
 sb:rb.Pairwise R
structure IE (R:An->An->Prop) (T r:List An):Prop where
 perm:r.Perm T
 srt:r.Pairwise R
section
variable {R:An->An->Prop} {T o ra rb xs:List An}
theorem MI.takeA (m:MI R T o (xs++ra) rb) (h:∀x∈xs,∀y∈rb,R x y):MI R T (o++xs) ra rb:=by
 have sa:=A8.mp m.sa;refine ⟨by simpa [BM] using m.perm,A8.mpr ⟨m.srt,sa.1,λx hx y hy=>m.low x hx y (by simp [hy])⟩,λx hx y hy=>?_,sa.2.1,m.sb⟩
 rcases Az.mp hx with hx | hx
 ·exact m.low x hx y (by rcases Az.mp hy with h | h <;> simp [h])
 ·rcases Az.mp hy with hy | hy
  ·exact sa.2.2 x hx y hy
  ·exact h x hx y hy
theorem MI.takeB (m:MI R T o ra (xs++rb)) (h:∀x∈xs,∀y∈ra,R x y):MI R T (o++xs) ra rb:=by
 have sb:=A8.mp m.sb;refine ⟨?_,A8.mpr ⟨m.srt,sb.1,λx hx y hy=>m.low x hx y (by simp [hy])⟩,λx hx y hy=>?_,m.sa,sb.2.1⟩
 ·refine List.Perm.trans ?_ m.perm
  rw [BM];refine Jm o ?_;rw [<-BM,<-BM];exact Qm rb VZ
 ·rcases Az.mp hx with hx | hx
  ·exact m.low x hx y (by rcases Az.mp hy with h | h <;> simp [h])
  ·rcases Az.mp hy with hy | hy
   ·exact h x hx y hy
   ·exact sb.2.2 x hx y hy
theorem MI.endA (m:MI R T o ra []):IE R T (o++ra):=by
 refine ⟨by simpa using m.perm,A8.mpr ⟨m.srt,m.sa,λx hx y hy=>m.low x hx y (by simp [hy])⟩⟩
theorem MI.endB (m:MI R T o [] rb):IE R T (o++rb):=by
 refine ⟨by simpa using m.perm,A8.mpr ⟨m.srt,m.sb,λx hx y hy=>m.low x hx y (by simp [hy])⟩⟩
theorem MI.last (m:MI R T o ra rb) (h:∀y∈rb,∀x∈ra,R y x):IE R T (o++(rb++ra)):=by
 refine ⟨(Jm o VZ).trans m.perm,A8.mpr ⟨m.srt,A8.mpr ⟨m.sb,m.sa,h⟩,λx hx y hy=>m.low x hx y (by rcases Az.mp hy with h | h <;> simp [h])⟩⟩
end
theorem O7 {a:Array An} {i:Nat} (h:i < a.size):a.toList.drop i=ix a i :: a.toList.drop (i+1):=by
 rw [Be (by simpa using h)]
 congr 1
 have:=DT h;rw [getElem?_pos a i h] at this;simpa using this
theorem IX {a:Array An} {i k:Nat} (h:i+k<=a.size):a.toList.drop i=(a.extract i (i+k)).toList++a.toList.drop (i+k):=by
 have e:(a.extract i (i+k)).toList=(a.toList.drop i).take k:=by simp [OB]
 rw [e,<-RL,C4]
theorem O0 {a:Array An} {i k:Nat} (h:i+k<=a.size) {x:An} (hx:x∈(a.extract i (i+k)).toList):∃j,j < k/\x=ix a (i+j):=by
 rw [BO,Oo] at hx;obtain ⟨j,hj,rfl⟩:=hx;refine ⟨j,by lia,?_⟩;have:=DT (xs:=a) (i:=i+j) (by lia);rw [getElem?_pos a _ (by lia)] at this;simpa using this
theorem KG (a:Array An) (i:Nat):(a.extract i a.size).toList=a.toList.drop i:=by
 simp [OB];exact Cv (by simp)
theorem Fv {a:Array An} {i:Nat} {x:An} (hx:x∈a.toList.drop i):∃j,i<=j/\j < a.size/\x=ix a j:=by
 obtain ⟨k,hk,rfl⟩:=Ws.mp hx;simp at hk;refine ⟨i+k,by lia,by omega,?_⟩;have:=DT (xs:=a) (i:=i+k) (by omega);rw [getElem?_pos a _ (by omega)] at this;simpa using this
section
variable {prog:Ap} {w:BE} {A:BC} {E:AD->AE->Prop} {s:AE} {a₀:Array An} {κ:Fk} {lt:An->An->Bool}
theorem Bb {st:BI} {a:Array An} {i:Nat} {Q:An->BI->Prop} (h:i < a.size) (hq:Q (ix a i) st):wpS (AZ prog w) A E s (elem' a i) Q st:=by
 rw [cU,DT h];exact AS hq
def mLo:Array An->Array An->StateT BI Sem (Array An):=sortPriv% PySem.Builtin.mergeLo
def mHi:Array An->Array An->StateT BI Sem (Array An):=sortPriv% PySem.Builtin.mergeHi
structure Kg (a₀:Array An) (κ:Fk) (st st':BI):Prop where
 good:Good a₀ κ st'
 arr:AW st'=AW st
 pend:AY st'=AY st
theorem Kg.gal {st st':BI} (h:Kg a₀ κ st st') (n:Nat):Kg a₀ κ st (HD (kindOf st') (AW st') (AY st') n (Ic st')):=⟨⟨h.good.perm,h.good.kind,h.good.failed⟩,h.arr,h.pend⟩
abbrev Rl (lt:An->An->Bool) (x y:An):Prop:=lt y x=false
theorem UA (O:Ord (·∈a₀) lt) {a:Array An} (ma:∀i,i < a.size->ix a i∈a₀) (sa:a.toList.Pairwise (Rl lt)):∀i j,i<=j->j < a.size->Rl lt (ix a i) (ix a j):=λi j hij hj=>by
 by_cases e:i=j
 ·subst e;exact O.irr (ma i hj)
 ·have hd:=O7 (a:=a) (i:=i) (by lia)
  have:=sa.sublist (OC i a.toList);rw [hd] at this;refine (Ih.mp this).1 _ ?_;rw [show a.toList.drop (i+1)=(a.extract (i+1) (i+1+(j - (i+1)))).toList++a.toList.drop (i+1+(j - (i+1))) from IX (by lia),show i+1+(j - (i+1))=j by lia,O7 hj];simp
theorem Sw {a:Array An} (ma:∀x∈a.toList,x∈a₀):∀i,i < a.size->ix a i∈a₀:=λi hi=>ma _ (BO.mpr (C3 (DT hi)))
theorem Op {st:BI} {n:Nat} {Q:Unit->BI->Prop} (h:Q () (HD (kindOf st) (AW st) (AY st) n (Ic st))):wpS (AZ prog w) A E s ((sortPriv% PySem.Builtin.setMinGallop) n) Q st:=Db h
abbrev L7:=Option (Array An)×Array An×Nat×Nat×Nat×Nat×Nat
theorem ck {st:BI} {a b:Array An} {Q:Array An->BI->Prop} (C:KZ prog w A s a₀ κ lt) (O:Ord (·∈a₀) lt) (g:Good a₀ κ st)
  (ma:∀x∈a.toList,x∈a₀) (mb:∀x∈b.toList,x∈a₀) (sa:a.toList.Pairwise (Rl lt)) (sb:b.toList.Pairwise (Rl lt)) (na:0 < a.size) (nb:0 < b.size)
  (h0:∀x∈a.toList,Rl lt (ix b 0) x) (h1:∀y∈b.toList,Rl lt y (ix a (a.size - 1)))
  (h:∀r st',Kg a₀ κ st st'->IE (Rl lt) (a.toList++b.toList) r.toList->Q r st'):wpS (AZ prog w) A E s (mLo a b) Q st:=by
 have ia0:=Sw ma;have ib0:=Sw mb;have ua:=UA O ia0 sa;have ub:=UA O ib0 sb
 have tr:∀x y z:An,x∈a₀->y∈a₀->z∈a₀->Rl lt x y->Rl lt y z->Rl lt x z:=λx y z hx hy hz h1 h2=>O.ntr x y z hx hy hz h1 h2
 let M (out:Array An) (ia ib:Nat):Prop:=MI (Rl lt) (a.toList++b.toList) out.toList (a.toList.drop ia) (b.toList.drop ib)
 have tA:∀out ia ib,M out ia ib->ia < a.size->(∀j,ib<=j->j < b.size->Rl lt (ix a ia) (ix b j))->M (out.push (ix a ia)) (ia+1) ib:=λout ia ib m hia hr=>by
  have m':MI (Rl lt) (a.toList++b.toList) out.toList ([ix a ia]++a.toList.drop (ia+1)) (b.toList.drop ib):=by rw [Dl,<-O7 hia];exact m
  have:=m'.takeA λx hx y hy=>by
   obtain ⟨j,j1,j2,rfl⟩:=Fv hy;rw [Ae.mp hx];exact hr j j1 j2
  simpa [M] using this
 have tB:∀out ia ib,M out ia ib->ib < b.size->(∀j,ia<=j->j < a.size->Rl lt (ix b ib) (ix a j))->M (out.push (ix b ib)) ia (ib+1):=λout ia ib m hib hr=>by
  have m':MI (Rl lt) (a.toList++b.toList) out.toList (a.toList.drop ia) ([ix b ib]++b.toList.drop (ib+1)):=by rw [Dl,<-O7 hib];exact m
  have:=m'.takeB λx hx y hy=>by
   obtain ⟨j,j1,j2,rfl⟩:=Fv hy;rw [Ae.mp hx];exact hr j j1 j2
  simpa [M] using this
 have sA:∀out ia ib k,M out ia ib->ia+k<=a.size->(∀i j,i < k->ib<=j->j < b.size->Rl lt (ix a (ia+i)) (ix b j))->M (out++a.extract ia (ia+k)) (ia+k) ib:=λout ia ib k m hk hr=>by
  have m':MI (Rl lt) (a.toList++b.toList) out.toList ((a.extract ia (ia+k)).toList++a.toList.drop (ia+k)) (b.toList.drop ib):=by rw [<-IX hk];exact m
  have:=m'.takeA λx hx y hy=>by
   obtain ⟨j,j1,j2,rfl⟩:=Fv hy;obtain ⟨i,i1,rfl⟩:=O0 hk hx;exact hr i j i1 j1 j2
  show MI _ _ (out++a.extract ia (ia+k)).toList _ _;rw [BF];exact this
 have sB:∀out ia ib k,M out ia ib->ib+k<=b.size->(∀i j,i < k->ia<=j->j < a.size->Rl lt (ix b (ib+i)) (ix a j))->M (out++b.extract ib (ib+k)) ia (ib+k):=λout ia ib k m hk hr=>by
  have m':MI (Rl lt) (a.toList++b.toList) out.toList (a.toList.drop ia) ((b.extract ib (ib+k)).toList++b.toList.drop (ib+k)):=by rw [<-IX hk];exact m
  have:=m'.takeB λx hx y hy=>by
   obtain ⟨j,j1,j2,rfl⟩:=Fv hy;obtain ⟨i,i1,rfl⟩:=O0 hk hx;exact hr i j i1 j1 j2
  show MI _ _ (out++b.extract ib (ib+k)).toList _ _;rw [BF];exact this
 have eB:∀out ia ib,M out ia ib->ib=b.size->IE (Rl lt) (a.toList++b.toList) (out++a.extract ia a.size++b.extract ib b.size).toList:=λout ia ib m e=>by
  subst e
  have m':MI (Rl lt) (a.toList++b.toList) out.toList (a.toList.drop ia) []:=by
   have:b.toList.drop b.size=[]:=by simp
   rw [<-this];exact m
  rw [BF,BF,KG,KG,show b.toList.drop b.size=[] by simp,BK];exact m'.endA
 have eA:∀out ia ib,M out ia ib->ia=a.size->IE (Rl lt) (a.toList++b.toList) (out++a.extract ia a.size++b.extract ib b.size).toList:=λout ia ib m e=>by
  subst e
  have m':MI (Rl lt) (a.toList++b.toList) out.toList [] (b.toList.drop ib):=by
   have:a.toList.drop a.size=[]:=by simp
   rw [<-this];exact m
  rw [BF,BF,KG,KG,show a.toList.drop a.size=[] by simp,BK];exact m'.endB
 have eL:∀out ia ib,M out ia ib->ia+1=a.size->IE (Rl lt) (a.toList++b.toList) (out++b.extract ib b.size++a.extract ia a.size).toList:=λout ia ib m e=>by
  have:=m.last λy hy x hx=>by
   obtain ⟨j,j1,j2,rfl⟩:=Fv hx;obtain ⟨i,i1,i2,rfl⟩:=Fv hy
   have:j=a.size - 1:=by lia
   subst this;exact h1 _ (BO.mpr (C3 (DT i2)))
  rw [BF,BF,KG,KG,BM];exact this
 have m0:M #[] 0 0:=⟨by simp,by simp,by simp,by simpa using sa,by simpa using sb⟩
 have m1:M #[ix b 0] 0 1:=by
  have:=tB #[] 0 0 m0 nb λj _ hj=>h0 _ (BO.mpr (C3 (DT hj)))
  simpa using this
 refine (AO (JT ?_):wpS _ _ _ _ (mLo a b) Q st);refine AO (Bb nb ?_)
 by_cases c1:1=b.size
 ·refine (show wpS (AZ prog w) A E s (if (1==b.size)=true then _ else _) Q st from ?_)
  rw [if_pos (by simpa using c1)];exact AS (h _ st ⟨g,rfl,rfl⟩ (eB _ _ _ m1 c1))
 refine (show wpS (AZ prog w) A E s (if (1==b.size)=true then _ else _) Q st from ?_);rw [if_neg (by simpa using c1)]
 by_cases c2:0+1=a.size
 ·rw [if_pos (by simpa using c2)]
  exact AS (h _ st ⟨g,rfl,rfl⟩ (eL _ _ _ m1 c2))
 rw [if_neg (by simpa using c2)];refine AO (HW ?_)
 refine AO (DR (B9 (I:=λx c st'=>Kg a₀ κ st st'/\∃out ia ib mg,c=(none,out,ia,ib,mg)/\M out ia ib/\ia+1 < a.size/\ib < b.size/\1+x<=ia+ib)
  (Q:=λc st'=>Kg a₀ κ st st'/\∃r z,c=(some r,z)/\IE (Rl lt) (a.toList++b.toList) r.toList) ?step ?fin ?init) ?post)
 case init=>exact ⟨⟨g,rfl,rfl⟩,_,_,_,_,rfl,m1,by lia,by lia,by lia⟩
 case fin=>
  rintro c st' ⟨_,out,ia,ib,mg,_,_,k1,k2,k3⟩
  lia
 case post=>
  rintro c st' ⟨s1,r,z,rfl,f⟩;exact AS (h r st' s1 f)
 case step=>
  rintro x c st1 _ _ ⟨s1,out,ia,ib,mg,rfl,m,k1,k2,k3⟩
  refine AO (DR (B9 (I:=λy c st'=>st'=st1/\∃out' ia' ib' ac bc,c=(none,out',ia',ib',ac,bc)/\M out' ia' ib'/\ia'+1 < a.size/\ib' < b.size/\ia+ib+y<=ia'+ib')
   (Q:=λc st'=>st'=st1/\((∃r z,c=(some r,z)/\IE (Rl lt) (a.toList++b.toList) r.toList)∨∃out' ia' ib' ac bc,c=(none,out',ia',ib',ac,bc)/\M out' ia' ib'/\ia'+1 < a.size/\ib' < b.size/\ia+ib+1<=ia'+ib')) ?step1 ?fin1 ?init1) ?post1)
  case init1=>exact ⟨rfl,out,ia,ib,0,0,rfl,m,k1,k2,by lia⟩
  case fin1=>
   rintro c st' ⟨rfl,out',ia',ib',ac,bc,rfl,m',q1,q2,q3⟩;exact ⟨rfl,.inr ⟨out',ia',ib',ac,bc,rfl,m',q1,q2,by lia⟩⟩
  case step1=>
   rintro y c st' _ _ ⟨rfl,out',ia',ib',ac,bc,rfl,m',q1,q2,q3⟩;refine AO (Bb (i:=ib') q2 ?_);refine AO (Bb (i:=ia') (show ia' < a.size by lia) ?_);refine AO (PR C s1.good (ib0 _ q2) (ia0 _ (by lia)) ?_)
   cases e:lt (ix b ib') (ix a ia') with
   | true=>
    refine AO (Bb q2 ?_);have r0:Rl lt (ix b ib') (ix a ia'):=O.asym _ _ (ib0 _ q2) (ia0 _ (by lia)) e
    have m2:=tB out' ia' ib' m' q2 λj j1 j2=>tr _ _ _ (ib0 _ q2) (ia0 _ (by lia)) (ia0 _ j2) r0 (ua ia' j j1 j2)
    refine (show wpS (AZ prog w) A E s (if (ib'+1==b.size)=true then _ else _) _ st' from ?_)
    by_cases d:ib'+1=b.size
    ·rw [if_pos (by simpa using d)]
     exact AS ⟨rfl,.inl ⟨_,_,rfl,eB _ _ _ m2 d⟩⟩
    ·rw [if_neg (by simpa using d)]
     split
     ·exact AS ⟨rfl,.inr ⟨_,ia',ib'+1,_,_,rfl,m2,by omega,by lia,by lia⟩⟩
     ·exact AS ⟨rfl,_,ia',ib'+1,_,_,rfl,m2,by omega,by lia,by lia⟩
   | false=>
    refine AO (Bb (show ia' < a.size by lia) ?_)
    have m2:=tA out' ia' ib' m' (by lia) λj j1 j2=>tr _ _ _ (ia0 _ (by lia)) (ib0 _ q2) (ib0 _ j2) e (ub ib' j j1 j2)
    refine (show wpS (AZ prog w) A E s (if (ia'+1+1==a.size)=true then _ else _) _ st' from ?_)
    by_cases d:ia'+1+1=a.size
    ·rw [if_pos (by simpa using d)]
     exact AS ⟨rfl,.inl ⟨_,_,rfl,eL _ _ _ m2 d⟩⟩
    ·rw [if_neg (by simpa using d)]
     split
     ·exact AS ⟨rfl,.inr ⟨_,ia'+1,ib',_,_,rfl,m2,by lia,by omega,by lia⟩⟩
     ·exact AS ⟨rfl,_,ia'+1,ib',_,_,rfl,m2,by lia,by omega,by lia⟩
  case post1=>
   rintro c st' ⟨rfl,⟨r,z,rfl,f⟩ | ⟨out',ia',ib',ac,bc,rfl,m',q1,q2,q3⟩⟩
   ·exact AS ⟨s1,_,_,rfl,f⟩
   refine AO (JT ?_)
   refine AO (DR (B9 (I:=λy c st2=>Kg a₀ κ st st2/\∃out2 ia2 ib2 mg2 ac bc,c=(none,out2,ia2,ib2,mg2,ac,bc)/\M out2 ia2 ib2/\ia2+1 < a.size/\ib2 < b.size/\ia+ib+1<=ia2+ib2)
    (Q:=λc st2=>Kg a₀ κ st st2/\((∃r z,c=(some r,z)/\IE (Rl lt) (a.toList++b.toList) r.toList)∨∃out2 ia2 ib2 mg2 ac bc,c=(none,out2,ia2,ib2,mg2,ac,bc)/\M out2 ia2 ib2/\ia2+1 < a.size/\ib2 < b.size/\ia+ib+1<=ia2+ib2)) ?step2 ?fin2 ?init2) ?post2)
   case init2=>exact ⟨s1,out',ia',ib',mg+1,ac,bc,rfl,m',q1,q2,q3⟩
   case fin2=>
    rintro c st2 ⟨s2,out2,ia2,ib2,mg2,ac2,bc2,rfl,m2,p1,p2,p3⟩;exact ⟨s2,.inr ⟨out2,ia2,ib2,mg2,ac2,bc2,rfl,m2,p1,p2,p3⟩⟩
   case post2=>
    rintro c st2 ⟨s2,⟨r,z,rfl,f⟩ | ⟨out2,ia2,ib2,mg2,ac2,bc2,rfl,m2,p1,p2,p3⟩⟩
    ·exact AS ⟨s2,_,_,rfl,f⟩
    ·exact AO (Op (AS ⟨s2.gal _,out2,ia2,ib2,mg2+1,rfl,m2,p1,p2,by lia⟩))
   case step2=>
    rintro y c st2 _ _ ⟨s2,out2,ia2,ib2,mg2,ac2,bc2,rfl,m2,p1,p2,p3⟩
    let P:ForInStep L7->BI->Prop:=λr st'=>match r with
     | .done c'=>Kg a₀ κ st st'/\((∃r z,c'=(some r,z)/\IE (Rl lt) (a.toList++b.toList) r.toList)∨∃out2 ia2 ib2 mg2 ac bc,c'=(none,out2,ia2,ib2,mg2,ac,bc)/\M out2 ia2 ib2/\ia2+1 < a.size/\ib2 < b.size/\ia+ib+1<=ia2+ib2)
     | .yield c'=>Kg a₀ κ st st'/\∃out2 ia2 ib2 mg2 ac bc,c'=(none,out2,ia2,ib2,mg2,ac,bc)/\M out2 ia2 ib2/\ia2+1 < a.size/\ib2 < b.size/\ia+ib+1<=ia2+ib2
    refine DR (Q:=P) ?_ λr st' h=>by cases r <;> exact h
    refine (show wpS (AZ prog w) A E s (if mg2 > 1 then _ else _) P st2 from ?_);split
    all_goals
     refine AO (Op ?_);refine AO (Bb (i:=ib2) p2 ?_);refine AO (E1 (base:=ia2) (n:=a.size - ia2) (hint:=0) (arr:=a) (key:=ix b ib2) (left:=false) C (s2.gal _).good (λi=>!lt (ix b ib2) (ix a (ia2+i))) (ib0 _ p2) (λi hi=>⟨by lia,ia0 _ (by lia)⟩) (λi hi=>rfl) (λi j hij hj e=>?_) (by lia) λk hk k1 k2=>?_)
     ·have e':lt (ix b ib2) (ix a (ia2+j))=false:=by simpa using e
      have:=tr _ _ _ (ia0 _ (by lia)) (ia0 _ (by lia)) (ib0 _ p2) (ua (ia2+i) (ia2+j) (by lia) (by lia)) e';simpa using this
     ·have far:∀j,ia2+k<=j->j < a.size->Rl lt (ix b ib2) (ix a j):=λj j1 j2=>by
       have:=k2 (j - ia2) (by lia) (by lia);rw [show ia2+(j - ia2)=j by lia] at this;exact O.asym _ _ (ib0 _ p2) (ia0 _ j2) (by simpa using this)
      have m5:=sA out2 ia2 ib2 k m2 (by lia) λi j hi j1 j2=>tr _ _ _ (ia0 _ (by lia)) (ib0 _ p2) (ib0 _ j2) (by simpa using k1 i hi) (ub ib2 j j1 j2)
      refine (show wpS (AZ prog w) A E s (if k > 0 then _ else _) P _ from ?_)
      by_cases hk0:k > 0
      ·rw [if_pos hk0]
       refine (show wpS (AZ prog w) A E s (if (ia2+k+1==a.size)=true then _ else _) P _ from ?_)
       by_cases d1:ia2+k+1=a.size
       ·rw [if_pos (by simpa using d1)]
        exact AS ⟨s2.gal _,.inl ⟨_,_,rfl,eL _ _ _ m5 d1⟩⟩
       rw [if_neg (by simpa using d1)]
       by_cases d2:ia2+k=a.size
       ·rw [if_pos (by simpa using d2)]
        exact AS ⟨s2.gal _,.inl ⟨_,_,rfl,eA _ _ _ m5 d2⟩⟩
       rw [if_neg (by simpa using d2)]
       have c1:ia2+k+1 < a.size:=by lia
       have c3:ia+ib+1<=ia2+k+ib2:=by lia
       have m4:=tB _ _ _ m5 p2 far;refine AO (Bb (i:=ib2) p2 ?_);refine (show wpS (AZ prog w) A E s (if (ib2+1==b.size)=true then _ else _) P _ from ?_)
       by_cases d:ib2+1=b.size
       ·rw [if_pos (by simpa using d)]
        exact AS ⟨s2.gal _,.inl ⟨_,_,rfl,eB _ _ _ m4 d⟩⟩
       rw [if_neg (by simpa using d)];refine AO (Bb (i:=ia2+k) (by lia) ?_);refine AO (E1 (base:=ib2+1) (n:=b.size - (ib2+1)) (hint:=0) (arr:=b) (key:=ix a (ia2+k)) (left:=true) C (s2.gal _).good (λi=>lt (ix b (ib2+1+i)) (ix a (ia2+k))) (ia0 _ (by lia)) (λi hi=>⟨by lia,ib0 _ (by lia)⟩) (λi hi=>rfl) (λi j hij hj e=>?_) (by lia) λk3 hk3 k4 k5=>?_)
       ·cases e2:lt (ix b (ib2+1+i)) (ix a (ia2+k)) with
        | true=>rfl
        | false=>
         have:=tr _ _ _ (ia0 _ (by lia)) (ib0 _ (by lia)) (ib0 _ (by lia)) e2 (ub (ib2+1+i) (ib2+1+j) (by lia) (by lia));exact nomatch (show true=false from (show lt (ix b (ib2+1+j)) (ix a (ia2+k))=true from e).symm.trans this)
       ·have far2:∀j,ib2+1+k3<=j->j < b.size->Rl lt (ix a (ia2+k)) (ix b j):=λj j1 j2=>by
         have:=k5 (j - (ib2+1)) (by lia) (by omega);rwa [show ib2+1+(j - (ib2+1))=j by lia] at this
        have m6:=sB _ (ia2+k) (ib2+1) k3 m4 (by lia) λi j hi j1 j2=>tr _ _ _ (ib0 _ (by lia)) (ia0 _ (by lia)) (ia0 _ j2) (O.asym _ _ (ib0 _ (by lia)) (ia0 _ (by lia)) (k4 i hi)) (ua (ia2+k) j j1 j2)
        refine (show wpS (AZ prog w) A E s (if k3 > 0 then _ else _) P _ from ?_)
        by_cases hk3:k3 > 0
        ·rw [if_pos hk3]
         refine (show wpS (AZ prog w) A E s (if (ib2+1+k3==b.size)=true then _ else _) P _ from ?_)
         by_cases d2:ib2+1+k3=b.size
         ·rw [if_pos (by simpa using d2)]
          exact AS ⟨s2.gal _,.inl ⟨_,_,rfl,eB _ _ _ m6 d2⟩⟩
         rw [if_neg (by simpa using d2)];have m7:=tA _ _ _ m6 (by lia) far2;refine AO (Bb (i:=ia2+k) (by lia) ?_);refine (show wpS (AZ prog w) A E s (if (ia2+k+1+1==a.size)=true then _ else _) P _ from ?_)
         by_cases d3:ia2+k+1+1=a.size
         ·rw [if_pos (by simpa using d3)]
          exact AS ⟨s2.gal _,.inl ⟨_,_,rfl,eL _ _ _ m7 d3⟩⟩
         rw [if_neg (by simpa using d3)];split
         ·exact AS ⟨s2.gal _,.inr ⟨_,ia2+k+1,ib2+1+k3,_,_,_,rfl,m7,by lia,by lia,by lia⟩⟩
         ·exact AS ⟨s2.gal _,_,ia2+k+1,ib2+1+k3,_,_,_,rfl,m7,by lia,by lia,by lia⟩
        ·rw [if_neg hk3]
         have:k3=0:=by lia
         subst this;have m7:=tA _ _ _ m4 (by lia) far2;refine AO (Bb (i:=ia2+k) (by lia) ?_);refine (show wpS (AZ prog w) A E s (if (ia2+k+1+1==a.size)=true then _ else _) P _ from ?_)
         by_cases d3:ia2+k+1+1=a.size
         ·rw [if_pos (by simpa using d3)]
          exact AS ⟨s2.gal _,.inl ⟨_,_,rfl,eL _ _ _ m7 d3⟩⟩
         rw [if_neg (by simpa using d3)];split
         ·exact AS ⟨s2.gal _,.inr ⟨_,ia2+k+1,ib2+1,_,_,_,rfl,m7,by lia,by lia,by lia⟩⟩
         ·exact AS ⟨s2.gal _,_,ia2+k+1,ib2+1,_,_,_,rfl,m7,by lia,by lia,by lia⟩
      ·rw [if_neg hk0]
       have:k=0:=by lia
       subst this
       have c1:ia2+1 < a.size:=by omega
       have c3:ia+ib+1<=ia2+ib2:=by omega
       have m4:=tB _ _ _ m2 p2 far;refine AO (Bb (i:=ib2) p2 ?_);refine (show wpS (AZ prog w) A E s (if (ib2+1==b.size)=true then _ else _) P _ from ?_)
       by_cases d:ib2+1=b.size
       ·rw [if_pos (by simpa using d)]
        exact AS ⟨s2.gal _,.inl ⟨_,_,rfl,eB _ _ _ m4 d⟩⟩
       rw [if_neg (by simpa using d)];refine AO (Bb (i:=ia2) (by lia) ?_);refine AO (E1 (base:=ib2+1) (n:=b.size - (ib2+1)) (hint:=0) (arr:=b) (key:=ix a ia2) (left:=true) C (s2.gal _).good (λi=>lt (ix b (ib2+1+i)) (ix a ia2)) (ia0 _ (by lia)) (λi hi=>⟨by lia,ib0 _ (by lia)⟩) (λi hi=>rfl) (λi j hij hj e=>?_) (by lia) λk3 hk3 k4 k5=>?_)
       ·cases e2:lt (ix b (ib2+1+i)) (ix a ia2) with
        | true=>rfl
        | false=>
         have:=tr _ _ _ (ia0 _ (by lia)) (ib0 _ (by lia)) (ib0 _ (by lia)) e2 (ub (ib2+1+i) (ib2+1+j) (by lia) (by lia));exact nomatch (show true=false from (show lt (ix b (ib2+1+j)) (ix a ia2)=true from e).symm.trans this)
       ·have far2:∀j,ib2+1+k3<=j->j < b.size->Rl lt (ix a ia2) (ix b j):=λj j1 j2=>by
         have:=k5 (j - (ib2+1)) (by lia) (by omega);rwa [show ib2+1+(j - (ib2+1))=j by lia] at this
        have m6:=sB _ ia2 (ib2+1) k3 m4 (by lia) λi j hi j1 j2=>tr _ _ _ (ib0 _ (by lia)) (ia0 _ (by lia)) (ia0 _ j2) (O.asym _ _ (ib0 _ (by lia)) (ia0 _ (by lia)) (k4 i hi)) (ua ia2 j j1 j2)
        refine (show wpS (AZ prog w) A E s (if k3 > 0 then _ else _) P _ from ?_)
        by_cases hk3:k3 > 0
        ·rw [if_pos hk3]
         refine (show wpS (AZ prog w) A E s (if (ib2+1+k3==b.size)=true then _ else _) P _ from ?_)
         by_cases d2:ib2+1+k3=b.size
         ·rw [if_pos (by simpa using d2)]
          exact AS ⟨s2.gal _,.inl ⟨_,_,rfl,eB _ _ _ m6 d2⟩⟩
         rw [if_neg (by simpa using d2)];have m7:=tA _ _ _ m6 (by lia) far2;refine AO (Bb (i:=ia2) (by lia) ?_);refine (show wpS (AZ prog w) A E s (if (ia2+1+1==a.size)=true then _ else _) P _ from ?_)
         by_cases d3:ia2+1+1=a.size
         ·rw [if_pos (by simpa using d3)]
          exact AS ⟨s2.gal _,.inl ⟨_,_,rfl,eL _ _ _ m7 d3⟩⟩
         rw [if_neg (by simpa using d3)];split
         ·exact AS ⟨s2.gal _,.inr ⟨_,ia2+1,ib2+1+k3,_,_,_,rfl,m7,by lia,by lia,by lia⟩⟩
         ·exact AS ⟨s2.gal _,_,ia2+1,ib2+1+k3,_,_,_,rfl,m7,by lia,by lia,by lia⟩
        ·rw [if_neg hk3]
         have:k3=0:=by lia
         subst this;have m7:=tA _ _ _ m4 (by lia) far2;refine AO (Bb (i:=ia2) (by lia) ?_);refine (show wpS (AZ prog w) A E s (if (ia2+1+1==a.size)=true then _ else _) P _ from ?_)
         by_cases d3:ia2+1+1=a.size
         ·rw [if_pos (by simpa using d3)]
          exact AS ⟨s2.gal _,.inl ⟨_,_,rfl,eL _ _ _ m7 d3⟩⟩
         rw [if_neg (by simpa using d3)];split
         ·exact AS ⟨s2.gal _,.inr ⟨_,ia2+1,ib2+1,_,_,_,rfl,m7,by lia,by lia,by lia⟩⟩
         ·exact AS ⟨s2.gal _,_,ia2+1,ib2+1,_,_,_,rfl,m7,by lia,by lia,by lia⟩
end
end Srt
namespace Srt
open PySem PyProof.Rows
theorem MI.last2 {R:An->An->Prop} {T o ra rb:List An} (m:MI R T o ra rb) (h:∀x∈ra,∀y∈rb,R x y):IE R T (o++(ra++rb)):=by
 refine ⟨m.perm,A8.mpr ⟨m.srt,A8.mpr ⟨m.sa,m.sb,h⟩,λx hx y hy=>m.low x hx y hy⟩⟩
theorem IE.rev {lt:An->An->Bool} {T r:List An} (f:IE (λx y=>Rl lt y x) T r):IE (Rl lt) T r.reverse:=⟨r.reverse_perm.trans f.perm,LV.mpr f.srt⟩
theorem XF {a:Array An} {i:Nat} (h:i < a.size):(a.toList.take (i+1)).reverse=ix a i :: (a.toList.take i).reverse:=by
 have:=DT h;rw [getElem?_pos a i h] at this;rw [OA,show a.toList[i]?=some (ix a i) by simpa using DT h];simp
theorem UD {a:Array An} {i n:Nat} (h:i<=n) (hn:n<=a.size):(a.toList.take n).reverse=(a.extract i n).toList.reverse++(a.toList.take i).reverse:=by
 have e:(a.extract i n).toList=(a.toList.take n).drop i:=by simp [OB,List.drop_take]
 rw [e,<-List.reverse_append]
 congr 1
 have:=C4 i (a.toList.take n);rw [List.take_take,show min i n=i by lia] at this;exact this.symm
theorem Fu {a:Array An} {n:Nat} {x:An} (hx:x∈(a.toList.take n).reverse):∃j,j < n/\j < a.size/\x=ix a j:=by
 rw [cL] at hx;obtain ⟨k,hk,rfl⟩:=Ws.mp hx;simp at hk;refine ⟨k,by lia,by lia,?_⟩;have:=DT (xs:=a) (i:=k) (by lia);rw [getElem?_pos a _ (by lia)] at this;simpa using this
theorem Uc {a:Array An} {i n:Nat} {x:An} (hx:x∈(a.extract i n).toList.reverse):∃j,i<=j/\j < n/\j < a.size/\x=ix a j:=by
 rw [cL,BO,Oo] at hx;obtain ⟨j,hj,rfl⟩:=hx;refine ⟨i+j,by lia,by omega,by omega,?_⟩;have:=DT (xs:=a) (i:=i+j) (by omega);rw [getElem?_pos a _ (by omega)] at this;simpa using this
theorem IK (a:Array An) (n:Nat):(a.extract 0 n).toList=a.toList.take n:=by simp [OB]
section
variable {prog:Ap} {w:BE} {A:BC} {E:AD->AE->Prop} {s:AE} {a₀:Array An} {κ:Fk} {lt:An->An->Bool}
theorem cn {st:BI} {a b:Array An} {Q:Array An->BI->Prop} (C:KZ prog w A s a₀ κ lt) (O:Ord (·∈a₀) lt) (g:Good a₀ κ st)
  (ma:∀x∈a.toList,x∈a₀) (mb:∀x∈b.toList,x∈a₀) (sa:a.toList.Pairwise (Rl lt)) (sb:b.toList.Pairwise (Rl lt)) (pa:0 < a.size) (pb:0 < b.size)
  (h0:∀x∈a.toList,Rl lt (ix b 0) x) (h1:∀y∈b.toList,Rl lt y (ix a (a.size - 1)))
  (h:∀r st',Kg a₀ κ st st'->IE (Rl lt) (a.toList++b.toList) r.toList->Q r st'):wpS (AZ prog w) A E s (mHi a b) Q st:=by
 have ia0:=Sw ma;have ib0:=Sw mb;have ua:=UA O ia0 sa;have ub:=UA O ib0 sb
 have tr:∀x y z:An,x∈a₀->y∈a₀->z∈a₀->Rl lt x y->Rl lt y z->Rl lt x z:=λx y z hx hy hz h1 h2=>O.ntr x y z hx hy hz h1 h2
 let M (out:Array An) (na nb:Nat):Prop:=MI (λx y=>Rl lt y x) (a.toList++b.toList) out.toList (a.toList.take na).reverse (b.toList.take nb).reverse
 have tA0:∀out na nb,M out (na+1) nb->na < a.size->nb<=b.size->(∀j,j < nb->Rl lt (ix b j) (ix a na))->M (out.push (ix a na)) na nb:=λout na nb m hna hnb hr=>by
  have m':MI (λx y=>Rl lt y x) (a.toList++b.toList) out.toList ([ix a na]++(a.toList.take na).reverse) (b.toList.take nb).reverse:=by rw [Dl,<-XF hna];exact m
  have:=m'.takeA λx hx y hy=>by
   obtain ⟨j,j1,j2,rfl⟩:=Fu hy;rw [Ae.mp hx];exact hr j j1
  simpa [M] using this
 have tB0:∀out na nb,M out na (nb+1)->nb < b.size->na<=a.size->(∀j,j < na->Rl lt (ix a j) (ix b nb))->M (out.push (ix b nb)) na nb:=λout na nb m hnb hna hr=>by
  have m':MI (λx y=>Rl lt y x) (a.toList++b.toList) out.toList (a.toList.take na).reverse ([ix b nb]++(b.toList.take nb).reverse):=by rw [Dl,<-XF hnb];exact m
  have:=m'.takeB λx hx y hy=>by
   obtain ⟨j,j1,j2,rfl⟩:=Fu hy;rw [Ae.mp hx];exact hr j j1
  simpa [M] using this
 have tA:∀out na nb,M out na nb->0 < na->na<=a.size->nb<=b.size->(∀j,j < nb->Rl lt (ix b j) (ix a (na - 1)))->M (out.push (ix a (na - 1))) (na - 1) nb:=λout na nb m h0 hna hnb hr=>
  tA0 out (na - 1) nb (by rw [show na - 1+1=na by lia];exact m) (by omega) hnb hr
 have tB:∀out na nb,M out na nb->0 < nb->nb<=b.size->na<=a.size->(∀j,j < na->Rl lt (ix a j) (ix b (nb - 1)))->M (out.push (ix b (nb - 1))) na (nb - 1):=λout na nb m h0 hnb hna hr=>
  tB0 out na (nb - 1) (by rw [show nb - 1+1=nb by lia];exact m) (by omega) hna hr
 have sA:∀out na nb k,M out na nb->k<=na->na<=a.size->nb<=b.size->(∀i j,k<=i->i < na->j < nb->Rl lt (ix b j) (ix a i))->M (out++(a.extract k na).reverse) k nb:=λout na nb k m hk hna hnb hr=>by
  have m':MI (λx y=>Rl lt y x) (a.toList++b.toList) out.toList ((a.extract k na).toList.reverse++(a.toList.take k).reverse) (b.toList.take nb).reverse:=by rw [<-UD hk hna];exact m
  have:=m'.takeA λx hx y hy=>by
   obtain ⟨j,j1,j2,rfl⟩:=Fu hy;obtain ⟨i,i1,i2,i3,rfl⟩:=Uc hx;exact hr i j i1 i2 j1
  show MI _ _ (out++(a.extract k na).reverse).toList _ _;rw [BF,E7];exact this
 have sB:∀out na nb k,M out na nb->k<=nb->nb<=b.size->na<=a.size->(∀i j,k<=i->i < nb->j < na->Rl lt (ix a j) (ix b i))->M (out++(b.extract k nb).reverse) na k:=λout na nb k m hk hnb hna hr=>by
  have m':MI (λx y=>Rl lt y x) (a.toList++b.toList) out.toList (a.toList.take na).reverse ((b.extract k nb).toList.reverse++(b.toList.take k).reverse):=by rw [<-UD hk hnb];exact m
  have:=m'.takeB λx hx y hy=>by
   obtain ⟨j,j1,j2,rfl⟩:=Fu hy;obtain ⟨i,i1,i2,i3,rfl⟩:=Uc hx;exact hr i j i1 i2 j1
  show MI _ _ (out++(b.extract k nb).reverse).toList _ _;rw [BF,E7];exact this
 have eA:∀out na nb,M out na nb->na=0->IE (Rl lt) (a.toList++b.toList) (a.extract 0 na++b.extract 0 nb++out.reverse).toList:=λout na nb m e=>by
  subst e
  have m':MI (λx y=>Rl lt y x) (a.toList++b.toList) out.toList [] (b.toList.take nb).reverse:=by simpa [M] using m
  have:=m'.endB.rev;rw [BF,BF,IK,IK,E7];simpa using this
 have eB:∀out na nb,M out na nb->nb=0->IE (Rl lt) (a.toList++b.toList) (a.extract 0 na++b.extract 0 nb++out.reverse).toList:=λout na nb m e=>by
  subst e
  have m':MI (λx y=>Rl lt y x) (a.toList++b.toList) out.toList (a.toList.take na).reverse []:=by simpa [M] using m
  have:=m'.endA.rev;rw [BF,BF,IK,IK,E7];simpa using this
 have eF:∀out na nb,M out na nb->nb=1->IE (Rl lt) (a.toList++b.toList) (b.extract 0 nb++a.extract 0 na++out.reverse).toList:=λout na nb m e=>by
  have:=m.last2 λx hx y hy=>by
   obtain ⟨j,j1,j2,rfl⟩:=Fu hx;obtain ⟨i,i1,i2,rfl⟩:=Fu hy
   have:i=0:=by lia
   subst this;exact h0 _ (BO.mpr (C3 (DT j2)))
  have:=this.rev;rw [BF,BF,IK,IK,E7];simpa using this
 have m0:M #[] a.size b.size:=by
  refine ⟨?_,by simp,by simp,?_,?_⟩
  ·rw [Cv (by simp),Cv (by simp)]
   simpa using List.Perm.append a.toList.reverse_perm b.toList.reverse_perm
  ·rw [Cv (by simp)];exact LV.mpr sa
  ·rw [Cv (by simp)];exact LV.mpr sb
 have m1:M #[ix a (a.size - 1)] (a.size - 1) b.size:=by
  have:=tA #[] a.size b.size m0 pa (AT _) (AT _) λj hj=>h1 _ (BO.mpr (C3 (DT hj)))
  simpa using this
 refine (AO (JT ?_):wpS _ _ _ _ (mHi a b) Q st);refine AO (Bb (i:=a.size - 1) (by omega) ?_)
 by_cases c1:a.size - 1=0
 ·refine (show wpS (AZ prog w) A E s (if (a.size - 1==0)=true then _ else _) Q st from ?_)
  rw [if_pos (by simpa using c1)];exact AS (h _ st ⟨g,rfl,rfl⟩ (eA _ _ _ m1 c1))
 refine (show wpS (AZ prog w) A E s (if (a.size - 1==0)=true then _ else _) Q st from ?_);rw [if_neg (by simpa using c1)]
 by_cases c2:b.size=1
 ·rw [if_pos (by simpa using c2)]
  exact AS (h _ st ⟨g,rfl,rfl⟩ (eF _ _ _ m1 c2))
 rw [if_neg (by simpa using c2)];refine AO (HW ?_)
 refine AO (DR (B9 (I:=λx c st'=>Kg a₀ κ st st'/\∃out na nb mg,c=(none,na,nb,out,mg)/\M out na nb/\0 < na/\1 < nb/\na<=a.size/\nb<=b.size/\na+nb+1+x<=a.size+b.size)
  (Q:=λc st'=>Kg a₀ κ st st'/\∃r z,c=(some r,z)/\IE (Rl lt) (a.toList++b.toList) r.toList) ?step ?fin ?init) ?post)
 case init=>exact ⟨⟨g,rfl,rfl⟩,_,a.size - 1,b.size,_,rfl,m1,by lia,by lia,by omega,by lia,by lia⟩
 case fin=>
  rintro c st' ⟨_,out,na,nb,mg,_,_,k1,k2,k3,k4,k5⟩
  lia
 case post=>
  rintro c st' ⟨s1,r,z,rfl,f⟩;exact AS (h r st' s1 f)
 case step=>
  rintro x c st1 _ _ ⟨s1,out,na,nb,mg,rfl,m,k1,k2,k3,k4,k5⟩
  refine AO (DR (B9 (I:=λy c st'=>st'=st1/\∃out' na' nb' ac bc,c=(none,na',nb',out',ac,bc)/\M out' na' nb'/\0 < na'/\1 < nb'/\na'<=a.size/\nb'<=b.size/\na'+nb'+y<=na+nb)
   (Q:=λc st'=>st'=st1/\((∃r z,c=(some r,z)/\IE (Rl lt) (a.toList++b.toList) r.toList)∨∃out' na' nb' ac bc,c=(none,na',nb',out',ac,bc)/\M out' na' nb'/\0 < na'/\1 < nb'/\na'<=a.size/\nb'<=b.size/\na'+nb'+1<=na+nb)) ?step1 ?fin1 ?init1) ?post1)
  case init1=>exact ⟨rfl,out,na,nb,0,0,rfl,m,k1,k2,k3,k4,by lia⟩
  case fin1=>
   rintro c st' ⟨rfl,out',na',nb',ac,bc,rfl,m',q1,q2,q3,q4,q5⟩;exact ⟨rfl,.inr ⟨out',na',nb',ac,bc,rfl,m',q1,q2,q3,q4,by lia⟩⟩
  case step1=>
   rintro y c st' _ _ ⟨rfl,out',na',nb',ac,bc,rfl,m',q1,q2,q3,q4,q5⟩;refine AO (Bb (i:=nb' - 1) (by lia) ?_);refine AO (Bb (i:=na' - 1) (by lia) ?_);refine AO (PR C s1.good (ib0 _ (by lia)) (ia0 _ (by lia)) ?_)
   cases e:lt (ix b (nb' - 1)) (ix a (na' - 1)) with
   | true=>
    refine AO (Bb (i:=na' - 1) (by lia) ?_);have r0:Rl lt (ix b (nb' - 1)) (ix a (na' - 1)):=O.asym _ _ (ib0 _ (by lia)) (ia0 _ (by lia)) e
    have m2:=tA out' na' nb' m' q1 q3 q4 λj j1=>tr _ _ _ (ib0 _ (by lia)) (ib0 _ (by lia)) (ia0 _ (by lia)) (ub j (nb' - 1) (by lia) (by lia)) r0
    refine (show wpS (AZ prog w) A E s (if (na' - 1==0)=true then _ else _) _ st' from ?_)
    by_cases d:na' - 1=0
    ·rw [if_pos (by simpa using d)]
     exact AS ⟨rfl,.inl ⟨_,_,rfl,eA _ _ _ m2 d⟩⟩
    ·rw [if_neg (by simpa using d)]
     split
     ·exact AS ⟨rfl,.inr ⟨_,na' - 1,nb',_,_,rfl,m2,by lia,by omega,by lia,by omega,by lia⟩⟩
     ·exact AS ⟨rfl,_,na' - 1,nb',_,_,rfl,m2,by lia,by omega,by lia,by omega,by lia⟩
   | false=>
    refine AO (Bb (i:=nb' - 1) (by lia) ?_)
    have m2:=tB out' na' nb' m' (by lia) q4 q3 λj j1=>tr _ _ _ (ia0 _ (by lia)) (ia0 _ (by lia)) (ib0 _ (by lia)) (ua j (na' - 1) (by lia) (by lia)) e
    refine (show wpS (AZ prog w) A E s (if (nb' - 1==1)=true then _ else _) _ st' from ?_)
    by_cases d:nb' - 1=1
    ·rw [if_pos (by simpa using d)]
     exact AS ⟨rfl,.inl ⟨_,_,rfl,eF _ _ _ m2 d⟩⟩
    ·rw [if_neg (by simpa using d)]
     split
     ·exact AS ⟨rfl,.inr ⟨_,na',nb' - 1,_,_,rfl,m2,by omega,by lia,by omega,by lia,by lia⟩⟩
     ·exact AS ⟨rfl,_,na',nb' - 1,_,_,rfl,m2,by omega,by lia,by omega,by lia,by lia⟩
  case post1=>
   rintro c st' ⟨rfl,⟨r,z,rfl,f⟩ | ⟨out',na',nb',ac,bc,rfl,m',q1,q2,q3,q4,q5⟩⟩
   ·exact AS ⟨s1,_,_,rfl,f⟩
   refine AO (JT ?_)
   refine AO (DR (B9 (I:=λy c st2=>Kg a₀ κ st st2/\∃out2 na2 nb2 mg2 ac bc,c=(none,na2,nb2,out2,mg2,ac,bc)/\M out2 na2 nb2/\0 < na2/\1 < nb2/\na2<=a.size/\nb2<=b.size/\na2+nb2+1<=na+nb)
    (Q:=λc st2=>Kg a₀ κ st st2/\((∃r z,c=(some r,z)/\IE (Rl lt) (a.toList++b.toList) r.toList)∨∃out2 na2 nb2 mg2 ac bc,c=(none,na2,nb2,out2,mg2,ac,bc)/\M out2 na2 nb2/\0 < na2/\1 < nb2/\na2<=a.size/\nb2<=b.size/\na2+nb2+1<=na+nb)) ?step2 ?fin2 ?init2) ?post2)
   case init2=>exact ⟨s1,out',na',nb',mg+1,ac,bc,rfl,m',q1,q2,q3,q4,q5⟩
   case fin2=>
    rintro c st2 ⟨s2,out2,na2,nb2,mg2,ac2,bc2,rfl,m2,p1⟩;exact ⟨s2,.inr ⟨out2,na2,nb2,mg2,ac2,bc2,rfl,m2,p1⟩⟩
   case post2=>
    rintro c st2 ⟨s2,⟨r,z,rfl,f⟩ | ⟨out2,na2,nb2,mg2,ac2,bc2,rfl,m2,p1,p2,p3,p4,p5⟩⟩
    ·exact AS ⟨s2,_,_,rfl,f⟩
    ·exact AO (Op (AS ⟨s2.gal _,out2,na2,nb2,mg2+1,rfl,m2,p1,p2,p3,p4,by lia⟩))
   case step2=>
    rintro y c st2 _ _ ⟨s2,out2,na2,nb2,mg2,ac2,bc2,rfl,m2,p1,p2,p3,p4,p5⟩
    let P:ForInStep (Option (Array An)×Nat×Nat×Array An×Nat×Nat×Nat)->BI->Prop:=λr st'=>match r with
     | .done c'=>Kg a₀ κ st st'/\((∃r z,c'=(some r,z)/\IE (Rl lt) (a.toList++b.toList) r.toList)∨∃out2 na2 nb2 mg2 ac bc,c'=(none,na2,nb2,out2,mg2,ac,bc)/\M out2 na2 nb2/\0 < na2/\1 < nb2/\na2<=a.size/\nb2<=b.size/\na2+nb2+1<=na+nb)
     | .yield c'=>Kg a₀ κ st st'/\∃out2 na2 nb2 mg2 ac bc,c'=(none,na2,nb2,out2,mg2,ac,bc)/\M out2 na2 nb2/\0 < na2/\1 < nb2/\na2<=a.size/\nb2<=b.size/\na2+nb2+1<=na+nb
    refine DR (Q:=P) ?_ λr st' h=>by cases r <;> exact h
    refine (show wpS (AZ prog w) A E s (if mg2 > 1 then _ else _) P st2 from ?_);split
    all_goals
     refine AO (Op ?_);refine AO (Bb (i:=nb2 - 1) (by lia) ?_);refine AO (E1 (base:=0) (n:=na2) (hint:=na2 - 1) (arr:=a) (key:=ix b (nb2 - 1)) (left:=false) C (s2.gal _).good (λi=>!lt (ix b (nb2 - 1)) (ix a (0+i))) (ib0 _ (by lia)) (λi hi=>⟨by lia,ia0 _ (by lia)⟩) (λi hi=>rfl) (λi j hij hj e=>?_) (by lia) λk hk k1 k2=>?_)
     ·have e':lt (ix b (nb2 - 1)) (ix a (0+j))=false:=by simpa using e
      have:=tr _ _ _ (ia0 _ (by lia)) (ia0 _ (by lia)) (ib0 _ (by lia)) (ua (0+i) (0+j) (by lia) (by lia)) e';simpa using this
     ·have near:∀j,j < k->Rl lt (ix a j) (ix b (nb2 - 1)):=λj j1=>by
       have:=k1 j j1;rw [Gx] at this;simpa using this
      have m5:=sA out2 na2 nb2 k m2 hk p3 p4 λi j i1 i2 j1=>by
       have:=k2 i i1 i2;rw [Gx] at this;exact tr _ _ _ (ib0 _ (by lia)) (ib0 _ (by lia)) (ia0 _ (by lia)) (ub j (nb2 - 1) (by lia) (by lia)) (O.asym _ _ (ib0 _ (by lia)) (ia0 _ (by lia)) (by simpa using this))
      refine (show wpS (AZ prog w) A E s (if na2 - k > 0 then _ else _) P _ from ?_)
      by_cases hk0:na2 - k > 0
      ·rw [if_pos hk0]
       refine (show wpS (AZ prog w) A E s (if (k==0)=true then _ else _) P _ from ?_)
       by_cases d1:k=0
       ·rw [if_pos (by simpa using d1)]
        exact AS ⟨s2.gal _,.inl ⟨_,_,rfl,eA _ _ _ m5 d1⟩⟩
       rw [if_neg (by simpa using d1)];have m4:=tB _ _ _ m5 (by lia) p4 (by lia) near;refine AO (Bb (i:=nb2 - 1) (by lia) ?_);refine (show wpS (AZ prog w) A E s (if (nb2 - 1==1)=true then _ else _) P _ from ?_)
       by_cases d:nb2 - 1=1
       ·rw [if_pos (by simpa using d)]
        exact AS ⟨s2.gal _,.inl ⟨_,_,rfl,eF _ _ _ m4 d⟩⟩
       rw [if_neg (by simpa using d)];refine AO (Bb (i:=k - 1) (by omega) ?_);refine AO (E1 (base:=0) (n:=nb2 - 1) (hint:=nb2 - 1 - 1) (arr:=b) (key:=ix a (k - 1)) (left:=true) C (s2.gal _).good (λi=>lt (ix b (0+i)) (ix a (k - 1))) (ia0 _ (by omega)) (λi hi=>⟨by lia,ib0 _ (by lia)⟩) (λi hi=>rfl) (λi j hij hj e=>?_) (by lia) λk3 hk3 k4 k5=>?_)
       ·cases e2:lt (ix b (0+i)) (ix a (k - 1)) with
        | true=>rfl
        | false=>
         have:=tr _ _ _ (ia0 _ (by lia)) (ib0 _ (by lia)) (ib0 _ (by lia)) e2 (ub (0+i) (0+j) (by lia) (by lia));exact nomatch (show true=false from (show lt (ix b (0+j)) (ix a (k - 1))=true from e).symm.trans this)
       ·have near2:∀j,j < k3->Rl lt (ix b j) (ix a (k - 1)):=λj j1=>by
         have:=k4 j j1;rw [Gx] at this;exact O.asym _ _ (ib0 _ (by lia)) (ia0 _ (by omega)) this
        have m6:=sB _ k (nb2 - 1) k3 m4 hk3 (by lia) (by lia) λi j i1 i2 j1=>by
         have:=k5 i i1 i2;rw [Gx] at this;exact tr _ _ _ (ia0 _ (by lia)) (ia0 _ (by lia)) (ib0 _ (by lia)) (ua j (k - 1) (by lia) (by lia)) this
        refine (show wpS (AZ prog w) A E s (if nb2 - 1 - k3 > 0 then _ else _) P _ from ?_)
        by_cases hk4:nb2 - 1 - k3 > 0
        ·rw [if_pos hk4]
         refine (show wpS (AZ prog w) A E s (if (k3==1)=true then _ else _) P _ from ?_)
         by_cases d2:k3=1
         ·rw [if_pos (by simpa using d2)]
          exact AS ⟨s2.gal _,.inl ⟨_,_,rfl,eF _ _ _ m6 d2⟩⟩
         rw [if_neg (by simpa using d2)]
         by_cases d4:k3=0
         ·rw [if_pos (by simpa using d4)]
          exact AS ⟨s2.gal _,.inl ⟨_,_,rfl,eB _ _ _ m6 d4⟩⟩
         rw [if_neg (by simpa using d4)];have m7:=tA _ _ _ m6 (by lia) (by lia) (by lia) near2;refine AO (Bb (i:=k - 1) (by lia) ?_);refine (show wpS (AZ prog w) A E s (if (k - 1==0)=true then _ else _) P _ from ?_)
         by_cases d3:k - 1=0
         ·rw [if_pos (by simpa using d3)]
          exact AS ⟨s2.gal _,.inl ⟨_,_,rfl,eA _ _ _ m7 d3⟩⟩
         rw [if_neg (by simpa using d3)];split
         ·exact AS ⟨s2.gal _,.inr ⟨_,k - 1,k3,_,_,_,rfl,m7,by lia,by lia,by lia,by lia,by lia⟩⟩
         ·exact AS ⟨s2.gal _,_,k - 1,k3,_,_,_,rfl,m7,by lia,by lia,by lia,by lia,by lia⟩
        ·rw [if_neg hk4]
         have:k3=nb2 - 1:=by lia
         subst this;have m7:=tA _ _ _ m4 (by lia) (by lia) (by lia) near2;refine AO (Bb (i:=k - 1) (by lia) ?_);refine (show wpS (AZ prog w) A E s (if (k - 1==0)=true then _ else _) P _ from ?_)
         by_cases d3:k - 1=0
         ·rw [if_pos (by simpa using d3)]
          exact AS ⟨s2.gal _,.inl ⟨_,_,rfl,eA _ _ _ m7 d3⟩⟩
         rw [if_neg (by simpa using d3)];split
         ·exact AS ⟨s2.gal _,.inr ⟨_,k - 1,nb2 - 1,_,_,_,rfl,m7,by lia,by lia,by lia,by lia,by lia⟩⟩
         ·exact AS ⟨s2.gal _,_,k - 1,nb2 - 1,_,_,_,rfl,m7,by lia,by lia,by lia,by lia,by lia⟩
      ·rw [if_neg hk0]
       have:k=na2:=by lia
       subst this;have m4:=tB _ _ _ m2 (by lia) p4 (by omega) near;refine AO (Bb (i:=nb2 - 1) (by lia) ?_);refine (show wpS (AZ prog w) A E s (if (nb2 - 1==1)=true then _ else _) P _ from ?_)
       by_cases d:nb2 - 1=1
       ·rw [if_pos (by simpa using d)]
        exact AS ⟨s2.gal _,.inl ⟨_,_,rfl,eF _ _ _ m4 d⟩⟩
       rw [if_neg (by simpa using d)];refine AO (Bb (i:=k - 1) (by lia) ?_);refine AO (E1 (base:=0) (n:=nb2 - 1) (hint:=nb2 - 1 - 1) (arr:=b) (key:=ix a (k - 1)) (left:=true) C (s2.gal _).good (λi=>lt (ix b (0+i)) (ix a (k - 1))) (ia0 _ (by lia)) (λi hi=>⟨by lia,ib0 _ (by lia)⟩) (λi hi=>rfl) (λi j hij hj e=>?_) (by lia) λk3 hk3 k4 k5=>?_)
       ·cases e2:lt (ix b (0+i)) (ix a (k - 1)) with
        | true=>rfl
        | false=>
         have:=tr _ _ _ (ia0 _ (by lia)) (ib0 _ (by lia)) (ib0 _ (by lia)) e2 (ub (0+i) (0+j) (by lia) (by lia));exact nomatch (show true=false from (show lt (ix b (0+j)) (ix a (k - 1))=true from e).symm.trans this)
       ·have near2:∀j,j < k3->Rl lt (ix b j) (ix a (k - 1)):=λj j1=>by
         have:=k4 j j1;rw [Gx] at this;exact O.asym _ _ (ib0 _ (by lia)) (ia0 _ (by lia)) this
        have m6:=sB _ k (nb2 - 1) k3 m4 hk3 (by lia) (by omega) λi j i1 i2 j1=>by
         have:=k5 i i1 i2;rw [Gx] at this;exact tr _ _ _ (ia0 _ (by lia)) (ia0 _ (by lia)) (ib0 _ (by lia)) (ua j (k - 1) (by lia) (by lia)) this
        refine (show wpS (AZ prog w) A E s (if nb2 - 1 - k3 > 0 then _ else _) P _ from ?_)
        by_cases hk4:nb2 - 1 - k3 > 0
        ·rw [if_pos hk4]
         refine (show wpS (AZ prog w) A E s (if (k3==1)=true then _ else _) P _ from ?_)
         by_cases d2:k3=1
         ·rw [if_pos (by simpa using d2)]
          exact AS ⟨s2.gal _,.inl ⟨_,_,rfl,eF _ _ _ m6 d2⟩⟩
         rw [if_neg (by simpa using d2)]
         by_cases d4:k3=0
         ·rw [if_pos (by simpa using d4)]
          exact AS ⟨s2.gal _,.inl ⟨_,_,rfl,eB _ _ _ m6 d4⟩⟩
         rw [if_neg (by simpa using d4)];have m7:=tA _ _ _ m6 (by omega) (by omega) (by lia) near2;refine AO (Bb (i:=k - 1) (by lia) ?_);refine (show wpS (AZ prog w) A E s (if (k - 1==0)=true then _ else _) P _ from ?_)
         by_cases d3:k - 1=0
         ·rw [if_pos (by simpa using d3)]
          exact AS ⟨s2.gal _,.inl ⟨_,_,rfl,eA _ _ _ m7 d3⟩⟩
         rw [if_neg (by simpa using d3)];split
         ·exact AS ⟨s2.gal _,.inr ⟨_,k - 1,k3,_,_,_,rfl,m7,by lia,by lia,by lia,by lia,by lia⟩⟩
         ·exact AS ⟨s2.gal _,_,k - 1,k3,_,_,_,rfl,m7,by lia,by lia,by lia,by lia,by lia⟩
        ·rw [if_neg hk4]
         have:k3=nb2 - 1:=by lia
         subst this;have m7:=tA _ _ _ m4 (by omega) (by omega) (by lia) near2;refine AO (Bb (i:=k - 1) (by lia) ?_);refine (show wpS (AZ prog w) A E s (if (k - 1==0)=true then _ else _) P _ from ?_)
         by_cases d3:k - 1=0
         ·rw [if_pos (by simpa using d3)]
          exact AS ⟨s2.gal _,.inl ⟨_,_,rfl,eA _ _ _ m7 d3⟩⟩
         rw [if_neg (by simpa using d3)];split
         ·exact AS ⟨s2.gal _,.inr ⟨_,k - 1,nb2 - 1,_,_,_,rfl,m7,by lia,by lia,by lia,by lia,by lia⟩⟩
         ·exact AS ⟨s2.gal _,_,k - 1,nb2 - 1,_,_,_,rfl,m7,by lia,by lia,by lia,by lia,by lia⟩
end
end Srt
namespace Srt
open PySem PyProof.Rows
def wr (arr:Array An) (sa:Nat) (l:List (An×Nat)):Array An:=l.foldl (λa (x:An×Nat)=>match x with | (p,j)=>a.setIfInBounds (sa+j) p) arr
theorem SA (sa:Nat):∀(l:List An) (k:Nat) (arr:Array An),sa+k+l.length<=arr.size->(wr arr sa (l.zipIdx k)).toList=arr.toList.take (sa+k)++l++arr.toList.drop (sa+k+l.length)
 | [],k,arr,h=>by simp [wr]
 | x :: l,k,arr,h=>by
  rw [Ao] at h;have e:wr arr sa ((x :: l).zipIdx k)=wr (arr.setIfInBounds (sa+k) x) sa (l.zipIdx (k+1)):=rfl;rw [e,SA sa l (k+1) _ (by simp;lia)]
  have hk:sa+k < arr.toList.length:=by simp;lia
  rw [Qq,Ao,show sa+(k+1)=sa+k+1 by lia];rw [OA,List.take_set_of_le (AT _),A6 hk,List.drop_set_of_lt (by lia)];simp [show sa+k+1+l.length=sa+k+(l.length+1) by lia]
theorem ix_list (a:Array An) (i:Nat):ix a i=(a.toList[i]?).getD (.none,.none):=by
 unfold ix;rw [Ex];simp
theorem bL {arr m:Array An} {sa:Nat} (h:sa+m.size<=arr.size) (i:Nat):ix (wr arr sa m.toList.zipIdx) i=if i < sa then ix arr i else if i < sa+m.size then ix m (i - sa) else ix arr i:=by
 have e:=SA sa m.toList 0 arr (by simpa using h);rw [ix_list,show m.toList.zipIdx=m.toList.zipIdx 0 from rfl,e,lD]
 have hl:(arr.toList.take sa).length=sa:=by simp;lia
 split
 ·rename_i h1
  rw [BM,Ak (by lia),Tf h1,ix_list]
 ·rename_i h1
  split
  ·rename_i h2
   rw [BM,BB (by lia),hl,Ak (by simp;lia),ix_list]
  ·rename_i h2
   rw [BB (by simp;lia),Ii,ix_list]
   congr 2
   simp
   lia
theorem d6 {arr m:Array An} {sa:Nat} (h:sa+m.size<=arr.size) (hp:m.toList.Perm (arr.extract sa (sa+m.size)).toList):(wr arr sa m.toList.zipIdx).Perm arr:=by
 rw [E8];have e:=SA sa m.toList 0 arr (by simpa using h);rw [show m.toList.zipIdx=m.toList.zipIdx 0 from rfl,e,lD]
 have e2:arr.toList=arr.toList.take sa++(arr.extract sa (sa+m.size)).toList++arr.toList.drop (sa+m.toList.length):=by
  rw [BM,Bq,<-IX h,C4]
 conv=>rhs;rw [e2]
 exact Qm _ (Jm _ hp)
theorem WI {a:Array An} {lo hi i:Nat} (h:hi<=a.size) (hi':i < hi - lo):ix (a.extract lo hi) i=ix a (lo+i):=by
 apply Ja
 rw [Array.getElem?_extract];simp
 lia
section
variable {prog:Ap} {w:BE} {A:BC} {E:AD->AE->Prop} {s:AE} {a₀:Array An} {κ:Fk} {lt:An->An->Bool}
theorem Zt {a:Array An} {lo hi:Nat} (h:hi<=a.size) (u:Up lt a lo hi):(a.extract lo hi).toList.Pairwise (Rl lt):=by
 rw [List.pairwise_iff_getElem];intro i j hi' hj hij;simp at hi' hj
 have e:∀k (hk:k < (a.extract lo hi).toList.length),(a.extract lo hi).toList[k]=ix a (lo+k):=λk hk=>by
  have hk':k < (a.extract lo hi).size:=by rw [Bq] at hk;exact hk
  have:=DT hk';rw [getElem?_pos (a.extract lo hi) k hk'] at this
  have hs:(a.extract lo hi).size=hi - lo:=by simp;lia
  rw [<-WI h (by lia)];simpa using this
 rw [e,e];exact u _ _ (by lia) (by lia) (by omega)
theorem cj {st st1:BI} {Q:PUnit->BI->Prop} (h:Q ⟨⟩ st1):wpS (AZ prog w) A E s (set st1:StateT BI Sem PUnit) Q st:=AS h
theorem Tv {st:BI} {i sa na pw sb nb pw2:Nat} {Q:Bool->BI->Prop} (C:KZ prog w A s a₀ κ lt) (O:Ord (·∈a₀) lt) (g:Good a₀ κ st)
  (e1:(AY st)[i]?=some (sa,na,pw)) (e2:(AY st)[i+1]?=some (sb,nb,pw2)) (hab:sb=sa+na) (hna:1<=na) (hnb:1<=nb) (hs:sb+nb<=a₀.size)
  (ua:Up lt (AW st) sa (sa+na)) (ub:Up lt (AW st) sb (sb+nb))
  (h:∀st',Good a₀ κ st'->AY st'=((AY st).setIfInBounds i (sa,na+nb,pw)).eraseIdxIfInBounds (i+1)->Up lt (AW st') sa (sa+(na+nb))->Out (AW st) (AW st') sa (sa+(na+nb))->Q true st') :
  wpS (AZ prog w) A E s (mergeAt' i) Q st:=by
 subst hab;have hsz:=g.size
 have mem:∀j,j < a₀.size->ix (AW st) j∈a₀:=λj hj=>g.mem hj
 have tr:∀x y z:An,x∈a₀->y∈a₀->z∈a₀->Rl lt x y->Rl lt y z->Rl lt x z:=λx y z hx hy hz h1 h2=>O.ntr x y z hx hy hz h1 h2
 refine (AO (HW ?_):wpS _ _ _ _ (mergeAt' i) Q st);rw [show (sortPriv% PySem.Builtin.SortState.pending) st=AY st from rfl,e1,e2];refine AO (cj ?_);generalize hst1:((sortPriv% PySem.Builtin.SortState.mk) (kindOf st) (AW st) (((AY st).setIfInBounds i (sa,na+nb,pw)).eraseIdxIfInBounds (i+1)) (gallopOf st) (Ic st))=st1
 have g1:Good a₀ κ st1:=by subst hst1;exact ⟨g.perm,g.kind,g.failed⟩
 have a1:AW st1=AW st:=by subst hst1;rfl
 have p1:AY st1=((AY st).setIfInBounds i (sa,na+nb,pw)).eraseIdxIfInBounds (i+1):=by subst hst1;rfl
 refine AO (Bb (a:=AW st) (i:=sa+na) (by lia) ?_);refine AO (E1 (base:=sa) (n:=na) (hint:=0) (arr:=AW st) (key:=ix (AW st) (sa+na)) (left:=false) C g1 (λj=>!lt (ix (AW st) (sa+na)) (ix (AW st) (sa+j))) (mem _ (by lia)) (λj hj=>⟨by lia,mem _ (by lia)⟩) (λj hj=>rfl) (λx y hxy hy e=>?_) (by lia) λk hk k1 k2=>?_)
 ·have e':lt (ix (AW st) (sa+na)) (ix (AW st) (sa+y))=false:=by simpa using e
  have:=tr _ _ _ (mem _ (by lia)) (mem _ (by lia)) (mem _ (by lia)) (ua (sa+x) (sa+y) (by lia) (by lia) (by lia)) e';simpa using this
 have low:∀j,sa<=j->j < sa+k->Rl lt (ix (AW st) j) (ix (AW st) (sa+na)):=λj j1 j2=>by
  have:=k1 (j - sa) (by lia);rw [show sa+(j - sa)=j by lia] at this;simpa using this
 have lowb:∀i j,sa<=i->i < sa+k->sa+na<=j->j < sa+na+nb->Rl lt (ix (AW st) i) (ix (AW st) j):=λi j i1 i2 j1 j2=>tr _ _ _ (mem _ (by lia)) (mem _ (by lia)) (mem _ (by lia)) (low i i1 i2) (ub _ _ (by lia) (by omega) (by omega))
 have whole:(∀j,sa<=j->j < sa+na->Rl lt (ix (AW st) j) (ix (AW st) (sa+na)))->Up lt (AW st) sa (sa+(na+nb)):=λhh x y h1 h2 h3=>by
  by_cases c1:y < sa+na
  ·exact ua x y h1 h2 c1
  by_cases c2:x < sa+na
  ·exact tr _ _ _ (mem _ (by lia)) (mem _ (by lia)) (mem _ (by lia)) (hh x h1 c2) (ub _ _ (by lia) (by lia) (by lia))
  ·exact ub x y (by lia) h2 (by lia)
 refine (show wpS (AZ prog w) A E s (if (na - k==0)=true then _ else _) Q st1 from ?_)
 by_cases c1:na - k=0
 ·rw [if_pos (by simpa using c1)]
  refine AS (h st1 g1 p1 ?_ (by rw [a1];exact .refl));rw [a1]
  exact whole λj j1 j2=>low j j1 (by lia)
 rw [if_neg (by simpa using c1)];refine AO (Bb (a:=AW st) (i:=sa+k+(na - k) - 1) (by omega) ?_);rw [show sa+k+(na - k) - 1=sa+na - 1 by lia];refine AO (E1 (base:=sa+na) (n:=nb) (hint:=nb - 1) (arr:=AW st) (key:=ix (AW st) (sa+na - 1)) (left:=true) C g1 (λj=>lt (ix (AW st) (sa+na+j)) (ix (AW st) (sa+na - 1))) (mem _ (by lia)) (λj hj=>⟨by lia,mem _ (by lia)⟩) (λj hj=>rfl) (λx y hxy hy e=>?_) (by omega) λk3 hk3 k4 k5=>?_)
 ·cases e2:lt (ix (AW st) (sa+na+x)) (ix (AW st) (sa+na - 1)) with
  | true=>rfl
  | false=>
   have:=tr _ _ _ (mem _ (by lia)) (mem _ (by lia)) (mem _ (by lia)) e2 (ub (sa+na+x) (sa+na+y) (by lia) (by lia) (by lia));exact nomatch (show true=false from (show lt (ix (AW st) (sa+na+y)) (ix (AW st) (sa+na - 1))=true from e).symm.trans this)
 have high:∀j,sa+na+k3<=j->j < sa+na+nb->Rl lt (ix (AW st) (sa+na - 1)) (ix (AW st) j):=λj j1 j2=>by
  have:=k5 (j - (sa+na)) (by lia) (by lia);rwa [show sa+na+(j - (sa+na))=j by lia] at this
 refine (show wpS (AZ prog w) A E s (if (k3==0)=true then _ else _) Q st1 from ?_)
 by_cases c2:k3=0
 ·rw [if_pos (by simpa using c2)]
  refine AS (h st1 g1 p1 ?_ (by rw [a1];exact .refl));rw [a1]
  exact whole λj j1 j2=>tr _ _ _ (mem _ (by lia)) (mem _ (by lia)) (mem _ (by lia)) (ua j (sa+na - 1) (by omega) (by lia) (by lia)) (high _ (by lia) (by lia))
 rw [if_neg (by simpa using c2)]
 let x:=(AW st).extract (sa+k) (sa+na)
 let y:=(AW st).extract (sa+na) (sa+na+k3)
 have xs:x.size=na - k:=by simp [x];lia
 have ys:y.size=k3:=by simp [y];lia
 have ixx:∀j,j < na - k->ix x j=ix (AW st) (sa+k+j):=λj hj=>WI (by lia) (by lia)
 have ixy:∀j,j < k3->ix y j=ix (AW st) (sa+na+j):=λj hj=>WI (by lia) (by lia)
 have memx:∀z∈x.toList,∃j,j < na - k/\z=ix (AW st) (sa+k+j):=λz hz=>by
  have hz:z∈((AW st).extract (sa+k) (sa+k+(na - k))).toList:=by rw [show sa+k+(na - k)=sa+na by lia];exact hz
  exact O0 (by lia) hz
 have memy:∀z∈y.toList,∃j,j < k3/\z=ix (AW st) (sa+na+j):=λz hz=>O0 (by lia) hz
 have fin:∀(r:Array An) (st':BI),Kg a₀ κ st1 st'->IE (Rl lt) (x.toList++y.toList) r.toList->∀st2:BI,AW st2=wr (AW st') (sa+k) r.toList.zipIdx->kindOf st2=kindOf st'->Ic st2=Ic st'->AY st2=AY st'->Q true st2:=by
  intro r st' sm f st2 q1 q2 q3 q4
  have hr:r.size=na - k+k3:=by
   have:=f.perm.length_eq;simp only [AU,Bq] at this
   lia
  have ha:AW st'=AW st:=sm.arr.trans a1;rw [ha] at q1
  have hb:sa+k+r.size<=(AW st).size:=by lia
  have mm:∀t,t < r.size->∃t',ix r t=ix (AW st) t'/\sa+k<=t'/\t' < sa+na+k3:=λt ht=>by
   have:ix r t∈r.toList:=BO.mpr (C3 (DT ht))
   rcases Az.mp (f.perm.mem_iff.mp this) with h | h
   ·obtain ⟨j,j1,e⟩:=memx _ h
    exact ⟨_,e,by lia,by lia⟩
   ·obtain ⟨j,j1,e⟩:=memy _ h
    exact ⟨_,e,by lia,by lia⟩
  have rs:=UA O (a:=r) (λt ht=>by
   obtain ⟨t',e,_,_⟩:=mm t ht;rw [e]
   exact mem _ (by lia)) f.srt
  refine h st2 ⟨?_,?_,?_⟩ (q4.trans (sm.pend.trans p1)) ?_ ?_
  ·rw [q1]
   refine (d6 hb (f.perm.trans ?_)).trans g.perm
   have:(AW st).toList.drop (sa+k)=x.toList++(AW st).toList.drop (sa+na):=by
    have:=IX (a:=AW st) (i:=sa+k) (k:=na - k) (by lia);rw [show sa+k+(na - k)=sa+na by lia] at this;exact this
   have h2:(AW st).toList.drop (sa+na)=y.toList++(AW st).toList.drop (sa+na+k3):=IX (by lia);have h3:(AW st).toList.drop (sa+k)=((AW st).extract (sa+k) (sa+k+r.size)).toList++(AW st).toList.drop (sa+k+r.size):=IX hb;rw [this,h2,<-BM,show sa+k+r.size=sa+na+k3 by lia] at h3;rw [show sa+k+r.size=sa+na+k3 by lia];exact Wu (List.append_cancel_right h3)
  ·rw [q2];exact sm.good.kind
  ·rw [q3];exact sm.good.failed
  ·rw [q1]
   intro i j h1 h2 h3;show Rl lt _ _;rw [bL hb,bL hb]
   by_cases i1:i < sa+k
   ·rw [if_pos i1]
    by_cases j1:j < sa+k
    ·rw [if_pos j1];exact ua i j h1 h2 (by lia)
    rw [if_neg j1]
    by_cases j2:j < sa+k+r.size
    ·rw [if_pos j2]
     obtain ⟨t,e,t1,t2⟩:=mm (j - (sa+k)) (by omega);rw [e]
     by_cases t3:t < sa+na
     ·exact ua i t h1 (by lia) t3
     ·exact lowb i t h1 i1 (by lia) (by lia)
    ·rw [if_neg j2];exact lowb i j h1 i1 (by lia) (by lia)
   rw [if_neg i1,if_neg (show ¬j < sa+k by lia)]
   by_cases i2:i < sa+k+r.size
   ·rw [if_pos i2]
    by_cases j2:j < sa+k+r.size
    ·rw [if_pos j2];exact rs _ _ (by lia) (by omega)
    ·rw [if_neg j2]
     obtain ⟨t,e,t1,t2⟩:=mm (i - (sa+k)) (by omega);rw [e]
     by_cases t3:t < sa+na
     ·exact tr _ _ _ (mem _ (by lia)) (mem _ (by lia)) (mem _ (by lia)) (ua t (sa+na - 1) (by lia) (by lia) (by lia)) (high j (by lia) (by lia))
     ·exact ub t j (by lia) (by lia) (by lia)
   ·rw [if_neg i2,if_neg (show ¬j < sa+k+r.size by lia)]
    exact ub i j (by lia) h2 (by lia)
  ·rw [q1]
   intro i hi;rw [bL hb]
   by_cases i1:i < sa+k
   ·rw [if_pos i1]
   ·rw [if_neg i1,if_neg (by lia)]
 have args:∀ {P:Prop},((∀z∈x.toList,z∈a₀)->(∀z∈y.toList,z∈a₀)->x.toList.Pairwise (Rl lt)->y.toList.Pairwise (Rl lt)->0 < x.size->0 < y.size->(∀z∈x.toList,Rl lt (ix y 0) z)->(∀z∈y.toList,Rl lt z (ix x (x.size - 1)))->P)->P:=by
  intro P hP
  refine hP (λz hz=>?_) (λz hz=>?_) (Zt (by lia) λi j h1 h2 h3=>ua i j (by lia) h2 h3) (Zt (by lia) λi j h1 h2 h3=>ub i j h1 h2 (by lia)) (by lia) (by lia) (λz hz=>?_) λz hz=>?_
  ·obtain ⟨j,j1,rfl⟩:=memx z hz
   exact mem _ (by lia)
  ·obtain ⟨j,j1,rfl⟩:=memy z hz
   exact mem _ (by lia)
  ·obtain ⟨j,j1,rfl⟩:=memx z hz
   rw [ixy 0 (by lia)];have:=k2 (k+j) (by lia) (by lia);rw [show sa+(k+j)=sa+k+j by lia] at this;exact O.asym _ _ (mem _ (by lia)) (mem _ (by lia)) (by simpa using this)
  ·obtain ⟨j,j1,rfl⟩:=memy z hz
   rw [xs,ixx _ (by lia),show sa+k+(na - k - 1)=sa+na - 1 by lia];exact O.asym _ _ (mem _ (by lia)) (mem _ (by lia)) (k4 j j1)
 refine (show wpS (AZ prog w) A E s (if na - k<=k3 then mLo x y >>= _ else mHi x y >>= _) Q st1 from ?_);split
 ·refine AO (args λb1 b2 b3 b4 b5 b6 b7 b8=>ck C O g1 b1 b2 b3 b4 b5 b6 b7 b8 λr st' sm f=>?_)
  refine AO (Db (AO (HW (AS ?_))));have q:=fin r st' sm f (setArr st' (wr (AW st') (sa+k) r.toList.zipIdx)) rfl rfl rfl rfl;rw [<-show (Ic st').isNone=true by rw [sm.good.failed];rfl] at q;exact q
 ·refine AO (args λb1 b2 b3 b4 b5 b6 b7 b8=>cn C O g1 b1 b2 b3 b4 b5 b6 b7 b8 λr st' sm f=>?_)
  refine AO (Db (AO (HW (AS ?_))));have q:=fin r st' sm f (setArr st' (wr (AW st') (sa+k) r.toList.zipIdx)) rfl rfl rfl rfl;rw [<-show (Ic st').isNone=true by rw [sm.good.failed];rfl] at q;exact q
end
end Srt
namespace Srt
open PySem PyProof.Rows
theorem ei {c:Prop} [Decidable c] {z:Nat} (h:1 < z):(if c then z - 2 - 1 else z - 2)+1 < z:=by split <;> omega
def Stk (lt:An->An->Bool) (arr:Array An):List (Nat×Nat×Nat)->Nat->Nat->Prop
 | [],lo,hi=>lo=hi
 | (s,n,_) :: r,lo,hi=>s=lo/\1<=n/\Up lt arr s (s+n)/\Stk lt arr r (s+n) hi
section
variable {lt:An->An->Bool} {arr arr':Array An}
theorem Stk.le:∀ {l:List (Nat×Nat×Nat)} {lo hi:Nat},Stk lt arr l lo hi->lo+l.length<=hi
 | [],lo,hi,h=>by cases h;simp
 | (s,n,_) :: r,lo,hi,⟨h1,h2,_,h4⟩=>by
  have:=Stk.le h4;rw [Ao]
  lia
theorem Stk.app:∀ {l r:List (Nat×Nat×Nat)} {lo hi:Nat},Stk lt arr (l++r) lo hi↔∃mid,Stk lt arr l lo mid/\Stk lt arr r mid hi
 | [],r,lo,hi=>⟨λh=>⟨lo,rfl,h⟩,λ⟨_,e,h⟩=>by cases e;exact h⟩
 | (s,n,_) :: l,r,lo,hi=>by
  constructor
  ·rintro ⟨h1,h2,h3,h4⟩
   obtain ⟨mid,a,b⟩:=Stk.app.mp h4;exact ⟨mid,⟨h1,h2,h3,a⟩,b⟩
  ·rintro ⟨mid,⟨h1,h2,h3,h4⟩,b⟩
   exact ⟨h1,h2,h3,Stk.app.mpr ⟨mid,h4,b⟩⟩
theorem Stk.pw {f:Nat×Nat×Nat->Nat×Nat×Nat} (hf:∀x,(f x).1=x.1/\(f x).2.1=x.2.1):∀ {l:List (Nat×Nat×Nat)} {lo hi:Nat} (i:Nat),Stk lt arr l lo hi->Stk lt arr (l.modify i f) lo hi
 | [],lo,hi,i,h=>by cases i <;> exact h
 | (s,n,p) :: r,lo,hi,0,h=>by
  obtain ⟨e1,e2⟩:=hf (s,n,p);show Stk lt arr (f (s,n,p) :: r) lo hi;generalize f (s,n,p)=q at e1 e2;obtain ⟨s',n',p'⟩:=q;dsimp only at e1 e2;subst e1 e2;exact h
 | (s,n,p) :: r,lo,hi,i+1,⟨h1,h2,h3,h4⟩=>⟨h1,h2,h3,Stk.pw hf i h4⟩
theorem Stk.out:∀ {l:List (Nat×Nat×Nat)} {lo hi x y:Nat},Stk lt arr l lo hi->Out arr arr' x y->(hi<=x∨y<=lo)->Stk lt arr' l lo hi
 | [],lo,hi,x,y,h,o,d=>h
 | (s,n,_) :: r,lo,hi,x,y,⟨h1,h2,h3,h4⟩,o,d=>by
  have:=h4.le;exact ⟨h1,h2,h3.out o (by lia),Stk.out h4 o (by lia)⟩
end
section
variable {prog:Ap} {w:BE} {A:BC} {E:AD->AE->Prop} {s:AE} {a₀:Array An} {κ:Fk} {lt:An->An->Bool}
theorem Out.wide {xs ys:Array An} {l h l' h':Nat} (o:Out xs ys l h) (h1:l'<=l) (h2:h<=h'):Out xs ys l' h':=λi hi=>o i (by lia)
theorem Jp {st:BI} {i hi:Nat} {Q:Bool->BI->Prop} (C:KZ prog w A s a₀ κ lt) (O:Ord (·∈a₀) lt) (g:Good a₀ κ st) (k:Stk lt (AW st) (AY st).toList 0 hi) (hs:hi<=a₀.size) (hi1:i+1 < (AY st).size)
  (h:∀st',Good a₀ κ st'->Stk lt (AW st') (AY st').toList 0 hi->(AY st').size+1=(AY st).size->Out (AW st) (AW st') 0 hi->Q true st'):wpS (AZ prog w) A E s (mergeAt' i) Q st:=by
 obtain ⟨sa,na,pw,e1⟩:∃sa na pw,(AY st)[i]?=some (sa,na,pw):=⟨_,_,_,getElem?_pos (AY st) i (by lia)⟩
 obtain ⟨sb,nb,pw2,e2⟩:∃sa na pw,(AY st)[i+1]?=some (sa,na,pw):=⟨_,_,_,getElem?_pos (AY st) (i+1) hi1⟩
 obtain ⟨l,r,el,hl⟩:∃l r,(AY st).toList=l++(sa,na,pw) :: (sb,nb,pw2) :: r/\l.length=i:=by
  have a1:(AY st).toList[i]?=some (sa,na,pw):=by simpa using e1
  have a2:(AY st).toList[i+1]?=some (sb,nb,pw2):=by simpa using e2
  obtain ⟨b1,c1⟩:=AH.mp a1;obtain ⟨b2,c2⟩:=AH.mp a2;refine ⟨(AY st).toList.take i,(AY st).toList.drop (i+2),?_,by rw [C9];lia⟩
  conv=>lhs;rw [<-C4 i (AY st).toList,Be b1,Be b2,c1,c2]
 rw [el] at k;obtain ⟨mid,k1,⟨q1,q2,q3,⟨q4,q5,q6,q7⟩⟩⟩:=Stk.app.mp k;have hle:=q7.le;have hle1:=k1.le
 refine Tv C O g e1 e2 q4 q2 q5 (by lia) q3 q6 λst' g' p' u' o'=>?_
 have pl:(AY st').toList=l++(sa,na+nb,pw) :: r:=by
  rw [p',Array.toList_eraseIdxIfInBounds,Qq,el];rw [List.set_append_right _ _ (by lia),hl,VX,List.set_cons_zero,List.eraseIdx_append_of_length_le (by lia),show i+1 - l.length=1 by lia];rfl
 refine h st' g' ?_ ?_ (o'.wide (by lia) (by lia))
 ·rw [pl]
  refine Stk.app.mpr ⟨mid,k1.out o' (.inl (by lia)),q1,by lia,u',?_⟩
  have e:sb+nb=sa+(na+nb):=by lia
  rw [e] at q7;exact q7.out o' (.inr (by lia))
 ·have z1:=congrArg Hm pl
  have z2:=congrArg Hm el;simp at z1 z2
  lia
theorem wpS_sortRuns {st:BI} {Q:Unit->BI->Prop} (C:KZ prog w A s a₀ κ lt) (O:Ord (·∈a₀) lt) (g:Good a₀ κ st) (hp:AY st = #[])
  (h:∀st',Good a₀ κ st'->Up lt (AW st') 0 a₀.size->Q () st'):wpS (AZ prog w) A E s sortRuns' Q st:=by
 rw [sortRuns'_eq];refine AO (HW ?_);dsimp only;rw [g.size];generalize minRun' a₀.size a₀.size 0=mr
 refine AO (DR (B9 (I:=λx c st'=>∃lo,c=(none,lo)/\Good a₀ κ st'/\Stk lt (AW st') (AY st').toList 0 lo/\lo<=a₀.size/\min x a₀.size<=lo)
  (Q:=λc st'=>c=(none,a₀.size)/\Good a₀ κ st'/\Stk lt (AW st') (AY st').toList 0 a₀.size) ?step ?fin ?init) ?post)
 case init=>exact ⟨0,rfl,g,by rw [hp];rfl,by lia,by lia⟩
 case fin=>
  rintro c st' ⟨lo,rfl,g',k',h1,h2⟩
  have:lo=a₀.size:=by lia
  subst this;exact ⟨rfl,g',k'⟩
 case step=>
  rintro x c st1 _ hx ⟨lo,rfl,g1,k1,h1,h2⟩;dsimp only
  by_cases hge:lo ≥ a₀.size
  ·rw [if_pos hge]
   have:lo=a₀.size:=by lia
   subst this;exact AS ⟨rfl,g1,k1⟩
  rw [if_neg hge];refine AO (wpS_countRun C O (by lia) (by lia) g1 λst2 n g2 n1 n2 u2 o2 p2=>?_);dsimp only
  have k2:Stk lt (AW st2) (AY st2).toList 0 lo:=by
   rw [p2];exact k1.out o2 (.inl (AT _))
  by_cases hm:n < mr
  ·rw [if_pos hm]
   refine AO (JT ?_);refine AO (wpS_binarySort C O (by lia) (by omega) g2 u2 λst3 g3 u3 o3 p3=>?_)
   have k3:Stk lt (AW st3) (AY st3).toList 0 lo:=by
    rw [p3];exact k2.out o3 (.inl (AT _))
   rw [if_neg (by simp)];refine AO (HW ?_)
   cases hb:(AY st3).back? with
   | none=>
    dsimp only;refine AO (Db (AS ⟨lo+min (a₀.size - lo) mr,rfl,⟨g3.perm,g3.kind,g3.failed⟩,?_,by lia,by lia⟩));show Stk lt (AW st3) ((AY st3).push (lo,min (a₀.size - lo) mr,0)).toList 0 (lo+min (a₀.size - lo) mr);rw [JM];exact Stk.app.mpr ⟨lo,k3,rfl,by omega,u3,rfl⟩
   | some t=>
    obtain ⟨s1,n1,z⟩:=t;dsimp only;generalize power' a₀.size (2 * s1+n1) (2 * s1+n1+n1+min (a₀.size - lo) mr) a₀.size=pw
    refine AO (DR (B9 (I:=λ_ c st4=>c=(none,())/\Good a₀ κ st4/\Stk lt (AW st4) (AY st4).toList 0 lo/\Up lt (AW st4) lo (lo+min (a₀.size - lo) mr))
     (Q:=λc st4=>c=(none,())/\Good a₀ κ st4/\Stk lt (AW st4) (AY st4).toList 0 lo/\Up lt (AW st4) lo (lo+min (a₀.size - lo) mr)) ?_ (λc st4 h=>h) ⟨rfl,g3,k3,u3⟩) ?_)
    ·rintro x' c' st4 _ _ ⟨rfl,g4,k4,u4⟩
     refine AO (HW ?_)
     by_cases hz:(AY st4).size > 1
     ·rw [if_pos hz]
      obtain ⟨s2,n2,older,e2⟩:∃s2 n2 older,(AY st4)[(AY st4).size - 2]?=some (s2,n2,older):=⟨_,_,_,getElem?_pos (AY st4) ((AY st4).size - 2) (by lia)⟩
      rw [e2];dsimp only
      by_cases ho:older<=pw
      ·rw [if_pos ho]
       exact AS ⟨rfl,g4,k4,u4⟩
      ·rw [if_neg ho]
       refine AO (Jp C O g4 k4 (by omega) (by lia) λst5 g5 k5 _ o5=>?_);exact AS ⟨rfl,g5,k5,u4.out o5 (.inr (by lia))⟩
     ·rw [if_neg hz]
      exact AS ⟨rfl,g4,k4,u4⟩
    ·rintro c' st4 ⟨rfl,g4,k4,u4⟩
     dsimp only;refine AO (Db (AO (Db (AS ⟨lo+min (a₀.size - lo) mr,rfl,⟨g4.perm,g4.kind,g4.failed⟩,?_,by lia,by lia⟩))));show Stk lt (AW st4) ((((AY st4).modify ((AY st4).size - 1) λx=>(x.fst,x.2.fst,pw))).push (lo,min (a₀.size - lo) mr,0)).toList 0 (lo+min (a₀.size - lo) mr);rw [JM,Ww];exact Stk.app.mpr ⟨lo,Stk.pw (f:=λx=>(x.fst,x.2.fst,pw)) (λx=>⟨rfl,rfl⟩) _ k4,rfl,by omega,u4,rfl⟩
  ·rw [if_neg hm]
   refine AO (HW ?_)
   cases hb:(AY st2).back? with
   | none=>
    dsimp only;refine AO (Db (AS ⟨lo+n,rfl,⟨g2.perm,g2.kind,g2.failed⟩,?_,by lia,by lia⟩));show Stk lt (AW st2) ((AY st2).push (lo,n,0)).toList 0 (lo+n);rw [JM];exact Stk.app.mpr ⟨lo,k2,rfl,by omega,u2,rfl⟩
   | some t=>
    obtain ⟨s1,n1,z⟩:=t;dsimp only;generalize power' a₀.size (2 * s1+n1) (2 * s1+n1+n1+n) a₀.size=pw
    refine AO (DR (B9 (I:=λ_ c st4=>c=(none,())/\Good a₀ κ st4/\Stk lt (AW st4) (AY st4).toList 0 lo/\Up lt (AW st4) lo (lo+n))
     (Q:=λc st4=>c=(none,())/\Good a₀ κ st4/\Stk lt (AW st4) (AY st4).toList 0 lo/\Up lt (AW st4) lo (lo+n)) ?_ (λc st4 h=>h) ⟨rfl,g2,k2,u2⟩) ?_)
    ·rintro x' c' st4 _ _ ⟨rfl,g4,k4,u4⟩
     refine AO (HW ?_)
     by_cases hz:(AY st4).size > 1
     ·rw [if_pos hz]
      obtain ⟨s2,n2,older,e2⟩:∃s2 n2 older,(AY st4)[(AY st4).size - 2]?=some (s2,n2,older):=⟨_,_,_,getElem?_pos (AY st4) ((AY st4).size - 2) (by lia)⟩
      rw [e2];dsimp only
      by_cases ho:older<=pw
      ·rw [if_pos ho]
       exact AS ⟨rfl,g4,k4,u4⟩
      ·rw [if_neg ho]
       refine AO (Jp C O g4 k4 (by omega) (by lia) λst5 g5 k5 _ o5=>?_);exact AS ⟨rfl,g5,k5,u4.out o5 (.inr (by lia))⟩
     ·rw [if_neg hz]
      exact AS ⟨rfl,g4,k4,u4⟩
    ·rintro c' st4 ⟨rfl,g4,k4,u4⟩
     dsimp only;refine AO (Db (AO (Db (AS ⟨lo+n,rfl,⟨g4.perm,g4.kind,g4.failed⟩,?_,by lia,by lia⟩))));show Stk lt (AW st4) ((((AY st4).modify ((AY st4).size - 1) λx=>(x.fst,x.2.fst,pw))).push (lo,n,0)).toList 0 (lo+n);rw [JM,Ww];exact Stk.app.mpr ⟨lo,Stk.pw (f:=λx=>(x.fst,x.2.fst,pw)) (λx=>⟨rfl,rfl⟩) _ k4,rfl,by omega,u4,rfl⟩
 case post=>
  rintro c st1 ⟨rfl,g1,k1⟩;dsimp only
  refine AO (DR (B9 (I:=λx c st4=>c=(none,())/\Good a₀ κ st4/\Stk lt (AW st4) (AY st4).toList 0 a₀.size/\((AY st4).size<=1∨(AY st4).size+x<=a₀.size))
   (Q:=λc st4=>c=(none,())/\Good a₀ κ st4/\Stk lt (AW st4) (AY st4).toList 0 a₀.size/\(AY st4).size<=1) ?_ ?_ ?_) ?_)
  ·rintro x c st4 _ _ ⟨rfl,g4,k4,d⟩
   refine AO (HW ?_)
   by_cases hz:(AY st4).size<=1
   ·rw [if_pos hz]
    exact AS ⟨rfl,g4,k4,hz⟩
   ·rw [if_neg hz]
    refine AO (Jp C O g4 k4 (AT _) (ei (by lia)) λst5 g5 k5 z5 o5=>?_);exact AS ⟨rfl,g5,k5,.inr (by lia)⟩
  ·rintro c st4 ⟨rfl,g4,k4,d⟩
   exact ⟨rfl,g4,k4,by lia⟩
  ·refine ⟨rfl,g1,k1,.inr ?_⟩
   have:=k1.le;simp at this;omega
  ·rintro c st4 ⟨rfl,g4,k4,d⟩
   refine AS (h st4 g4 ?_);generalize hl:(AY st4).toList=l at k4
   have hd:l.length<=1:=by rw [<-hl];simpa using d
   match l,k4,hd with
   | [],k4,_=>exact λi j h1 h2 h3=>by have:(0:Nat)=a₀.size:=k4;lia
   | [(s,n,_)],⟨e1,_,u,e2⟩,_=>
    have e2:s+n=a₀.size:=e2;rw [e2,e1] at u;exact u
end
end Srt
namespace Srt
open PySem PyProof.Rows
def ltL:List Int->List Int->Bool
 | [],[]=>false
 | [],_ :: _=>true
 | _ :: _,[]=>false
 | x :: xs,y :: ys=>if x=y then ltL xs ys else decide (x < y)
theorem K8:∀x y,ltL x y=true->ltL y x=false
 | [],[],h=>by cases h
 | [],_ :: _,_=>rfl
 | _ :: _,[],h=>by cases h
 | x :: xs,y :: ys,h=>by
  unfold ltL at h ⊢
  by_cases e:x=y
  ·rw [if_pos e] at h;rw [if_pos e.symm];exact K8 xs ys h
  ·rw [if_neg e] at h;rw [if_neg (Bo e)];simp at h ⊢;lia
theorem O1:∀x y z,ltL y x=false->ltL z y=false->ltL z x=false
 | [],y,[],_,_=>rfl
 | [],[],_ :: _,_,_=>rfl
 | [],_ :: _,_ :: _,_,_=>rfl
 | x :: xs,[],z,h,_=>by cases h
 | _,y :: ys,[],_,h=>by cases h
 | x :: xs,y :: ys,z :: zs,h1,h2=>by
  unfold ltL at h1 h2 ⊢
  by_cases e1:y=x
  ·rw [if_pos e1] at h1
   subst e1
   by_cases e2:z=y
   ·rw [if_pos e2] at h2 ⊢
    exact O1 xs ys zs h1 h2
   ·rw [if_neg e2] at h2 ⊢;exact h2
  ·rw [if_neg e1] at h1
   by_cases e2:z=y
   ·subst e2;rw [if_neg e1];exact h1
   ·rw [if_neg e2] at h2
    by_cases e3:z=x
    ·subst e3;simp at h1 h2;lia
    ·rw [if_neg e3];simp at h1 h2 ⊢;lia
theorem Sq:∀x y,ltL x y=false->ltL y x=false->x=y
 | [],[],_,_=>rfl
 | [],_ :: _,h,_=>by cases h
 | _ :: _,[],_,h=>by cases h
 | x :: xs,y :: ys,h1,h2=>by
  unfold ltL at h1 h2
  by_cases e:x=y
  ·rw [if_pos e] at h1;rw [if_pos e.symm] at h2;rw [e,Sq xs ys h1 h2]
  ·rw [if_neg e] at h1;rw [if_neg (Bo e)] at h2;simp at h1 h2;lia
def ltK (f:AD->List Int) (x y:An):Bool:=ltL (f x.1) (f y.1)
theorem eI (f:AD->List Int) (U:An->Prop):Ord U (ltK f):=⟨λx y _ _ h=>K8 _ _ h,λx y z _ _ _ h1 h2=>O1 _ _ _ h1 h2⟩
section
variable {prog:Ap} {w:BE} {A:BC} {E:AD->AE->Prop} {s:AE}
theorem V5 {a b:Int} {t u:Tok} (o:Bool) {Q:Bool->AE->Prop} (h:Q (decide (a < b)) s):Ac (AZ prog w) A (oneLt' o (.int a t) (.int b u)) Q E s:=by
 cases o with
 | true=>exact oneLt_int h
 | false=>
  rw [oneLt'_eq];simp only [B4,if_false];exact AA (wpAny_lt_int (B1 h))
def Wi (s:AE) (v:AD) (ns:List Int):Prop:=∃a its,v=.ref a/\s.heap.IsTuple a its/\Cy its.toList ns
def nG (o:Bool):(AD×AD)×Nat->Option Bool×Unit->Sem (ForInStep (Option Bool×Unit)):=λe _=>match e with
 | ((p,q),i)=>eqBool p q >>= λc=>if (!c)=true then oneLt' (o&&i==0) p q >>= λb=>pure (.done (some b,())) else pure (.yield (none,()))
theorem bJ (o:Bool) (x y:AD):keyLt' (kR o) x y=(Ik x >>= λr=>Ik y >>= λq=>forIn (r.toList.zip q.toList).zipIdx ((none,()):Option Bool×Unit) (nG o) >>= λz=>match z.1 with
  | some b=>pure b
  | none=>pure (decide (r.size < q.size))):=by kernel_rfl
theorem bz (o:Bool) {n0:Nat}:∀ {is js:List AD} {ns ms:List Int} (k:Nat) {Q:Bool->AE->Prop},Cy is ns->Cy js ms->Q (ltL ns ms) s ->
  Ac (AZ prog w) A (forIn ((is.zip js).zipIdx k) ((none,()):Option Bool×Unit) (nG o) >>= λz=>match z.1 with
   | some b=>pure b
   | none=>pure (decide (n0+is.length < n0+js.length))) Q E s:=by
 intro is
 induction is with
 | nil=>
  intro js ns ms k Q h1 h2 hq;cases h1;rw [ZR,cX,gB];refine AA (AL (AL ?_))
  cases h2 with
  | nil=>simpa [ltL] using hq
  | cons m t h=>simpa [ltL] using hq
 | cons v is ih=>
  intro js ns ms k Q h1 h2 hq
  cases h1 with
  | cons n t h1=>
   cases h2 with
   | nil=>
    rw [Eh,cX,gB];refine AA (AL (AL ?_));rw [decide_eq_false (by rw [Ao,Ep];lia)];exact hq
   | cons m u h2=>
    rw [C8,List.zipIdx_cons,cZ];rw [bind_assoc];unfold ltL at hq;refine AA ?_;refine AA (Ry ?_)
    by_cases e:n=m
    ·rw [if_pos e] at hq
     rw [if_neg (by simp [e])];refine AL ?_;have:=ih (k+1) h1 h2 hq;simpa [Nat.add_lt_add_iff_left] using this
    ·rw [if_neg e] at hq
     rw [if_pos (by simp [e])];refine AA (V5 _ (AL ?_));exact AA (AL (AL hq))
end
end Srt
namespace Srt
open PySem PyProof.Rows
section
variable {prog:Ap} {w:BE} {A:BC} {E:AD->AE->Prop} {s:AE}
theorem Na {v:AD} {ns:List Int} (h:Wi s v ns):∃its:Array AD,Cy its.toList ns/\s.TypeIs v "tuple"/\∀(E:AD->AE->Prop) (Q:Array AD->AE->Prop),Q its s->Ac (AZ prog w) A (Ik v) Q E s:=by
 obtain ⟨a,its,rfl,⟨o,ho,hc,n,hd⟩,hi⟩:=h;exact ⟨its,hi,⟨o,ho,hc⟩,λE Q q=>listItems_at ho hd q⟩
theorem fV {x y:AD} {ns ms:List Int} (o:Bool) (hx:Wi s x ns) (hy:Wi s y ms) {Q:Bool->AE->Prop} (h:Q (ltL ns ms) s):Ac (AZ prog w) A (keyLt' (kR o) x y) Q E s:=by
 obtain ⟨r,hr,_,wr⟩:=Na (prog:=prog) (w:=w) (A:=A) hx;obtain ⟨q,hq,_,wq⟩:=Na (prog:=prog) (w:=w) (A:=A) hy;rw [bJ];refine AA (wr E _ (AA (wq E _ ?_)));have:=bz (prog:=prog) (w:=w) (A:=A) (E:=E) (n0:=0) o 0 hr hq h;simp only [Gx,Bq] at this;exact this
theorem Yy {v:AD} {n:Int} {ns:List Int} (h:Wi s v (n :: ns)) {Q:Option AD->AE->Prop} (hq:∀t,Q (some (.int n t)) s):Ac (AZ prog w) A (X5 v) Q E s:=by
 obtain ⟨r,hr,ty,wr⟩:=Na (prog:=prog) (w:=w) (A:=A) h;refine (AA (Qe ty ?_):Ac _ _ (X5 v) Q E s);refine (show Ac (AZ prog w) A (if (E6 "tuple" != E6 "tuple")=true then _ else _) Q E s from ?_);rw [if_neg (by simp)];refine AA (wr E _ (AL ?_));generalize hl:r.toList=l at hr
 cases hr with
 | cons _ t h2=>
  have:r[0]?=some (.int n t):=by
   rw [<-Array.getElem?_toList,hl];rfl
  rw [this];exact hq t
theorem QK:∀ {vs:List AD},(∀v∈vs,∃n ns,Wi s v (n :: ns))->∀ {Q:List (Option AD)->AE->Prop},(∀is ns,Cy is ns->is.length=vs.length->Q (is.map some) s)->Ac (AZ prog w) A (vs.mapM X5) Q E s
 | [],_,Q,h=>by
  rw [List.mapM_nil];exact AL (h [] [] .nil rfl)
 | v :: vs,hv,Q,h=>by
  obtain ⟨n,ns,hn⟩:=hv v A3;rw [List.mapM_cons];refine AA (Yy hn λt=>AA (QK (λv hv'=>hv v (Ah _ hv')) λis ms h1 h2=>AL ?_));exact h (.int n t :: is) (n :: ms) (.cons n t h1) (by rw [Ao,h2,Ao])
theorem Se {is:List AD} {ns:List Int} (h:Cy is ns) (h0:is≠[]):oneTypeOnly' is.toArray=pure (some (.type "int")):=by
 rw [oneTypeOnly'_eq,ZU,mapM_typeOf_ints h];simp only [map_pure,pure_bind]
 cases is with
 | nil=>exact absurd rfl h0
 | cons v is=>
  have e0:(RK (λ_=>E6 "int") (v :: is)).toArray[0]?=some (E6 "int"):=by simp
  have e1:((RK (λ_=>E6 "int") (v :: is)).toArray.all λx=>x==E6 "int")=true:=by
   simp only [List.all_toArray,VH,FU]
   exact λ_ _=>rfl
  rw [e0];simp only [e1,if_true]
theorem bH {vs:List AD} (hv:∀v∈vs,∃n ns,Wi s v (n :: ns)) (h0:vs≠[]) {Q:Fk->AE->Prop} (h:Q (kR true) s):Ac (AZ prog w) A (keyKind' vs.toArray) Q E s:=by
 rw [keyKind'_eq,ZU];refine AA ?_;rw [map_eq_pure_bind];refine AA (QK hv λis ns h1 h2=>AL ?_)
 have hall:((is.map some).toArray.all λx=>x.isSome)=true:=by simp
 rw [if_pos hall];refine AA (PB ?_)
 have hf:(is.map some).toArray.filterMap id=is.toArray:=by simp
 rw [hf,Se h1 (by intro e;subst e;cases vs with | nil=>exact h0 rfl | cons=>simp at h2)];refine AA (AL (AL ?_));exact h
end
end Srt
namespace Srt
open PySem PyProof.Rows
section
variable {prog:Ap} {w:BE} {A:BC} {E:AD->AE->Prop} {s:AE}
theorem G4 {vs:List AD} {x:An} (h:x∈Kh vs):x.1∈vs/\x.1=x.2:=by
 have:x∈(Kh vs).toList:=BO.mpr h;rw [pairsOf_toList] at this;exact ⟨(mem_zip_self this).2,(mem_zip_self this).1⟩
theorem Yi (vs:List AD):(Kh vs).map (·.2)=vs.toArray:=by
 apply Array.ext'
 rw [Jo,pairsOf_toList];simp [List.map_snd_zip]
def TY (prog:Ap) (w:BE) (A:BC) (s:AE) (vs:List AD) (f:AD->List Int):Prop:=
 ∃κ:Fk,(∀(Q:Fk->AE->Prop) (E:AD->AE->Prop),Q κ s->Ac (AZ prog w) A (keyKind' vs.toArray) Q E s)/\KZ prog w A s (Kh vs) κ (ltK f)
theorem Q7 {a:AM} {vs:List AD} {n:Nat} {P:Fin->AE->Prop} {f:AD->List Int} (ho:s.heap.get? a=some (Ix "list" vs.toArray n)) (hz:vs.length<=sizeLine)
  (hk:2<=vs.length->∀s':AE,(∀b o,b≠a->s.heap.get? b=some o->s'.heap.get? b=some o)->TY prog w A s' vs f)
  (h:∀out:Array AD,out.toList.Perm vs->out.toList.Pairwise (λx y=>ltL (f y) (f x)=false)->P (.done (.ret .none)) { s with heap:=gk s.heap a vs out }) :
  Ac (AZ prog w) A (Builtin.«list.sort» ⟨[.ref a],[]⟩) P E s:=by
 have ha:a < s.heap.objs.size:=Aa ho
 have hsz:vs.toArray.size=vs.length:=by simp
 obtain ⟨e1,ho1⟩:∃e1,(s.heap.update a (Iz λ_=>#[])).get? a=some (Ix "list" #[] e1):=⟨_,get?_update_seq ho (λ_=>#[])⟩
 have ho6:(((s.heap.update a (Iz λ_=>#[])).push (Ix "tuple" vs.toArray 0)).push (Ix "list" #[] 0)).get? a=some (Ix "list" #[] e1):=
  AJ _ (AJ _ ho1)
 have old:∀b o,b≠a->s.heap.get? b=some o->(((s.heap.update a (Iz λ_=>#[])).push (Ix "tuple" vs.toArray 0)).push (Ix "list" #[] 0)).get? b=some o:=λb o hb hg=>
  AJ _ (AJ _ (by rw [YC _ _ _ _ hb];exact hg))
 have fin:∀st':BI,(AW st').Perm (Kh vs)->(AW st').toList.Pairwise (Rl (ltK f))->P (.done (.ret .none)) { s with heap:=gk s.heap a vs ((AW st').map (·.2)) }:=by
  intro st' hp hs
  have hmem:∀x∈(AW st').toList,x.1=x.2:=λx hx=>by
   have:x∈(Kh vs).toList:=(E8.mp hp).mem_iff.mp hx;exact (G4 (BO.mp this)).2
  refine h _ ?_ ?_
  ·have:=(E8.mp hp).map (·.2)
   rw [<-Jo,<-Jo,Yi] at this;simpa using this
  ·rw [Jo,Bf]
   refine hs.imp_of_mem λ{x y} hx hy r=>?_
   rw [<-hmem x hx,<-hmem y hy];exact r
 have last:∀st':BI,(AW st').Perm (Kh vs)->Ic st'=none->(AW st').toList.Pairwise (Rl (ltK f))->(((AW st').map (·.2)).size<=sizeLine+1):=λst' hp _ _=>by
  rw [Array.size_map,hp.size_eq,pairsOf_size]
  lia
 rw [list_sort_plain];refine AA (listItems_at ho rfl (AA (X4 ho rfl (AA (cS ho1 rfl (AA (wpAny_newTuple (AA (wpAny_newList (EQ ?_)))))) ) (by rw [hsz];exact hz) (DI _))));show Ac (AZ prog w) A _ P E { s with heap:=((s.heap.update a (Iz λ_=>#[])).push (Ix "tuple" vs.toArray 0)).push (Ix "list" #[] 0) };dsimp only
 by_cases h2:vs.toArray.size < 2
 ·rw [if_pos h2,if_pos h2]
  refine AA (AL ?_);rw [StateT.run_pure]
  have hs0:(AW (HD VQ (vs.toArray.zip vs.toArray) #[] 7 none)).toList.Pairwise (Rl (ltK f)):=by
   have:(AW (HD VQ (vs.toArray.zip vs.toArray) #[] 7 none)).toList.length < 2:=by
    rw [Bq];show (Kh vs).size < 2;rw [pairsOf_size];omega
   generalize (AW (HD VQ (vs.toArray.zip vs.toArray) #[] 7 none)).toList=l at this
   match l,this with
   | [],_=>exact .nil
   | [x],_=>exact List.pairwise_singleton _ _
   | _ :: _ :: _,h=>simp at h;lia
  refine AA (AL (AA (cS ho6 rfl (AA (X4 ho6 rfl ?_ (DI _) (last (HD VQ (vs.toArray.zip vs.toArray) #[] 7 none) (NM _) rfl hs0))))));simp only [bne_self_eq_false,B4,if_false];exact AL (fin (HD VQ (vs.toArray.zip vs.toArray) #[] 7 none) (NM _) hs0)
 ·rw [if_neg h2,if_neg h2]
  obtain ⟨κ,kk,C⟩:=hk (by lia) { s with heap:=((s.heap.update a (Iz λ_=>#[])).push (Ix "tuple" vs.toArray 0)).push (Ix "list" #[] 0) } old;refine AA (kk _ _ ?_)
  refine AA (Dx (Srt.wpS_sortRuns (a₀:=Kh vs) (st:=HD κ (vs.toArray.zip vs.toArray) #[] 7 none)
   (Q:=λ_ st'=>(AW st').Perm (Kh vs)/\Ic st'=none/\(AW st').toList.Pairwise (Rl (ltK f))) C (eI f _) ⟨NM _,rfl,rfl⟩ rfl λst' g u=>⟨g.perm,g.failed,?_⟩) ?_ λ_ _ e=>e)
  ·have:=Zt (a:=AW st') (lo:=0) (hi:=(AW st').size) (AT _) (by rw [g.size];exact u)
   rwa [KG,List.drop_zero] at this
  rintro ⟨⟨⟩,st'⟩ s' ⟨rfl,hp,hf,hs⟩;refine AA (cS ho6 rfl (AA (X4 ho6 rfl ?_ (DI _) (last st' hp hf hs))));rw [hf];simp only [bne_self_eq_false,B4,if_false];exact AL (fin st' hp hs)
theorem YO {vs:List AD} {f:AD->List Int} (h:∀v∈vs,Wi s v (f v)/\f v≠[]) (h0:vs≠[]):TY prog w A s vs f:=
 ⟨kR true,λQ E q=>bH (λv hv=>by
  obtain ⟨h1,h2⟩:=h v hv
  cases e:f v with
  | nil=>exact absurd e h2
  | cons n ns=>exact ⟨n,ns,by rw [<-e];exact h1⟩) h0 q,λx y hx hy Q E q=>fV true (h _ (G4 hx).1).1 (h _ (G4 hy).1).1 q⟩
def aa (v:AD):List Int:=[numOf v]
theorem YQ {vs:List AD} {ns:List Int} (h:Cy vs ns) (h2:2<=vs.length):TY prog w A s vs aa:=by
 refine ⟨oneType',λQ E q=>?_,λx y hx hy Q E q=>?_⟩
 ·match vs,h2,h with
  | v :: u :: r,_,h=>rw [keyKind_ints h];exact AL q
 ·obtain ⟨n,t,e1⟩:=h.all _ (G4 hx).1
  obtain ⟨m,u,e2⟩:=h.all _ (G4 hy).1;rw [keyLt'_oneType,e1,e2];refine oneLt_int ?_
  have:ltK aa x y=decide (n < m):=by
   unfold ltK aa;rw [e1,e2];show (if n=m then false else decide (n < m))=_;split
   ·rename_i e;simp [e]
   ·rfl
  rw [<-this];exact q
end
end Srt
namespace Srt
open PySem PyProof.Rows
def RD (h:Bu) (d:AM) (es:Array OE) (ep:Nat):Prop:=∃o,h.get? d=some o/\o.ExactDict/\o.data=.dict es ep
theorem RD.at' {h h':Bu} {d:AM} {es:Array OE} {ep:Nat} (x:RD h d es ep) (e:∀o,h.get? d=some o->h'.get? d=some o):RD h' d es ep:=let ⟨o,ho,r⟩:=x;⟨o,e _ ho,r⟩
theorem RD.ty {s:AE} {d:AM} {es:Array OE} {ep:Nat} (x:RD s.heap d es ep):s.TypeIs (.ref d) "dict":=let ⟨o,ho,hc,_⟩:=x;⟨o,ho,hc.1⟩
section
variable {prog:Ap} {w:BE} {A:BC} {E:AD->AE->Prop} {s:AE} {d it:AM} {es:Array OE} {ep i:Nat}
theorem aE {Q:AD->AE->Prop} (hd:(d==Dy)=false) (hm:RD s.heap d es ep)
  (kq:Q (.ref s.heap.objs.size) { s with heap:=s.heap.push { cls:=.type "dict_keyiterator",data:=.fields #[.ref d,.int 0 0,.int es.size 0,.int ep 0] } }):Ac (AZ prog w) A (ZO (.ref d)) Q E s:=by
 have hT:=hm.ty;obtain ⟨o,ho,hc,hdat⟩:=hm;refine wpAny_pyIter_slot hT R5 (CQ R5 hT PySem.F.entry_dict_iter ?_ (PySem.F.args_dict_iter_1 _));unfold Builtin.«dict.__iter__»;refine AA ?_;unfold nj;refine AA (wpAny_notOrdered_dict hT (show Ac _ _ (pure (BD d)) _ _ s from AL ?_));refine (show Ac _ _ (PQ d >>= _) _ _ s from ?_);unfold PQ;rw [if_neg (by simp [hd])];refine AA (AL (AA (Qh ho hdat (AA (To ho hdat (AA (CG (AL ⟨_,rfl, "dict_keyiterator",_,⟨_,Ai _ rfl,rfl⟩,Cc.lookup,?_⟩))))))));simpa [Jh] using kq
theorem aD {Q:Option AD->AE->Prop} (ki:s.heap.IsKeyIter it d i es.size ep) (hm:RD s.heap d es ep) (hi:i < es.size)
  (kq:∀h',h'.IsKeyIter it d (i+1) es.size ep->Ei it s.heap h'->Q (some es[i].key) { s with heap:=h' }):Ac (AZ prog w) A (Ji (.ref it)) Q E s:=by
 obtain ⟨o,ho,hc,hd⟩:=id ki;obtain ⟨od,hod,hcd,hdd⟩:=hm;unfold Ji;refine AA (Kn (CK (name:=FW "__next__") ki.typeIs Cc (CQ Cc ki.typeIs Lw (AA (AL (AA (AA ?_)))) (Lp _))))
 first | refine AA (Ew ki.typeIs (AL (AA (NQ ho hd ?_)))) | refine AA (Gn ki.typeIs (AL (AA (NQ ho hd ?_))))
 simp only [show Km "dict_keyiterator" = false by decide,B4,if_false];refine (show Ac _ _ (if (BD d==DK)=true then _ else _) _ _ s from ?_);rw [if_neg (λz:(BD d==DK)=true=>AQ z)];refine AA (AL (AA (Qh hod hdd ?_)));rw [if_neg (by simp)];refine AA (AL (AA (To hod hdd ?_)));rw [if_neg (by simp)];refine AL ?_;simp only [show ¬((i:Int) < 0) by lia,if_false,CD,Array.getElem?_eq_getElem hi];refine AA ?_
 first | refine AA (Ew ki.typeIs (AL (AA (Mi ki.typeIs ?_)))) | refine AA (Gn ki.typeIs (AL (AA (Mi ki.typeIs ?_))))
 refine (show Ac _ _ (setField (.ref it) 1 (Jh ((i:Int)+1)) >>= _) _ _ s from ?_);have ki':(s.heap.update it (ke (·.setIfInBounds 1 (Jh ((i:Int)+1))))).IsKeyIter it d (i+1) es.size ep:=⟨_,HM _ ho (Wq (JA hd _)),(cJ ..).trans hc,by rw [JA hd];simp [Jh]⟩;refine AA (NP ho hd (by simp) (AA (EQ (AA (Mi (s:={ s with heap:=s.heap.update it (ke (·.setIfInBounds 1 (Jh ((i:Int)+1)))) }) ki'.typeIs ?_)))));exact (show Ac _ _ (pure es[i].key) _ _ _ from AL (AL ⟨_,rfl,AL (kq _ ki' (Gz ..))⟩))
theorem db {Q:Option AD->AE->Prop} (h0:A.handled=none) (ki:s.heap.IsKeyIter it d i es.size ep) (hm:RD s.heap d es ep) (hi:es.size<=i)
  (kq:∀h',PN it s.heap h'->Q none { s with heap:=h' }):Ac (AZ prog w) A (Ji (.ref it)) Q E s:=by
 obtain ⟨o,ho,hc,hd⟩:=id ki;obtain ⟨od,hod,hcd,hdd⟩:=hm;unfold Ji;refine AA (Kn (CK (name:=FW "__next__") ki.typeIs Cc (CQ Cc ki.typeIs Lw (AA (AL (AA (AA ?_)))) (Lp _))))
 first | refine AA (Ew ki.typeIs (AL (AA (NQ ho hd ?_)))) | refine AA (Gn ki.typeIs (AL (AA (NQ ho hd ?_))))
 simp only [show Km "dict_keyiterator" = false by decide,B4,if_false];refine (show Ac _ _ (if (BD d==DK)=true then _ else _) _ _ s from ?_);rw [if_neg (λz:(BD d==DK)=true=>AQ z)];refine AA (AL (AA (Qh hod hdd ?_)));rw [if_neg (by simp)];refine AA (AL (AA (To hod hdd ?_)));rw [if_neg (by simp)];refine AL ?_;simp only [show ¬((i:Int) < 0) by lia,if_false,CD,Array.getElem?_eq_none hi];refine AA ?_
 first | refine AA (Ew ki.typeIs (AL (show Ac _ _ (setField (.ref it) 0 .none >>= _) _ _ s from ?_))) | refine AA (Gn ki.typeIs (AL (show Ac _ _ (setField (.ref it) 0 .none >>= _) _ _ s from ?_)))
 refine AA (NP ho hd (by simp) (show Ac _ _ (newExc (.type "StopIteration") [] >>= _) _ _ _ from AA ?_));simp only [newExc,newTuple];refine AA (CG (AA (m:=NR _ _) (Tb (a:=DK) (by first | rfl | (simp only [NR];rfl)) (CG ?_ (by size_fits)))) (by size_fits));simp only [raiseNew];refine AA (wpAny_handled ?_);rw [show A.in1.handled=none from h0];refine AA (AL (wpAny_throw ?_));refine AA (Lm (T:="StopIteration") (b:=true) ⟨_,Ai _ rfl,rfl⟩ VP (AL ?_));exact kq _ (((Gz ..).extBut.push _).push _)
theorem Yd (h0:A.handled=none) (I:AM) (hne:d≠I):Walks prog w A I [I,d] [I] es.size (λi v=>∃h:i < es.size,v=es[i].key) (λi h=>h.IsKeyIter I d i es.size ep/\RD h d es ep) where
 sub:=λx hx=>by simp at hx;simp [hx]
 frame:=λ_ _ _ st keep=>⟨st.1.at λo e=>keep I (by simp) o e,st.2.at' λo e=>keep d (by simp) o e⟩
 item:=λi s Q E hi st kq=>aD st.1 st.2 hi λh' ki' hs'=>kq _ h' s.toks ⟨hi,rfl⟩ ⟨ki',st.2.at' λo e=>hs'.extBut d o hne e⟩ λb o hb e=>hs'.extBut b o (λh=>hb (by simp [h])) e
 done:=λs Q E st kq=>db h0 st.1 st.2 (AT _) λh' he'=>kq h' s.toks λb o hb e=>he' b o (λh=>hb (by simp [h])) e
 self:=λ_ _ _ _ st kq=>wpAny_pyIter_keyiter st.1 kq
theorem XN (lo:(d==Dy)=false):PySem.W.KdlSrc prog w "dict" d d es.size (λi v=>∃h:i < es.size,v=es[i].key) (λh=>RD h d es ep) where
 type:=λ_ hm=>hm.ty
 there:=λ_ hm=>⟨let ⟨_,ho,_⟩:=hm;Aa ho,let ⟨_,ho,_⟩:=hm;Aa ho⟩
 keep:=λ_ _ hm hk=>hm.at' λo e=>hk d (.inl rfl) o e
 notList:=by decide
 notTuple:=by decide
 hint:=λ_ _ _ _ hm hq=>PySem.W.kdl_hint_dict hm.ty hq
 iter:=λ_ _ h0 hm=>⟨_,_,(λ_ _ hq=>aE lo hm hq),Yd h0 _ (Av (let ⟨_,ho,_⟩:=hm;Aa ho)),⟨⟨_,Ai _ rfl,rfl,rfl⟩,hm.at' λo e=>AJ _ e⟩⟩
end
end Srt
namespace L2
open PySem PySem.Spec PyProof.Rows
open Srt (ltL)
theorem UU {α β:Type} {R:α->β->Prop} {l2 l2':List β} (p:l2.Perm l2'):∀ {l1:List α},HX R l1 l2->∃l1',HX R l1' l2'/\l1'.Perm l1:=by
 induction p with
 | nil=>intro l1 h;cases h;exact ⟨[],.nil,.refl _⟩
 | cons x _ ih=>
  intro l1 h
  cases h with
  | cons r t=>
   obtain ⟨l',h1,h2⟩:=ih t;exact ⟨_ :: l',.cons r h1,h2.cons _⟩
 | swap x y l=>
  intro l1 h
  cases h with
  | cons r t=>
   cases t with
   | cons r2 t=>exact ⟨_ :: _ :: _,.cons r2 (.cons r t),List.Perm.swap _ _ _⟩
 | trans _ _ ih1 ih2=>
  intro l1 h;obtain ⟨a,h1,h2⟩:=ih1 h;obtain ⟨b,h3,h4⟩:=ih2 h1;exact ⟨b,h3,h4.trans h2⟩
theorem M3 {α β γ:Type} {R:α->β->Prop} {f:α->γ} {g:β->γ}:∀ {l1:List α} {l2:List β},HX R l1 l2->(∀a∈l1,∀b,R a b->g b=f a)->l2.map g=l1.map f
 | _,_,.nil,_=>rfl
 | _,_,.cons r t,h=>by rw [A1,A1,h _ A3 _ r,M3 t λa ha=>h a (Ah _ ha)]
theorem Ps {α β:Type} {R:α->β->Prop}:∀ {l1:List α} {l2:List β} {b:β},HX R l1 l2->b∈l2->∃a∈l1,R a b
 | _,_,_,.nil,h=>nomatch h
 | _,_,b,.cons r t,h=>by
  rcases A2.mp h with h | h
  ·subst h;exact ⟨_,A3,r⟩
  ·obtain ⟨a,ha,e⟩:=Ps t h
   exact ⟨a,Ah _ ha,e⟩
def Q6:V->Int
 | .int n=>n
 | _=>0
def Ya (H:Hp):AD->List Int
 | .int n _=>[n]
 | .ref b=>match H b with
  | some (.tup xs)=>xs.map Q6
  | _=>[]
 | _=>[]
theorem Nm (r:List Int):(r.map V.int).map Q6=r:=by
 rw [BU];exact (EJ λa _=>rfl).trans (VC r)
def nK (K:AB) (H:Hp) (p:AM) (G:List V->Prop):Prop:=
 (∃vs,(SqL K H p vs∨SqT K H p vs)/\G vs)∨(∃kvs,H p=some (.dK kvs)/\G (kvs.map λx=>kV x.1)) ∨
  ∃kvs,H p=some (.dT kvs)/\∀bs:List AM,HX (λ(k:List Key×V) b=>H b=some (.tup (k.1.map kV))) kvs bs->G (bs.map V.ref)
def Rx (H:Hp) (f:V->List Int) (vs:List V):Prop:=(∀v∈vs,∃n,v=.int n/\f v=[n])∨∀v∈vs,∃b,v=.ref b/\H b=some (.tup ((f v).map V.int))/\f v≠[]
def lj (K:AB):List V->Hp->VK->Prop:=λxs H Q=>∃p,xs=[.ref p]/\nK K H p λvs=>∃f:V->List Int,Rx H f vs /\
 ∀out,out.Perm vs->out.Pairwise (λx y=>ltL (f y) (f x)=false)->∀l,H l=none->Q (.ref l) (upd H l (.lst out))
theorem Rx.rel {H:Hp} {f:V->List Int} {vs:List V} (h:Rx H f vs):∀v∈vs,∀u,RelV v u->Ya H u=f v:=λv hv u r=>by
 rcases h with h | h
 ·obtain ⟨n,rfl,e⟩:=h v hv
  obtain ⟨t,rfl⟩:=r;exact e.symm
 ·obtain ⟨b,rfl,e,_⟩:=h v hv
  cases r;show (match H b with | some (.tup xs)=>xs.map Q6 | _=>[])=_;rw [e];exact Nm _
theorem UF {X:Cx} {pins:List (AM×Obj)} {s:AE} {σ:St} {H:Hp} {p:AM} {G:List V->Prop} (hc:X.calm=true) (I:Inv X pins σ H s) (h:nK X.K H p G) :
  ∃vs its,G vs/\Bs vs its/\its.length<=sizeLine/\∀(R:List AD->AE->Prop) (E:AD->AE->Prop),(∀(g:Bu) (tk:Nat),(∀b o,s.heap.get? b=some o->g.get? b=some o)->R its { s with heap:=g,toks:=tk })->Ac (AZ X.prog X.w) X.A.in1 (collect (.ref p)) R E s:=by
 have hh:X.A.handled=none:=I.ok.hd hc
 rcases h with ⟨vs,sq,g⟩ | ⟨kvs,e,g⟩ | ⟨kvs,e,g⟩
 ·rcases sq with sq | sq
  ·obtain ⟨its,rv,pl,hz⟩:=I.list sq
   refine ⟨vs,its,g,rv,by rw [<-rv.length];exact hz,λR E k=>collect_list pl.isList (k _ s.toks λb o e=>?_) (by rw [<-rv.length];exact hz)⟩;rw [YC _ _ _ _ (Av (Aa e))];exact AJ _ e
  ·obtain ⟨its,rv,⟨o,ho,hcl,n,hd⟩,hz⟩:=I.tuple sq
   have hz':its.length<=sizeLine:=by rw [<-rv.length];exact hz
   exact ⟨vs,its,g,rv,hz',λR E k=>wpAny_collect_seq p (.inr rfl) ho hcl hd (λh' kp=>by simpa using k h' s.toks kp) (by simpa using hz')⟩
 ·obtain ⟨hz,sm,us,kv,o,es,ep,g1,g2,g3,g5,g6,_⟩:=(show DP X.prog X.w H s.heap p (.dK kvs) from I.hok p _ e)
  have hlen:es.size=kvs.length:=by
   have a1:=g6.length;have a2:kvs.length=us.length:=El kv;rw [Bq] at a1
   lia
  have hv:Bs (kvs.map λx=>kV x.1) (es.toList.map (·.key)):=by
   have key:∀ {l:List OE} {us:List (Key×AD)} {kvs:List (Key×V)},Pairs (EX X.prog X.w) l us->KV kvs us->Bs (kvs.map λx=>kV x.1) (l.map (·.key)):=by
    intro l us kvs hp
    induction hp generalizing kvs with
    | nil=>intro h;cases h;exact .nil
    | cons q1 q2 _ ih=>
     intro h
     cases h with
     | cons r t=>
      refine .cons ?_ (ih t);dsimp only;rw [r.1]
      rcases DW q1 with ⟨i,t,e1,e2⟩ | ⟨x,t,e1,e2⟩
      ·rw [e1,e2];exact ⟨t,rfl⟩
      ·rw [e1,e2];exact ⟨t,rfl⟩
   exact key g6 kv
  refine ⟨_,es.toList.map (·.key),g,hv,by rw [AI,Bq,hlen];exact hz,λR E k=>?_⟩
  refine U8 (Srt.XN (es:=es) (ep:=ep) sm) hh ⟨o,g1,g2,g3⟩ (by rw [hlen];exact hz) λg' tk acc kp ac=>?_
  have:acc.toList=es.toList.map (·.key):=by
   apply JQ
   intro j
   by_cases hj:j < es.size
   ·have hj2:j < acc.size:=by rw [ac.1];exact hj
    obtain ⟨_,e2⟩:=ac.2 j acc[j] (by simp [hj2]);simp [hj,hj2,e2]
   ·have hj2:¬j < acc.size:=by rw [ac.1];exact hj
    simp [hj,hj2]
  rw [this];exact k g' tk kp
 ·obtain ⟨hz,sm,xs,rr,o,es,ep,g1,g2,g3,g4,_⟩:=(show DP X.prog X.w H s.heap p (.dT kvs) from I.hok p _ e)
  have hlen:es.size=kvs.length:=by
   have a1:=congrArg Hm g4;have a2:kvs.length=xs.length:=El rr;rw [Bq,AI] at a1
   lia
  have hb:HX (λ(k:List Key×V) b=>H b=some (.tup (k.1.map kV))) kvs (xs.map (·.2.1)):=by
   have key:∀ {kvs:List (List Key×V)} {xs:List (List Key×AM×AD)},HX (λ(p:List Key×V) (q:List Key×AM×AD)=>p.1=q.1/\H q.2.1=some (.tup (p.1.map kV))/\RelV p.2 q.2.2) kvs xs->HX (λ(k:List Key×V) b=>H b=some (.tup (k.1.map kV))) kvs (xs.map (·.2.1)):=by
    intro kvs xs h
    induction h with
    | nil=>exact .nil
    | cons r _ ih=>exact .cons r.2.1 ih
   exact key rr
  have hk:es.toList.map (·.key)=(xs.map (·.2.1)).map BD:=by
   rw [g4,BU,BU];rfl
  have hv:∀l:List AM,Bs (l.map V.ref) (l.map BD):=λl=>by
   induction l with
   | nil=>exact .nil
   | cons a l ih=>exact .cons rfl ih
  refine ⟨_,(xs.map (·.2.1)).map BD,g _ hb,hv _,by rw [AI,AI,<-El rr];exact hz,λR E k=>?_⟩
  refine U8 (Srt.XN (es:=es) (ep:=ep) sm) hh ⟨o,g1,g2,g3⟩ (by rw [hlen];exact hz) λg' tk acc kp ac=>?_
  have:acc.toList=(xs.map (·.2.1)).map BD:=by
   rw [<-hk]
   apply JQ
   intro j
   by_cases hj:j < es.size
   ·have hj2:j < acc.size:=by rw [ac.1];exact hj
    obtain ⟨_,e2⟩:=ac.2 j acc[j] (by simp [hj2]);simp [hj,hj2,e2]
   ·have hj2:¬j < acc.size:=by rw [ac.1];exact hj
    simp [hj,hj2]
  rw [this];exact k g' tk kp
theorem UL {X:Cx} {s:AE} {H:Hp} {f:V->List Int} {vs:List V} {its:List AD} (I:∀b xs,H b=some (.tup xs)->∃is:List AD,Bs xs is/\Va s.heap b is.toArray) (h:Rx H f vs) (rv:Bs vs its) (h2:2<=its.length) {A:BC}:Srt.TY X.prog X.w A s its (Ya H):=by
 rcases id h with hi | ht
 ·have:∃ns,Cy its ns:=by
   have key:∀ {vs:List V} {its:List AD},Bs vs its->(∀v∈vs,∃n,v=.int n/\f v=[n])->∃ns,Cy its ns:=by
    intro vs its r
    induction r with
    | nil=>exact λ_=>⟨[],.nil⟩
    | cons r _ ih=>
     intro hv
     obtain ⟨ns,hns⟩:=ih λv hv'=>hv v (Ah _ hv')
     obtain ⟨n,rfl,_⟩:=hv _ A3;obtain ⟨t,rfl⟩:=r;exact ⟨n :: ns,.cons n t hns⟩
   exact key rv hi
  obtain ⟨ns,hns⟩:=this;obtain ⟨κ,k1,k2⟩:=Srt.YQ (prog:=X.prog) (w:=X.w) (A:=A) (s:=s) hns h2;refine ⟨κ,k1,λx y hx hy Q E q=>k2 x y hx hy Q E ?_⟩;obtain ⟨n,t,e1⟩:=hns.all _ (Srt.G4 hx).1;obtain ⟨m,u,e2⟩:=hns.all _ (Srt.G4 hy).1
  have e:Srt.ltK Srt.aa x y=Srt.ltK (Ya H) x y:=by
   unfold Srt.ltK Srt.aa;rw [e1,e2];rfl
  rw [e];exact q
 ·refine Srt.YO (λu hu=>?_) (by intro e;subst e;simp at h2)
  obtain ⟨v,hv,r⟩:=Ps rv hu;rw [h.rel v hv u r];obtain ⟨b,rfl,e,ne⟩:=ht v hv;cases r;refine ⟨⟨b,?_⟩,ne⟩;obtain ⟨is,r,o,ho,hcl,n,hd⟩:=I b _ e;exact ⟨is.toArray,rfl,⟨o,ho,hcl,n,hd⟩,by simpa using intsAre_of r⟩
theorem Y5 {X:Cx} (hc:X.calm=true):Hq X (.builtin "sorted") (lj X.K):=by
 intro pins s σ H xs us Q I r h;obtain ⟨p,rfl,src⟩:=h;obtain ⟨u,rfl,rx⟩:=vals1 r;cases rx;obtain ⟨vs,its,⟨f,rows,q⟩,rv,hz,col⟩:=UF hc I src;refine Calls.call_function_entry kind_sorted plain_sorted entry_sorted (args_sorted1 _) ?_;unfold Builtin.«sorted»;refine AA (m:=checkCount "sorted" 1 1 _) (AL (AA (col _ _ λg tk kp=>?_)));refine AA (wpAny_newList ?_ hz);have I1:Inv X pins σ H { s with heap:=g,toks:=tk }:=I.kept kp;have hl:(g.push (Ix "list" its.toArray 0)).get? g.objs.size=some (Ix "list" its.toArray 0):=Ai _ rfl;refine AA (EQ (CQ slot_list_sort ⟨_,hl,rfl⟩ entry_list_sort (Srt.Q7 (f:=Ya H) hl hz (λh2 s' keep=>?_) λout po so=>⟨_,rfl,AL ⟨_,rfl,?_⟩⟩) (args_list_sort _)))
 ·refine UL (λb xs e=>?_) rows rv h2
  obtain ⟨_,is,r,o,ho,hcl,n,hd⟩:=(show DP X.prog X.w H g b (.tup xs) from I1.hok b _ e);exact ⟨is,r,o,keep b o (Av (Aa ho)) (AJ _ ho),hcl,n,hd⟩
 ·obtain ⟨vo,ro,pv⟩:=UU po.symm rv
  have so':vo.Pairwise (λx y=>ltL (f y) (f x)=false):=by
   have e:out.toList.map (Ya H)=vo.map f:=M3 ro λa ha b rb=>rows.rel a (pv.mem_iff.mp ha) b rb
   have:=(Bf (f:=Ya H) (R:=λx y=>ltL y x=false)).mpr so;rw [e] at this;exact Bf.mp this
  obtain ⟨k,hk⟩:=sortedHeap_at (out:=out) hl
  have hlen:vo.length<=sizeLine:=by rw [pv.length_eq,rv.length];exact hz
  have I2:=I1.laid (a:=g.objs.size) (o:=.lst vo) (t':=tk) (h':=gk (g.push (Ix "list" its.toArray 0)) g.objs.size its out)
   (λb u z=>by
    have lt:b < g.objs.size:=Aa z;rw [sortedHeap_old (Av lt) (by rw [size_push'];exact Gy lt)]
    exact AJ _ z) (AT _) ⟨hlen,out.toList,k,ro,hk⟩
  exact ⟨.ref g.objs.size,_,I2,rfl,q vo pv so' _ (I1.hok.fresh (AT _))⟩
end L2
namespace L2
open PySem PySem.Spec PyProof.Rows
open Srt (ltL)
def Cp (ns:List Int):List Int:=ns.mergeSort (λa b=>decide (a<=b))
@[simp] theorem YR:Cp []=[]:=by unfold Cp;simp
theorem EV (ns:List Int):(Cp ns).Perm ns:=X9 ns _
theorem Mw (ns:List Int):(Cp ns).Pairwise (·<=·):=by
 have:=Tq (le:=λa b:Int=>decide (a<=b)) (by intro a b c h1 h2;simp at h1 h2 ⊢;lia) (by intro a b;simp;lia) ns
 exact this.imp λh=>by simpa using h
def Il (rs:List (List Int)):List (List Int):=rs.mergeSort (λa b=>!ltL b a)
theorem Fm (rs:List (List Int)):(Il rs).Perm rs:=X9 rs _
theorem Pl (rs:List (List Int)):(Il rs).Pairwise (λa b=>ltL b a=false):=by
 have:=Tq (le:=λa b:List Int=>!ltL b a) (by intro a b c h1 h2;simp at h1 h2 ⊢;exact Srt.O1 _ _ _ h1 h2) (by
  intro a b
  cases e:ltL b a with
  | false=>simp
  | true=>simp [Srt.K8 _ _ e]) rs
 exact this.imp λh=>by simpa using h
theorem RS {l l':List (List Int)} (p:l.Perm l') (h:l.Pairwise (λa b=>ltL b a=false)) (h':l'.Pairwise (λa b=>ltL b a=false)):l=l':=
 p.eq_of_pairwise (λa b _ _ h1 h2=>Srt.Sq a b h2 h1) h h'
def bI:Key->D
 | .inl i=>.int i
 | .inr x=>.str x
def J5 (d:D) (S:Sto):Option (List D):=match d with
 | .fro ds=>some ds
 | .tup ds=>some ds
 | .ref n=>match S[n]? with
  | some (.lst ds)=>some ds
  | some (.dK kvs)=>some (kvs.map λx=>bI x.1)
  | some (.dT kvs)=>some (kvs.map λx=>.tup (x.1.map bI))
  | _=>none
 | _=>none
def Lr (r:List Int):D:=.tup (r.map D.int)
def L0:List D->Option (List (List Int))
 | []=>some []
 | .tup ds :: r=>match Gc ds,L0 r with
  | some (n :: ns),some rs=>some ((n :: ns) :: rs)
  | _,_=>none
 | _ :: _=>none
def KY (ds:List D):Option (List D):=match Gc ds with
 | some ns=>some ((Cp ns).map D.int)
 | none=>match L0 ds with
  | some rs=>some ((Il rs).map Lr)
  | none=>none
def D6 (m:ME):ME:=λe S=>(m e S).bind λd S1=>match J5 d S1 with
 | some ds=>match KY ds with
  | some es=>.ok (.ref S1.length) (S1++[.lst es])
  | none=>.bad
 | none=>.bad
section
variable {X:Cx} {E:EW} {e:Expr} {p pos:Pos} {m:ME}
theorem eZ (x y:Int):ltL [y] [x]=decide (y < x):=by
 show (if y=x then false else decide (y < x))=_;split
 ·rename_i e;simp [e]
 ·rfl
def Q0 (H:Hp):V->List Int
 | .int n=>[n]
 | .ref b=>match H b with
  | some (.tup xs)=>xs.map Q6
  | _=>[]
 | _=>[]
theorem UM {K:AB} {ρ:List AM} {H:Hp}:∀ {ds:List D} {rs:List (List Int)} {vs:List V},L0 ds=some rs->Ay K ρ H ds vs->vs.map (Q0 H)=rs/\∀v∈vs,∃b,v=.ref b/\H b=some (.tup ((Q0 H v).map V.int))/\Q0 H v≠[]
 | [],_,_,h,.nil=>by cases h;exact ⟨rfl,λv hv=>nomatch hv⟩
 | .tup ts :: ds,rs,_,h,.cons r t=>by
  unfold L0 at h;split at h
  ·rename_i n ns rs' h1 h2
   cases h;obtain ⟨i1,i2⟩:=UM h2 t
   cases r with
   | @tup _ b ws hb rr=>
    have:=Jb h1;subst this;have:=rr.ints;subst this
    have e:Q0 H (.ref b)=n :: ns:=by
     show (match H b with | some (.tup xs)=>xs.map Q6 | _=>[])=_;rw [hb];exact Nm _
    refine ⟨by rw [A1,e,i1],λv hv=>?_⟩
    rcases A2.mp hv with hv | hv
    ·subst hv
     refine ⟨b,rfl,?_,?_⟩
     ·rw [e];exact hb
     ·rw [e];exact List.cons_ne_nil _ _
    ·exact i2 v hv
  ·cases h
 | .non :: _,_,_,h,_=>by cases h
 | .bl _ :: _,_,_,h,_=>by cases h
 | .int _ :: _,_,_,h,_=>by cases h
 | .str _ :: _,_,_,h,_=>by cases h
 | .fro _ :: _,_,_,h,_=>by cases h
 | .ref _ :: _,_,_,h,_=>by cases h
 | .exc _ :: _,_,_,h,_=>by cases h
theorem UP {K:AB} {ρ:List AM} {H:Hp}:∀ {vs:List V},(∀v∈vs,∃b,v=.ref b/\H b=some (.tup ((Q0 H v).map V.int))/\Q0 H v≠[])->Ay K ρ H ((vs.map (Q0 H)).map Lr) vs
 | [],_=>.nil
 | v :: vs,h=>by
  obtain ⟨b,e,hb,_⟩:=h v A3;refine .cons ?_ (UP λu hu=>h u (Ah _ hu));subst e;exact .tup hb (Ay.of_ints _)
theorem Z1 {K:AB} {ρ:List AM} {H:Hp} {ds es:List D} {vs:List V} (h:KY ds=some es) (r:Ay K ρ H ds vs) :
  ∃f:V->List Int,Rx H f vs/\∀out,out.Perm vs->out.Pairwise (λx y=>ltL (f y) (f x)=false)->Ay K ρ H es out:=by
 unfold KY at h;split at h
 ·rename_i ns hz
  cases h;have:=Jb hz;subst this;have:=r.ints;subst this;refine ⟨λv=>[Q6 v],.inl λv hv=>?_,λout po so=>?_⟩
  ·obtain ⟨n,_,rfl⟩:=A4.mp hv
   exact ⟨n,rfl,rfl⟩
  ·have e1:out=(out.map Q6).map V.int:=by
    rw [BU]
    conv=>lhs;rw [<-Wt out]
    refine EJ λv hv=>?_
    obtain ⟨n,_,rfl⟩:=A4.mp (po.mem_iff.mp hv);rfl
   have e2:out.map Q6=Cp ns:=by
    have p1:(out.map Q6).Perm (Cp ns):=by
     have:=po.map Q6;rw [Nm] at this;exact this.trans (EV ns).symm
    refine p1.eq_of_pairwise (λa b _ _ h1 h2=>gC h1 h2) ?_ (Mw ns);rw [Bf]
    refine so.imp λ{x y} hxy=>?_
    rw [eZ] at hxy;simp at hxy;exact hxy
   rw [e1,e2];exact Ay.of_ints _
 ·split at h
  ·rename_i rs hr
   cases h;obtain ⟨i1,i2⟩:=UM hr r;refine ⟨Q0 H,.inr i2,λout po so=>?_⟩
   have e2:out.map (Q0 H)=Il rs:=by
    refine RS ?_ (Bf.mpr so) (Pl rs);have:=po.map (Q0 H);rw [i1] at this;exact this.trans (Fm rs).symm
   rw [<-e2]
   exact UP λv hv=>i2 v (po.mem_iff.mp hv)
  ·cases h
theorem QB {K:AB} {ρ:List AM} {H:Hp}:∀ks:List Key,Ay K ρ H (ks.map bI) (ks.map kV)
 | []=>.nil
 | .inl i :: ks=>.cons (.int i) (QB ks)
 | .inr x :: ks=>.cons (.str x) (QB ks)
theorem QA {K:AB} {ρ:List AM} {H:Hp}:∀ {kvs:List (Key×D)} {kvs':List (Key×V)},KVR K ρ H kvs kvs'->Ay K ρ H (kvs.map λx=>bI x.1) (kvs'.map λx=>kV x.1)
 | _,_,.nil=>.nil
 | (k,_) :: _,(k',_) :: _,.cons r t=>by
  have e:k=k':=r.1;subst e
  cases k with
  | inl i=>exact .cons (.int i) (QA t)
  | inr x=>exact .cons (.str x) (QA t)
theorem Uf {K:AB} {ρ:List AM} {H:Hp}:∀ {kvs:List (List Key×D)} {kvs':List (List Key×V)} {bs:List AM},KVR K ρ H kvs kvs'->HX (λ(k:List Key×V) b=>H b=some (.tup (k.1.map kV))) kvs' bs->Ay K ρ H (kvs.map λx=>.tup (x.1.map bI)) (bs.map V.ref)
 | _,_,_,.nil,.nil=>.nil
 | (k,_) :: _,(k',_) :: _,_,.cons r t,.cons r2 t2=>by
  have e:k=k':=r.1;subst e;exact .cons (.tup r2 (QB k)) (Uf t t2)
theorem Fy (hc:X.calm=true) (hg:Gl X "sorted") (hm:X.mg "sorted" = none) (h:GE X E e m) (he:Ab [e] X.env=(false,CS e X.env) :: Ab [] X.env:=by rfl):GE X E (.Call (.Name "sorted" p) [e] [] pos) (D6 m):=
 (M2 (Y5 hc) hg hm nT (FI h Hd he) (by decide) (by decide) he rfl).imp λσ H Q ⟨ρ,l,S,hl,hs,hm⟩=>by
 refine ⟨ρ,l,S,hl,hs,hm.seq λd S1 hm ρ1 H1 x l1 s1 r1=>?_⟩
 cases hq:J5 d S1 with
 | none=>rw [hq] at hm;exact hm.elim
 | some ds=>
  rw [hq] at hm;dsimp only at hm
  cases hi:KY ds with
  | none=>rw [hi] at hm;exact hm.elim
  | some es=>
   rw [hi] at hm
   have fin:∀vs:List V,Ay X.K ρ1 H1 es vs->∀q,H1 q=none->Q (.ref q) (upd H1 q (.lst vs)):=λvs rr q hq=>by
    have le:Le X.K ρ1 H1 (ρ1++[q]) (upd H1 q (.lst vs)):=Le.alloc hq;obtain ⟨s4,l4,at4⟩:=s1.alloc (ho:=.lst vs) (o:=.lst es) hq ⟨_,Bw,rr.mono le⟩;exact hm _ _ _ (l1.trans l4) s4 (.ref at4)
   have out:∀vs,Ay X.K ρ1 H1 ds vs->∃f:V->List Int,Rx H1 f vs/\∀out,out.Perm vs->out.Pairwise (λx y=>ltL (f y) (f x)=false)->∀l,H1 l=none->Q (.ref l) (upd H1 l (.lst out)):=λvs rr=>by
    obtain ⟨f,k1,k2⟩:=Z1 hi rr;exact ⟨f,k1,λout po so=>fin out (k2 out po so)⟩
   cases r1 with
   | fro h1 h2=>cases hq;exact ⟨_,rfl,.inl ⟨_,.inl h1.sq,out _ h2⟩⟩
   | tup h1 h2=>cases hq;exact ⟨_,rfl,.inl ⟨_,.inr (.inl (.inl h1)),out _ h2⟩⟩
   | @ref n a hn=>
    obtain ⟨o,ho,ro⟩:=s1.there hn;unfold J5 at hq;simp only [ho] at hq
    cases o with
    | lst ys=>cases hq;obtain ⟨vs,e,rr⟩:=ro;exact ⟨_,rfl,.inl ⟨vs,.inl (.inl (.inl e)),out _ rr⟩⟩
    | dK kvs=>cases hq;obtain ⟨vs,e,rr⟩:=ro;exact ⟨_,rfl,.inr (.inl ⟨vs,e,out _ (QA rr)⟩)⟩
    | dT kvs=>cases hq;obtain ⟨vs,e,rr⟩:=ro;exact ⟨_,rfl,.inr (.inr ⟨vs,e,λbs hb=>out _ (Uf rr hb)⟩)⟩
    | ins C fs=>cases hq
   | _=>cases hq
end
end L2
namespace L2
open PySem PySem.Spec PyProof.Rows
theorem WL {K:AB} {t:String} (h:∀A∈["NoneType", "bool", "int", "str", "tuple", "list", "dict"],D7 K (.type A) (.type t)=gY t A):∀A b,isB t A=some b->D7 K (.type A) (.type t)=some b:=λA b e=>by
 unfold isB at e;split at e
 ·rename_i hA
  rw [h A (by simpa using hA)];exact e
 ·cases e
theorem Yr {K:AB}:∀A b,isB "tuple" A=some b->D7 K (.type A) (.type "tuple")=some b:=WL λA h=>by
 simp only [A2,FT,or_false] at h
 rcases h with rfl | rfl | rfl | rfl | rfl | rfl | rfl <;> kernel_rfl
theorem ej {K:AB}:∀A b,isB "int" A=some b->D7 K (.type A) (.type "int")=some b:=WL λA h=>by
 simp only [A2,FT,or_false] at h
 rcases h with rfl | rfl | rfl | rfl | rfl | rfl | rfl <;> kernel_rfl
theorem bN {K:AB}:∀A b,isB "bool" A=some b->D7 K (.type A) (.type "bool")=some b:=WL λA h=>by
 simp only [A2,FT,or_false] at h
 rcases h with rfl | rfl | rfl | rfl | rfl | rfl | rfl <;> kernel_rfl
end L2
namespace L2
open PySem PySem.Spec PyProof.Rows
def Z0 (K:AB):Sp:=λvs H Q _=>∃(a:AM) (ns:List Int),vs=[.ref a]/\RE K H a (ns.map V.int)/\ns.length<=63/\∀H',Q (.bl true) H'
theorem bF {P:Ap} {w:BE} {K:AB} {mg:Str->Option AD} {base:Bu} {k:Nat} {fa:AM} {fd:Df} {f:List D->Sto->Res D} (F:Dq P w K mg base (CXG P w) k fa fd ["script"] (spM K 1 f))
  (h:∀ns:List Int,ns.length<=63->∃S',f [.fro (ns.map D.int)] []=.ok (.bl true) S'):Dq P w K mg base (CXG P w) k fa fd ["script"] (Z0 K):=F.imp λvs H Q E ⟨a,ns,e,hS,hl,q⟩=>by
 subst e;obtain ⟨S',e⟩:=h ns hl;refine ⟨[],[.fro (ns.map D.int)],[],rfl,.cons (.fro hS (Ay.of_ints ns)) .nil,⟨rfl,λi j a hi=>by simp at hi,λn o a hn=>by simp at hn⟩,?_⟩;rw [e]
 exact λρ' H' x _ _ r=>by cases r;exact q H'
theorem j4 {K:AB} {H:Hp} {a:AM} {ns:List Int} (hO:fm H) (hS:SqL K H a (ns.map V.int)):RE K H a (ns.map V.int):=by
 rcases hS with (h | h) | h
 ·rcases hO a with z | ⟨o,xs,z⟩ <;> rw [z] at h <;> cases h
 ·exact .inl h
 ·exact .inr h
theorem kE {P:Ap} {w:BE} {H:Hp} {s:AE} {e:AD} {s':AE} (h:CXG P w [] H s (λ_ _ _=>False) e s'):False:=by
 obtain ⟨_,_,_,_,_,_,_,_,_,z⟩:=h;exact z
end L2
namespace L2
open PySem
def ge (I:Lo->Sto->Prop) (R:Fl->Sto->Prop) (f:Fl) (S:Sto):Prop:=match f with
 | .nx e=>I e S
 | .ct e=>I e S
 | .bk e=>R (.nx e) S
 | .rt d=>R (.rt d) S
 | .ex c e=>R (.ex c e) S
theorem fJ {v:JJ} {g:MG} {b:MS} {xs:List D} (I:Nat->Lo->Sto->Prop) (R:Fl->Sto->Prop) (hv:∀i e S,I i e S->v S=some xs)
  (step:∀i d e S,xs[i]?=some d->I i e S->∃e1 S1,g d e S=.ok e1 S1/\∃f S2,b e1 S1=.ok f S2/\ge (I (i+1)) R f S2)
  (fin:∀e S,I xs.length e S->R (.nx e) S):∀(k i:Nat) (e:Lo) (S:Sto),I i e S->i<=xs.length->xs.length<=i+k->∃f S',Kd v g b k i e S=.ok f S'/\R f S':=by
 intro k
 induction k with
 | zero=>
  intro i e S h h1 h2
  have:i=xs.length:=by lia
  subst this;refine ⟨.nx e,S,?_,fin e S h⟩;unfold Kd;rw [hv _ e S h];simp
 | succ k ih=>
  intro i e S h h1 h2;unfold Kd;rw [hv _ e S h];dsimp only
  by_cases hi:i < xs.length
  ·have hd:xs[i]?=some xs[i]:=by simp [hi]
   rw [hd];dsimp only;obtain ⟨e1,S1,q1,f,S2,q2,t⟩:=step i _ e S hd h;rw [q1];dsimp only [Res.bind];rw [q2];dsimp only [Res.bind]
   cases f with
   | nx e2=>exact ih (i+1) e2 S2 t (by lia) (by lia)
   | ct e2=>exact ih (i+1) e2 S2 t (by lia) (by lia)
   | bk e2=>exact ⟨_,_,rfl,t⟩
   | rt d=>exact ⟨_,_,rfl,t⟩
   | ex c e2=>exact ⟨_,_,rfl,t⟩
  ·have:i=xs.length:=by lia
   subst this;rw [show xs[xs.length]?=none by simp];exact ⟨.nx e,S,rfl,fin e S h⟩
theorem Ny {v:JJ} {g:MG} {b:MS} {xs:List D} {e:Lo} {S:Sto} (I:Nat->Lo->Sto->Prop) (R:Fl->Sto->Prop) (h0:I 0 e S) (hv:∀i e S,I i e S->v S=some xs)
  (step:∀i d e S,xs[i]?=some d->I i e S->∃e1 S1,g d e S=.ok e1 S1/\∃f S2,b e1 S1=.ok f S2/\ge (I (i+1)) R f S2)
  (fin:∀e S,I xs.length e S->R (.nx e) S):∃f S',Kd v g b (De v S) 0 e S=.ok f S'/\R f S':=by
 have hl:De v S=xs.length:=by unfold De;rw [hv 0 e S h0]
 rw [hl];exact fJ I R hv step fin _ _ _ _ h0 (DI _) (by lia)
theorem bu {v:JJ} {g:MG} {c:MT} {m:ME} {xs:List D} (I:Nat->Lo->Sto->List D->Prop) (hv:∀i e S acc,I i e S acc->v S=some xs)
  (step:∀i d e S acc,xs[i]?=some d->I i e S acc->acc.length < sizeLine/\∃e1 S1,g d e S=.ok e1 S1/\∃b S2,c e1 S1=.ok b S2/\((b=true/\∃y S3,m e1 S2=.ok y S3/\I (i+1) e1 S3 (acc++[y]))∨(b=false/\I (i+1) e1 S2 acc))) :
  ∀(k i:Nat) (e:Lo) (S:Sto) (acc:List D),I i e S acc->i<=xs.length->xs.length<=i+k->∃r S',F0 v g c m k i e S acc=.ok r S'/\∃e',I xs.length e' S' r:=by
 intro k
 induction k with
 | zero=>
  intro i e S acc h h1 h2
  have:i=xs.length:=by lia
  subst this;refine ⟨acc,S,?_,e,h⟩;unfold F0;rw [hv _ e S acc h];simp
 | succ k ih=>
  intro i e S acc h h1 h2;unfold F0;rw [hv _ e S acc h];dsimp only
  by_cases hi:i < xs.length
  ·have hd:xs[i]?=some xs[i]:=by simp [hi]
   rw [hd];dsimp only;obtain ⟨hz,e1,S1,q1,b,S2,q2,t⟩:=step i _ e S acc hd h;rw [if_pos hz,q1];dsimp only [okR,Res.bind];rw [q2];dsimp only [okR,Res.bind]
   rcases t with ⟨rfl,y,S3,q3,t⟩ | ⟨rfl,t⟩
   ·rw [if_pos rfl,q3]
    exact ih (i+1) e1 S3 _ t (by lia) (by lia)
   ·rw [if_neg AQ]
    exact ih (i+1) e1 S2 acc t (by lia) (by lia)
  ·have:i=xs.length:=by lia
   subst this;rw [show xs[xs.length]?=none by simp];exact ⟨acc,S,rfl,e,h⟩
theorem Xr {v:JJ} {g:MG} {c:MT} {m:ME} {xs:List D} {e:Lo} {S:Sto} (I:Nat->Lo->Sto->List D->Prop) (h0:I 0 e S []) (hv:∀i e S acc,I i e S acc->v S=some xs)
  (step:∀i d e S acc,xs[i]?=some d->I i e S acc->acc.length < sizeLine/\∃e1 S1,g d e S=.ok e1 S1/\∃b S2,c e1 S1=.ok b S2/\((b=true/\∃y S3,m e1 S2=.ok y S3/\I (i+1) e1 S3 (acc++[y]))∨(b=false/\I (i+1) e1 S2 acc))) :
  ∃r S',F0 v g c m (De v S) 0 e S []=.ok r S'/\∃e',I xs.length e' S' r:=by
 have hl:De v S=xs.length:=by unfold De;rw [hv 0 e S [] h0]
 rw [hl];exact bu I hv step _ _ _ _ _ h0 (DI _) (by lia)
theorem jc {j:Int} (h:-1000000<=j):-(2 ^ 62)<=j:=Int.le_trans (by decide) h
theorem jm {j:Int} (h:j<=1000000):j < 2 ^ 62:=Int.lt_of_le_of_lt h (by decide)
theorem bP {ml:ML} {e:Lo} {S S1:Sto} {j:Int} (h:ml e S=.ok [.int j] S1) (h0:-1000000<=j) (h1:j<=1000000):iR1 ml e S=.ok (Gr (IN 0 j.toNat)) S1:=by
 unfold iR1;rw [h];dsimp only [Res.bind];rw [if_pos ⟨jc h0,jm h1⟩]
theorem jk {ml:ML} {e:Lo} {S S1:Sto} {i j:Int} (h:ml e S=.ok [.int i,.int j] S1) (h0:-1000000<=i) (h1:i<=1000000) (h2:-1000000<=j) (h3:j<=1000000):iR2 ml e S=.ok (Gr (IN i (j - i).toNat)) S1:=by
 unfold iR2;rw [h];dsimp only [Res.bind];rw [if_pos ⟨jc h0,jm h1,jc h2,jm h3⟩]
theorem Yb (lo:Int) (n:Nat):(IN lo n).length=n:=by simp [IN]
theorem aB {lo:Int} {n i:Nat} {d:D} (h:(IN lo n)[i]?=some d):i < n/\d=.int (lo+i):=by
 rw [RX] at h;split at h
 ·rename_i hi
  cases h;exact ⟨hi,rfl⟩
 ·cases h
theorem bf {i j:Int} {S:Sto} (h:0 < j) (h1:j<=1000000):QM (.int i) (.int j) S=.ok (.int (i / j)) S:=by
 show (if fu i j then _ else _)=_;rw [if_pos ⟨h,by lia⟩]
theorem XW {i j:Int} {S:Sto} (h:0 < j):Np (.int i) (.int j) S=.ok (.int (i % j)) S:=by
 show (if 0 < j then _ else _)=_;rw [if_pos h]
theorem Dj {f:D->D->Sto->Res D} {ma mb:ME} {e:Lo} {S S1 S2 S3:Sto} {x y d:D} (ha:ma e S=.ok x S1) (hb:mb e S1=.ok y S2) (hf:f x y S2=.ok d S3):m2 f ma mb e S=.ok d S3:=by
 unfold m2;rw [ha];dsimp only [Res.bind];rw [hb];dsimp only [Res.bind];rw [hf];rfl
theorem JE {m:ME} {e:Lo} {S S1:Sto} {d:D} {i:Nat} (h:m e S=.ok d S1):CP i m e S=.ok (.nx (e.set i (some d))) S1:=by
 unfold CP lh;rw [h];rfl
theorem MD {m:ME} {e:Lo} {S S1:Sto} {d:D} (h:m e S=.ok d S1):Ct m e S=.ok (.rt d) S1:=by
 unfold Ct;rw [h];rfl
theorem Lk {m:ME} {e:Lo} {S S1:Sto} {d:D} (h:m e S=.ok d S1):GP m e S=.ok (.nx e) S1:=by
 unfold GP;rw [h];rfl
theorem Gs {t:MT} {a b:MS} {e:Lo} {S S1:Sto} {c:Bool} (h:t e S=.ok c S1):sIf t a b e S=if c=true then a e S1 else b e S1:=by
 unfold sIf;rw [h];rfl
theorem bM {t:MT} {a b:ME} {e:Lo} {S S1:Sto} {c:Bool} (h:t e S=.ok c S1):ax t a b e S=if c=true then a e S1 else b e S1:=by
 unfold ax;rw [h];rfl
theorem LF {m:MI} {g:MG} {b:MS} {e:Lo} {S S1:Sto} {v:JJ} (h:m e S=.ok v S1):GN m g b e S=Kd v g b (De v S1) 0 e S1:=by
 unfold GN;rw [h];rfl
theorem NH {n:Nat} {f:List D->Sto->Res D} {m:ML} {e:Lo} {S S1:Sto} {ds:List D} (h:m e S=.ok ds S1) (hn:ds.length=n):B7 n f m e S=f ds S1:=by
 unfold B7;rw [h];dsimp only [Res.bind];rw [if_pos hn]
theorem CV {a b:MS} {e e1:Lo} {S S1:Sto} (h:a e S=.ok (.nx e1) S1):BN a b e S=b e1 S1:=by unfold BN;rw [h];rfl
theorem Pn {a b:MS} {e:Lo} {S S1:Sto} {d:D} (h:a e S=.ok (.rt d) S1):BN a b e S=.ok (.rt d) S1:=by unfold BN;rw [h];rfl
def Keeps (S S':Sto):Prop:=S.length<=S'.length/\∀j,j < S.length->S'[j]?=S[j]?
theorem Keeps.refl (S:Sto):Keeps S S:=⟨AT _,λ_ _=>rfl⟩
theorem Keeps.trans {S S1 S2:Sto} (a:Keeps S S1) (b:Keeps S1 S2):Keeps S S2:=⟨Am a.1 b.1,λj h=>(b.2 j (Ag h a.1)).trans (a.2 j h)⟩
theorem Keeps.app (S:Sto) (G:Sto):Keeps S (S++G):=⟨by simp,λj h=>Ak h⟩
theorem Keeps.set {S S1:Sto} (a:Keeps S S1) {m:Nat} (h:S.length<=m) (o:Ob):Keeps S (S1.set m o):=⟨by simpa using a.1,λj hj=>by rw [At (by lia)];exact a.2 j hj⟩
theorem Keeps.at {S S1:Sto} (a:Keeps S S1) {j:Nat} {o:Ob} (h:S[j]?=some o):S1[j]?=some o:=by
 rw [a.2 j (AH.mp h).1];exact h
theorem TU {mo ma:ME} {e:Lo} {S S1 S2:Sto} {n:Nat} {xs xs2:List D} {y:D} (h1:mo e S=.ok (.ref n) S1) (h2:S1[n]?=some (.lst xs)) (h3:ma e S1=.ok y S2) (h4:S2[n]?=some (.lst xs2)) (h5:xs2.length < sizeLine) :
  Od mo ma e S=.ok .non (S2.set n (.lst (xs2++[y]))):=by
 unfold Od;rw [h1];dsimp only [Res.bind];rw [h2];dsimp only;rw [h3];dsimp only [Res.bind];rw [h4];dsimp only;rw [if_pos h5]
theorem Y0 {mo ma:ME} {e:Lo} {S S1 S2:Sto} {n k:Nat} {xs xs2 ys:List D} (h1:mo e S=.ok (.ref n) S1) (h2:S1[n]?=some (.lst xs)) (h3:ma e S1=.ok (.ref k) S2) (h4:S2[n]?=some (.lst xs2)) (h5:S2[k]?=some (.lst ys)) (hk:k≠n) (h6:xs2.length+ys.length<=sizeLine) :
  J3 mo ma e S=.ok .non (S2.set n (.lst (xs2++ys))):=by
 unfold J3;rw [h1];dsimp only [Res.bind]
 have a1:atL (.ref n) S1=some (n,xs):=by unfold atL;dsimp only;rw [h2]
 have a2:atL (.ref n) S2=some (n,xs2):=by unfold atL;dsimp only;rw [h4]
 have a3:atL (.ref k) S2=some (k,ys):=by unfold atL;dsimp only;rw [h5]
 rw [a1];dsimp only;rw [h3];dsimp only [Res.bind];rw [a2,a3];dsimp only;rw [if_pos ⟨hk,h6⟩]
theorem dF {xs ys:List D} {S:Sto} (h:xs.length+ys.length<=sizeLine):Hi (.tup xs) (.tup ys) S=.ok (.tup (xs++ys)) S:=by
 unfold Hi;dsimp only;rw [if_pos h]
theorem Ej {n:Nat} {S:Sto} {xs:List D} (h:S[n]?=some (.lst xs)):GJ (.ref n) S=some xs:=by
 unfold GJ OG;dsimp only;rw [h]
theorem LC {m:ME} {e:Lo} {S S1:Sto} {n:Nat} {xs:List D} (h:m e S=.ok (.ref n) S1) (hx:S1[n]?=some (.lst xs)):Dg m e S=.ok (GJ (.ref n)) S1:=by
 unfold Dg;rw [h];dsimp only [Res.bind];rw [Ej hx]
theorem QF {m:ME} {e:Lo} {S S1:Sto} {xs:List D} (h:m e S=.ok (.tup xs) S1):Dg m e S=.ok (Gr xs) S1:=by
 unfold Dg;rw [h];rfl
theorem WA {ml:ML} {e:Lo} {S S1:Sto} {ds:List D} (h:ml e S=.ok ds S1):Da ml e S=.ok (.ref S1.length) (S1++[.lst ds]):=by
 unfold Da;rw [h];rfl
theorem FQ (S:Sto) (o:Ob):(S++[o])[S.length]?=some o:=by simp
theorem GM {n:Nat} {S:Sto} {ds:List D} (h:S[n]?=some (.lst ds)):G1 (.ref n) S=some ds:=by
 unfold G1;dsimp only;rw [h]
theorem MV {n:Nat} {S:Sto} {ds:List D} (h:S[n]?=some (.lst ds)):J5 (.ref n) S=some ds:=by
 unfold J5;dsimp only;rw [h]
theorem JV {m:ME} {e:Lo} {S S1:Sto} {d:D} {ds es:List D} (h:m e S=.ok d S1) (hi:J5 d S1=some ds) (hs:KY ds=some es):D6 m e S=.ok (.ref S1.length) (S1++[.lst es]):=by
 unfold D6;rw [h];dsimp only [Res.bind];rw [hi];dsimp only;rw [hs]
theorem Mv {m:ME} {e:Lo} {S S1:Sto} {d:D} {ds:List D} (h:m e S=.ok d S1) (hq:G1 d S1=some ds):G6 m e S=.ok (.tup ds) S1:=by
 unfold G6;rw [h];dsimp only [Res.bind];rw [hq]
theorem bB {m:ME} {e:Lo} {S S1:Sto} {d:D} {ds:List D} (h:m e S=.ok d S1) (hq:G1 d S1=some ds):M9 m e S=.ok (.int ds.length) S1:=by
 unfold M9;rw [h];dsimp only [Res.bind];rw [hq]
theorem SR {C:AM} {f:Str} {mo mv:ME} {e:Lo} {S S1 S2:Sto} {n:Nat} {fs:List (Str×D)} {v:D} (hv:mv e S=.ok v S1) (ho:mo e S1=.ok (.ref n) S2) (hs:S2[n]?=some (.ins C fs)) (hl:fs.length < 1000) :
  RU C f mo mv e S=.ok (.nx e) (S2.set n (.ins C (OY f v fs))):=by
 unfold RU;rw [hv];dsimp only [Res.lift];rw [ho];dsimp only [Res.lift];rw [hs];dsimp only;rw [if_pos ⟨rfl,hl⟩]
theorem bd {C:AM} {f:Str} {m:ME} {e:Lo} {S S1:Sto} {n:Nat} {fs:List (Str×D)} {v:D} (h:m e S=.ok (.ref n) S1) (hs:S1[n]?=some (.ins C fs)) (hl:fs.lookup f=some v):Oc C f m e S=.ok v S1:=by
 unfold Oc;rw [h];dsimp only [Res.bind];rw [hs];dsimp only;rw [if_pos rfl,hl]
theorem eV {C:AM} {n:Nat} {f:List D->Sto->Res D} {ml:ML} {e:Lo} {S S1 S2:Sto} {ds:List D} (h:ml e S=.ok ds S1) (hn:ds.length+1=n) (hf:f (.ref S1.length :: ds) (S1++[.ins C []])=.ok .non S2):Rg C n f ml e S=.ok (.ref S1.length) S2:=by
 unfold Rg;rw [h];dsimp only [Res.bind];rw [if_pos hn,hf]
theorem Cg {m:ME} {r:ML} {e:Lo} {S S1 S2:Sto} {d:D} {ds:List D} (h:m e S=.ok d S1) (hr:r e S1=.ok ds S2):AR m r e S=.ok (d :: ds) S2:=by
 unfold AR;rw [h];dsimp only [Res.bind];rw [hr]
theorem TH {n:Nat} {mi:MI} {g:MG} {c:MT} {m:ME} {e:Lo} {S S1:Sto} {v:JJ} (h:mi e S=.ok v S1):Di n mi g c m e S=F0 v g c m (De v S1) 0 (BY n none++e) S1 []:=by
 unfold Di;rw [h];rfl
theorem RF {m:ME} {e:Lo} {S S1:Sto} {b:Bool} (h:m e S=.ok (.bl b) S1):mB m e S=.ok b S1:=by
 unfold mB;rw [h];rfl
theorem gX {f g:D->D->Sto->Res D} {ma mb mc:ME} {e:Lo} {S S1 S2 S3 S4 S5:Sto} {x y w d:D} (ha:ma e S=.ok x S1) (hb:mb e S1=.ok y S2) (hf:f x y S2=.ok (.bl true) S3) (hc:mc e S3=.ok w S4) (hg:g y w S4=.ok d S5):m3 f g ma mb mc e S=.ok d S5:=by
 unfold m3;rw [ha];dsimp only [Res.bind];rw [hb];dsimp only [Res.bind];rw [hf];dsimp only [Res.bind,okR];rw [hc];dsimp only [Res.bind];rw [hg]
theorem mR {f g:D->D->Sto->Res D} {ma mb mc:ME} {e:Lo} {S S1 S2 S3:Sto} {x y:D} (ha:ma e S=.ok x S1) (hb:mb e S1=.ok y S2) (hf:f x y S2=.ok (.bl false) S3):m3 f g ma mb mc e S=.ok (.bl false) S3:=by
 unfold m3;rw [ha];dsimp only [Res.bind];rw [hb];dsimp only [Res.bind];rw [hf];rfl
theorem bD {i j:Int} {S:Sto} {b:Bool} (h:decide (i<=j)=b):leD (.int i) (.int j) S=.ok (.bl b) S:=by subst h;rfl
theorem jZ {i j:Int} {S:Sto} {b:Bool} (h:decide (i < j)=b):ltD (.int i) (.int j) S=.ok (.bl b) S:=by subst h;rfl
theorem j3 {i j:Int} {S:Sto} {b:Bool} (h:decide (j<=i)=b):geD (.int i) (.int j) S=.ok (.bl b) S:=by subst h;rfl
theorem kB {i j:Int} {S:Sto} {b:Bool} (h:decide (i=j)=b):eqD false (.int i) (.int j) S=.ok (.bl b) S:=by
 subst h;show Res.ok (D.bl (i==j)) S=_;rfl
theorem MP {m:MT} {e:Lo} {S S1:Sto} {b:Bool} (h:m e S=.ok b S1):MU m e S=.ok (!b) S1:=by
 unfold MU;rw [h];rfl
theorem Vq {ml:ML} {e:Lo} {S S1:Sto} {ds:List D} (h:ml e S=.ok ds S1) (hl:ds.length<=1000):Gp ml e S=.ok (.tup ds) S1:=by
 unfold Gp;rw [h];dsimp only [Res.bind];rw [if_pos (Am hl (by decide))]
theorem jH {ta tb:MT} {e:Lo} {S S1:Sto} (h:ta e S=.ok true S1):mOr ta tb e S=.ok true S1:=by
 unfold mOr;rw [h];rfl
theorem aZ {ta tb:MT} {e:Lo} {S S1:Sto} (h:ta e S=.ok false S1):mOr ta tb e S=tb e S1:=by
 unfold mOr;rw [h];rfl
theorem TW {ta tb:MT} {e:Lo} {S S1:Sto} (h:ta e S=.ok true S1):Nr ta tb e S=tb e S1:=by
 unfold Nr;rw [h];rfl
theorem Xz {ta tb:MT} {e:Lo} {S S1:Sto} (h:ta e S=.ok false S1):Nr ta tb e S=.ok false S1:=by
 unfold Nr;rw [h];rfl
theorem gK {m:ME} {e:Lo} {S S1:Sto} {d:D} {ds:List D} (h:m e S=.ok d S1) (hq:G1 d S1=some ds):MR m e S=.ok ds S1:=by
 unfold MR;rw [h];dsimp only [Res.bind];rw [hq]
theorem Ye {f:List D->Sto->Res D} {ml:ML} {e:Lo} {S S1 S2:Sto} {ds:List D} {d:D} (h:ml e S=.ok ds S1) (hf:f ds S1=.ok d S2):mQ f ml e S=.ok d S2:=by
 unfold mQ;rw [h];dsimp only [Res.bind];rw [hf];rfl
theorem K9 {n:Nat} {S:Sto} {ds:List D} (h:S[n]?=some (.lst ds)):Oe (.ref n) S=some ds:=by
 unfold Oe;dsimp only;rw [h]
end L2
namespace L2
open PySem PySem.Spec PyProof.Rows
section
variable {X:Cx} {E:EW} {e:Expr} {tg:Expr}
end
section
variable {X:Cx} {E:EW} {e:Expr} {es:List Expr} {p pos p2:Pos} {x1:Nat} {m:ME} {c:V} {cs:List V} {Cs:List AM} {tabC:AM->Option Bool}
end
end L2
namespace L2
open PySem PySem.Spec PyProof.Rows
section
variable {X:Cx} {E:EW} {e st:Expr} {te:TE} {lo hi:Option Expr} {tl th ts:TO} {pos p2:Pos} {m:ME} {ml mh ms:MO}
end
section
variable {X:Cx} {E:EW} {e:Expr} {p pos:Pos} {m:ME}
def eY (m:ME):ME:=λe S=>(m e S).bind λd S1=>match d with
 | .int i=>.ok (.int i) S1
 | .bl k=>.ok (.int (if k then 1 else 0)) S1
 | _=>.bad
theorem fG (hg:Gl X "int") (hm:X.mg "int" = none) (h:GE X E e m) (he:Ab [e] X.env=(false,CS e X.env) :: Ab [] X.env:=by rfl):GE X E (.Call (.Name "int" p) [e] [] pos) (eY m):=
 (Nk Y9 hg hm PJ (FI h Hd he) (by decide) (by decide) he rfl).imp λσ H Q ⟨ρ,l,S,hl,hs,hm⟩=>by
 refine ⟨ρ,l,S,hl,hs,hm.seq λd S1 hm ρ1 H1 x l1 s1 r1=>?_⟩
 cases d <;> first | exact hm.elim | skip
 ·cases r1
  exact .inr ⟨_,rfl,hm ρ1 H1 _ l1 s1 (.int _)⟩
 ·cases r1
  exact .inl ⟨_,rfl,hm ρ1 H1 _ l1 s1 (.int _)⟩
end
end L2
namespace PySem
open Sem (wp)
open AutoSeq1 (wpAny_loadPart')
theorem K6 (l:AM) (items:Array AD) (n:Nat) (dct:Option AM) (sl:Array (Option AD)) :
  Meets (Builtin.«enumerate.__new__» ⟨[.type "enumerate",.ref l],[]⟩) (λ_ R s=>s.heap.get? l=some { cls:=.type "tuple",dict:=dct,data:=.seq items n,slots:=sl } /\
   R (.ok (.ret (.ref (s.heap.push { cls:=.type "tuple_iterator",data:=.fields #[.ref l,.int 0 0] }).objs.size)))
    { s with heap:=(s.heap.push { cls:=.type "tuple_iterator",data:=.fields #[.ref l,.int 0 0] }).push { cls:=.type "enumerate",data:=.fields #[.none,.bool false,.ref s.heap.objs.size,Jh 0,.none,.none] } }):=
 .of_wp λprog w A R s h=>by
  obtain ⟨hp,g,d,tk,os⟩:=s;obtain ⟨hl,h⟩:=h;have hsub:=sub_enumerate;have hL:kg (gr ⟨hp,g,d,tk,os⟩) l items:=⟨_,hl,rfl,n,rfl⟩
  wp_walk using C7 hl
  refine nN λst=>AL ?_
  split
  ·rename_i c _ _ _ _ _
   cases (c==E6 "enumerate")
   ·wp_walk using C7 hl,Cm hL
    exact ⟨_,rfl,h⟩
   ·wp_walk using C7 hl,Cm hL
    exact ⟨_,rfl,h⟩
  ·wp_walk using C7 hl,Cm hL
   exact ⟨_,rfl,h⟩
section
variable {prog:Ap} {w:BE} {A:BC} {E:AD->AE->Prop} {s:AE}
theorem LN {l:AM} {items:Array AD} {Q:AD->AE->Prop} (hL:s.heap.IsTuple l items)
  (h:∀h',Jn h' (s.heap.objs.size+1) s.heap.objs.size 0 .none->h'.IsTupleIter s.heap.objs.size l 0->h'.objs.size=s.heap.objs.size+2 ->
   (∀b o,s.heap.get? b=some o->h'.get? b=some o)->Q (.ref (s.heap.objs.size+1)) { s with heap:=h' }) :
  Ac (AZ prog w) A (call (.type "enumerate") [.ref l]) Q E s:=by
 obtain ⟨⟨c,dct,dt,sl⟩,hl,hc,n,hd⟩:=hL
 replace hc:c=.type "tuple":=hc
 replace hd:dt=.seq items n:=hd
 subst hc hd
 refine callType_new cb (by decide) (F.typeCall_enumerate_1 _) (F.newCall_enumerate_1 _) (λobj=>F.args_object_init_2 obj _) ZM
  (K6 l items n dct sl) ⟨hl,?_⟩
 have hz:(s.heap.push { cls:=.type "tuple_iterator",data:=.fields #[.ref l,.int 0 0] }).objs.size=s.heap.objs.size+1:=Dh ..;show _/\_;rw [hz]
 have he:Jn ((s.heap.push { cls:=.type "tuple_iterator",data:=.fields #[.ref l,.int 0 0] }).push
   { cls:=.type "enumerate",data:=.fields #[.none,.bool false,.ref s.heap.objs.size,Jh 0,.none,.none] }) (s.heap.objs.size+1) s.heap.objs.size 0 .none:=by
  have:=Ai (s.heap.push { cls:=.type "tuple_iterator",data:=.fields #[.ref l,.int 0 0] })
   (o:={ cls:=.type "enumerate",data:=.fields #[.none,.bool false,.ref s.heap.objs.size,Jh 0,.none,.none] }) rfl
  rw [hz] at this;exact this
 refine ⟨⟨_,he,rfl⟩,h _ he ⟨_,AJ _ (Ai _ rfl),rfl,rfl⟩ (by rw [Dh,hz]) λb o x=>AJ _ (AJ _ x)⟩
theorem Iu {it t:AM} {i:Nat} {items} {x:AD} {Q:AD->AE->Prop} (hit:s.heap.IsTupleIter it t i)
  (ht:s.heap.IsTuple t items) (hx:items[i]?=some x)
  (hQ:∀h',h'.IsTupleIter it t (i+1)->Ei it s.heap h'->Q x { s with heap:=h' }) :
  Ac (AZ prog w) A (ES (.ref it)) Q E s:=by
 obtain ⟨o,ho,hc,hd⟩:=id hit;obtain ⟨ol,hol,_,nl,hdl⟩:=ht;unfold ES
 refine AA (CK (name:=FW "__next__") hit.typeIs FX
  (CQ FX hit.typeIs Th ?_ (R8 _)))
 show Ac _ _ (kX (.ref it) 0 >>= _) _ _ s;refine AA (Fi ho hd (x:=.ref t) rfl ?_);show Ac _ _ (if (BD t==DK)=true then _ else _) _ _ s;rw [if_neg (show ¬((BD t==DK)=true) from AQ)];show Ac _ _ (kX (.ref it) 1 >>= _) _ _ s;refine AA (Fi ho hd (x:=.int i 0) rfl ?_);show Ac _ _ (R0 (.ref t) >>= _) _ _ s;refine AA (Jf hol hdl ?_);simp only [CD,hx];refine AA (NP ho hd (by simp) (AL ⟨x,rfl,AL (hQ _ ?_ (Gz ..))⟩))
 exact ⟨_,HM _ ho (Wq (JA hd _)),(cJ ..).trans hc,by
  rw [JA hd];simp [Jh]⟩
theorem FK {it t:AM} {i:Nat} {items} {Q:AD->AE->Prop} (hh:A.handled=none)
  (hit:s.heap.IsTupleIter it t i) (ht:s.heap.IsTuple t items) (hx:items[i]?=none)
  (hE:∀h' e,PN it s.heap h'->(∃o,h'.get? e=some o/\o.cls=.type "StopIteration")->E (.ref e) { s with heap:=h' }) :
  Ac (AZ prog w) A (ES (.ref it)) Q E s:=by
 obtain ⟨o,ho,hc,hd⟩:=id hit;obtain ⟨ol,hol,_,nl,hdl⟩:=ht;unfold ES
 refine AA (CK (name:=FW "__next__") hit.typeIs FX
  (CQ FX hit.typeIs Th ?_ (R8 _)))
 show Ac _ _ (kX (.ref it) 0 >>= _) _ _ s;refine AA (Fi ho hd (x:=.ref t) rfl ?_);show Ac _ _ (if (BD t==DK)=true then _ else _) _ _ s;rw [if_neg (show ¬((BD t==DK)=true) from AQ)];show Ac _ _ (kX (.ref it) 1 >>= _) _ _ s;refine AA (Fi ho hd (x:=.int i 0) rfl ?_);show Ac _ _ (R0 (.ref t) >>= _) _ _ s;refine AA (Jf hol hdl ?_);simp only [CD,hx];refine AA (PB (AA (NP ho hd (by simp) ?_)));show Ac _ _ (newExc (.type "StopIteration") [] >>= _) _ _ _;refine AA ?_;simp only [newExc,newTuple];refine AA (CG ?_ (by size_fits));refine AA (m:=NR _ _) (Tb (a:=DK) (by first | rfl | (simp only [NR];rfl)) ?_);refine CG ?_ (by size_fits);simp only [raiseNew];refine AA (wpAny_handled ?_)
 first | rw [show A.in1.handled=none from hh] | rw [hh]
 refine AA (AL (wpAny_throw ?_));exact hE _ _ (((Gz ..).extBut.push _).push _) ⟨_,Ai _ rfl,rfl⟩
theorem U6 {prog:Ap} {w:BE} {A:BC} (hh:A.handled=none) (it l:AM) (hne:l≠it) (items:Array AD) :
  Draws prog w A it [it,l] items.size (λi v=>items[i]?=some v) (λi h=>h.IsTupleIter it l i/\h.IsTuple l items) where
 live:=λ_ _ st=>let ⟨o,ho,_⟩:=st.1;⟨o,ho⟩
 frame:=λ_ _ _ st hk=>⟨st.1.at λo e=>hk it (by simp) o e,let ⟨o,ho,r⟩:=st.2;⟨o,hk l (by simp) o ho,r⟩⟩
 item:=λi s Q E hi st hQ=>by
  refine Iu st.1 st.2 (x:=items[i]) (by simp [hi]) λh' hit' hs'=>?_
  exact hQ _ h' s.toks (by simp [hi]) ⟨hit',st.2.extBut hs'.extBut hne⟩ hs'
 done:=λs Q E st hE=>FK hh st.1 st.2 (by simp) hE
theorem Ls {e it l:AM} {i:Nat} {items:Array AD} {old:AD} {Q:Option AD->AE->Prop} (hh:A.handled=none)
  (he:Jn s.heap e it i old) (hit:s.heap.IsTupleIter it l i) (hl:s.heap.IsTuple l items) (hx:items[i]?=none)
  (hQ:∀h',PN it s.heap h'->Q none { s with heap:=h' }):Ac (AZ prog w) A (Ji (.ref e)) Q E s:=by
 have hT:s.TypeIs (.ref e) "enumerate":=⟨_,he,rfl⟩;unfold Ji
 refine AA (Kn (CK (name:=FW "__next__") hT Hn
  (CQ Hn hT YD ?_ (Wv _))))
 show Ac _ _ (kX (.ref e) 2 >>= _) _ _ _;refine AA (Fi he rfl (x:=.ref it) rfl ?_);refine AA (FK hh hit hl hx λh' x he' hx'=>?_);obtain ⟨o,ho,hc⟩:=hx';refine AA (Lm (T:="StopIteration") (b:=true) ⟨o,ho,hc⟩ VP ?_);exact AL (hQ _ he')
end
end PySem
namespace L2
open PySem PySem.Spec PyProof.Rows
theorem Inv.turned2 {X:Cx} {pins:List (AM×Obj)} {σ:List (Option V)} {H:Hp} {s:AE} {h':Bu} {t':Nat} {e it a:AM} {o:HO} (I:Inv X pins σ H s) (k:∀b u,b≠e->b≠it->s.heap.get? b=some u->h'.get? b=some u)
  (fe:Mb X pins H e) (fi:Mb X pins H it) (ha:s.heap.objs.size<=a) (new:DP X.prog X.w (upd H a o) h' a o):Inv X pins σ (upd H a o) { s with heap:=h',toks:=t' }:=by
 have hn:=I.hok.fresh ha
 have nit:∀b u,H b=some u->b≠e/\b≠it:=λb u q=>⟨λz=>(by rw [z,fe.1] at q;cases q),λz=>(by rw [z,fi.1] at q;cases q)⟩
 have out:∀b:AM,b∉[e,it]->b≠e/\b≠it:=λb hb=>⟨λz=>hb (by simp [z]),λz=>hb (by simp [z])⟩
 refine I.step (g':=s.gens) (d':=s.drawn) (ch:=[e,it]) (λb hb=>?_) (λb o _ _ hc q _=>k b o (out b hc).1 (out b hc).2 q) (λb o _ _ hc q _=>⟨o.slots,k b o (out b hc).1 (out b hc).2 q⟩) (λb o _ q n=>?_)
  (λb o hc q=>⟨o,k b o (out b hc).1 (out b hc).2 q⟩) (λb xs q=>by rw [Bv (CN q hn)];exact q) (λb o u q=>by rw [Bv (CN q hn)];exact q) (λb ps q=>⟨#[],by rw [Bv (CN q hn),q];simp⟩) (λm hm=>?_) (λb u q=>?_) I.bare
 ·have hb':b=e∨b=it:=by simpa using hb
  rcases hb' with z | z
  ·subst z;exact ⟨fe.2.2.2.1,fe.2.1,fe.2.2.2.2.1,fe.2.2.2.2.2⟩
  ·subst z;exact ⟨fi.2.2.2.1,fi.2.1,fi.2.2.2.2.1,fi.2.2.2.2.2⟩
 ·rw [Bv (Av (Ag (Aa q) ha))];exact n
 ·obtain ⟨o,es,ep,ho,r⟩:=hm
  exact ⟨o,es,ep,k _ o (Bo fe.2.1) (Bo fi.2.1) ho,r⟩
 ·by_cases hb:b=a
  ·subst hb;rw [Bw] at q;cases q;exact new
  ·rw [Bv hb] at q
   refine (I.hok b u q).stay (λc v hc r=>?_) (λc r=>by rw [Bv (CN r hn)];exact r) λc xs r=>by rw [Bv (CN r hn)];exact r
   have:c≠e/\c≠it:=by
    rcases hc with z | z
    ·rw [z];exact nit b u q
    ·exact nit c _ z
   exact k c v this.1 this.2 r
def Ite (sq:Hp->List V->Prop):It:=
 ⟨λi H=>∃xs x,sq H xs/\xs[i]?=some x,λi H y H'=>∃p x,H p=none/\y=.ref p/\H'=upd H p (.tup [.int i,x])/\∀xs,sq H xs->xs[i]?=some x,λi H=>∃xs,sq H xs/\xs.length<=i⟩
section
variable {P:Ap} {w:BE} {K:AB} {elts:List Expr} {x1:Nat} {pos:Pos}
theorem N3 {X:Cx} {pins:List (AM×Obj)} {σ:St} {H:Hp} {s:AE} {E:AD->AE->Prop} {sq:Hp->List V->Prop} {e it:AM} {i:Nat} {x:V} {u:AD} {tk:Nat} {h':Bu} {tn:Nat->Bu->Prop}
  (I:Inv X pins σ H s) (hne:e≠it) (hf:∀b∈[e,it],Mb X pins H b) (le:e < s.heap.objs.size) (li:it < s.heap.objs.size) (ru:RelV x u) (hx:∀xs,sq H xs->xs[i]?=some x)
  (ho:IsEnumOut h' e it ((i:Int)+1) u s.heap.objs.size) (hT:h'.get? s.heap.objs.size=some { cls:=.type "tuple",data:=.seq #[.int i tk,u] }) (hk:∀b o,b≠e->b≠it->s.heap.get? b=some o->h'.get? b=some o)
  (ht:∀h2,Ei e h' h2->(∃old,Jn h2 e it ((i+1:Nat):Int) old)->tn (i+1) h2) :
  Ac (AZ X.prog X.w) X.A (Md (.Tuple elts x1 pos) (.ref e) (.ref s.heap.objs.size)) (λ_ s2=>∃y H',Inv X pins σ H' s2/\RelV y (.ref s.heap.objs.size)/\(Ite sq).yld i H y H'/\tn (i+1) s2.heap/\∀b∈[e,it],H' b=none) E { s with heap:=h',toks:=tk+1 }:=by
 have fe:=hf e (by simp);have fi:=hf it (by simp);have ne:e≠s.heap.objs.size:=Av le;have ni:it≠s.heap.objs.size:=Av li
 have new:DP X.prog X.w (upd H s.heap.objs.size (.tup [.int i,x])) h' s.heap.objs.size (.tup [.int i,x]):=
  ⟨Am (show 2<=1000 by decide) (by decide),[.int i tk,u],.cons ⟨tk,rfl⟩ (.cons ru .nil),_,hT,rfl,_,rfl⟩
 have I1:=I.turned2 (t':=tk+1) hk fe fi (AT _) new
 refine wpAny_letOwnedTupleGo_enum (s:={ s with heap:=h',toks:=tk+1 }) ho λh2 he2 hs2=>?_
 have hs2':Ei e h' h2:=hs2;have I2:=I1.turned (t':=tk+1) (h':=h2) (it:=e) (λb o hb q=>(hs2'.2 b hb).trans q) (by rw [Bv ne];exact fe.1) fe.2.1 fe.2.2.2.1 fe.2.2.2.2.1 fe.2.2.2.2.2;refine ⟨.ref s.heap.objs.size,_,I2,rfl,⟨s.heap.objs.size,x,I.hok.fresh (AT _),rfl,rfl,hx⟩,ht h2 hs2' ⟨u,by rw [Int.natCast_add,Int.natCast_one];exact he2⟩,λb hb=>?_⟩
 have hb':b=e∨b=it:=by simpa using hb
 rcases hb' with z | z
 ·rw [z,Bv ne];exact fe.1
 ·rw [z,Bv ni];exact fi.1
theorem Vp (a e it:AM) (hne:e≠it):RC P w K (.Tuple elts x1 pos) (Ite λH xs=>SqL K H a xs) [e,it] e (λi h=>(∃old,Jn h e it i old)/\h.IsListIter it a i) where
 mem:=by simp
 obj:=λi h st b hb=>by
  have hb':b=e∨b=it:=by simpa using hb
  rcases hb' with z | z
  ·subst z
   obtain ⟨⟨old,he⟩,_⟩:=st
   exact ⟨_,he,λv z=>by
    have z':PP _=Tu v:=z
    cases z'⟩
  ·subst z
   obtain ⟨_,o,e,c,d⟩:=st;exact ⟨o,e,λv z=>by rw [d] at z;cases z⟩
 keep:=λi h h' st k=>⟨st.1.imp λold he=>k e (by simp) _ he,st.2.at λo q=>k it (by simp) o q⟩
 item:=by
  intro X hP hw hK hc i pins s σ H E I hf st hg;subst hP hw hK;obtain ⟨xs,x,hq,hx⟩:=hg;obtain ⟨its,rv,p,hz⟩:=I.list hq;obtain ⟨u,hu,ru⟩:=rv.get hx;obtain ⟨⟨old,he⟩,hit⟩:=st
  have li:it < s.heap.objs.size:=by obtain ⟨o,q,_⟩:=hit;exact Aa q
  refine wpAny_pyNext_enum_item he hit p.isList (x:=u) (by simpa using hu) hne λh' ho hit' hT hsz hk=>?_
  exact ⟨_,rfl,N3 (sq:=λH xs=>SqL X.K H a xs) (tn:=λi h=>(∃old,Jn h e it i old)/\h.IsListIter it a i) I hne hf (Aa he) li ru (λys hy=>by rw [I.list_inj hy hq];exact hx) ho hT hk λh2 hs2 he2=>⟨he2,hit'.at λo q=>(hs2.2 it (Bo hne)).trans q⟩⟩
 done:=by
  intro X hP hw hK hc i pins s σ H E I hf st hg;subst hP hw hK;obtain ⟨xs,hq,hx⟩:=hg;obtain ⟨its,rv,p,hz⟩:=I.list hq;obtain ⟨⟨old,he⟩,hit⟩:=st;obtain ⟨f0,f1,f2,f3,f4,f5⟩:=hf it (by simp);have hl:=rv.length
  exact wpAny_pyNext_enum_end (I.ok.hd hc) he hit p.isList (by simp;lia) λh' eb=>⟨rfl,I.turned (t':=s.toks) (λb o hb e=>eb b o hb e) f0 f1 f3 f4 f5⟩
 self:=λ_ _ _ _ _ st h=>by
  obtain ⟨⟨old,he⟩,_⟩:=st;exact FR he h
theorem Vo (a e it:AM) (hne:e≠it) (hae:a≠it) (hef:e≠a):RC P w K (.Tuple elts x1 pos) (Ite λH xs=>SqT K H a xs) [e,it] e (λi h=>(∃old,Jn h e it i old)/\h.IsTupleIter it a i) where
 mem:=by simp
 obj:=λi h st b hb=>by
  have hb':b=e∨b=it:=by simpa using hb
  rcases hb' with z | z
  ·subst z
   obtain ⟨⟨old,he⟩,_⟩:=st
   exact ⟨_,he,λv z=>by
    have z':PP _=Tu v:=z
    cases z'⟩
  ·subst z
   obtain ⟨_,o,e,c,d⟩:=st;exact ⟨o,e,λv z=>by rw [d] at z;cases z⟩
 keep:=λi h h' st k=>⟨st.1.imp λold he=>k e (by simp) _ he,st.2.at λo q=>k it (by simp) o q⟩
 item:=by
  intro X hP hw hK hc i pins s σ H E I hf st hg;subst hP hw hK;obtain ⟨xs,x,hq,hx⟩:=hg;obtain ⟨its,rv,p,hz⟩:=I.tuple hq;have p':s.heap.IsTuple a its.toArray:=p;obtain ⟨u,hu,ru⟩:=rv.get hx
  have hlt:i < its.toArray.size:=by
   have:=(AH.mp hu).1;simpa using this
  obtain ⟨⟨old,he⟩,hit⟩:=st
  have li:it < s.heap.objs.size:=by obtain ⟨o,q,_⟩:=hit;exact Aa q
  refine ZE (U6 (A:=X.A.in1) (I.ok.hd hc) it a hae its.toArray) he ⟨hit,p'⟩ hlt hne (by simp [hne,hef]) λu' h' tk hu' ho hst' hT hsz hk=>?_
  have:u'=u:=by
   have hu2:its[i]?=some u':=by simpa using hu'
   rw [hu] at hu2;cases hu2;rfl
  subst this;exact ⟨_,rfl,N3 (sq:=λH xs=>SqT X.K H a xs) (tn:=λi h=>(∃old,Jn h e it i old)/\h.IsTupleIter it a i) I hne hf (Aa he) li ru (λys hy=>by rw [I.tuple_inj hy hq];exact hx) ho hT hk λh2 hs2 he2=>⟨he2,hst'.1.at λo q=>(hs2.2 it (Bo hne)).trans q⟩⟩
 done:=by
  intro X hP hw hK hc i pins s σ H E I hf st hg;subst hP hw hK;obtain ⟨xs,hq,hx⟩:=hg;obtain ⟨its,rv,p,hz⟩:=I.tuple hq;obtain ⟨⟨old,he⟩,hit⟩:=st;obtain ⟨f0,f1,f2,f3,f4,f5⟩:=hf it (by simp);have hl:=rv.length
  exact Ls (I.ok.hd hc) he hit (show s.heap.IsTuple a its.toArray from p) (by simp;lia) λh' eb=>⟨rfl,I.turned (t':=s.toks) (λb o hb e=>eb b o hb e) f0 f1 f3 f4 f5⟩
 self:=λ_ _ _ _ _ st h=>by
  obtain ⟨⟨old,he⟩,_⟩:=st;exact FR he h
end
section
variable {X:Cx} {E:EW} {e:Expr} {elts:List Expr} {x1:Nat} {p pos ptg:Pos} {m:ME} {ta:TA}
def mw (K:AB) (ta:TA):TI:=λσ H R=>ta σ H λvs H1=>∃a,vs=[.ref a]/\(((∃xs,SqL K H1 a xs)/\R (Ite λH xs=>SqL K H a xs) H1)∨((∃xs,SqT K H1 a xs)/\R (Ite λH xs=>SqT K H a xs) H1))
theorem dw (hg:Gl X "enumerate") (hm:X.mg "enumerate" = none) (ha:PA X [e] ta) (hs:Ab [e] X.env=[(false,CS e X.env)]:=by rfl):PI X (.Tuple elts x1 ptg) (.Call (.Name "enumerate" p) [e] [] pos) (mw X.K ta):=by
 intro pins s σ H R I h;refine Call_ (LA I hg hm boot_enumerate (DD (thn (ha pos pins s σ H _ I h) λus s1 ⟨vs,H1,I1,r1,q1⟩=>?_) hs rfl));obtain ⟨a,rfl,q1⟩:=q1;obtain ⟨u,rfl,ru⟩:=vals1 r1;cases ru
 have fp:∀ {h':Bu} (b:AM),b∈[s1.heap.objs.size+1,s1.heap.objs.size]->Mb X pins H1 b:=λb hb=>by
  have hb':b=s1.heap.objs.size+1∨b=s1.heap.objs.size:=by simpa using hb
  rcases hb' with z | z
  ·rw [z];exact I1.fpOk (Je _) (I1.hok.fresh (Je _))
  ·rw [z];exact I1.fpOk (AT _) (I1.hok.fresh (AT _))
 rcases q1 with ⟨⟨xs,sq⟩,q⟩ | ⟨⟨xs,sq⟩,q⟩
 ·obtain ⟨its,rv,pl,hz⟩:=I1.list sq
  refine call_enumerate_list pl.isList λh' he hit hsz hk=>FR he ?_
  exact ⟨_,[s1.heap.objs.size+1,s1.heap.objs.size],_,_,H1,rfl,I1.kept (t':=s1.toks) hk,Vp a _ _ (PK _),⟨⟨_,he⟩,hit⟩,fp (h':=h'),q⟩
 ·obtain ⟨its,rv,pl,hz⟩:=I1.tuple sq
  have pl':s1.heap.IsTuple a its.toArray:=pl
  have la:a < s1.heap.objs.size:=by obtain ⟨o,q,_⟩:=pl';exact Aa q
  refine LN pl' λh' he hit hsz hk=>FR he ?_
  exact ⟨_,[s1.heap.objs.size+1,s1.heap.objs.size],_,_,H1,rfl,I1.kept (t':=s1.toks) hk,Vo a _ _ (PK _) (Av la) (OT (Gy la)),⟨⟨_,he⟩,hit⟩,fp (h':=h'),q⟩
def QR (ds:List D):List D:=ds.zipIdx.map λx=>.tup [.int x.2,x.1]
def T0 (v:JJ):JJ:=λS=>(v S).map QR
def Sy (m:ME):MI:=λe S=>(m e S).bind λd S1=>match GJ d S1 with
 | some _=>.ok (T0 (GJ d)) S1
 | none=>.bad
theorem QQ (ds:List D) (i:Nat):(QR ds)[i]?=(ds[i]?).map λd=>.tup [.int i,d]:=by
 unfold QR;rw [As,Ly]
 cases ds[i]? <;> simp
theorem OF {K:AB} {ρ:List AM} {H:Hp} {J:It} {v:JJ} {sq:Hp->List V->Prop} (hJ:LU K ρ H J v) (h1:∀i H,J.go i H->∃xs x,sq H xs/\xs[i]?=some x) (h2:∀i H,J.stop i H->∃xs,sq H xs/\xs.length<=i)
  (h3:∀i H x,(∀xs,sq H xs->xs[i]?=some x)->J.yld i H x H):LU K ρ H (Ite sq) (T0 v):=by
 intro ρ2 H2 S ds i l s hv;unfold T0 at hv
 cases hd:v S with
 | none=>rw [hd] at hv;cases hv
 | some ds0=>
  rw [hd] at hv;cases hv;obtain ⟨a1,a2⟩:=hJ ρ2 H2 S ds0 i l s hd;refine ⟨λhn=>?_,λd hd'=>?_⟩
  ·rw [QQ] at hn
   refine h2 i H2 (a1 ?_)
   cases hq:ds0[i]? with
   | none=>rfl
   | some d=>rw [hq] at hn;cases hn
  ·rw [QQ] at hd'
   cases hq:ds0[i]? with
   | none=>rw [hq] at hd';cases hd'
   | some d0=>
    rw [hq] at hd';cases hd';obtain ⟨b1,b2⟩:=a2 d0 hq;refine ⟨h1 i H2 b1,λy H' hy=>?_⟩;obtain ⟨p,x,hp,rfl,rfl,hx⟩:=hy;obtain ⟨ρ3,l3,s3,r3⟩:=b2 x H2 (h3 i H2 x hx);obtain ⟨s4,l4⟩:=GK (ho:=.tup [.int i,x]) s3 hp;exact ⟨ρ3,l3.trans l4,s4,.tup Bw (.cons (.int _) (.cons (r3.mono l4) .nil))⟩
theorem e8 (hg:Gl X "enumerate") (hm:X.mg "enumerate" = none) (h:GE X E e m) (he:Ab [e] X.env=[(false,CS e X.env)]:=by rfl):GI X E (.Tuple elts x1 ptg) (.Call (.Name "enumerate" p) [e] [] pos) (Sy m):=
 (dw hg hm (FI h Hd he) he).imp λσ H R ⟨ρ,l,S,hl,hs,hm⟩=>by
 refine ⟨ρ,l,S,hl,hs,hm.seq λd S1 hm ρ1 H1 x l1 s1 r1=>?_⟩
 cases d with
 | tup ds=>
  have hm':=hm
  cases r1 with
  | @tup _ a vs q1 q2=>
   exact ⟨a,rfl,.inr ⟨⟨vs,.inl (.inl q1)⟩,hm' ρ1 H1 _ l1 s1 (OF (PU q1 q2) (λi H z=>z) (λi H z=>z) λi H x z=>⟨rfl,z⟩)⟩⟩
 | _=>
  cases hv:GJ _ S1 with
  | none=>rw [hv] at hm;exact hm.elim
  | some ds=>
   rw [hv] at hm
   have:∃a,x=.ref a:=by
    cases r1 <;> first | exact ⟨_,rfl⟩ | (cases hv;done)
   obtain ⟨a,rfl⟩:=this;obtain ⟨xs,sq,_⟩:=PY s1 r1 hv;exact ⟨a,rfl,.inl ⟨⟨xs,sq⟩,hm ρ1 H1 _ l1 s1 (OF (PX r1) (λi H z=>z) (λi H z=>z) λi H x z=>⟨rfl,z⟩)⟩⟩
end
end L2
namespace L2
open PySem PySem.Spec PyProof.Rows
section
variable {X:Cx}
theorem XV {s:AE} {o:Obj} {h':Bu} (hk:∀b u,b∉[s.heap.objs.size]->(s.heap.push o).get? b=some u->h'.get? b=some u):∀b u,s.heap.get? b=some u->h'.get? b=some u:=λb u e=>
 hk b u (λhm=>absurd (Ae.mp hm▸Aa e) (Cu _)) (AJ _ e)
theorem gb {s:AE} {o:Obj} {l:AM} (hl:l < s.heap.objs.size):∀b∈[s.heap.objs.size,l],b < (s.heap.push o).objs.size:=λb hb=>by
 rw [Dh]
 have hb':b=s.heap.objs.size∨b=l:=by simpa using hb
 rcases hb' with rfl | rfl
 ·exact ER _
 ·exact Gy hl
variable {E:EW} {e:Expr} {p pos:Pos} {m:ME}
end
end L2
namespace PySem
open Sem (wp)
open AutoSeq1 (wpAny_loadPart')
namespace F
end F
section
variable {prog:Ap} {w:BE} {A:BC} {E:AD->AE->Prop} {s:AE} {I:AM} {fp wr:List AM} {G:Array ca->Array ca->Prop} {n:Nat} {P:Nat->AD->Prop} {St:Nat->AE->Prop}
end
end PySem
namespace L2
open PySem PySem.Spec PyProof.Rows
section
variable {X:Cx} {E:EW} {e:Expr} {p p2 pos pos2:Pos} {m:ME} {te:TE}
end
end L2
namespace L2
open PySem
theorem QZ {α:Type} {xs:List α} {j:Int} {x:α} (h0:0<=j) (h:xs[j.toNat]?=some x):atI xs j=some x:=by
 have hlt:=(AH.mp h).1;unfold atI ixN;rw [if_pos (by omega),if_pos (by lia)];simpa using h
theorem Xc {d:D} {S:Sto} {ds:List D} {j:Int} {z:D} (hd:G1 d S=some ds) (h0:0<=j) (h:ds[j.toNat]?=some z):ixA d (.int j) S=.ok z S:=by
 show IQ (ixD d (.int j) S) _=_
 have:ixD d (.int j) S=.ok z S:=by
  unfold ixD;rw [hd];dsimp only;rw [QZ h0 h]
 rw [this];rfl
theorem Ux {α:Type} (xs:List α) {k:Nat} (h:k<=xs.length):ID xs (some (k:Int)) none=xs.drop k:=by
 unfold ID;rw [HT.dY,HT.Z7,Nat.min_eq_left h];exact Cv (by simp)
theorem WH {α:Type}:∀ {l:List α},l.length=1->∃x1,l=[x1]
 | [a],_=>⟨a,rfl⟩
theorem RA {α:Type}:∀ {l:List α},l.length=2->∃x1 x2,l=[x1,x2]
 | y :: _,q=>by
  obtain ⟨x2,rfl⟩:=WH (Mf q);exact ⟨y,x2,rfl⟩
theorem Q9 {α:Type}:∀ {l:List α},l.length=3->∃x1 x2 x3,l=[x1,x2,x3]
 | y :: _,q=>by
  obtain ⟨x2,x3,rfl⟩:=RA (Mf q);exact ⟨y,x2,x3,rfl⟩
theorem bC {α:Type}:∀ {l:List α},l.length=4->∃x1 x2 x3 x4,l=[x1,x2,x3,x4]
 | y :: _,q=>by
  obtain ⟨x2,x3,x4,rfl⟩:=Q9 (Mf q);exact ⟨y,x2,x3,x4,rfl⟩
theorem len5 {α:Type}:∀ {l:List α},l.length=5->∃x1 x2 x3 x4 x5,l=[x1,x2,x3,x4,x5]
 | y :: _,q=>by
  obtain ⟨x2,x3,x4,x5,rfl⟩:=bC (Mf q);exact ⟨y,x2,x3,x4,x5,rfl⟩
end L2
namespace L2
open PySem PySem.Spec PyProof.Rows
section
variable {X:Cx} {E:EW} {e:Expr} {m:ME} {pos:Pos}
def YX (i:Nat) (g:Int->Int->Int) (m:ME):MS:=λe S=>match e[i]? with
 | some (some (.int x))=>(m e S).lift e λd S1=>match d with
  | .int y=>.ok (.nx (e.set i (some (.int (g x y))))) S1
  | _=>.bad
 | _=>.bad
theorem jr {i:Nat} {x:Str} {pos':Pos} {op:Qk} {g:Int->Int->Int} (hN:X.N.Nodup) (hi:X.N[i]?=some x) (hx:Loc X.env.scope x) (hp:PIp X op (ipI g)) (he:GE X E e m)
  (hf:X.fn x=true∨X.env.scope.names.lookup x=some .local:=by first | exact .inl rfl | exact .inr rfl | assumption):GS X E (.AugAssign (.Name x pos') op e pos) (YX i g m):=(i0 hN hi hx he hp hf).imp λD σ H ⟨ρ,l,S,hl,hs,hm⟩=>by
 unfold YX at hm;split at hm
 ·rename_i n hn
  obtain ⟨v,h1,h2⟩:=hl.at' i _ hn;cases h2;refine ⟨_,h1,ρ,l,S,hl,hs,hm.lift hl .refl λd S1 hm ρ1 H1 y l1 s1 r1=>?_⟩
  cases d with
  | int y=>cases r1;exact ⟨n,y,rfl,rfl,hm ρ1 H1 _ l1 s1 ((hl.mono l1).set (.int _) i)⟩
  | _=>exact hm.elim
 ·exact hm.elim
end
def Itv (K:AB) (a:AM) (n:Nat):It:=
 ⟨λi H=>∃xs x,SqL K H a xs/\xs.length=n/\xs.reverse[i]?=some x,λi H x H'=>H'=H/\∀xs,SqL K H a xs->xs.reverse[i]?=some x,λi H=>∃xs,SqL K H a xs/\xs.length=n/\n<=i⟩
theorem Zu {P:Ap} {w:BE} {K:AB} {tg:Expr} (a it:AM) (n:Nat):RC P w K tg (Itv K a n) [it] it (λi h=>i<=n/\h.IsRevIter it a ((n:Int) - 1 - i)) where
 mem:=by simp
 obj:=λi h st b hb=>by
  have e:b=it:=by simpa using hb
  subst e;obtain ⟨_,o,e,c,d⟩:=st;exact ⟨o,e,λv z=>by rw [d] at z;cases z⟩
 keep:=λi h h' st k=>⟨st.1,st.2.at λo e=>k it (by simp) o e⟩
 item:=by
  intro X hP hw hK hc i pins s σ H E I hf st hg;subst hP hw hK;obtain ⟨hin,st⟩:=st;obtain ⟨xs,x,hq,hn,hx⟩:=hg
  have hi:i < n:=by have:=(AH.mp hx).1;simpa [hn] using this
  have hx':=hx;rw [List.getElem?_reverse (by lia)] at hx';obtain ⟨its,rv,p,hz⟩:=I.list hq;obtain ⟨u,hu,ru⟩:=rv.get hx';obtain ⟨f0,f1,f2,f3,f4,f5⟩:=hf it (by simp)
  have e0:(n:Int) - 1 - (i:Int)=((xs.length - 1 - i:Nat):Int):=by lia
  rw [e0] at st
  refine wpAny_pyNext_rev_item st p.isList (x:=u) (by simpa using hu) λh' st' sb=>?_
  have I1:Inv X pins σ H { s with heap:=h' }:=I.turned (t':=s.toks) (λb o hb e=>(sb.2 b hb).trans e) f0 f1 f3 f4 f5;obtain ⟨o,e,c,d⟩:=id st';refine ⟨u,rfl,Xg (s:={ s with heap:=h' }) e c d (by decide) ⟨x,H,I1,ru,⟨rfl,λys hy=>by rw [I.list_inj hy hq];exact hx⟩,⟨hi,?_⟩,λb hb=>(hf b hb).1⟩⟩
  have e1:(n:Int) - 1 - ((i+1:Nat):Int)=((xs.length - 1 - i:Nat):Int) - 1:=by lia
  rw [e1];exact st'
 done:=by
  intro X hP hw hK hc i pins s σ H E I hf st hg;subst hP hw hK;obtain ⟨hin,st⟩:=st;obtain ⟨xs,hq,hn,hx⟩:=hg;obtain ⟨f0,f1,f2,f3,f4,f5⟩:=hf it (by simp)
  have e0:(n:Int) - 1 - (i:Int) = -1:=by lia
  rw [e0] at st
  exact wpAny_pyNext_rev_end (I.ok.hd hc) st λh' eb=>⟨rfl,I.turned (t':=s.toks) (λb o hb e=>eb b o hb e) f0 f1 f3 f4 f5⟩
 self:=λ_ _ _ _ _ st h=>cP st.2 h
section
variable {X:Cx} {E:EW} {tg e a b:Expr} {p p2 pos pos2:Pos} {m:ME} {ml:ML} {ta:TA}
def mf (K:AB) (ta:TA):TI:=λσ H R=>ta σ H λvs H1=>∃a xs,vs=[.ref a]/\SqL K H1 a xs/\R (Itv K a xs.length) H1
theorem i5 (hg:Gl X "reversed") (hm:X.mg "reversed" = none) (ha:PA X [e] ta) (hs:Ab [e] X.env=[(false,CS e X.env)]:=by rfl):PI X tg (.Call (.Name "reversed" p) [e] [] pos) (mf X.K ta):=by
 intro pins s σ H R I h;refine Call_ (LA I hg hm boot_reversed (DD (thn (ha pos pins s σ H _ I h) λus s1 ⟨vs,H1,I1,r1,q1⟩=>?_) hs rfl));obtain ⟨a,xs,rfl,sq,q⟩:=q1;obtain ⟨u,rfl,ru⟩:=vals1 r1;cases ru;obtain ⟨its,rv,pl,hz⟩:=I1.list sq;have hl:=rv.length;refine call_reversed_list pl.isList ?_;have hit:(s1.heap.push (revObj a ((its.toArray.size:Int) - 1))).IsRevIter s1.heap.objs.size a ((xs.length:Int) - 1 - ((0:Nat):Int)):=⟨_,Ai _ rfl,rfl,by simp [revObj,hl]⟩;refine cP hit ⟨s1.heap.objs.size,[s1.heap.objs.size],_,_,H1,rfl,I1.kept (t':=s1.toks) λb o e=>AJ _ e,Zu a _ xs.length,⟨DI _,hit⟩,λb hb=>?_,q⟩
 have e:b=s1.heap.objs.size:=by simpa using hb
 subst e;exact I1.fpOk (AT _) (I1.hok.fresh (AT _))
def Tz (d:D) (n:Nat):JJ:=λS=>match Oe d S with
 | some ds=>if ds.length=n then some ds.reverse else none
 | none=>none
def Xe (m:ME):MI:=λe S=>(m e S).bind λd S1=>match Oe d S1 with
 | some ds=>.ok (Tz d ds.length) S1
 | none=>.bad
theorem Vd {K:AB} {ρ:List AM} {H:Hp} {a:AM} {d:D} {n:Nat} (r:By K ρ H d (.ref a)):LU K ρ H (Itv K a n) (Tz d n):=by
 intro ρ2 H2 S ds i l s hv;unfold Tz at hv;split at hv
 ·rename_i es hes
  split at hv
  ·rename_i hlen
   cases hv;obtain ⟨a',xs,e,rr,sq⟩:=J4 s (r.mono l) hes;cases e;have hl:=rr.length;refine ⟨λhn=>⟨xs,sq,by lia,?_⟩,λd hd=>?_⟩
   ·have:=CO.mp hn
    rw [YB] at this
    lia
   ·obtain ⟨x,hx,rx⟩:=rr.reverse.get hd
    refine ⟨⟨xs,x,sq,by lia,hx⟩,λy H' ⟨e,hy⟩=>?_⟩;subst e;have:=hy xs sq;rw [hx] at this;cases this;exact ⟨ρ2,.refl,s,rx⟩
  ·cases hv
 ·cases hv
theorem ju (hg:Gl X "reversed") (hm:X.mg "reversed" = none) (h:GE X E e m) (he:Ab [e] X.env=[(false,CS e X.env)]:=by rfl):GI X E tg (.Call (.Name "reversed" p) [e] [] pos) (Xe m):=
 (i5 hg hm (FI h Hd he) he).imp λσ H R ⟨ρ,l,S,hl,hs,hm⟩=>by
 refine ⟨ρ,l,S,hl,hs,hm.seq λd S1 hm ρ1 H1 x l1 s1 r1=>?_⟩
 cases hq:Oe d S1 with
 | none=>rw [hq] at hm;exact hm.elim
 | some ds=>
  rw [hq] at hm;obtain ⟨a,xs,rfl,rr,sq⟩:=J4 s1 r1 hq;refine ⟨a,xs,rfl,sq,hm ρ1 H1 _ l1 s1 ?_⟩;rw [<-rr.length];exact Vd r1
end
end L2
namespace PySem
open Sem (wp)
open PyProof.Rows (IntsAre)
section
variable {prog:Ap} {w:BE} {A:BC} {E:AD->AE->Prop} {s:AE}
theorem UC {a b:AM} {its jts:Array AD} {ns ms:List Int} {P:Fin->AE->Prop} (ha:s.heap.IsTuple a its) (hb:s.heap.IsTuple b jts) (hi:Cy its.toList ns) (hj:Cy jts.toList ms) (h:P (.done (.ret (.bool (Srt.ltL ms ns)))) s) :
  Ac (AZ prog w) A (Builtin.«tuple.__gt__» ⟨[.ref a,.ref b],[]⟩) P E s:=by
 obtain ⟨oa,hoa,_,na,hda⟩:=ha;obtain ⟨ob,hob,hcb,nb,hdb⟩:=hb;have ty:s.TypeIs (.ref b) "tuple":=⟨ob,hob,hcb⟩;show Ac _ _ (isInstance (.ref b) (.type "tuple") >>= _) P E s;refine AA (Lm ty isSubtype_tuple_tuple ?_);simp only [Ti,B4,↓reduceIte];refine AA (gf hoa hda (AA (gf hob hdb (AA ?_))))
 refine kl _ (λrest r s'=>r.1=none/\s'=s/\∃is js xs ys,rest=List.zip is js/\Cy is xs/\Cy js ys/\Srt.ltL ys xs=Srt.ltL ms ns/\decide (js.length < is.length)=decide (jts.size < its.size)) _ ?_ ?_ _ _
  ⟨rfl,rfl,its.toList,jts.toList,ns,ms,rfl,hi,hj,rfl,by simp⟩
 ·rintro ⟨u,v⟩ rest r s' ⟨hr,rfl,is,js,xs,ys,hz,h1,h2,hd,hl⟩
  cases h1 with
  | nil=>simp at hz
  | cons n t h1=>
   cases h2 with
   | nil=>simp at hz
   | cons m t2 h2=>
    rw [C8] at hz;obtain ⟨hz1,rfl⟩:=PM hz;cases hz1;rw [Srt.ltL] at hd;refine AA (Ry ?_)
    by_cases e:n=m
    ·rw [if_pos e.symm] at hd
     subst e;rw [if_neg (by simp)];exact AL ⟨rfl,rfl,_,_,_,_,rfl,h1,h2,hd,by simpa using hl⟩
    ·rw [if_neg (Bo e)] at hd
     rw [if_pos (by simp [e])];refine AA (PB (AA ?_));show Ac _ _ (Bk .Gt (.int n t) (.int m t2)) _ _ _;refine nR ?_;rw [hd];exact AA (AL (AL (AL h)))
 ·rintro ⟨r1,r2⟩ s' ⟨hr,rfl,is,js,xs,ys,hz,h1,h2,hd,hl⟩
  dsimp only at hr;subst hr;refine AL ?_;show P (.done (.ret (.bool (decide (its.size > jts.size))))) s'
  have:decide (its.size > jts.size)=Srt.ltL ms ns:=by
   rw [<-hd];show decide (jts.size < its.size)=_;rw [<-hl]
   cases h1 with
   | nil=>cases h2 <;> simp [Srt.ltL]
   | cons n t h1=>
    cases h2 with
    | nil=>simp [Srt.ltL]
    | cons m t2 h2=>simp at hz
  rw [this];exact h
end
end PySem
namespace L2
open PySem PySem.Spec PyProof.Rows
section
variable {X:Cx} {E:EW} {a b:Expr} {p p2 pos pos2:Pos} {ml:ML} {ta:TA}
def gtT (x y:D) (S:Sto):Res D:=match x,y with
 | .tup xs,.tup ys=>match Gc xs,Gc ys with
  | some i,some j=>.ok (.bl (Srt.ltL j i)) S
  | _,_=>.bad
 | _,_=>.bad
theorem jp {x y d:D} {S S':Sto} (h:gtT x y S=.ok d S'):∃ns ms:List Int,x=.tup (ns.map D.int)/\y=.tup (ms.map D.int)/\d=.bl (Srt.ltL ms ns)/\S'=S:=by
 unfold gtT at h;split at h
 ·split at h
  ·rename_i h1 h2
   cases h;exact ⟨_,_,by rw [Jb h1],by rw [Jb h2],rfl,rfl⟩
  ·cases h
 ·cases h
theorem M0 {K:AB} {ρ:List AM} {H:Hp}:∀ {ns:List Int} {vs:List V},Ay K ρ H (ns.map D.int) vs->vs=ns.map V.int
 | [],_,.nil=>rfl
 | n :: ns,_,.cons r t=>by
  cases r;rw [M0 t];rfl
theorem jT (hu:X.A.units+64 < Dr):OpR X (Bk .Gt) (rD X.K gtT):=by
 intro pins s σ H x y v u Q I rx ry ⟨ρ,S,d1,d2,d,S',hs,r1,r2,hm,k⟩;obtain ⟨ns,ms,rfl,rfl,rfl,rfl⟩:=jp hm
 cases r1 with
 | @tup _ a1 v1 h1 q1=>
  cases r2 with
  | @tup _ a2 v2 h2 q2=>
   cases rx;cases ry;rw [M0 q1] at h1;rw [M0 q2] at h2;obtain ⟨is,w1,t1,_⟩:=I.tuple (.inl (.inl h1));obtain ⟨js,w2,t2,_⟩:=I.tuple (.inl (.inl h2));have t1':s.heap.IsTuple a1 is.toArray:=t1;have t2':s.heap.IsTuple a2 js.toArray:=t2
   have hT1:s.TypeIs (.ref a1) "tuple":=let ⟨o,ho,hc,_⟩:=t1';⟨o,ho,hc⟩
   have hT2:s.TypeIs (.ref a2) "tuple":=let ⟨o,ho,hc,_⟩:=t2';⟨o,ho,hc⟩
   exact wpAny_richCompare_same_room (op:=.Gt) hT1 hT2 kj
    (CQ kj hT1 F.entry_tuple_gt (UC t1' t2' (by simpa using intsAre_of w1) (by simpa using intsAre_of w2) ⟨_,rfl,(λe=>nomatch e),.bl _,H,I,rfl,k ρ H _ .refl hs (.bl _)⟩) (F.args_tuple_gt_2 _ _)) (by lia)
end
end L2
namespace PySem
open Sem (wp)
open AutoSeq1 (wpAny_loadPart')
section
variable {prog:Ap} {w:BE} {A:BC} {E:AD->AE->Prop} {s:AE}
theorem UX {T newId:String} {self:AD} {rest:List AD} {kw:List (Str×AD)} (hl:gi (.type T) "__init__" = pure (some (.builtin "object.__init__"))) (hm:Bind.madeBy (.type T)=pure (some newId)) (hne:(some newId != some "object.__new__")=true) (hr:(!rest.isEmpty||!kw.isEmpty)=true) :
  Meets (Builtin.«object.__init__» ⟨self :: rest,kw⟩) (λ_ R s=>s.TypeIs self T/\R (.ok (.ret .none)) s):=by
 refine Meets.of_wp λprog w A R s hs=>?_
 obtain ⟨hT,hq⟩:=hs;unfold Builtin.«object.__init__»;dsimp only;rw [if_pos hr];(repeat (any_goals (first | assumption | wp_step)));exact ⟨_,rfl,hq⟩
theorem WZ {T newId:String} {Bn:Builtin} {args:List AD} {kw:List (Str×AD)} {S:Spec} {Q:AD->AE->Prop} (ft:TypeCalled T newId "object.__init__") (hne:(some newId != some "object.__new__")=true) (hr:(!args.isEmpty||!kw.isEmpty)=true)
  (hct:checkTypeCall T ⟨args,kw⟩=pure ()) (hcn:checkBuiltinCall newId ⟨.type T :: args,kw⟩=pure ()) (hok:∀obj,argsOk "object.__init__" ⟨obj :: args,kw⟩) (entryN:entryFor table newId=some Bn) (g:Meets (Bn ⟨.type T :: args,kw⟩) S)
  (h:S A.in1 (wants (λobj s₁=>s₁.TypeIs obj T/\Q obj s₁) E) s):Ac (AZ prog w) A (call (.type T) args kw) Q E s:=by
 obtain ⟨c,tl,hmro⟩:=ft.mro;have hmade:=ft.made;have hsub:=ft.sub;refine gg (codeAny_of_tree ?_);show Ac _ _ (callAny (.type T) _) _ _ _;refine AL ⟨Code.quiet_builtin _ (by decide +kernel),Me F.entry_type_call ?_⟩;rw [BC.under_plain (weight_type_call_type T args kw) (units_type_call_type T args kw)];have h1:=ft.notType;have h2:=ft.canCreate;(repeat (any_goals (first | assumption | wp_step)))
 refine JO (cV ft.plain entryN (Tb hcn (g prog w A.in1 _ s h))) λr s₁ hr₁=>?_
 cases r with
 | error e=>exact hr₁
 | ok fl=>
  cases fl with
  | ret obj=>
   obtain ⟨hT,hq⟩:=hr₁;have hli:=ft.init.lookup;have hbi:=ft.init.bind obj;(repeat (any_goals (first | assumption | wp_step)))
   refine JO (cV (R:=wants (λr s₂=>r=.none/\Q obj s₂) E) ft.init.plain F.entry_object_init (ft.init.check _ _ _ _ _ _ _ _ hT (hok obj) (UX ft.init.lookup ft.made hne hr prog w A.in1 _ s₁ ⟨hT,rfl,hq⟩))) λr₂ s₂ hr₂=>?_
   cases r₂ with
   | error e=>exact hr₂
   | ok fl₂=>
    cases fl₂ with
    | ret r=>
     obtain ⟨rfl,hq⟩:=hr₂;(repeat (any_goals (first | assumption | wp_step)))
    | _=>exact hr₂.elim
  | _=>exact hr₁.elim
theorem Kc (l:AM) (items:Array AD) (n:Nat) (dct:Option AM) (sl:Array (Option AD)) (t:Tok) :
  Meets (Builtin.«enumerate.__new__» ⟨[.type "enumerate",.ref l],[("start",.int 1 t)]⟩) (λ_ R s=>s.heap.get? l=some { cls:=.type "tuple",dict:=dct,data:=.seq items n,slots:=sl } /\
   R (.ok (.ret (.ref (s.heap.push { cls:=.type "tuple_iterator",data:=.fields #[.ref l,.int 0 0] }).objs.size)))
    { s with heap:=(s.heap.push { cls:=.type "tuple_iterator",data:=.fields #[.ref l,.int 0 0] }).push { cls:=.type "enumerate",data:=.fields #[.none,.bool false,.ref s.heap.objs.size,Jh 1,.none,.none] } }):=
 .of_wp λprog w A R s h=>by
  obtain ⟨hp,g,d,tk,os⟩:=s;obtain ⟨hl,h⟩:=h;have hsub:=sub_enumerate;have hL:kg (gr ⟨hp,g,d,tk,os⟩) l items:=⟨_,hl,rfl,n,rfl⟩
  wp_walk using C7 hl
  refine nN λst=>AL ?_
  split
  ·rename_i c _ _ _ _ _
   cases (c==E6 "enumerate")
   ·wp_walk using C7 hl,Cm hL
    exact ⟨_,rfl,h⟩
   ·wp_walk using C7 hl,Cm hL
    exact ⟨_,rfl,h⟩
  ·wp_walk using C7 hl,Cm hL
   exact ⟨_,rfl,h⟩
end
end PySem
namespace PySem
section
variable {prog:Ap} {w:BE} {A:BC} {E:AD->AE->Prop} {s:AE}
theorem Ke {l:AM} {items:Array AD} {t:Tok} {Q:AD->AE->Prop} (hL:s.heap.IsTuple l items)
  (h:∀h',Jn h' (s.heap.objs.size+1) s.heap.objs.size 1 .none->h'.IsTupleIter s.heap.objs.size l 0->h'.objs.size=s.heap.objs.size+2 ->
   (∀b o,s.heap.get? b=some o->h'.get? b=some o)->Q (.ref (s.heap.objs.size+1)) { s with heap:=h' }) :
  Ac (AZ prog w) A (call (.type "enumerate") [.ref l] [("start",.int 1 t)]) Q E s:=by
 obtain ⟨⟨c,dct,dt,sl⟩,hl,hc,n,hd⟩:=hL
 replace hc:c=.type "tuple":=hc
 replace hd:dt=.seq items n:=hd
 subst hc hd
 refine WZ cb (by decide) rfl (by kernel_rfl) (by kernel_rfl) (λobj=>by
  unfold argsOk;rw [signature?_of (id:="object.__init__") (n:=['_','_','t','i','n','i','_','_']) (o:=['t','c','e','j','b','o']) (by kernel_rfl) F.owner_object];kernel_rfl) ZM
  (Kc l items n dct sl t) ⟨hl,?_⟩
 have hz:(s.heap.push { cls:=.type "tuple_iterator",data:=.fields #[.ref l,.int 0 0] }).objs.size=s.heap.objs.size+1:=Dh ..;show _/\_;rw [hz]
 have he:Jn ((s.heap.push { cls:=.type "tuple_iterator",data:=.fields #[.ref l,.int 0 0] }).push
   { cls:=.type "enumerate",data:=.fields #[.none,.bool false,.ref s.heap.objs.size,Jh 1,.none,.none] }) (s.heap.objs.size+1) s.heap.objs.size 1 .none:=by
  have:=Ai (s.heap.push { cls:=.type "tuple_iterator",data:=.fields #[.ref l,.int 0 0] })
   (o:={ cls:=.type "enumerate",data:=.fields #[.none,.bool false,.ref s.heap.objs.size,Jh 1,.none,.none] }) rfl
  rw [hz] at this;exact this
 refine ⟨⟨_,he,rfl⟩,h _ he ⟨_,AJ _ (Ai _ rfl),rfl,rfl⟩ (by rw [Dh,hz]) λb o x=>AJ _ (AJ _ x)⟩
theorem P1 {e it l:AM} {i:Nat} {j:Int} {items:Array AD} {old:AD} {Q:Option AD->AE->Prop} (hh:A.handled=none)
  (he:Jn s.heap e it j old) (hit:s.heap.IsTupleIter it l i) (hl:s.heap.IsTuple l items) (hx:items[i]?=none)
  (hQ:∀h',PN it s.heap h'->Q none { s with heap:=h' }):Ac (AZ prog w) A (Ji (.ref e)) Q E s:=by
 have hT:s.TypeIs (.ref e) "enumerate":=⟨_,he,rfl⟩;unfold Ji
 refine AA (Kn (CK (name:=FW "__next__") hT Hn
  (CQ Hn hT YD ?_ (Wv _))))
 show Ac _ _ (kX (.ref e) 2 >>= _) _ _ _;refine AA (Fi he rfl (x:=.ref it) rfl (AA (FK hh hit hl hx λh' x he' hx'=>?_)));obtain ⟨o,ho,hc⟩:=hx';exact AA (Lm (T:="StopIteration") (b:=true) ⟨o,ho,hc⟩ VP (AL (hQ _ he')))
theorem Ta (hh:A.handled=none) (it l:AM) (hne:l≠it) (items:Array AD) :
  Draws prog w A it [it,l] (items.size+1) (λi v=>items[i - 1]?=some v) (λi h=>1<=i/\h.IsTupleIter it l (i - 1)/\h.IsTuple l items) where
 live:=λ_ _ st=>let ⟨o,ho,_⟩:=st.2.1;⟨o,ho⟩
 frame:=λ_ _ _ st hk=>⟨st.1,st.2.1.at λo e=>hk it (by simp) o e,let ⟨o,ho,r⟩:=st.2.2;⟨o,hk l (by simp) o ho,r⟩⟩
 item:=λi s Q E hi st hQ=>by
  obtain ⟨h1,st⟩:=st
  have hlt:i - 1 < items.size:=by omega
  refine Iu st.1 st.2 (x:=items[i - 1]) (by simp [hlt]) λh' hit' hs'=>?_
  refine hQ _ h' s.toks (by simp [hlt]) ⟨by lia,?_,st.2.extBut hs'.extBut hne⟩ hs';rw [show i+1 - 1=i - 1+1 by lia];exact hit'
 done:=λs Q E st hE=>FK hh st.2.1 st.2.2 (by simp) hE
end
end PySem
namespace L2
open PySem PySem.Spec PyProof.Rows
def kM (sq:Hp->List V->Prop):It:=
 ⟨λi H=>∃xs x,sq H xs/\xs[i]?=some x,λi H y H'=>∃p x,H p=none/\y=.ref p/\H'=upd H p (.tup [.int ((i+1:Nat):Int),x])/\∀xs,sq H xs->xs[i]?=some x,λi H=>∃xs,sq H xs/\xs.length<=i⟩
section
variable {P:Ap} {w:BE} {K:AB} {elts:List Expr} {x1:Nat} {pos:Pos}
theorem UB (a e it:AM) (hne:e≠it) (hae:a≠it) (hef:e≠a):RC P w K (.Tuple elts x1 pos) (kM λH xs=>SqT K H a xs) [e,it] e (λi h=>(∃old,Jn h e it ((i+1:Nat):Int) old)/\h.IsTupleIter it a i) where
 mem:=by simp
 obj:=λi h st b hb=>by
  have hb':b=e∨b=it:=by simpa using hb
  rcases hb' with z | z
  ·subst z
   obtain ⟨⟨old,he⟩,_⟩:=st
   exact ⟨_,he,λv z=>by
    have z':PP _=Tu v:=z
    cases z'⟩
  ·subst z
   obtain ⟨_,o,e,c,d⟩:=st;exact ⟨o,e,λv z=>by rw [d] at z;cases z⟩
 keep:=λi h h' st k=>⟨st.1.imp λold he=>k e (by simp) _ he,st.2.at λo q=>k it (by simp) o q⟩
 item:=by
  intro X hP hw hK hc i pins s σ H E I hf st hg;subst hP hw hK;obtain ⟨xs,x,hq,hx⟩:=hg;obtain ⟨its,rv,p,hz⟩:=I.tuple hq;have p':s.heap.IsTuple a its.toArray:=p;obtain ⟨u,hu,ru⟩:=rv.get hx
  have hlt:i < its.toArray.size:=by
   have:=(AH.mp hu).1;simpa using this
  obtain ⟨⟨old,he⟩,hit⟩:=st
  have li:it < s.heap.objs.size:=by obtain ⟨o,q,_⟩:=hit;exact Aa q
  refine ZE (Ta (A:=X.A.in1) (I.ok.hd hc) it a hae its.toArray) (i:=i+1) he ⟨by lia,hit,p'⟩ (by lia) hne (by simp [hne,hef]) λu' h' tk hu' ho hst' hT hsz hk=>?_
  have:u'=u:=by
   have hu2:its[i]?=some u':=by simpa using hu'
   rw [hu] at hu2;cases hu2;rfl
  subst this
  have t:=N3 (i:=i+1) (E:=E) (elts:=elts) (x1:=x1) (pos:=pos) (sq:=λH xs=>∃y ys,xs=y :: ys/\SqT X.K H a ys) (tn:=λj h=>(∃old,Jn h e it (j:Int) old)/\h.IsTupleIter it a (j - 1)) I hne hf (Aa he) li ru (λys hy=>by
   obtain ⟨y,ys',rfl,hy⟩:=hy;rw [Tr,I.tuple_inj hy hq]
   exact hx) ho hT hk λh2 hs2 he2=>⟨he2,hst'.2.1.at λo q=>(hs2.2 it (Bo hne)).trans q⟩
  refine ⟨_,rfl,Dx t (λ_ s2 h2=>?_) λ_ _ z=>z⟩;obtain ⟨y,H',q1,q2,⟨p,x,e1,e2,e3,e4⟩,q4,q5⟩:=h2;exact ⟨y,H',q1,q2,⟨p,x,e1,e2,e3,λzs hz=>by simpa using e4 (x :: zs) ⟨x,zs,rfl,hz⟩⟩,q4,q5⟩
 done:=by
  intro X hP hw hK hc i pins s σ H E I hf st hg;subst hP hw hK;obtain ⟨xs,hq,hx⟩:=hg;obtain ⟨its,rv,p,hz⟩:=I.tuple hq;obtain ⟨⟨old,he⟩,hit⟩:=st;obtain ⟨f0,f1,f2,f3,f4,f5⟩:=hf it (by simp);have hl:=rv.length
  exact P1 (I.ok.hd hc) he hit (show s.heap.IsTuple a its.toArray from p) (by simp;lia) λh' eb=>⟨rfl,I.turned (t':=s.toks) (λb o hb e=>eb b o hb e) f0 f1 f3 f4 f5⟩
 self:=λ_ _ _ _ _ st h=>by
  obtain ⟨⟨old,he⟩,_⟩:=st;exact FR he h
end
section
variable {X:Cx} {E:EW} {e:Expr} {elts:List Expr} {x1:Nat} {p pos ptg kp vp:Pos} {j1:Nat} {m:ME} {ta:TA}
def jl (K:AB) (ta:TA):TI:=λσ H R=>ta σ H λvs H1=>∃a,vs=[.ref a]/\(∃xs,SqT K H1 a xs)/\R (kM λH xs=>SqT K H a xs) H1
theorem Oi {M:kf} {A:BC} {E:AD->AE->Prop} {s:AE} {env:Env} {pos:Pos} {T:String} {e:Expr} {rest:List Expr} {kws:List OD} {Q:AD->AE->Prop}
  (h:Ac M A (spliced (Dz pos (Ab (e :: rest) env))) (λvs s₁=>Ac M A (evalAll ((Jk pos (Fj kws env)).map (·.2)))
   (λkvs s₂=>Ac M A (call (.type T) vs (((Jk pos (Fj kws env)).filterMap (·.1)).zip kvs)) Q E s₂) E s₁) E s)
  (he:Dz pos (Ab (e :: rest) env)=(false,CS e env) :: Dz pos (Ab rest env)) (hplain:(Dz pos (Ab (e :: rest) env)).any (·.1)=false)
  (hall:(Jk pos (Fj kws env)).all (·.1.isSome)=true) (hkw:(Jk pos (Fj kws env)).any (·.1.isNone)=false) :
  Ac M A (callWith pos (.type T) [] (Dz pos (Ab (e :: rest) env)) (Jk pos (Fj kws env))) Q E s:=by
 have h2:Ac M A (evalArgs (.type T) true (Dz pos (Ab (e :: rest) env)) (Jk pos (Fj kws env))) (λa s₁=>Ac M A (call (.type T) ([]++a.pos) a.kw) Q E s₁) E s:=by
  rw [he] at h ⊢;exact evalArgs_kwB hall h
 unfold callWith;refine AA (EQ (Dx h2 (λa s₁ h₁=>AA (X0 ?_)) λ_ _ x=>x));simp only [hplain,hkw,Bool.or_false];exact AA (AL (AA (Dx h₁ (λr s₂ hr=>AA (EQ (wpAny_point (AL hr)))) λ_ _ x=>x)))
theorem aN (hg:Gl X "enumerate") (hm:X.mg "enumerate" = none) (ha:PA X [e] ta) (hs:Ab [e] X.env=[(false,CS e X.env)]:=by rfl) :
  PI X (.Tuple elts x1 ptg) (.Call (.Name "enumerate" p) [e] [⟨some "start",.Constant (.int 1) j1 vp,kp⟩] pos) (jl X.K ta):=by
 intro pins s σ H R I h;refine Gv (LA I hg hm boot_enumerate ?_ (by decide) (by decide));refine Oi (thn (ha pos pins s σ H _ I h) λus s1 ⟨vs,H1,I1,r1,q1⟩=>?_) (by rw [hs];rfl) (by rw [hs];rfl) rfl rfl;obtain ⟨a,rfl,⟨xs,sq⟩,q⟩:=q1;obtain ⟨u,rfl,ru⟩:=vals1 r1;cases ru;refine kws_cons ?_
 refine thn (aP (X:=X) (i:=1) (j:=j1) (pos:=vp) pins s1 σ H1 (λx H2=>x=.int 1/\H2=H1) I1 ⟨rfl,rfl⟩) λv s2 ⟨x,H2,I2,r2,e1,e2⟩=>?_
 subst e1 e2;obtain ⟨t,rfl⟩:=r2;refine kws_nil ?_;show Ac _ _ (call (.type "enumerate") [.ref a] [("start",.int 1 t)]) _ _ _;obtain ⟨its,rv,pl,hz⟩:=I2.tuple sq;have pl':s2.heap.IsTuple a its.toArray:=pl
 have la:a < s2.heap.objs.size:=by obtain ⟨o,q,_⟩:=pl';exact Aa q
 refine Ke pl' λh' he hit hsz hk=>FR he ?_
 refine ⟨_,[s2.heap.objs.size+1,s2.heap.objs.size],_,_,_,rfl,I2.kept (t':=s2.toks) hk,UB a _ _ (PK _) (Av la) (OT (Gy la)),⟨⟨_,he⟩,hit⟩,λb hb=>?_,q⟩
 have hb':b=s2.heap.objs.size+1∨b=s2.heap.objs.size:=by simpa using hb
 rcases hb' with z | z
 ·rw [z];exact I2.fpOk (Je _) (I2.hok.fresh (Je _))
 ·rw [z];exact I2.fpOk (AT _) (I2.hok.fresh (AT _))
def Iv (ds:List D):List D:=ds.zipIdx.map λx=>.tup [.int ((x.2+1:Nat):Int),x.1]
theorem OM (ds:List D) (i:Nat):(Iv ds)[i]?=(ds[i]?).map λd=>.tup [.int ((i+1:Nat):Int),d]:=by
 unfold Iv;rw [As,Ly]
 cases ds[i]? with
 | none=>rfl
 | some d=>simp
theorem SD {K:AB} {ρ:List AM} {H:Hp} {a:AM} {ds:List D} {xs:List V} (h1:H a=some (.tup xs)) (h2:Ay K ρ H ds xs):LU K ρ H (kM λH xs=>SqT K H a xs) (Gr (Iv ds)):=by
 intro ρ2 H2 S ds' i l s hv;cases hv;have rr:=h2.mono l;have sq:SqT K H2 a xs:=.inl (.inl (l.tup _ _ h1));refine ⟨λhn=>⟨xs,sq,?_⟩,λd hd=>?_⟩
 ·rw [OM] at hn
  rw [<-rr.length]
  cases hq:ds[i]? with
  | none=>exact CO.mp hq
  | some d=>rw [hq] at hn;cases hn
 ·rw [OM] at hd
  cases hq:ds[i]? with
  | none=>rw [hq] at hd;cases hd
  | some d0=>
   rw [hq] at hd;cases hd;obtain ⟨x,hx,rx⟩:=rr.get hq;refine ⟨⟨xs,x,sq,hx⟩,λy H' ⟨p,x',e1,e2,e3,e4⟩=>?_⟩;subst e2 e3;have:=e4 xs sq;rw [hx] at this;cases this;obtain ⟨s4,l4⟩:=GK (ho:=.tup [.int ((i+1:Nat):Int),x]) s e1;exact ⟨ρ2,l4,s4,.tup Bw (.cons (.int _) (.cons (rx.mono l4) .nil))⟩
def ND (m:ME):MI:=λe S=>(m e S).bind λd S1=>match d with
 | .tup ds=>.ok (Gr (Iv ds)) S1
 | _=>.bad
theorem Uk (hg:Gl X "enumerate") (hm:X.mg "enumerate" = none) (h:GE X E e m) (he:Ab [e] X.env=[(false,CS e X.env)]:=by rfl) :
  GI X E (.Tuple elts x1 ptg) (.Call (.Name "enumerate" p) [e] [⟨some "start",.Constant (.int 1) j1 vp,kp⟩] pos) (ND m):=
 (aN hg hm (FI h Hd he) he).imp λσ H R ⟨ρ,l,S,hl,hs,hm⟩=>by
 refine ⟨ρ,l,S,hl,hs,hm.seq λd S1 hm ρ1 H1 x l1 s1 r1=>?_⟩
 cases d with
 | tup ds=>
  have hm':=hm
  cases r1 with
  | @tup _ a vs q1 q2=>exact ⟨a,rfl,⟨vs,.inl (.inl q1)⟩,hm' ρ1 H1 _ l1 s1 (SD q1 q2)⟩
 | _=>exact hm.elim
end
end L2
namespace PySem
open Sem (wp)
section
variable {prog:Ap} {w:BE} {A:BC} {E:AD->AE->Prop} {s:AE}
end
end PySem
namespace L2
open PySem PySem.Spec PyProof.Rows
section
variable {X:Cx} {E:EW} {e a b c:Expr} {p p2 pos pos2:Pos} {m:ME} {te:TE} {ml:ML} {ta:TA} {tg:Expr}
end
section
variable {X:Cx} {E:EW} {a b c:Expr} {p pos:Pos} {ml:ML} {ta:TA} {tg:Expr}
end
end L2
namespace L2
open PySem PySem.Spec PyProof.Rows
section
variable {X:Cx} {E:EW} {e a b c:Expr} {p p2 pos pos2:Pos} {m:ME} {te:TE} {ml:ML} {ta:TA} {tg:Expr}
end
theorem j5 {P:Ap} {w:BE} {K:AB} {mg:Str->Option AD} {base:Bu} {CX:CXT} {k n:Nat} {f:AM} {fd:Df} {ps:List Str}:Dq P w K mg base CX k f fd ps (spM K n λ_ _=>.bad):=
 ⟨λ_ _ _ _ ⟨_,_,_,_,_,_,h⟩=>h.elim,λ_ _ _ _ _ _ _ _ _ _ _ _ _ ⟨_,_,_,_,_,_,h⟩=>h.elim⟩
end L2
namespace L2
open PySem PySem.Spec PyProof.Rows
section
variable {X:Cx} {E:EW} {k v:Expr} {pos:Pos} {mk mv:ME}
end
end L2
namespace PySem
end PySem
namespace L2
open PySem PySem.Spec PyProof.Rows
section
variable {X:Cx} {E:EW} {o e:Expr} {apos cpos:Pos} {mo ma:ME}
end
section
variable {X:Cx} {o e:Expr} {apos cpos:Pos} {td ty:TE}
end
section
variable {X:Cx} {E:EW} {o e:Expr} {apos cpos:Pos} {mo ma:ME}
end
end L2
namespace L2
open PySem PySem.Spec PyProof.Rows
section
variable {X:Cx}
end
section
variable {X:Cx} {E:EW} {o e f:Expr} {apos cpos:Pos} {mo mi my:ME}
end
end L2
namespace PySem
open Sem (wp)
section
variable {prog:Ap} {w:BE} {A:BC} {E:AD->AE->Prop} {s:AE}
end
end PySem
namespace L2
open PySem PySem.Spec PyProof.Rows
section
variable {P:Ap} {w:BE} {K:AB} {elts:List Expr} {x1:Nat} {pos:Pos}
end
section
variable {X:Cx} {E:EW} {e1 e2:Expr} {elts:List Expr} {x1:Nat} {p pos ptg:Pos} {ml:ML} {ta:TA}
end
end L2
namespace HT
open PySem PySem.Spec PyProof.Rows
section
variable {prog:Ap} {w:BE} {A:BC} {E:AD->AE->Prop} {s:AE}
theorem NG {t sl:AM} {items:Array AD} {vl vu:AD} {lo hi:Option Int} {Q:AD->AE->Prop} (ht:Va s.heap t items) (hs:s.heap.IsSliceOf sl vl vu .none) (pl:NT vl lo) (pu:NT vu hi)
  (hw:sIx items.size 0 lo=0/\sIx items.size items.size hi=items.size) (h:Q (.ref t) s):Ac (AZ prog w) A (Ki (.ref t) (.ref sl)) Q E s:=by
 obtain ⟨os,hos,hcs,hds⟩:=id hs;have hTs:s.TypeIs (.ref sl) "slice":=⟨os,hos,hcs⟩;unfold Ki
 try with_reducible refine EQ ?_
 first | refine AA (AL ?_) | skip
 refine AA (kO ht.typeIs (by decide) (AA (CK (name:=FW "__getitem__") ht.typeIs CB
  (CQ CB ht.typeIs fx ?_ (gn _ _)))))
 show Ac (AZ prog w) _ (Mm (.ref t) >>= _) _ _ s;refine AA (tupleItemsOf_ ht (AA (Qe hTs ?_)));rw [if_pos (by decide)];refine AA (JW hs pl pu ?_);show Ac (AZ prog w) _ (if (((sIx items.size 0 lo:Nat):Int)==0&&(1:Int)==1&&(sIx items.size items.size hi - sIx items.size 0 lo)==items.size)=true then _ else _) _ _ s;rw [hw.1,hw.2,if_pos (by simp)];unfold lH;refine AA (AA (Qe ht.typeIs (AL ?_)));rw [if_pos (by decide)];exact AA (PB (AA (AL (AL ⟨_,rfl,AL h⟩))))
end
end HT
namespace L2
open PySem PySem.Spec PyProof.Rows
section
variable {X:Cx}
def rSlW (K:AB):V->Option Int->Option Int->Hp->VK->Prop:=λx lo hi H Q=>∃a xs,x=.ref a/\SqT K H a xs/\(HT.sIx xs.length 0 lo=0/\HT.sIx xs.length xs.length hi=xs.length)/\Q (.ref a) H
theorem iY:SlR X (rSlW X.K):=by
 intro pins s σ H x v vl vu lo hi sl Q I rx hs pl pu h;obtain ⟨a,xs,rfl,hx,hw,q⟩:=h;cases rx;obtain ⟨its,r,ht,_⟩:=I.tuple hx
 have hlen:its.toArray.size=xs.length:=by rw [Ad];exact r.length.symm
 exact ⟨"tuple",_,CB.lookup,ht.typeIs,HT.NG ht hs pl pu (by rw [hlen];exact hw) ⟨.ref a,H,I,rfl,q⟩⟩
def iX (d:D) (lo hi:Option Int) (S:Sto):Res D:=match d with
 | .tup ds=>.ok (.tup (ID ds lo hi)) S
 | _=>.bad
def M8 (m:ME) (ml mh:MO):ME:=λe S=>(m e S).bind λd S1=>(ml e S1).bind λlo S2=>(mh e S2).bind λhi S3=>okR (iX d lo hi S3)
variable {E:EW} {e:Expr} {lo hi:Option Expr} {pos p2:Pos} {m:ME} {ml mh:MO}
theorem fU {α:Type} (xs:List α) (lo hi:Option Int) (h:HT.sIx xs.length 0 lo=0/\HT.sIx xs.length xs.length hi=xs.length):ID xs lo hi=xs:=by
 unfold ID;rw [h.1,h.2];simp
theorem Ro (he:GE X E e m) (hl:GO X E lo ml) (hu:GO X E hi mh):GE X E (.Subscript e (.Slice lo hi none p2) pos) (M8 m ml mh):=(UT (iY.or Z4) he hl hu).imp λσ H Q ⟨ρ,l,S,hl,hs,hm⟩=>by
 refine ⟨ρ,l,S,hl,hs,hm.seq λd S1 hm ρ1 H1 x l1 s1 r1=>⟨ρ1,l,S1,hl.mono l1,s1,(hm.later l1).seq λlo S2 hm ρ2 H2 l2 s2=>⟨ρ2,l,S2,hl.mono (l1.trans l2),s2,(hm.later l2).seq λhi S3 hm ρ3 H3 l3 s3=>?_⟩⟩⟩;obtain ⟨d',S',e,k⟩:=hm.okR;have r3:=r1.mono (l2.trans l3)
 cases d with
 | tup ds=>
  cases e
  cases r3 with
  | @tup _ a vs h1 h2=>
   by_cases hw:HT.sIx vs.length 0 lo=0/\HT.sIx vs.length vs.length hi=vs.length
   ·refine .inl ⟨a,vs,rfl,.inl (.inl h1),hw,k _ _ _ (l1.trans (l2.trans l3)) s3 ?_⟩
    rw [fU ds lo hi (by rw [h2.length];exact hw)];exact .tup h1 h2
   ·refine .inr ⟨a,vs,rfl,.inl (.inl h1),hw,λq hq=>?_⟩
    obtain ⟨s4,l4⟩:=GK (ho:=.tup (Oh vs lo hi)) s3 hq;exact k _ _ _ (l1.trans (l2.trans (l3.trans l4))) s4 (.tup Bw ((QT h2 lo hi).mono l4))
 | _=>cases e
end
end L2
namespace L2
open PySem PySem.Spec PyProof.Rows
section
variable {X:Cx}
instance (i j:Int):Decidable ((λ_ j:Int=>0<=j) i j):=inferInstanceAs (Decidable (0<=j))
abbrev Z5:=intOp fq λi j=>.int (i * 2 ^ j.toNat)
abbrev UG:=intOp (λ_ j=>0<=j) λi j=>.int (i / 2 ^ j.toNat)
abbrev TX:=intOp (λ_ _=>True) λi j=>.int (DA i j)
abbrev ci:=intOp (λ_ _=>True) λi j=>.int (CU i j)
theorem V9:OpR X (Cr .LShift) (rD X.K Z5):=Px (λ_ _ _ _=>.int _) jL
theorem V8:OpR X (Cr .RShift) (rD X.K UG):=Px (λ_ _ _ _=>.int _) jK
theorem Sj:OpR X (Cr .BitAnd) (rD X.K TX):=Lg (λ_ _ _ _=>.int _) jP
theorem ae:OpR X (Cr .BitXor) (rD X.K ci):=Lg (λ_ _ _ _=>.int _) jI
theorem mY:PIp X .BitOr (ipI λi j=>Lz i j):=by
 intro pins s σ H x y v u Q I r1 r2 h;obtain ⟨i,j,e1,e2,q⟩:=h;subst e1;subst e2;obtain ⟨a,rfl⟩:=r1;obtain ⟨b,rfl⟩:=r2;exact ior_int ⟨.int _,H,I.tok _,⟨_,rfl⟩,q⟩
end
end L2
namespace L2
open PySem PySem.Spec PyProof.Rows
section
variable {X:Cx} {E:EW} {CX:CXT} {k n:Nat} {f C:AM} {fd:Df} {ps:List Str} {m:Str} {pos apos:Pos} {o e:Expr} {es:List Expr} {mo:ME} {ml:ML} {g:List D->Sto->Res D}
end
end L2
namespace L2
open PySem PySem.Spec PyProof.Rows
section
variable {X:Cx} {E:EW} {o:Expr} {apos cpos:Pos} {mo:ME}
end
end L2
namespace L2
open PySem PySem.Spec PyProof.Rows
section
variable {X:Cx}
end
end L2
namespace L2
open PySem PySem.Spec PyProof.Rows
section
variable {X:Cx} {E:EW} {g:Str} {gp hpos pos:Pos} {G:AM} {cs:List AM} {body suite:List C1} {b₀:C1} {mb mh:MS}
end
end L2
namespace L2
open PySem PySem.Spec PyProof.Rows PySem.SeqAt
section
variable {X:Cx} {K:AB} {ρ:List AM} {H:Hp}
variable {pins:List (AM×Obj)} {σ:St} {s:AE}
end
section
variable {P:Ap} {w:BE} {K:AB} {mg:Str->Option AD} {base:Bu}
theorem Go {N ps:List Str} {sc:Ie} (h1:N.Nodup:=by decide +kernel) (h2:∀x∈ps,sc.names.lookup x=some .local∨sc.names.lookup x=some .cell:=by decide +kernel) (h3:∀y∈sc.names,y.2≠.free:=by decide +kernel) (h4:sc.kind=.function:=by rfl) (h5:sc.isCoroutine=false:=by rfl) (h6:sc.isGenerator=false:=by rfl) (h7:N.take ps.length=ps:=by rfl):Bp N ps sc:=⟨h4,h5,h6,h1,h7,h2,h3⟩
end
section
variable {X:Cx} {E:EW} {e:Expr} {m:ME} {pos:Pos}
theorem B8 {x:Str} (i:Nat) (hN:X.N.Nodup) (hi:X.N[i]?=some x:=by rfl) (hx:Loc X.env.scope x:=by first | exact KR rfl | exact JL rfl) (hf:X.fn x=true∨X.env.scope.names.lookup x=some .local:=by first | exact .inl rfl | exact .inr rfl | assumption):GG X (.Name x pos) (tgN i):=fA (dz hN hi hx hf)
theorem Ce {x:Str} {pos':Pos} (i:Nat) (hN:X.N.Nodup) (he:GE X E e m) (hi:X.N[i]?=some x:=by rfl) (hx:Loc X.env.scope x:=by first | exact KR rfl | exact JL rfl) (hs:GB e (some (.Name x pos')) pos.line X.env=pure false:=by rfl)
  (hf:X.fn x=true∨X.env.scope.names.lookup x=some .local:=by first | exact .inl rfl | exact .inr rfl | assumption):GS X E (.Assign [.Name x pos'] e pos) (CP i m):=jq hN hi hx he hs hf
theorem mz {x:Str} {pos':Pos} {op:Qk} {g:Int->Int->Int} (i:Nat) (hN:X.N.Nodup) (hp:PIp X op (ipI g)) (he:GE X E e m) (hi:X.N[i]?=some x:=by rfl) (hx:Loc X.env.scope x:=by first | exact KR rfl | exact JL rfl)
  (hf:X.fn x=true∨X.env.scope.names.lookup x=some .local:=by first | exact .inl rfl | exact .inr rfl | assumption):GS X E (.AugAssign (.Name x pos') op e pos) (YX i g m):=jr hN hi hx hp he hf
end
end L2
namespace PySem
open Sem (wp)
def cH (prog:Ap) (w:BE) (A:BC) (op:Qo) (P:Nat->AD->Prop) (bt:Nat->Nat->Bool) (J:Bu->Prop):Prop:=
 ∀i j vi vj (s:AE) (Q E:AD->AE->Prop),J s.heap->P i vi->P j vj->Q (.bool (bt i j)) s->Ac (AZ prog w) A (cT op vi vj) Q E s
section
variable {prog:Ap} {w:BE} {A:BC} {R:gt->AE->Prop} {z B:AM} {fp wr:List AM} {n:Nat} {P:Nat->AD->Prop} {St:Nat->Bu->Prop} {bt:Nat->Nat->Bool} {J:Bu->Prop}
def U5 (wr:List AM) (B:AM) (h h':Bu):Prop:=∀b o,b∉wr->b≠B->h.get? b=some o->h'.get? b=some o
theorem WD (W:Walks prog w A.in1 z fp wr n P St) (hJ:∀h h',J h->U5 wr B h h'->J h') (cm:cH prog w A.in1 .Lt P bt J) (nf:B∉fp) (m:Nat) :
  ∀(j:Nat) (s:AE) (x:AD) (c:Nat),j+1+m=n->J s.heap->St (j+1) s.heap->P (Ez bt j) x->s.heap.get? B=some { cls:=.type "list",dict:=none,data:=.seq #[x,x] c,slots:=#[] } ->
   (∀v h' tk,P (Ez bt (n - 1)) v->U5 wr B s.heap h'->R (.ok (.ret v)) { s with heap:=h',toks:=tk })->Kj (AZ prog w) A (.builtin "min.loop" ⟨[.ref z,.none,.ref B],[]⟩) R s:=by
 have nw:B∉wr:=λh=>nf (W.sub _ h)
 have nm:(toString "min"++toString ".loop" : String) = "min.loop":=by decide
 induction m with
 | zero=>
  intro j s x c e hj st hx hB k;have e':j+1=n:=e;refine Me Qn ?_;rw [LX Ec _];refine (show Ac _ A.in1 (R0 (.ref B) >>= _) _ _ s from AA (Jf hB rfl ?_));refine (show Ac _ A.in1 (tryCatch (Ji (.ref z)) _ >>= _) _ _ s from AA (NO (W.done s _ _ (e'▸st) λh1 tk st1=>?_)));have hB1:=st1 B _ nw hB;refine (show Ac _ A.in1 (updateSeq B (λ_=>#[]) >>= _) _ _ _ from AA (Tl hB1 rfl (AA (Tc (AL ?_)))))
  exact k x _ tk (by rw [<-e'];exact hx) λb o q1 q2 q3=>(B3 _ _ (Bo q2)).trans (st1 b o q1 q3)
 | succ m ih=>
  intro j s x c e hj st hx hB k
  have lt:j+1 < n:=by omega
  refine Me Qn ?_;rw [LX Ec _];refine (show Ac _ A.in1 (R0 (.ref B) >>= _) _ _ s from AA (Jf hB rfl ?_));refine (show Ac _ A.in1 (tryCatch (Ji (.ref z)) _ >>= _) _ _ s from AA (NO (W.item (j+1) s _ _ lt st λy h1 tk hy st' st1=>?_)));have hB1:=st1 B _ nw hB
  have hj1:J h1:=hJ _ _ hj λb o q1 _ q3=>st1 b o q1 q3
  refine (show Ac _ A.in1 (tryCatch (ZP [y,y] (cT .Lt y x >>= _)) _ >>= _) _ _ _ from AA (NO (EQ (AA (cm (j+1) (Ez bt j) y x _ _ _ hj1 hy hx ?_)))));refine AA (EQ (B1 ?_));refine AA (Tc (AL ?_))
  cases hb:bt (j+1) (Ez bt j) with
  | true=>
   simp only [if_true];refine AA ?_;refine Tl hB1 rfl (AA (Tc ?_));rw [nm]
   have up:U5 wr B h1 (h1.update B λo=>{ o with data:=.seq #[y,y] (c+1) }):=λb o _ q2 q3=>(B3 _ _ (Bo q2)).trans q3
   refine AL ⟨Ol Ec _,ih (j+1) _ y _ (by omega) (hJ _ _ hj1 λb o _ q2 q3=>(B3 _ _ (Bo q2)).trans q3) (W.frame _ _ _ st' λb q o q3=>(B3 _ _ λh:B=b=>nf (by rw [h];exact q)).trans q3) (by simp only [Ez,hb,if_true];exact hy) (HM _ hB1 rfl) λv h2 tk2 hv st2=>?_⟩
   exact k v h2 tk2 hv λb o q1 q2 q3=>st2 b o q1 q2 ((B3 _ _ (Bo q2)).trans (st1 b o q1 q3))
  | false=>
   simp only [B4,if_false];refine AA (Tc ?_);rw [nm];refine AL ⟨Ol Ec _,ih (j+1) _ x c (by omega) hj1 st' (by simp only [Ez,hb,B4,if_false];exact hx) hB1 λv h2 tk2 hv st2=>?_⟩
   exact k v h2 tk2 hv λb o q1 q2 q3=>st2 b o q1 q2 (st1 b o q1 q3)
variable {E:AD->AE->Prop} {s:AE}
theorem P3 {x:AD} {Q:AD->AE->Prop}
  (h:Ac (AZ prog w) A.in1 (ZO x) (λit s2=>∃z fp wr n P St bt J,it=.ref z/\Walks prog w A.in1 z fp wr n P St/\St 0 s2.heap/\(∀b∈fp,b < s2.heap.objs.size)/\0 < n/\cH prog w A.in1 .Lt P bt J/\J s2.heap/\(∀h h',J h->U5 wr s2.heap.objs.size h h'->J h') /\
   ∀v h' tk,P (Ez bt (n - 1)) v->(∀b o,b∉wr->s2.heap.get? b=some o->h'.get? b=some o)->Q v { s2 with heap:=h',toks:=tk }) E s):Ac (AZ prog w) A (call (.builtin "min") [x]) Q E s:=by
 have nm:(toString "min"++toString ".loop" : String) = "min.loop":=by decide
 refine call_function_tree F.kind_min F.plain_min F.entry_min (F.args_min1 _) ?_;refine (show Ac _ A.in1 (Lq "min" ["key", "default"] 0 ⟨[],[]⟩ >>= _) _ _ s from AA (Tb (show Lq "min" ["key", "default"] 0 ⟨[],[]⟩=pure [none,none] from rfl) ?_));refine AA (AL (AA (Dx h (λit s2 h2=>?_) λ_ _ e=>e)));obtain ⟨z,fp,wr,n,P,St,bt,J,rfl,W,st,hf,hn,cm,hj,hJ,k⟩:=h2
 have nf:s2.heap.objs.size∉fp:=λq=>Cu _ (hf _ q)
 have nw:s2.heap.objs.size∉wr:=λq=>nf (W.sub _ q)
 refine AA (CG ?_);rw [nm];refine AL ⟨Ol Ec _,?_⟩;refine Me Qn ?_;rw [LX Ec _];refine (show Ac _ A.in1 (R0 (.ref s2.heap.objs.size) >>= _) _ _ _ from AA (Jf (Ai _ rfl) rfl ?_));refine (show Ac _ A.in1 (tryCatch (Ji (.ref z)) _ >>= _) _ _ _ from AA (NO (W.item 0 _ _ _ hn (W.frame _ _ _ st λb _ o e=>AJ _ e) λy h1 tk hy st' st1=>?_)));have hB1:=st1 _ _ nw (Ai _ rfl)
 have old:∀b o,b∉wr->s2.heap.get? b=some o->b≠s2.heap.objs.size/\h1.get? b=some o:=λb o q1 q2=>⟨Av (Aa q2),st1 b o q1 (AJ _ q2)⟩
 refine (show Ac _ A.in1 (updateSeq s2.heap.objs.size (λ_=>#[y,y]) >>= _) _ _ _ from AA (Tl hB1 rfl ?_));rw [nm];refine AL ⟨Ol Ec _,WD W hJ cm nf (n - 1) 0 _ y _ (by omega) (hJ _ _ hj λb o q1 q2 q3=>(B3 _ _ (Bo q2)).trans (old b o q1 q3).2) (W.frame _ _ _ st' λb q o q3=>(B3 _ _ λh:s2.heap.objs.size=b=>nf (by rw [h];exact q)).trans q3) hy (HM _ hB1 rfl) λv h2 tk2 hv st2=>?_⟩
 exact k v h2 tk2 hv λb o q1 q3=>st2 b o q1 (old b o q1 q3).1 ((B3 _ _ (Bo (old b o q1 q3).1)).trans (old b o q1 q3).2)
end
end PySem
namespace L2
open PySem PySem.Spec PyProof.Rows
section
variable {X:Cx} {E:EW} {e:Expr} {p pos:Pos} {m:ME}
def RW:List D->Option (List (List Int))
 | []=>some []
 | .tup xs :: ds=>match Gc xs,RW ds with
  | some r,some rs=>some (r :: rs)
  | _,_=>none
 | _ :: _=>none
theorem UN:∀ {ds:List D} {rs:List (List Int)},RW ds=some rs->rs.length=ds.length/\∀(i:Nat) d,ds[i]?=some d->d=.tup ((rs.getD i []).map D.int)
 | [],rs,h=>by cases h;exact ⟨rfl,λi d h=>by simp at h⟩
 | d :: ds,rs,h=>by
  cases d with
  | tup xs=>
   unfold RW at h;split at h
   ·rename_i r rs' h1 h2
    cases h;obtain ⟨l,a⟩:=UN h2;refine ⟨by simp [l],λi d hd=>?_⟩
    cases i with
    | zero=>cases hd;rw [Jb h1];rfl
    | succ i=>exact a i d hd
   ·cases h
  | _=>cases h
def WC (ds:List D) (S:Sto):Res D:=match RW ds with
 | some rs=>match ds[Ez (λi j=>HT.lexLt (rs.getD i []) (rs.getD j [])) (rs.length - 1)]? with
  | some d=>.ok d S
  | none=>.bad
 | none=>.bad
def gN (K:AB):List V->Hp->VK->Prop:=λxs H Q=>∃(a:AM) (vs:List V) (rs:List (List Int)) (v:V),xs=[.ref a]/\(SqL K H a vs∨SqT K H a vs)/\vs.length=rs.length/\(∀(i:Nat) u,vs[i]?=some u->∃b,u=.ref b/\SqT K H b ((rs.getD i []).map V.int))/\vs[Ez (λi j=>HT.lexLt (rs.getD i []) (rs.getD j [])) (rs.length - 1)]?=some v/\Q v H
theorem Y6 (hc:X.calm=true) (hu:X.A.units+64 < Dr):Hq X (.builtin "min") (gN X.K):=by
 intro pins s σ H xs us Q I r h;obtain ⟨a,vs,rs,v,rfl,sq,hl,tp,hv,q⟩:=h;obtain ⟨u,rfl,ru⟩:=vals1 r;cases ru;have hh:=I.ok.hd hc
 have at_:∀its:List AD,Bs vs its->∀(i:Nat) (x:AD),its[i]?=some x->∃b,x=.ref b/\∃ts:List AD,s.heap.IsTuple b ts.toArray/\Cy ts (rs.getD i []):=λits rv i x hx=>by
  obtain ⟨y,hy,ry⟩:∃y,vs[i]?=some y/\RelV y x:=by
   have hi:i < its.toArray.size:=by rw [Ad];exact (AH.mp hx).1
   obtain ⟨y,h1,h2⟩:=Bs.at_ rv hi
   have:its.toArray[i]=x:=by simpa using (AH.mp hx).2
   exact ⟨y,h1,this▸h2⟩
  obtain ⟨b,rfl,sb⟩:=tp i y hy;cases ry;obtain ⟨ts,rt,pt,_⟩:=I.tuple sb;exact ⟨b,rfl,ts,pt,intsAre_of rt⟩
 have pos:∀its:List AD,Bs vs its->0 < its.toArray.size:=λits rv=>by
  have h1:=(AH.mp hv).1;have h2:=rv.length;rw [Ad];omega
 have cmp:∀its:List AD,Bs vs its->cH X.prog X.w X.A.in1 .Lt (λi v=>its.toArray[i]?=some v) (λi j=>HT.lexLt (rs.getD i []) (rs.getD j [])) (λh'=>∀b o,s.heap.get? b=some o->h'.get? b=some o):=λits rv i j vi vj s' Q' E' hJ hi hj hq=>by
  obtain ⟨b,rfl,ts,t1,n1⟩:=at_ its rv i vi (by simpa using hi);obtain ⟨b',rfl,ts',t2,n2⟩:=at_ its rv j vj (by simpa using hj);obtain ⟨o,ho,r1⟩:=t1;obtain ⟨o',ho',r2⟩:=t2;exact HT.WG (A:=X.A.in1) ⟨o,hJ _ _ ho,r1⟩ ⟨o',hJ _ _ ho',r2⟩ (by simpa using n1) (by simpa using n2) (by rw [Fx];omega) hq
 have stay:∀(o':Obj) (h1 h2:Bu),(∀b o,s.heap.get? b=some o->h1.get? b=some o)->U5 [s.heap.objs.size] (s.heap.push o').objs.size h1 h2->∀b o,s.heap.get? b=some o->h2.get? b=some o:=λo' h1 h2 q1 q2 b o e=>by
  have lb:=Aa e;refine q2 b o (λhm=>?_) (λhm=>?_) (q1 b o e)
  ·exact absurd (Ae.mp hm▸lb) (Cu _)
  ·rw [hm,Dh] at lb
   exact absurd (Nat.lt_of_succ_lt lb) (Cu _)
 have fin:∀(its:List AD) (x:AD) (h':Bu) (tk:Nat),Bs vs its->its.toArray[Ez (λi j=>HT.lexLt (rs.getD i []) (rs.getD j [])) (its.toArray.size - 1)]?=some x->(∀b o,s.heap.get? b=some o->h'.get? b=some o)->EP X pins σ Q x { s with heap:=h',toks:=tk }:=λits x h' tk rv hx hk=>by
  rw [List.getElem?_toArray,Ad] at hx
  have hi:Ez (λi j=>HT.lexLt (rs.getD i []) (rs.getD j [])) (its.length - 1) < its.toArray.size:=by rw [Ad];exact (AH.mp hx).1
  obtain ⟨y,h1,h2⟩:=Bs.at_ rv hi
  have e1:its.toArray[Ez (λi j=>HT.lexLt (rs.getD i []) (rs.getD j [])) (its.length - 1)]=x:=by simpa using (AH.mp hx).2
  rw [e1] at h2
  have e2:its.length=rs.length:=by have:=rv.length;omega
  rw [e2,hv] at h1;cases h1;exact ⟨_,H,I.kept hk,h2,q⟩
 rcases sq with sq | sq
 ·obtain ⟨its,rv,pl,hz⟩:=I.list sq
  have la:a < s.heap.objs.size:=by obtain ⟨o,q,_⟩:=pl.isList;exact Aa q
  refine P3 (Qg pl.isList ?_);exact ⟨_,_,_,_,_,_,_,_,rfl,kt (A:=X.A.in1) hh _ a (Av la) its.toArray,⟨⟨_,Ai _ rfl,rfl,rfl⟩,pl.isList.push _⟩,gb la,pos its rv,cmp its rv,λb o e=>AJ _ e,stay _,λx h' tk hx hk=>fin its x h' tk rv hx (XV hk)⟩
 ·obtain ⟨its,rv,pl,hz⟩:=I.tuple sq
  have pl':s.heap.IsTuple a its.toArray:=pl
  have la:a < s.heap.objs.size:=by obtain ⟨o,q,_⟩:=pl';exact Aa q
  refine P3 (Cm pl' ?_);exact ⟨_,_,_,_,_,_,_,_,rfl,kZ (A:=X.A.in1) hh _ a (Av la) its.toArray,⟨⟨_,Ai _ rfl,rfl,rfl⟩,pl'.push _⟩,gb la,pos its rv,cmp its rv,λb o e=>AJ _ e,stay _,λx h' tk hx hk=>fin its x h' tk rv hx (XV hk)⟩
theorem dR:fk X.K (gN X.K) WC:=λρ H S ds q xs d S' Q hs rr sq hm k=>by
 unfold WC at hm;split at hm
 ·rename_i rs hr
  obtain ⟨hl,ha⟩:=UN hr;split at hm
  ·rename_i d' hd
   cases hm;obtain ⟨v,hv,rv⟩:=rr.get hd;refine ⟨q,xs,rs,v,rfl,sq,by rw [<-rr.length,hl],λi u hu=>?_,hv,k ρ H _ .refl hs rv⟩;obtain ⟨x,hx,rx⟩:=rr.get' hu;have e:=ha i x hx;subst e
   cases rx with
   | tup a1 a2=>rw [M0 a2] at a1;exact ⟨_,rfl,.inl (.inl a1)⟩
  ·cases hm
 ·cases hm
theorem fC (hu:X.A.units+64 < Dr) (hc:X.calm=true) (hg:Gl X "min") (hm:X.mg "min" = none) (h:GE X E e m) (he:Ab [e] X.env=(false,CS e X.env) :: Ab [] X.env:=by rfl):GE X E (.Call (.Name "min" p) [e] [] pos) (mQ WC (MR m)):=
 O6 (Y6 hc hu) dR hg hm PH (Uj h) (by decide) (by decide) he
end
end L2
namespace L2
open PySem PySem.Spec PyProof.Rows
abbrev Cx.q (X:Cx):Cx:={ X with xe:=λ_ _=>False }
def En (n:Nat) (mb:MS) (ds:List D) (S:Sto):Res D:=(okR (mb (Hb n ds) S)).bind λf S1=>match f with
 | .rt d=>.ok d S1
 | .nx _=>.ok .non S1
 | _=>.bad
section
variable {P:Ap} {w:BE} {K:AB} {mg:Str->Option AD} {base:Bu}
theorem fK {x qual:Str} {st:C1} {f:AM} {fd:Df} {N ps:List Str} {k n:Nat} (F:Fun K x qual st f fd) (Sc:Bp N ps (Al st)) (hn:ps.length=n) {mb:MS}
  (hbody:∀(cdv:AD) (A:BC) (outer:List Env) (s:AE) (H:Hp) (E:XK),Hj k (A.deeper (L8 qual (Al st) s.heap.objs.size f cdv))->GSs (WX (CXG P w) P w K mg base N qual (Al st) f cdv A outer s H E).q noE (Bi st) mb) :
  Dq P w K mg base (CXG P w) (k+1) f fd ps (spM K n (En N.length mb)):=by
 obtain ⟨oc,od,kV,doc,pm,an,cdv,ct,osl,rfl,lk,hcd⟩:=F.ex
 refine nD lk hcd Sc (λvs H Q E h=>by rw [hn];exact h.len) λA outer s H vs Q E hr h=>?_
 obtain ⟨ρ,ds,S,h1,h2,h3,h4⟩:=h;have hb:=hbody cdv A outer s H E hr;refine ⟨gS K noE mb,λpins s' σ H' D I q=>Dx (hb pins s' σ H' D (I.with _) q) (λfl s1 z=>?_) λe s1 z=>z.elim,ρ,_,S,Vu h2,h3,?_⟩
 ·cases fl with
  | next=>obtain ⟨σ',H2,J,z⟩:=z;exact ⟨σ',H2,J.without,z⟩
  | brk=>obtain ⟨σ',H2,J,z⟩:=z;exact ⟨σ',H2,J.without,z⟩
  | cont=>obtain ⟨σ',H2,J,z⟩:=z;exact ⟨σ',H2,J.without,z⟩
  | ret u=>obtain ⟨v,σ',H2,J,r,z⟩:=z;exact ⟨v,σ',H2,J.without,r,z⟩
 ·unfold En at h4
  cases hr:mb (Hb N.length ds) S with
  | bad=>rw [hr] at h4;exact h4.elim
  | err c S'=>rw [hr] at h4;exact h4.elim
  | ok fl S'=>
   rw [hr] at h4
   cases fl with
   | nx e'=>exact λρ' H' σ' l s' r=>h4 ρ' H' .non l s' .non
   | rt d=>exact h4
   | bk e'=>exact h4.elim
   | ct e'=>exact h4.elim
   | ex c e'=>exact h4.elim
end
def rIsQ (K:AB) (c:V) (cv:AD):List V->Hp->VK->Prop:=λxs H Q=>∃x t b,xs=[x,c]/\NJ K H x t/\D7 K t cv=some b/\Q (.bl b) H
section
variable {X:Cx} {E:EW} {e ce:Expr} {p pos:Pos} {m:ME} {c:V} {cv:AD} {tab:String->Option Bool}
theorem cA (hv:∀u,RelV c u->u=cv):Hq X (.builtin "isinstance") (rIsQ X.K c cv):=by
 intro pins s σ H xs us Q I r h;obtain ⟨x,t,b,rfl,ty,e,q⟩:=h;obtain ⟨v,w,rfl,r1,r2⟩:=vals2 r;rw [hv w r2]
 exact Yq I r1 ty e λtk=>⟨.bl b,H,I.tok tk,rfl,q⟩
def eX (tab:String->Option Bool) (m:ME):ME:=λe S=>(m e S).bind λd S1=>match tyD d S1 with
  | some T=>match tab T with
   | some b=>.ok (.bl b) S1
   | none=>.bad
  | none=>.bad
theorem WT (hv:∀u,RelV c u->u=cv) (ht:∀T b,tab T=some b->D7 X.K (.type T) cv=some b)
  (hg:Gl X "isinstance") (hm:X.mg "isinstance" = none) (h:GE X E e m) (hce:PE X ce (tC c))
  (he:Ab [e,ce] X.env=(false,CS e X.env) :: Ab [ce] X.env:=by rfl) (he2:Ab [ce] X.env=(false,CS ce X.env) :: Ab [] X.env:=by rfl) (hpl:(Dz pos (Ab [ce] X.env)).any (·.1)=false:=by rfl) :
  GE X E (.Call (.Name "isinstance" p) [e,ce] [] pos) (eX tab m):=
 (M2 (cA hv) hg hm nW (FI h (FI hce Hd he2) he) (by decide) (by decide) he hpl).imp λσ H Q ⟨ρ,l,S,hl,hs,hm⟩=>by
 refine ⟨ρ,l,S,hl,hs,hm.seq λd S1 hm ρ1 H1 x l1 s1 r1=>?_⟩
 cases hq:tyD d S1 with
 | none=>rw [hq] at hm;exact hm.elim
 | some T=>
  rw [hq] at hm;dsimp only at hm
  cases hb:tab T with
  | none=>rw [hb] at hm;exact hm.elim
  | some b=>
   rw [hb] at hm;exact ⟨x,_,b,rfl,iM s1 r1 hq,ht T b hb,hm ρ1 H1 _ l1 s1 (.bl _)⟩
end
end L2
namespace M
open PySem L2
theorem Nj {n:Nat} {mb:MS} {ds:List D} {S S1:Sto} {d:D} (h:mb (Hb n ds) S=.ok (.rt d) S1):En n mb ds S=.ok d S1:=by unfold En;rw [h];rfl
theorem Z8 {n:Nat} {mb:MS} {ds:List D} {S S1:Sto} {e:Lo} (h:mb (Hb n ds) S=.ok (.nx e) S1):En n mb ds S=.ok .non S1:=by unfold En;rw [h];rfl
abbrev mIs (tab:String->Option Bool) (_:AM->Option Bool) (m:ME):ME:=eX tab m
theorem mX {tab:String->Option Bool} {tabC:AM->Option Bool} {m:ME} {e:Lo} {S S1:Sto} {d:D} {T:String} {b:Bool} (h:m e S=.ok d S1) (ht:tyD d S1=some T) (hb:tab T=some b):mIs tab tabC m e S=.ok (.bl b) S1:=by
 show eX tab m e S=_;unfold eX;rw [h];dsimp only [Res.bind];rw [ht];dsimp only;rw [hb]
end M
namespace L4
open PySem L2
inductive Cel where
 | no | fz (o:Ob) | ow (i:Nat)
abbrev Fz:=Nat->Cel
inductive Sl where
 | u | v (d:D) | z (o:Ob) | y (o:Ob) | w (i:Nat) (o:Ob)
def Sl.ok (S0:Sto) (F:Fz) (S:Sto):Sl->Option D->Prop
 | .u,_=>True
 | .v d,x=>x=some d
 | .z o,x=>∃n,x=some (.ref n)/\F n=.fz o
 | .y o,x=>∃n,x=some (.ref n)/\F n=.fz o/\S0.length<=n
 | .w i o,x=>∃n,x=some (.ref n)/\F n=.ow i/\S[n]?=some o
structure Vs (S0:Sto) (A:List Sl) (e:Lo) (F:Fz) (S:Sto):Prop where
 kp:Keeps S0 S
 fz:∀n o,F n=.fz o->S[n]?=some o
 ow:∀n i,F n=.ow i->S0.length<=n/\n < S.length
 hi:∀n,S.length<=n->F n=.no
 sl:∀(i:Nat) (a:Sl),A[i]?=some a->∃x,e[i]?=some x/\a.ok S0 F S x
def Fle (F F':Fz):Prop:=∀n o,F n=.fz o->F' n=.fz o
theorem Fle.refl (F:Fz):Fle F F:=λ_ _ h=>h
theorem Fle.trans {F G H:Fz} (a:Fle F G) (b:Fle G H):Fle F H:=λn o h=>b n o (a n o h)
def N2 (F:Fz) (S S':Sto):Fz:=λn=>if n < S.length then F n else match S'[n]? with
 | some o=>.fz o
 | none=>.no
section
variable {S0 S S':Sto} {A B:List Sl} {e:Lo} {F:Fz} {α β γ ρ σ τ:Type}
theorem Fc {n:Nat} (h:n < S.length):N2 F S S' n=F n:=if_pos h
theorem QO {n:Nat} {o:Ob} (h:S.length<=n) (ho:S'[n]?=some o):N2 F S S' n=.fz o:=by
 unfold N2;rw [if_neg (JB.mpr h),ho]
theorem Bl {n:Nat} {o:Ob} (h:S[n]?=some o):n < S.length:=(AH.mp h).1
theorem Sl.mono {S0:Sto} {F F':Fz} {S S':Sto} {a:Sl} {x:Option D} (h:a.ok S0 F S x) (h1:∀n o,F n=.fz o->F' n=.fz o) (h2:∀n i o,F n=.ow i->S[n]?=some o->F' n=.ow i/\S'[n]?=some o):a.ok S0 F' S' x:=by
 cases a with
 | u=>trivial
 | v d=>exact h
 | z o=>obtain ⟨n,h3,h4⟩:=h;exact ⟨n,h3,h1 _ _ h4⟩
 | y o=>obtain ⟨n,h3,h4,h5⟩:=h;exact ⟨n,h3,h1 _ _ h4,h5⟩
 | w i o=>obtain ⟨n,h3,h4,h5⟩:=h;exact ⟨n,h3,h2 _ _ _ h4 h5⟩
theorem Vs.fle (h:Vs S0 A e F S) (S':Sto):Fle F (N2 F S S'):=λn o q=>by rw [Fc (Bl (h.fz n o q))];exact q
theorem Vs.grow (h:Vs S0 A e F S) (k:Keeps S S'):Vs S0 A e (N2 F S S') S':=by
 refine ⟨h.kp.trans k,λn o q=>?_,λn i q=>?_,λn hn=>?_,λi a ha=>?_⟩
 ·unfold N2 at q
  split at q
  ·rename_i hn
   rw [k.2 n hn];exact h.fz n o q
  ·cases hs:S'[n]? with
   | none=>rw [hs] at q;cases q
   | some o'=>rw [hs] at q;cases q;rfl
 ·unfold N2 at q
  split at q
  ·exact ⟨(h.ow n i q).1,Ag (h.ow n i q).2 k.1⟩
  ·cases hs:S'[n]? with
   | none=>rw [hs] at q;cases q
   | some o'=>rw [hs] at q;cases q
 ·unfold N2
  rw [if_neg (JB.mpr (Am k.1 hn)),Cb hn]
 ·obtain ⟨x,h1,h2⟩:=h.sl i a ha
  exact ⟨x,h1,Sl.mono h2 (h.fle S') λn i o q1 q2=>⟨by rw [Fc (Bl q2)];exact q1,by rw [k.2 n (Bl q2)];exact q2⟩⟩
theorem Vs.cons (h:Vs S0 A e F S) {a:Sl} {x:Option D} (hx:a.ok S0 F S x):Vs S0 (a :: A) (x :: e) F S:=
 ⟨h.kp,h.fz,h.ow,h.hi,λi b hb=>by
  cases i with
  | zero=>cases hb;exact ⟨x,rfl,hx⟩
  | succ i=>exact h.sl i b hb⟩
theorem Vs.set (h:Vs S0 A e F S) {a:Sl} {x:Option D} (i:Nat) (hx:a.ok S0 F S x):Vs S0 (A.set i a) (e.set i x) F S:=
 ⟨h.kp,h.fz,h.ow,h.hi,λj b hb=>by
  by_cases c:i=j
  ·subst c
   rw [Gq] at hb;rw [if_pos rfl] at hb;split at hb
   ·rename_i hl
    cases hb;obtain ⟨y,hy,_⟩:=h.sl i (A[i]) (BJ hl);exact ⟨x,by rw [Gq];rw [if_pos rfl,if_pos (AH.mp hy).1],hx⟩
   ·cases hb
  ·rw [At c] at hb ⊢
   exact h.sl j b hb⟩
inductive Wk:List Sl->List Sl->Prop where
 | nil:Wk [] []
 | same {a:Sl} {A B:List Sl}:Wk A B->Wk (a :: A) (a :: B)
 | drop {a:Sl} {A B:List Sl}:Wk A B->Wk (a :: A) (.u :: B)
 | less {o:Ob} {A B:List Sl}:Wk A B->Wk (.y o :: A) (.z o :: B)
theorem Wk.at:∀ {A B:List Sl},Wk A B->∀(i:Nat) (b:Sl),B[i]?=some b->∃a,A[i]?=some a/\(b=.u∨b=a∨∃o,a=.y o/\b=.z o)
 | _,_,.nil,i,b,h=>by simp at h
 | _,_,.same w,0,b,h=>by cases h;exact ⟨_,rfl,.inr (.inl rfl)⟩
 | _,_,.less w,0,b,h=>by cases h;exact ⟨_,rfl,.inr (.inr ⟨_,rfl,rfl⟩)⟩
 | _,_,.less w,i+1,b,h=>Wk.at w i b h
 | _,_,.drop w,0,b,h=>by cases h;exact ⟨_,rfl,.inl rfl⟩
 | _,_,.same w,i+1,b,h=>Wk.at w i b h
 | _,_,.drop w,i+1,b,h=>Wk.at w i b h
theorem Vs.weak (h:Vs S0 A e F S) (w:Wk A B):Vs S0 B e F S:=⟨h.kp,h.fz,h.ow,h.hi,λi b hb=>by
 obtain ⟨a,h1,h2⟩:=w.at i b hb;obtain ⟨x,h3,h4⟩:=h.sl i a h1
 rcases h2 with rfl | rfl | ⟨o,rfl,rfl⟩
 ·exact ⟨x,h3,trivial⟩
 ·exact ⟨x,h3,h4⟩
 ·obtain ⟨n,h5,h6,_⟩:=h4
  exact ⟨x,h3,n,h5,h6⟩⟩
def Sl.oth (i:Nat):Sl->Bool
 | .w k _=>!(Nat.beq k i)
 | _=>true
theorem aX {i j k:Nat} {o:Ob} (h:((A.set i .u).all (Sl.oth i))=true) (hj:j≠i) (ha:A[j]?=some (.w k o)):k≠i:=by
 have h1:(A.set i .u)[j]?=some (.w k o):=by rw [At (Bo hj)];exact ha
 have:=FU.mp h _ (CJ h1);intro e;subst e;have h2:(!(Nat.beq k k))=true:=this;rw [Nat.beq_refl] at h2;cases h2
theorem Vs.put (h:Vs S0 A e F S) {i n:Nat} {o o':Ob} (ht:((A.set i .u).all (Sl.oth i))=true) (ha:A[i]?=some (.w i o)) (hx:e[i]?=some (some (.ref n))) (hn:F n=.ow i):Vs S0 (A.set i (.w i o')) e F (S.set n o'):=by
 have hl:=h.ow n i hn;refine ⟨h.kp.set hl.1 o',λk q hq=>?_,λk j q=>by rw [Kp];exact h.ow k j q,λk hk=>h.hi k (by rw [Kp] at hk;exact hk),λj b hb=>?_⟩
 ·have:n≠k:=λc=>by subst c;rw [hn] at hq;cases hq
  rw [At this];exact h.fz k q hq
 ·by_cases c:i=j
  ·subst c
   rw [Gq] at hb;rw [if_pos rfl] at hb;split at hb
   ·cases hb
    exact ⟨_,hx,n,rfl,hn,by rw [Gq];rw [if_pos rfl,if_pos hl.2]⟩
   ·cases hb
  ·rw [At c] at hb
   obtain ⟨x,h1,h2⟩:=h.sl j b hb;refine ⟨x,h1,?_⟩
   cases b with
   | u=>trivial
   | v d=>exact h2
   | z q=>exact h2
   | y q=>exact h2
   | w k q=>
    obtain ⟨m,h3,h4,h5⟩:=h2;refine ⟨m,h3,h4,?_⟩
    have:n≠m:=λz=>by
     subst z;rw [hn] at h4;cases h4;exact aX ht (λz=>c z.symm) hb rfl
    rw [At this];exact h5
theorem Vs.freeze (h:Vs S0 A e F S) {i:Nat} {o:Ob} (ht:((A.set i .u).all (Sl.oth i))=true) (ha:A[i]?=some (.w i o)):∃F',Vs S0 (A.set i (.y o)) e F' S/\Fle F F':=by
 obtain ⟨x,hx,n,rfl,hn,ho⟩:=h.sl i _ ha
 have g:∀k,k≠n->(if k=n then Cel.fz o else F k)=F k:=λk hk=>if_neg hk
 have fl:Fle F (λk=>if k=n then Cel.fz o else F k):=λk q hq=>by
  have:k≠n:=λc=>by subst c;rw [hn] at hq;cases hq
  show (if k=n then Cel.fz o else F k)=_;rw [if_neg this];exact hq
 refine ⟨λk=>if k=n then .fz o else F k,⟨h.kp,λk q hq=>?_,λk j q=>?_,λk hk=>?_,λj b hb=>?_⟩,fl⟩
 ·split at hq
  ·rename_i c;cases hq;subst c;exact ho
  ·exact h.fz k q hq
 ·split at q
  ·cases q
  ·exact h.ow k j q
 ·have:k≠n:=λc=>by subst c;exact absurd (Bl ho) (JB.mpr hk)
  show (if k=n then Cel.fz o else F k)=_;rw [if_neg this];exact h.hi k hk
 ·by_cases c:i=j
  ·subst c
   rw [Gq] at hb;rw [if_pos rfl] at hb;split at hb
   ·cases hb
    exact ⟨_,hx,n,rfl,if_pos rfl,(h.ow n i hn).1⟩
   ·cases hb
  ·rw [At c] at hb
   obtain ⟨x,h1,h2⟩:=h.sl j b hb;refine ⟨x,h1,?_⟩
   cases b with
   | u=>trivial
   | v d=>exact h2
   | z q=>obtain ⟨m,h3,h4⟩:=h2;exact ⟨m,h3,fl _ _ h4⟩
   | y q=>obtain ⟨m,h3,h4,h5⟩:=h2;exact ⟨m,h3,fl _ _ h4,h5⟩
   | w k q=>
    obtain ⟨m,h3,h4,h5⟩:=h2;refine ⟨m,h3,?_,h5⟩
    have:m≠n:=λz=>by
     subst z;rw [hn] at h4;cases h4;exact aX ht (λz=>c z.symm) hb rfl
    show (if m=n then Cel.fz o else F m)=_;rw [if_neg this];exact h4
theorem Vs.own (h:Vs S0 A e F S) (k:Keeps S S') {i n:Nat} {o:Ob} (hn:S.length<=n) (ho:S'[n]?=some o):∃F',Vs S0 (A.set i (.w i o)) (e.set i (some (.ref n))) F' S'/\Fle F F':=by
 have g:=h.grow k;have hnl:=Bl ho
 have fl:Fle F (λj=>if j=n then Cel.ow i else N2 F S S' j):=λj q hq=>by
  have:j≠n:=λc=>by subst c;exact absurd (Bl (h.fz _ _ hq)) (JB.mpr hn)
  show (if j=n then Cel.ow i else _)=_;rw [if_neg this];exact h.fle S' _ _ hq
 refine ⟨λj=>if j=n then .ow i else N2 F S S' j,(Vs.set (a:=.w i o) (x:=some (.ref n)) ⟨g.kp,λj q hq=>?_,λj q hq=>?_,λj hj=>?_,λj b hb=>?_⟩ i ⟨n,rfl,if_pos rfl,ho⟩),fl⟩
 ·split at hq
  ·cases hq
  ·exact g.fz j q hq
 ·split at hq
  ·rename_i c;subst c;exact ⟨Am h.kp.1 hn,hnl⟩
  ·exact g.ow j q hq
 ·have:j≠n:=λc=>by subst c;exact absurd hnl (JB.mpr hj)
  show (if j=n then Cel.ow i else _)=_;rw [if_neg this];exact g.hi j hj
 ·obtain ⟨x,h1,h2⟩:=h.sl j b hb
  refine ⟨x,h1,Sl.mono h2 fl λm j q q1 q2=>?_⟩;have hm:=Bl q2
  have:m≠n:=λc=>by subst c;exact absurd hm (JB.mpr hn)
  refine ⟨?_,by rw [k.2 m hm];exact q2⟩;show (if m=n then Cel.ow i else _)=_;rw [if_neg this,Fc hm];exact q1
abbrev Rk (α:Type):=α->Sto->D->Sto->Prop
def rV (enc:α->D):Rk α:=λv _ d _=>d=enc v
def rO (ob:α->Ob):Rk α:=λv _ d S=>∃n,d=.ref n/\S[n]?=some (ob v)
def rN (ob:α->Ob):Rk α:=λv S0 d S=>∃n,d=.ref n/\S0.length<=n/\S[n]?=some (ob v)
def VE (A:List Sl) (m:ME) (R:Rk α) (p:Option α):Prop:=∀v,p=some v->∀S0 e F S,Vs S0 A e F S->∃d S',m e S=.ok d S'/\Keeps S S'/\R v S d S'
def VB (A:List Sl) (t:MT) (p:Option Bool):Prop:=∀v,p=some v->∀S0 e F S,Vs S0 A e F S->∃S',t e S=.ok v S'/\Keeps S S'
def VL (A:List Sl) (ml:ML) (enc:α->D) (p:Option (List α)):Prop:=∀v,p=some v->∀S0 e F S,Vs S0 A e F S->∃S',ml e S=.ok (v.map enc) S'/\Keeps S S'
def VK (A:List Sl) (mi:MI) (enc:α->D) (p:Option (List α)):Prop:=∀v,p=some v->∀S0 e F S,Vs S0 A e F S->∃w S',mi e S=.ok w S'/\Keeps S S'/\∀S'',Keeps S' S''->w S''=some (v.map enc)
def VI (A:List Sl) (mi:MI) (enc:α->D) (p:Option (List α)):Prop:=∀v,p=some v->∀S0 e F S,Vs S0 A e F S->∃w S',mi e S=.ok w S'/\Keeps S S'/\∀F'' S'',Fle (N2 F S S') F''->(∀n o,F'' n=.fz o->S''[n]?=some o)->w S''=some (v.map enc)
theorem VI.k {mi:MI} {enc:α->D} {p:Option (List α)} (h:VI A mi enc p):VK A mi enc p:=λv hv S0 e F S hs=>by
 obtain ⟨w,S',h1,h2,h3⟩:=h v hv S0 e F S hs;have g:=hs.grow h2;exact ⟨w,S',h1,h2,λS'' k=>h3 _ S'' (g.fle S'') (g.grow k).fz⟩
def eT (enc:α->D) (l:List α):D:=.tup (l.map enc)
def eP (a:α->D) (b:β->D) (x:α×β):D:=.tup [a x.1,b x.2]
def eO (a:α->D):Option α->D
 | none=>.non
 | some x=>a x
def eU (_:Unit):D:=.non
def eF (l:List Int):D:=.fro (l.map D.int)
def oL (enc:α->D) (l:List α):Ob:=.lst (l.map enc)
theorem iF {m:ME} {R R':Rk α} {p:Option α} (h:VE A m R p) (i:∀v S d S',R v S d S'->R' v S d S'):VE A m R' p:=λv hv S0 e F S hs=>by
 obtain ⟨d,S',h1,h2,h3⟩:=h v hv S0 e F S hs;exact ⟨d,S',h1,h2,i _ _ _ _ h3⟩
theorem HP {m:ME} {ob:α->Ob} {p:Option α} (h:VE A m (rN ob) p):VE A m (rO ob) p:=iF h λv S d S' ⟨n,h1,_,h2⟩=>⟨n,h1,h2⟩
theorem AN {enc:α->D} {v:α} {i:Nat} (h:A[i]?=some (.v (enc v))):VE A (AG i) (rV enc) (some v):=λ_ hv S0 e F S hs=>by
 cases hv;obtain ⟨x,h1,h2⟩:=hs.sl i _ h;cases h2;exact ⟨_,S,by unfold AG;rw [h1],Keeps.refl S,rfl⟩
theorem Cf {ob:α->Ob} {v:α} {i:Nat} (h:A[i]?=some (.z (ob v))):VE A (AG i) (rO ob) (some v):=λ_ hv S0 e F S hs=>by
 cases hv;obtain ⟨x,h1,n,rfl,h2⟩:=hs.sl i _ h;exact ⟨_,S,by unfold AG;rw [h1],Keeps.refl S,n,rfl,hs.fz _ _ h2⟩
theorem C5 {ob:α->Ob} {v:α} {i:Nat} (h:A[i]?=some (.y (ob v))):VE A (AG i) (rO ob) (some v):=λ_ hv S0 e F S hs=>by
 cases hv;obtain ⟨x,h1,n,rfl,h2,_⟩:=hs.sl i _ h;exact ⟨_,S,by unfold AG;rw [h1],Keeps.refl S,n,rfl,hs.fz _ _ h2⟩
theorem Jt {ob:α->Ob} {v:α} {i k:Nat} (h:A[i]?=some (.w k (ob v))):VE A (AG i) (rO ob) (some v):=λ_ hv S0 e F S hs=>by
 cases hv;obtain ⟨x,h1,n,rfl,h2,h3⟩:=hs.sl i _ h;exact ⟨_,S,by unfold AG;rw [h1],Keeps.refl S,n,rfl,h3⟩
theorem DB {enc:α->D} {v:α} {d:D} (h:d=enc v):VE A (mC d) (rV enc) (some v):=λ_ hv S0 e F S hs=>by
 cases hv;exact ⟨d,S,rfl,Keeps.refl S,h⟩
theorem Ax {p:Option α} {q:α->Option β} {v:β} (h:p.bind q=some v):∃x,p=some x/\q x=some v:=Option.bind_eq_some_iff.mp h
theorem Ho {f:D->D->Sto->Res D} {a b:ME} {ea:α->D} {eb:β->D} {ec:γ->D} {pa:Option α} {pb:Option β} {g:α->β->Option γ} (ha:VE A a (rV ea) pa) (hb:VE A b (rV eb) pb)
  (hf:∀x y z S,g x y=some z->f (ea x) (eb y) S=.ok (ec z) S):VE A (m2 f a b) (rV ec) (pa.bind λx=>pb.bind λy=>g x y):=λv hv S0 e F S hs=>by
 obtain ⟨x,h1,hv⟩:=Ax hv;obtain ⟨y,h2,h3⟩:=Ax hv;obtain ⟨d1,S1,q1,k1,rfl⟩:=ha x h1 S0 e F S hs;obtain ⟨d2,S2,q2,k2,rfl⟩:=hb y h2 S0 e _ S1 (hs.grow k1);exact ⟨_,S2,Dj q1 q2 (hf x y v S2 h3),k1.trans k2,rfl⟩
theorem Vg {f:D->D->Sto->Res D} {a b:ME} {ea:α->D} {ob:β->Ob} {ec:γ->D} {pa:Option α} {pb:Option β} {g:α->β->Option γ} (ha:VE A a (rV ea) pa) (hb:VE A b (rO ob) pb)
  (hf:∀x y z S (n:Nat),S[n]?=some (ob y)->g x y=some z->f (ea x) (.ref n) S=.ok (ec z) S):VE A (m2 f a b) (rV ec) (pa.bind λx=>pb.bind λy=>g x y):=λv hv S0 e F S hs=>by
 obtain ⟨x,h1,hv⟩:=Ax hv;obtain ⟨y,h2,h3⟩:=Ax hv;obtain ⟨d1,S1,q1,k1,rfl⟩:=ha x h1 S0 e F S hs;obtain ⟨d2,S2,q2,k2,n,rfl,hn⟩:=hb y h2 S0 e _ S1 (hs.grow k1);exact ⟨_,S2,Dj q1 q2 (hf x y v S2 n hn h3),k1.trans k2,rfl⟩
theorem Zp {f:D->D->Sto->Res D} {a b:ME} {ob:α->Ob} {eb:β->D} {ec:γ->D} {pa:Option α} {pb:Option β} {g:α->β->Option γ} (ha:VE A a (rO ob) pa) (hb:VE A b (rV eb) pb)
  (hf:∀x y z S (n:Nat),S[n]?=some (ob x)->g x y=some z->f (.ref n) (eb y) S=.ok (ec z) S):VE A (m2 f a b) (rV ec) (pa.bind λx=>pb.bind λy=>g x y):=λv hv S0 e F S hs=>by
 obtain ⟨x,h1,hv⟩:=Ax hv;obtain ⟨y,h2,h3⟩:=Ax hv;obtain ⟨d1,S1,q1,k1,n,rfl,hn⟩:=ha x h1 S0 e F S hs;obtain ⟨d2,S2,q2,k2,rfl⟩:=hb y h2 S0 e _ S1 (hs.grow k1);exact ⟨_,S2,Dj q1 q2 (hf x y v S2 n (k2.at hn) h3),k1.trans k2,rfl⟩
theorem GC {m:ME} {p:Option Bool} (h:VE A m (rV D.bl) p):VB A (mB m) p:=λv hv S0 e F S hs=>by
 obtain ⟨d,S',h1,h2,rfl⟩:=h v hv S0 e F S hs;exact ⟨S',RF h1,h2⟩
theorem SG {m:ME} {p:Option Bool} (h:VE A m (rV D.bl) p):VB A (HU m) p:=λv hv S0 e F S hs=>by
 obtain ⟨d,S',h1,h2,rfl⟩:=h v hv S0 e F S hs;refine ⟨S',?_,h2⟩;unfold HU;rw [h1];rfl
theorem HE:VB A Gu (some true):=λv hv S0 e F S hs=>by cases hv;exact ⟨S,rfl,Keeps.refl S⟩
theorem Pb {t:MT} {p:Option Bool} (h:VB A t p):VB A (MU t) (p.bind λb=>some (!b)):=λv hv S0 e F S hs=>by
 obtain ⟨x,h1,h2⟩:=Ax hv;cases h2;obtain ⟨S',h3,h4⟩:=h x h1 S0 e F S hs;exact ⟨S',MP h3,h4⟩
theorem Vj {t u:MT} {p q:Option Bool} (h:VB A t p) (hu:VB A u q):VB A (Nr t u) (p.bind λb=>if b=true then q else some false):=λv hv S0 e F S hs=>by
 obtain ⟨x,h1,h2⟩:=Ax hv;obtain ⟨S1,h3,h4⟩:=h x h1 S0 e F S hs
 cases x with
 | true=>
  obtain ⟨S2,h5,h6⟩:=hu v h2 S0 e _ S1 (hs.grow h4);exact ⟨S2,(TW h3).trans h5,h4.trans h6⟩
 | false=>cases h2;exact ⟨S1,Xz h3,h4⟩
theorem Zq {t u:MT} {p q:Option Bool} (h:VB A t p) (hu:VB A u q):VB A (mOr t u) (p.bind λb=>if b=true then some true else q):=λv hv S0 e F S hs=>by
 obtain ⟨x,h1,h2⟩:=Ax hv;obtain ⟨S1,h3,h4⟩:=h x h1 S0 e F S hs
 cases x with
 | false=>
  obtain ⟨S2,h5,h6⟩:=hu v h2 S0 e _ S1 (hs.grow h4);exact ⟨S2,(aZ h3).trans h5,h4.trans h6⟩
 | true=>cases h2;exact ⟨S1,jH h3,h4⟩
theorem iC {t:MT} {a b:ME} {R:Rk α} {pt:Option Bool} {pa pb:Option α} (ht:VB A t pt) (ha:VE A a R pa) (hb:VE A b R pb) (hR:∀v S S1 d S',S.length<=S1.length->R v S1 d S'->R v S d S'):VE A (ax t a b) R (pt.bind λc=>if c=true then pa else pb):=λv hv S0 e F S hs=>by
 obtain ⟨x,h1,h2⟩:=Ax hv;obtain ⟨S1,h3,h4⟩:=ht x h1 S0 e F S hs
 cases x with
 | true=>
  obtain ⟨d,S2,h5,h6,h7⟩:=ha v h2 S0 e _ S1 (hs.grow h4);exact ⟨d,S2,(bM h3).trans h5,h4.trans h6,hR _ _ _ _ _ h4.1 h7⟩
 | false=>
  obtain ⟨d,S2,h5,h6,h7⟩:=hb v h2 S0 e _ S1 (hs.grow h4);exact ⟨d,S2,(bM h3).trans h5,h4.trans h6,hR _ _ _ _ _ h4.1 h7⟩
theorem EM {enc:α->D}:∀(v:α) (S S1:Sto) (d:D) (S':Sto),S.length<=S1.length->rV enc v S1 d S'->rV enc v S d S':=λ_ _ _ _ _ _ h=>h
theorem Kv {ob:α->Ob}:∀(v:α) (S S1:Sto) (d:D) (S':Sto),S.length<=S1.length->rN ob v S1 d S'->rN ob v S d S':=λ_ _ _ _ _ l ⟨n,h1,h2,h3⟩=>⟨n,h1,Am l h2,h3⟩
inductive Fw (ρ σ:Type) where
 | rt (r:ρ) | nx (s:σ) | bk (s:σ) | ct (s:σ)
def VG (S0:Sto) (F:Fz) (S':Sto) (R:Rk ρ) (B:σ->List Sl) (g:Fl):Fw ρ σ->Prop
 | .nx s=>∃e' F',g=.nx e'/\Vs S0 (B s) e' F' S'/\Fle F F'
 | .ct s=>∃e' F',g=.ct e'/\Vs S0 (B s) e' F' S'/\Fle F F'
 | .bk s=>∃e' F',g=.bk e'/\Vs S0 (B s) e' F' S'/\Fle F F'
 | .rt r=>∃d,g=.rt d/\R r S0 d S'/\Keeps S0 S'
def VS (A:List Sl) (b:MS) (R:Rk ρ) (p:Option (Fw ρ σ)) (B:σ->List Sl):Prop:=∀f,p=some f->∀S0 e F S,Vs S0 A e F S->∃g S',b e S=.ok g S'/\VG S0 F S' R B g f
def BL (p:Option (Fw ρ σ)) (q:σ->Option (Fw ρ τ)):Option (Fw ρ τ):=match p with
 | some (.nx s)=>q s
 | some (.rt r)=>some (.rt r)
 | _=>none
theorem VG.up {S0:Sto} {F F1:Fz} {S':Sto} {R:Rk ρ} {B:σ->List Sl} {g:Fl} {f:Fw ρ σ} (l:Fle F F1) (h:VG S0 F1 S' R B g f):VG S0 F S' R B g f:=by
 cases f with
 | rt r=>exact h
 | nx s=>obtain ⟨e',F',h1,h2,h3⟩:=h;exact ⟨e',F',h1,h2,l.trans h3⟩
 | bk s=>obtain ⟨e',F',h1,h2,h3⟩:=h;exact ⟨e',F',h1,h2,l.trans h3⟩
 | ct s=>obtain ⟨e',F',h1,h2,h3⟩:=h;exact ⟨e',F',h1,h2,l.trans h3⟩
theorem A7 {a b:MS} {R:Rk ρ} {p:Option (Fw ρ σ)} {q:σ->Option (Fw ρ τ)} {B:σ->List Sl} {C:τ->List Sl} (ha:VS A a R p B) (hb:∀s,VS (B s) b R (q s) C):VS A (BN a b) R (BL p q) C:=λf hf S0 e F S hs=>by
 cases p with
 | none=>cases hf
 | some w=>
  obtain ⟨g,S1,h1,h2⟩:=ha _ rfl S0 e F S hs
  cases w with
  | nx s=>
   obtain ⟨e1,F1,rfl,h2,h3⟩:=h2;obtain ⟨g2,S2,h4,h5⟩:=hb s f hf S0 e1 F1 S1 h2;exact ⟨g2,S2,(CV h1).trans h4,h5.up h3⟩
  | rt r=>
   cases hf;obtain ⟨d,rfl,h2,h3⟩:=h2;exact ⟨_,S1,Pn h1,d,rfl,h2,h3⟩
  | bk s=>cases hf
  | ct s=>cases hf
theorem Fn {R:Rk ρ} {B:σ->List Sl} {s:σ} (w:Wk A (B s)):VS A sNx R (some (.nx s)) B:=λf hf S0 e F S hs=>by
 cases hf;exact ⟨_,S,rfl,e,F,rfl,hs.weak w,Fle.refl F⟩
def HS (g:σ->τ) (p:Option (Fw ρ σ)):Option (Fw ρ τ):=match p with
 | some (.nx s)=>some (.nx (g s))
 | some (.rt r)=>some (.rt r)
 | some (.bk s)=>some (.bk (g s))
 | some (.ct s)=>some (.ct (g s))
 | none=>none
theorem EA {b:MS} {R:Rk ρ} {p:Option (Fw ρ σ)} {g:σ->τ} {B:σ->List Sl} {C:τ->List Sl} (h:VS A b R p B) (w:∀s,Wk (B s) (C (g s))):VS A b R (HS g p) C:=λf hf S0 e F S hs=>by
 cases p with
 | none=>cases hf
 | some x=>
  obtain ⟨g,S1,h1,h2⟩:=h _ rfl S0 e F S hs
  cases x with
  | nx s=>cases hf;obtain ⟨e1,F1,rfl,h2,h3⟩:=h2;exact ⟨_,S1,h1,e1,F1,rfl,h2.weak (w s),h3⟩
  | rt r=>cases hf;exact ⟨_,S1,h1,h2⟩
  | bk s=>cases hf;obtain ⟨e1,F1,rfl,h2,h3⟩:=h2;exact ⟨_,S1,h1,e1,F1,rfl,h2.weak (w s),h3⟩
  | ct s=>cases hf;obtain ⟨e1,F1,rfl,h2,h3⟩:=h2;exact ⟨_,S1,h1,e1,F1,rfl,h2.weak (w s),h3⟩
theorem E2 {m:ME} {enc:α->D} {R:Rk ρ} {p:Option α} {i:Nat} (h:VE A m (rV enc) p):VS A (CP i m) R (p.bind λv=>some (.nx v)) (λv=>A.set i (.v (enc v))):=λf hf S0 e F S hs=>by
 obtain ⟨v,h1,h2⟩:=Ax hf;cases h2;obtain ⟨d,S',h3,h4,rfl⟩:=h v h1 S0 e F S hs;exact ⟨_,S',JE h3,_,_,rfl,(hs.grow h4).set i rfl,hs.fle S'⟩
theorem E9 {m:ME} {ob:α->Ob} {R:Rk ρ} {p:Option α} {i:Nat} (h:VE A m (rN ob) p):VS A (CP i m) R (p.bind λv=>some (.nx v)) (λv=>A.set i (.y (ob v))):=λf hf S0 e F S hs=>by
 obtain ⟨v,h1,h2⟩:=Ax hf;cases h2;obtain ⟨d,S',h3,h4,n,rfl,h5,h6⟩:=h v h1 S0 e F S hs;exact ⟨_,S',JE h3,_,_,rfl,(hs.grow h4).set (a:=.y (ob v)) i ⟨n,rfl,QO h5 h6,Am hs.kp.1 h5⟩,hs.fle S'⟩
theorem Jq {m:ME} {ob:α->Ob} {R:Rk ρ} {p:Option α} {i:Nat} (h:VE A m (rN ob) p):VS A (CP i m) R (p.bind λv=>some (.nx v)) (λv=>A.set i (.w i (ob v))):=λf hf S0 e F S hs=>by
 obtain ⟨v,h1,h2⟩:=Ax hf;cases h2;obtain ⟨d,S',h3,h4,n,rfl,h5,h6⟩:=h v h1 S0 e F S hs;obtain ⟨F',h7,h8⟩:=hs.own h4 (i:=i) h5 h6;exact ⟨_,S',JE h3,_,F',rfl,h7,h8⟩
theorem Zd {o:Ob} {R:Rk ρ} {i j:Nat} (h:A[j]?=some (.z o)):VS A (CP i (AG j)) R (some (.nx ())) (λ_:Unit=>A.set i (.z o)):=λf hf S0 e F S hs=>by
 cases hf;obtain ⟨x,h1,n,rfl,h2⟩:=hs.sl j _ h;exact ⟨_,S,JE (d:=.ref n) (by unfold AG;rw [h1]),_,F,rfl,hs.set (a:=.z o) i ⟨n,rfl,h2⟩,Fle.refl F⟩
theorem NV {o:Ob} {R:Rk ρ} {i j:Nat} (h:A[j]?=some (.y o)):VS A (CP i (AG j)) R (some (.nx ())) (λ_:Unit=>A.set i (.y o)):=λf hf S0 e F S hs=>by
 cases hf;obtain ⟨x,h1,n,rfl,h2,h3⟩:=hs.sl j _ h;exact ⟨_,S,JE (d:=.ref n) (by unfold AG;rw [h1]),_,F,rfl,hs.set (a:=.y o) i ⟨n,rfl,h2,h3⟩,Fle.refl F⟩
theorem Vb {b:MS} {R:Rk ρ} {p:Option (Fw ρ σ)} {B:σ->List Sl} {o:Ob} (i:Nat) (ha:A[i]?=some (.w i o)) (ht:((A.set i .u).all (Sl.oth i))=true) (h:VS (A.set i (.y o)) b R p B):VS A b R p B:=λf hf S0 e F S hs=>by
 obtain ⟨F',h1,h2⟩:=hs.freeze ht ha;obtain ⟨g,S',h3,h4⟩:=h f hf S0 e F' S h1;exact ⟨g,S',h3,h4.up h2⟩
theorem D9 {m:ME} {enc:ρ->D} {p:Option ρ} {B:σ->List Sl} (h:VE A m (rV enc) p):VS A (Ct m) (rV enc) (p.bind λv=>some (.rt v)) B:=λf hf S0 e F S hs=>by
 obtain ⟨v,h1,h2⟩:=Ax hf;cases h2;obtain ⟨d,S',h3,h4,rfl⟩:=h v h1 S0 e F S hs;exact ⟨_,S',MD h3,_,rfl,rfl,hs.kp.trans h4⟩
theorem Ff {m:ME} {ob:ρ->Ob} {p:Option ρ} {B:σ->List Sl} (h:VE A m (rN ob) p):VS A (Ct m) (rN ob) (p.bind λv=>some (.rt v)) B:=λf hf S0 e F S hs=>by
 obtain ⟨v,h1,h2⟩:=Ax hf;cases h2;obtain ⟨d,S',h3,h4,n,rfl,h5,h6⟩:=h v h1 S0 e F S hs;exact ⟨_,S',MD h3,_,rfl,⟨n,rfl,Am hs.kp.1 h5,h6⟩,hs.kp.trans h4⟩
theorem cw {i:Nat} {ob:ρ->Ob} {v:ρ} {B:σ->List Sl} {k:Nat} (h:A[i]?=some (.w k (ob v))):VS A (Ct (AG i)) (rN ob) (some (.rt v)) B:=λf hf S0 e F S hs=>by
 cases hf;obtain ⟨x,h1,n,rfl,h2,h3⟩:=hs.sl i _ h;exact ⟨_,S,MD (d:=.ref n) (by unfold AG;rw [h1]),_,rfl,⟨n,rfl,(hs.ow _ _ h2).1,h3⟩,hs.kp⟩
theorem Wz {i:Nat} {ob:ρ->Ob} {v:ρ} {B:σ->List Sl} (h:A[i]?=some (.y (ob v))):VS A (Ct (AG i)) (rN ob) (some (.rt v)) B:=λf hf S0 e F S hs=>by
 cases hf;obtain ⟨x,h1,n,rfl,h2,h3⟩:=hs.sl i _ h;exact ⟨_,S,MD (d:=.ref n) (by unfold AG;rw [h1]),_,rfl,⟨n,rfl,h3,hs.fz _ _ h2⟩,hs.kp⟩
theorem Fo {t:MT} {a b:MS} {R:Rk ρ} {pt:Option Bool} {p q:Option (Fw ρ σ)} {B:σ->List Sl} (ht:VB A t pt) (ha:VS A a R p B) (hb:VS A b R q B):VS A (sIf t a b) R (pt.bind λc=>if c=true then p else q) B:=λf hf S0 e F S hs=>by
 obtain ⟨c,h1,h2⟩:=Ax hf;obtain ⟨S1,h3,h4⟩:=ht c h1 S0 e F S hs
 cases c with
 | true=>
  obtain ⟨g,S2,h5,h6⟩:=ha f h2 S0 e _ S1 (hs.grow h4);exact ⟨g,S2,(Gs h3).trans h5,h6.up (hs.fle S1)⟩
 | false=>
  obtain ⟨g,S2,h5,h6⟩:=hb f h2 S0 e _ S1 (hs.grow h4);exact ⟨g,S2,(Gs h3).trans h5,h6.up (hs.fle S1)⟩
def TV (l:List α) (x:α):Option (List α):=if l.length < 1000000 then some (l++[x]) else none
def Lu (l k:List α):Option (List α):=if l.length+k.length<=1000000 then some (l++k) else none
theorem az {n:Nat} (h:n < 1000000):n < sizeLine:=Ag h (by decide)
theorem bE {n:Nat} (h:n<=1000000):n<=sizeLine:=Am h (by decide)
theorem Zc {m:ME} {enc:α->D} {R:Rk ρ} {p:Option α} {i:Nat} {l:List α} (hi:A[i]?=some (.w i (oL enc l))) (h:VE A m (rV enc) p) (ht:((A.set i .u).all (Sl.oth i))=true) :
  VS A (GP (Od (AG i) m)) R (p.bind λv=>(TV l v).bind λl'=>some (.nx l')) (λl'=>A.set i (.w i (oL enc l'))):=λf hf S0 e F S hs=>by
 obtain ⟨v,h1,h2⟩:=Ax hf;obtain ⟨l',h2,h0⟩:=Ax h2;cases h0;unfold TV at h2;split at h2
 ·rename_i hl
  cases h2;obtain ⟨x,g1,n,rfl,g2,g3⟩:=hs.sl i _ hi;obtain ⟨d,S',h3,h4,rfl⟩:=h v h1 S0 e F S hs;have hg:=hs.grow h4;have hx:=TU (mo:=AG i) (e:=e) (S:=S) (S1:=S) (n:=n) (by unfold AG;rw [g1]) g3 h3 (h4.at g3) (by rw [AI];exact az hl);rw [show l.map enc++[enc v]=(l++[v]).map enc by simp] at hx;exact ⟨_,_,Lk hx,e,_,rfl,hg.put ht hi g1 (by rw [Fc (Bl g3)];exact g2),hs.fle S'⟩
 ·cases h2
theorem Vc {m:ME} {enc:α->D} {R:Rk ρ} {p:Option (List α)} {i:Nat} {l:List α} (hi:A[i]?=some (.w i (oL enc l))) (h:VE A m (rN (oL enc)) p) (ht:((A.set i .u).all (Sl.oth i))=true) :
  VS A (GP (J3 (AG i) m)) R (p.bind λv=>(Lu l v).bind λl'=>some (.nx l')) (λl'=>A.set i (.w i (oL enc l'))):=λf hf S0 e F S hs=>by
 obtain ⟨v,h1,h2⟩:=Ax hf;obtain ⟨l',h2,h0⟩:=Ax h2;cases h0;unfold Lu at h2;split at h2
 ·rename_i hl
  cases h2;obtain ⟨x,g1,n,rfl,g2,g3⟩:=hs.sl i _ hi;obtain ⟨d,S',h3,h4,k,rfl,h5,h6⟩:=h v h1 S0 e F S hs;have hg:=hs.grow h4;have hx:=Y0 (mo:=AG i) (e:=e) (S:=S) (S1:=S) (n:=n) (by unfold AG;rw [g1]) g3 h3 (h4.at g3) h6 (λc=>by subst c;exact absurd (Bl g3) (JB.mpr h5)) (by rw [AI,AI];exact bE hl);rw [<-C2] at hx;exact ⟨_,_,Lk hx,e,_,rfl,hg.put ht hi g1 (by rw [Fc (Bl g3)];exact g2),hs.fle S'⟩
 ·cases h2
theorem W0 {m:ME} {Rm:Rk α} {R:Rk ρ} {p:Option α} (h:VE A m Rm p):VS A (GP m) R (p.bind λ_=>some (.nx ())) (λ_:Unit=>A):=λf hf S0 e F S hs=>by
 obtain ⟨v,h1,h2⟩:=Ax hf;cases h2;obtain ⟨d,S',h3,h4,_⟩:=h v h1 S0 e F S hs;exact ⟨_,S',Lk h3,e,_,rfl,hs.grow h4,hs.fle S'⟩
theorem g9 {m:ME} {R:Rk ρ} {p:Option Int} {i:Nat} {g:Int->Int->Int} {x:Int} (hi:A[i]?=some (.v (D.int x))) (h:VE A m (rV D.int) p):VS A (YX i g m) R (p.bind λy=>some (.nx (g x y))) (λz=>A.set i (.v (D.int z))):=λf hf S0 e F S hs=>by
 obtain ⟨v,h1,h2⟩:=Ax hf;cases h2;obtain ⟨d,S',h3,h4,rfl⟩:=h v h1 S0 e F S hs;obtain ⟨y,g1,g2⟩:=hs.sl i _ hi;cases g2;refine ⟨_,S',?_,_,_,rfl,(hs.grow h4).set (a:=.v (D.int (g x v))) i rfl,hs.fle S'⟩;unfold YX;rw [g1];dsimp only;rw [h3];rfl
def VT (g:MG) (enc:α->D) (t:α->List Sl->List Sl):Prop:=∀x S0 A e F S,Vs S0 A e F S->∃e',g (enc x) e S=.ok e' S/\Vs S0 (t x A) e' F S
theorem ET {enc:α->D} {i:Nat}:VT (tgN i) enc (λx A=>A.set i (.v (enc x))):=λx S0 A e F S hs=>⟨_,rfl,hs.set (a:=.v (enc x)) i rfl⟩
theorem SB {a:α->D} {b:β->D} {i j:Nat}:VT (KW 2 (D1 (tgN i) (D1 (tgN j) Kt))) (eP a b) (λx A=>(A.set i (.v (a x.1))).set j (.v (b x.2))):=λx S0 A e F S hs=>⟨_,rfl,(hs.set (a:=.v (a x.1)) i rfl).set (a:=.v (b x.2)) j rfl⟩
def Ev:List α->σ->(σ->α->Option (Fw ρ σ))->Option (Fw ρ σ)
 | [],s,_=>some (.nx s)
 | x :: l,s,q=>match q s x with
  | some (.nx s')=>Ev l s' q
  | some (.ct s')=>Ev l s' q
  | some (.bk s')=>some (.nx s')
  | some (.rt r)=>some (.rt r)
  | none=>none
theorem cz {enc:α->D} {g:MG} {t:α->List Sl->List Sl} {b:MS} {R:Rk ρ} {q:σ->α->Option (Fw ρ σ)} {B:σ->List Sl} (hg:VT g enc t) (hb:∀s x,VS (t x (B s)) b R (q s x) B) {w:JJ} {S0:Sto} {F1:Fz} {full:List α}
  (hw:∀F'' S'',Fle F1 F''->(∀n o,F'' n=.fz o->S''[n]?=some o)->w S''=some (full.map enc)):∀(l:List α) (k:Nat),full.drop k=l->∀(s:σ) (f:Fw ρ σ),Ev l s q=some f->∀e F S,Vs S0 (B s) e F S->Fle F1 F->∃h S',Kd w g b (l.length) k e S=.ok h S'/\VG S0 F1 S' R B h f:=by
 intro l
 induction l with
 | nil=>
  intro k hk s f hf e F S hs hF;cases hf
  have:full.length<=k:=by
   have:=congrArg Hm hk;rw [EK,Ep] at this;omega
  refine ⟨_,S,?_,e,F,rfl,hs,hF⟩;unfold Kd;rw [hw F S hF hs.fz];dsimp only;rw [Cb (by rw [AI];exact this)]
 | cons x l ih=>
  intro k hk s f hf e F S hs hF
  have hx:full[k]?=some x:=by
   have:=congrArg (λz=>z[0]?) hk;rw [Ii] at this;simpa using this
  have hk':full.drop (k+1)=l:=by
   have e1:full.drop (k+1)=(full.drop k).drop 1:=by rw [RL]
   exact e1.trans (congrArg (List.drop 1) hk)
  obtain ⟨e1,g1,g2⟩:=hg x S0 _ e F S hs
  have run:∀h S',b e1 S=.ok h S'->Kd w g b ((x :: l).length) k e S=(match h with
    | .nx e2=>Kd w g b l.length (k+1) e2 S'
    | .ct e2=>Kd w g b l.length (k+1) e2 S'
    | .bk e2=>.ok (.nx e2) S'
    | .rt d=>.ok (.rt d) S'
    | .ex c e2=>.ok (.ex c e2) S'):=λh S' hb'=>by
   show Kd w g b (l.length+1) k e S=_
   conv=>lhs;unfold Kd
   rw [hw F S hF hs.fz];dsimp only;rw [As,hx];dsimp only [kd];rw [g1];dsimp only [Res.bind];rw [hb']
   all_goals (cases h <;> rfl)
  unfold Ev at hf;split at hf
  ·rename_i s' hq
   obtain ⟨h,S1,h1,e2,F2,rfl,h2,h3⟩:=hb s x _ hq S0 e1 F S g2;rw [run _ _ h1];exact ih (k+1) hk' s' f hf e2 F2 S1 h2 (hF.trans h3)
  ·rename_i s' hq
   obtain ⟨h,S1,h1,e2,F2,rfl,h2,h3⟩:=hb s x _ hq S0 e1 F S g2;rw [run _ _ h1];exact ih (k+1) hk' s' f hf e2 F2 S1 h2 (hF.trans h3)
  ·rename_i s' hq
   cases hf;obtain ⟨h,S1,h1,e2,F2,rfl,h2,h3⟩:=hb s x _ hq S0 e1 F S g2;rw [run _ _ h1];exact ⟨_,S1,rfl,e2,F2,rfl,h2,hF.trans h3⟩
  ·rename_i r hq
   cases hf;obtain ⟨h,S1,h1,d,rfl,h2,h3⟩:=hb s x _ hq S0 e1 F S g2;rw [run _ _ h1];exact ⟨_,S1,rfl,d,rfl,h2,h3⟩
  ·cases hf
theorem Em {enc:α->D} {mi:MI} {g:MG} {t:α->List Sl->List Sl} {b:MS} {R:Rk ρ} {p:Option (List α)} {q:σ->α->Option (Fw ρ σ)} {B:σ->List Sl} {s0:σ} (hi:VI A mi enc p) (hg:VT g enc t) (w0:Wk A (B s0)) (hb:∀s x,VS (t x (B s)) b R (q s x) B) :
  VS A (GN mi g b) R (p.bind λl=>Ev l s0 q) B:=λf hf S0 e F S hs=>by
 obtain ⟨l,h1,h2⟩:=Ax hf;obtain ⟨w,S1,h3,h4,h5⟩:=hi l h1 S0 e F S hs;have hg1:=hs.grow h4
 have hl:De w S1=l.length:=by unfold De;rw [h5 _ S1 (Fle.refl _) hg1.fz];exact AI _
 obtain ⟨h,S2,h6,h7⟩:=cz hg hb h5 l 0 rfl s0 f h2 e _ S1 (hg1.weak w0) (Fle.refl _);refine ⟨h,S2,?_,h7.up (hs.fle S1)⟩;rw [LF h3,hl];exact h6
def QV (c:α->Option Bool) (m:α->Option β):List α->Option (List β)
 | []=>some []
 | x :: l=>(c x).bind λb=>if b=true then (m x).bind λy=>(QV c m l).bind λys=>some (y :: ys) else QV c m l
def EO (l:List α) (c:α->Option Bool) (m:α->Option β):Option (List β):=if l.length<=1000000 then QV c m l else none
theorem Ze {enc:α->D} {eb:β->D} {g:MG} {P:List (Option D)->Prop} {T:α->List Sl} {c:MT} {m:ME} {pc:α->Option Bool} {pm:α->Option β}
  (hg:∀x S0 e F S pre,P pre->Vs S0 A e F S->∃pre',g (enc x) (pre++e) S=.ok (pre'++e) S/\P pre'/\Vs S0 (T x) (pre'++e) F S)
  (hc:∀x,VB (T x) c (pc x)) (hm:∀x,VE (T x) m (rV eb) (pm x)) {w:JJ} {S0:Sto} {e:Lo} {full:List α} {S1:Sto} (hf:full.length<=1000000) (hw:∀S'',Keeps S1 S''->w S''=some (full.map enc)) :
  ∀(l:List α) (k:Nat),full.drop k=l->∀(r:List β),QV pc pm l=some r->∀pre F S acc,P pre->Vs S0 A e F S->Keeps S1 S->acc.length<=k->∃S',F0 w g c m l.length k (pre++e) S acc=.ok (acc++r.map eb) S'/\Keeps S S':=by
 intro l
 induction l with
 | nil=>
  intro k hk r hr pre F S acc hp hs hk1 ha;cases hr
  have:full.length<=k:=by
   have:=congrArg Hm hk;rw [EK,Ep] at this;omega
  refine ⟨S,?_,Keeps.refl S⟩;unfold F0;rw [hw S hk1];dsimp only;rw [Cb (by rw [AI];exact this),Kk,BK]
 | cons x l ih=>
  intro k hk r hr pre F S acc hp hs hk1 ha
  have hx:full[k]?=some x:=by
   have:=congrArg (λz=>z[0]?) hk;rw [Ii] at this;simpa using this
  have hk':full.drop (k+1)=l:=by
   have e1:full.drop (k+1)=(full.drop k).drop 1:=by rw [RL]
   exact e1.trans (congrArg (List.drop 1) hk)
  have hkl:k < full.length:=(AH.mp hx).1;obtain ⟨pre',g1,g2,g3⟩:=hg x S0 e F S pre hp hs;unfold QV at hr;obtain ⟨b,h1,h2⟩:=Ax hr;obtain ⟨S2,h3,h4⟩:=hc x b h1 S0 _ F S g3;have hs2:=hs.grow h4
  show ∃S',F0 w g c m (l.length+1) k (pre++e) S acc=_/\_
  conv=>arg 1;ext S';arg 1;lhs;unfold F0
  rw [hw S hk1];dsimp only;rw [As,hx];dsimp only [kd];rw [if_pos (BZ ha (az (Ag hkl hf))),g1];dsimp only [okR,Res.bind];rw [h3];dsimp only [okR,Res.bind]
  cases b with
  | true=>
   rw [if_pos rfl] at h2 ⊢;obtain ⟨y,h5,h6⟩:=Ax h2;obtain ⟨ys,h6',h7⟩:=Ax h6;cases h7;obtain ⟨d,S3,h8,h9,rfl⟩:=hm x y h5 S0 _ _ S2 (g3.grow h4);rw [h8];obtain ⟨S4,q1,q2⟩:=ih (k+1) hk' ys h6' pre' _ S3 (acc++[eb y]) g2 (hs2.grow h9) (hk1.trans (h4.trans h9)) (by rw [AU,Au];omega);refine ⟨S4,?_,(h4.trans h9).trans q2⟩;show F0 w g c m l.length (k+1) (pre'++e) S3 (acc++[eb y])=_;rw [q1,BM];rfl
  | false=>
   rw [if_neg AQ] at h2 ⊢;obtain ⟨S4,q1,q2⟩:=ih (k+1) hk' r h2 pre' _ S2 acc g2 hs2 (hk1.trans h4) (by omega);exact ⟨S4,q1,h4.trans q2⟩
theorem c8 {enc:α->D} {eb:β->D} {n:Nat} {mi:MI} {g:MG} {P:List (Option D)->Prop} {T:α->List Sl} {c:MT} {m:ME} {p:Option (List α)} {pc:α->Option Bool} {pm:α->Option β} (hi:VK A mi enc p) (h0:P (BY n none))
  (hg:∀x S0 e F S pre,P pre->Vs S0 A e F S->∃pre',g (enc x) (pre++e) S=.ok (pre'++e) S/\P pre'/\Vs S0 (T x) (pre'++e) F S)
  (hc:∀x,VB (T x) c (pc x)) (hm:∀x,VE (T x) m (rV eb) (pm x)):VL A (Di n mi g c m) eb (p.bind λl=>EO l pc pm):=λr hr S0 e F S hs=>by
 obtain ⟨l,h1,h2⟩:=Ax hr;obtain ⟨w,S1,h3,h4,h5⟩:=hi l h1 S0 e F S hs;unfold EO at h2;split at h2
 ·rename_i hl
  have hs1:=hs.grow h4;obtain ⟨S2,h6,h7⟩:=Ze hg hc hm hl h5 l 0 rfl r h2 _ _ S1 [] h0 hs1 (Keeps.refl _) (AT _);refine ⟨S2,?_,h4.trans h7⟩;rw [TH h3,show De w S1=l.length by unfold De;rw [h5 S1 (Keeps.refl _)];exact AI _];exact h6
 ·cases h2
theorem Co {enc:α->D} {eb:β->D} {mi:MI} {c:MT} {m:ME} {p:Option (List α)} {pc:α->Option Bool} {pm:α->Option β} (hi:VK A mi enc p) (hc:∀x,VB (.v (enc x) :: A) c (pc x)) (hm:∀x,VE (.v (enc x) :: A) m (rV eb) (pm x)) :
  VL A (Di 1 mi (tgN 0) c m) eb (p.bind λl=>EO l pc pm):=
 c8 (P:=λpre=>∃z,pre=[z]) hi ⟨none,rfl⟩ (λx S0 e F S pre hp hs=>by
  obtain ⟨z,rfl⟩:=hp
  exact ⟨[some (enc x)],rfl,⟨_,rfl⟩,hs.cons (a:=.v (enc x)) rfl⟩) hc hm
theorem CC {ml:ML} {enc:α->D} {p:Option (List α)} (h:VL A ml enc p):VE A (Da ml) (rN (oL enc)) p:=λv hv S0 e F S hs=>by
 obtain ⟨S',h1,h2⟩:=h v hv S0 e F S hs;exact ⟨_,_,WA h1,h2.trans (Keeps.app _ _),_,rfl,h2.1,FQ _ _⟩
inductive Ar where
 | v (d:D) | z (o:Ob)
def Ar.ok (S:Sto):Ar->D->Prop
 | .v d,x=>x=d
 | .z o,x=>∃n,x=.ref n/\S[n]?=some o
def Ar.sl:Ar->Sl
 | .v d=>.v d
 | .z o=>.z o
def L6 (S:Sto):List Ar->List D->Prop
 | [],[]=>True
 | a :: as,d :: ds=>a.ok S d/\L6 S as ds
 | _,_=>False
theorem L6.len {S:Sto}:∀ {as:List Ar} {ds:List D},L6 S as ds->ds.length=as.length
 | [],[],_=>rfl
 | _ :: as,_ :: ds,h=>by rw [Ao,Ao,L6.len h.2]
 | [],_ :: _,h=>h.elim
 | _ :: _,[],h=>h.elim
theorem L6.at {S:Sto}:∀ {as:List Ar} {ds:List D},L6 S as ds->∀(i:Nat) (a:Ar),as[i]?=some a->∃d,ds[i]?=some d/\a.ok S d
 | [],[],_,i,a,h=>by simp at h
 | b :: as,d :: ds,h,0,a,q=>by cases q;exact ⟨d,rfl,h.1⟩
 | b :: as,d :: ds,h,i+1,a,q=>L6.at h.2 i a q
 | [],_ :: _,h,_,_,_=>h.elim
 | _ :: _,[],h,_,_,_=>h.elim
def VF (f:List D->Sto->Res D) (as:List Ar) (R:Rk α) (p:Option α):Prop:=∀v,p=some v->∀S ds,L6 S as ds->∃d S',f ds S=.ok d S'/\Keeps S S'/\R v S d S'
def VA (A:List Sl) (ml:ML) (p:Option γ) (ar:γ->List Ar):Prop:=∀v,p=some v->∀S0 e F S,Vs S0 A e F S->∃ds S',ml e S=.ok ds S'/\Keeps S S'/\L6 S' (ar v) ds
theorem CA:VA A BH (some ()) (λ_=>[]):=λv hv S0 e F S hs=>⟨[],S,rfl,Keeps.refl S,trivial⟩
theorem Cd {m:ME} {ml:ML} {enc:α->D} {p:Option α} {q:Option γ} {ar:γ->List Ar} (h:VE A m (rV enc) p) (hl:VA A ml q ar):VA A (AR m ml) (p.bind λx=>q.bind λy=>some (x,y)) (λz=>.v (enc z.1) :: ar z.2):=λv hv S0 e F S hs=>by
 obtain ⟨x,h1,h2⟩:=Ax hv;obtain ⟨y,h2',h3⟩:=Ax h2;cases h3;obtain ⟨d,S1,h4,h5,rfl⟩:=h x h1 S0 e F S hs;obtain ⟨ds,S2,h6,h7,h8⟩:=hl y h2' S0 e _ S1 (hs.grow h5);exact ⟨_,S2,Cg h4 h6,h5.trans h7,rfl,h8⟩
theorem Ha {m:ME} {ml:ML} {ob:α->Ob} {p:Option α} {q:Option γ} {ar:γ->List Ar} (h:VE A m (rO ob) p) (hl:VA A ml q ar):VA A (AR m ml) (p.bind λx=>q.bind λy=>some (x,y)) (λz=>.z (ob z.1) :: ar z.2):=λv hv S0 e F S hs=>by
 obtain ⟨x,h1,h2⟩:=Ax hv;obtain ⟨y,h2',h3⟩:=Ax h2;cases h3;obtain ⟨d,S1,h4,h5,n,rfl,h0⟩:=h x h1 S0 e F S hs;obtain ⟨ds,S2,h6,h7,h8⟩:=hl y h2' S0 e _ S1 (hs.grow h5);exact ⟨_,S2,Cg h4 h6,h5.trans h7,⟨n,rfl,h7.at h0⟩,h8⟩
theorem BX {f:List D->Sto->Res D} {n:Nat} {ml:ML} {p:Option γ} {ar:γ->List Ar} {R:Rk α} {q:γ->Option α} (ha:VA A ml p ar) (hf:∀z,VF f (ar z) R (q z)) (hn:∀z,(ar z).length=n) (hR:∀v S S1 d S',S.length<=S1.length->R v S1 d S'->R v S d S'):VE A (B7 n f ml) R (p.bind q):=λv hv S0 e F S hs=>by
 obtain ⟨z,h1,h2⟩:=Ax hv;obtain ⟨ds,S1,h3,h4,h5⟩:=ha z h1 S0 e F S hs;obtain ⟨d,S2,h6,h7,h8⟩:=hf z v h2 S1 ds h5;exact ⟨d,S2,(NH h3 (h5.len.trans (hn z))).trans h6,h4.trans h7,hR _ _ _ _ _ h4.1 h8⟩
def U4 (S:Sto):Fz:=λn=>match S[n]? with
 | some o=>.fz o
 | none=>.no
theorem Vs.start {as:List Ar} {ds:List D} {n:Nat} (h:L6 S as ds):Vs S (as.map Ar.sl++BY (n - as.length) .u) (Hb n ds) (U4 S) S:=by
 refine ⟨Keeps.refl S,λn o q=>?_,λn i q=>?_,λn hn=>by unfold U4;rw [Cb hn],λi a ha=>?_⟩
 ·unfold U4 at q
  split at q
  ·rename_i o' ho;cases q;exact ho
  ·cases q
 ·unfold U4 at q
  split at q <;> cases q
 ·unfold Hb
  by_cases c:i < as.length
  ·rw [Ak (by rw [AI];exact c),As] at ha
   rw [Ak (by rw [AI,h.len];exact c),As]
   cases hq:as[i]? with
   | none=>rw [hq] at ha;cases ha
   | some b=>
    rw [hq] at ha;cases ha;obtain ⟨d,h1,h2⟩:=h.at i b hq;refine ⟨some d,by rw [h1];rfl,?_⟩
    cases b with
    | v x=>exact congrArg some h2
    | z o=>obtain ⟨m,h3,h4⟩:=h2;exact ⟨m,congrArg some h3,by unfold U4;rw [h4]⟩
  ·rw [BB (by rw [AI];omega)] at ha
   rw [AI,DL] at ha;split at ha
   ·rename_i hlt
    cases ha;refine ⟨none,?_,trivial⟩;rw [BB (by rw [AI,h.len];omega),AI,h.len,DL,if_pos hlt]
   ·cases ha
def He (p:Option (Fw ρ σ)):Option ρ:=match p with
 | some (.rt r)=>some r
 | _=>none
def aW (p:Option (Fw Unit σ)):Option Unit:=match p with
 | some (.rt r)=>some ()
 | some (.nx _)=>some ()
 | _=>none
end
end L4
namespace L4
open PySem L2
section
variable {S0 S S':Sto} {A B:List Sl} {e:Lo} {F:Fz} {α β γ δ ρ σ τ:Type}
section
variable {a b c:ME} {pa pb pc:Option Int}
theorem JC (ha:VE A a (rV D.int) pa) (hb:VE A b (rV D.int) pb):VE A (m2 Hi a b) (rV D.int) (pa.bind λx=>pb.bind λy=>some (x+y)):=Ho ha hb λx y z S h=>by cases h;rfl
theorem L9 (ha:VE A a (rV D.int) pa) (hb:VE A b (rV D.int) pb):VE A (m2 SL a b) (rV D.int) (pa.bind λx=>pb.bind λy=>some (x - y)):=Ho ha hb λx y z S h=>by cases h;rfl
def Sn (x y:Int):Option Int:=if 0 < y then some (x % y) else none
theorem Pa (ha:VE A a (rV D.int) pa) (hb:VE A b (rV D.int) pb):VE A (m2 Np a b) (rV D.int) (pa.bind λx=>pb.bind λy=>Sn x y):=Ho ha hb λx y z S h=>by
 unfold Sn at h;split at h
 ·rename_i hc;cases h;exact XW hc
 ·cases h
theorem Mp {k:Int} (hk:(decide (0 < k)&&decide (k<=1000000))=true) (ha:VE A a (rV D.int) pa):VE A (m2 QM a (mC (.int k))) (rV D.int) (pa.bind λx=>some (x / k)):=λv hv S0 e F S hs=>by
 obtain ⟨x,h1,h2⟩:=Ax hv;cases h2;obtain ⟨d,S',h3,h4,rfl⟩:=ha x h1 S0 e F S hs;have hk':=EL _ _▸hk;exact ⟨_,S',Dj h3 rfl (bf (of_decide_eq_true hk'.1) (of_decide_eq_true hk'.2)),h4,rfl⟩
theorem Ou {k:Int} (hk:decide (0 < k)=true) (ha:VE A a (rV D.int) pa):VE A (m2 Np a (mC (.int k))) (rV D.int) (pa.bind λx=>some (x % k)):=λv hv S0 e F S hs=>by
 obtain ⟨x,h1,h2⟩:=Ax hv;cases h2;obtain ⟨d,S',h3,h4,rfl⟩:=ha x h1 S0 e F S hs;exact ⟨_,S',Dj h3 rfl (XW (of_decide_eq_true hk)),h4,rfl⟩
theorem iA (ha:VE A a (rV D.int) pa):VE A (eW a) (rV D.int) (pa.bind λx=>some (-x)):=λv hv S0 e F S hs=>by
 obtain ⟨x,h1,h2⟩:=Ax hv;cases h2;obtain ⟨d,S',h3,h4,rfl⟩:=ha x h1 S0 e F S hs;exact ⟨_,S',by unfold eW;rw [h3];rfl,h4,rfl⟩
theorem lM (ha:VE A a (rV D.int) pa) (hb:VE A b (rV D.int) pb):VE A (m2 ltD a b) (rV D.bl) (pa.bind λx=>pb.bind λy=>some (decide (x < y))):=Ho ha hb λx y z S h=>by cases h;rfl
theorem T3 {f g:D->D->Sto->Res D} {P Q:Int->Int->Bool} (hf:∀x y S,f (.int x) (.int y) S=.ok (.bl (P x y)) S) (hg:∀x y S,g (.int x) (.int y) S=.ok (.bl (Q x y)) S) (ha:VE A a (rV D.int) pa) (hb:VE A b (rV D.int) pb) (hc:VE A c (rV D.int) pc) :
  VE A (m3 f g a b c) (rV D.bl) (pa.bind λx=>pb.bind λy=>if P x y=true then pc.bind λz=>some (Q y z) else some false):=λv hv S0 e F S hs=>by
 obtain ⟨x,h1,hv⟩:=Ax hv;obtain ⟨y,h2,h3⟩:=Ax hv;obtain ⟨d1,S1,q1,k1,rfl⟩:=ha x h1 S0 e F S hs;obtain ⟨d2,S2,q2,k2,rfl⟩:=hb y h2 S0 e _ S1 (hs.grow k1);have e1:=hf x y S2
 cases hp:P x y with
 | false=>
  rw [hp] at h3 e1;cases h3;exact ⟨_,S2,mR q1 q2 e1,k1.trans k2,rfl⟩
 | true=>
  rw [hp] at h3 e1;rw [if_pos rfl] at h3;obtain ⟨w,h4,h5⟩:=Ax h3;cases h5;obtain ⟨d3,S3,q3,k3,rfl⟩:=hc w h4 S0 e _ S2 ((hs.grow k1).grow k2);exact ⟨_,S3,gX q1 q2 e1 q3 (hg y w S3),(k1.trans k2).trans k3,rfl⟩
theorem gc (x y:Int) (S:Sto):ltD (.int x) (.int y) S=.ok (.bl (decide (x < y))) S:=rfl
theorem gd (x y:Int) (S:Sto):leD (.int x) (.int y) S=.ok (.bl (decide (x<=y))) S:=rfl
theorem W3 (ha:VE A a (rV D.int) pa) (hb:VE A b (rV D.int) pb):VE A (mQ M7 (AR a (AR b BH))) (rV D.int) (pa.bind λx=>pb.bind λy=>some (if y < x then y else x)):=λv hv S0 e F S hs=>by
 obtain ⟨x,h1,hv⟩:=Ax hv;obtain ⟨y,h2,h3⟩:=Ax hv;cases h3;obtain ⟨d1,S1,q1,k1,rfl⟩:=ha x h1 S0 e F S hs;obtain ⟨d2,S2,q2,k2,rfl⟩:=hb y h2 S0 e _ S1 (hs.grow k1);exact ⟨_,S2,Ye (Cg q1 (Cg q2 rfl)) rfl,k1.trans k2,rfl⟩
theorem iD {pb:Option Bool} (hb:VE A b (rV D.bl) pb):VE A (eY b) (rV D.int) (pb.bind λx=>some (if x=true then 1 else 0)):=λv hv S0 e F S hs=>by
 obtain ⟨x,h1,h2⟩:=Ax hv;cases h2;obtain ⟨d,S',h3,h4,rfl⟩:=hb x h1 S0 e F S hs;refine ⟨_,S',?_,h4,rfl⟩;unfold eY;rw [h3];rfl
theorem XB {pa pb:Option Bool} (ha:VE A a (rV D.bl) pa) (hb:VE A b (rV D.bl) pb):VE A (Rh a b) (rV D.bl) (pa.bind λx=>if x=true then pb else some false):=λv hv S0 e F S hs=>by
 obtain ⟨x,h1,h2⟩:=Ax hv;obtain ⟨d,S',h3,h4,rfl⟩:=ha x h1 S0 e F S hs
 cases x with
 | true=>
  obtain ⟨d,S2,h5,h6,rfl⟩:=hb v h2 S0 e _ S' (hs.grow h4);exact ⟨_,S2,by unfold Rh;rw [h3];exact h5,h4.trans h6,rfl⟩
 | false=>cases h2;exact ⟨_,S',by unfold Rh;rw [h3];rfl,h4,rfl⟩
theorem hZ {pa pb:Option Bool} (ha:VE A a (rV D.bl) pa) (hb:VE A b (rV D.bl) pb):VE A (aw a b) (rV D.bl) (pa.bind λx=>if x=true then some true else pb):=λv hv S0 e F S hs=>by
 obtain ⟨x,h1,h2⟩:=Ax hv;obtain ⟨d,S',h3,h4,rfl⟩:=ha x h1 S0 e F S hs
 cases x with
 | false=>
  obtain ⟨d,S2,h5,h6,rfl⟩:=hb v h2 S0 e _ S' (hs.grow h4);exact ⟨_,S2,by unfold aw;rw [h3];exact h5,h4.trans h6,rfl⟩
 | true=>cases h2;exact ⟨_,S',by unfold aw;rw [h3];rfl,h4,rfl⟩
theorem W2 {pa:Option Bool} (ha:VE A a (rV D.bl) pa):VE A (Ud a) (rV D.bl) (pa.bind λx=>some (!x)):=λv hv S0 e F S hs=>by
 obtain ⟨x,h1,h2⟩:=Ax hv;cases h2;obtain ⟨d,S',h3,h4,rfl⟩:=ha x h1 S0 e F S hs;exact ⟨_,S',by unfold Ud;rw [h3];rfl,h4,rfl⟩
end
def EqN (n:Nat) (enc:α->D) [DecidableEq α]:Prop:=∀x y,eqP n (enc x) (enc y)=some (decide (x=y))
def NL (enc:α->D):Prop:=∀x S,Oe (enc x) S=none
theorem DG {n:Nat}:EqN n D.int:=λx y=>by
 have:KH (.int x) (.int y)=some (decide (x=y)):=rfl
 cases n <;> exact this
theorem j9 {n:Nat}:EqN n D.bl:=λx y=>by
 have:KH (.bl x) (.bl y)=some (decide (x=y)):=by cases x <;> cases y <;> rfl
 cases n <;> exact this
theorem fQ {n:Nat}:EqN n D.str:=λx y=>by
 have:KH (.str x) (.str y)=some (decide (x=y)):=rfl
 cases n <;> exact this
theorem TC {n:Nat} {enc:α->D} [DecidableEq α] (h:EqN n enc):EqN (n+1) (eT enc):=by
 have key:∀l k:List α,eqL (eqP n) (l.map enc) (k.map enc)=some (decide (l=k)):=by
  intro l
  induction l with
  | nil=>intro k;cases k <;> rfl
  | cons x l ih=>
   intro k
   cases k with
   | nil=>rfl
   | cons y k=>
    rw [A1,A1];unfold eqL;rw [h x y,ih k]
    by_cases c:x=y <;> by_cases d:l=k <;> simp [c,d]
 exact λl k=>key l k
theorem MQ:NL D.int:=λ_ _=>rfl
theorem mJ:NL D.bl:=λ_ _=>rfl
theorem jW:NL D.str:=λ_ _=>rfl
theorem jV {enc:α->D}:NL (eT enc):=λ_ _=>rfl
section
variable {a b:ME} {enc:α->D} [DecidableEq α] {pa pb:Option α}
theorem bh (h:EqN 8 enc) (n:NL enc) (neg:Bool) (x y:α) (S:Sto):eqD neg (enc x) (enc y) S=.ok (.bl (if neg then !decide (x=y) else decide (x=y))) S:=by
 unfold eqD eqB;rw [n x S,n y S];dsimp only;rw [h x y]
theorem Mq (h:EqN 8 enc) (n:NL enc) (ha:VE A a (rV enc) pa) (hb:VE A b (rV enc) pb):VE A (m2 (eqD false) a b) (rV D.bl) (pa.bind λx=>pb.bind λy=>some (decide (x=y))):=Ho ha hb λx y z S q=>by cases q;exact bh h n false x y S
theorem gF (h:EqN 8 enc) (n:NL enc) (ha:VE A a (rV enc) pa) (hb:VE A b (rV enc) pb):VE A (m2 (eqD true) a b) (rV D.bl) (pa.bind λx=>pb.bind λy=>some (!decide (x=y))):=Ho ha hb λx y z S q=>by cases q;exact bh h n true x y S
theorem U3 (h:EqN 8 enc) (x:α):∀l:List α,L5 (enc x) (l.map enc)=some (decide (x∈l))
 | []=>by simp [L5]
 | y :: l=>by
  rw [A1];unfold L5;rw [h y x,U3 h x l]
  by_cases c:y=x
  ·subst c;simp
  ·have:¬x=y:=λz=>c z.symm
   simp [c,this]
theorem WM (h:EqN 8 enc) (neg:Bool) (x:α) {l:List α} {d:D} {S:Sto} (hs:G1 d S=some (l.map enc)):inA neg (enc x) d S=.ok (.bl (if neg then !decide (x∈l) else decide (x∈l))) S:=by
 show IQ (inD neg (enc x) d S) _=_
 have e:inD neg (enc x) d S=.ok (.bl (if neg then !decide (x∈l) else decide (x∈l))) S:=by
  unfold inD;rw [hs];dsimp only;rw [U3 h]
 rw [e];rfl
theorem SF {pl:Option (List α)} (h:EqN 8 enc) (ha:VE A a (rV enc) pa) (hb:VE A b (rV (eT enc)) pl):VE A (m2 (inA false) a b) (rV D.bl) (pa.bind λx=>pl.bind λl=>some (decide (x∈l))):=Ho ha hb λx l z S q=>by cases q;exact WM h false x rfl
theorem Ot {pl:Option (List α)} (h:EqN 8 enc) (ha:VE A a (rV enc) pa) (hb:VE A b (rV (eT enc)) pl):VE A (m2 (inA true) a b) (rV D.bl) (pa.bind λx=>pl.bind λl=>some (!decide (x∈l))):=Ho ha hb λx l z S q=>by cases q;exact WM h true x rfl
theorem iE (h:EqN 8 enc) {pl:Option (α×α)} (ha:VE A a (rV enc) pa) (hb:VE A b (rV (eP enc enc)) pl):VE A (m2 (inA false) a b) (rV D.bl) (pa.bind λx=>pl.bind λl=>some (decide (x∈[l.1,l.2]))):=Ho ha hb λx l z S q=>by cases q;exact WM h false x (l:=[l.1,l.2]) rfl
theorem kA {n:Nat} (h:EqN n enc):∀l k:List α,eqL (eqP n) (l.map enc) (k.map enc)=some (decide (l=k)):=by
 intro l
 induction l with
 | nil=>intro k;cases k <;> rfl
 | cons x l ih=>
  intro k
  cases k with
  | nil=>rfl
  | cons y k=>
   rw [A1,A1];unfold eqL;rw [h x y,ih k]
   by_cases c:x=y <;> by_cases d:l=k <;> simp [c,d]
theorem Rq (h:EqN 8 enc) {l k:List α} {n m:Nat} {S:Sto} (neg:Bool) (hn:S[n]?=some (oL enc l)) (hm:S[m]?=some (oL enc k)):eqD neg (.ref n) (.ref m) S=.ok (.bl (if neg then !decide (l=k) else decide (l=k))) S:=by
 unfold eqD eqB;rw [K9 hn,K9 hm];dsimp only;rw [AI,AI]
 by_cases c:l.length=k.length
 ·rw [if_pos c,kA h]
 ·rw [if_neg c,decide_eq_false λz=>c (by rw [z])]
theorem gH {f:D->D->Sto->Res D} {oa:β->Ob} {ob:γ->Ob} {ec:δ->D} {pa:Option β} {pb:Option γ} {g:β->γ->Option δ} (ha:VE A a (rO oa) pa) (hb:VE A b (rO ob) pb)
  (hf:∀x y z S (n m:Nat),S[n]?=some (oa x)->S[m]?=some (ob y)->g x y=some z->f (.ref n) (.ref m) S=.ok (ec z) S):VE A (m2 f a b) (rV ec) (pa.bind λx=>pb.bind λy=>g x y):=λv hv S0 e F S hs=>by
 obtain ⟨x,h1,hv⟩:=Ax hv;obtain ⟨y,h2,h3⟩:=Ax hv;obtain ⟨d1,S1,q1,k1,n,rfl,hn⟩:=ha x h1 S0 e F S hs;obtain ⟨d2,S2,q2,k2,m,rfl,hm⟩:=hb y h2 S0 e _ S1 (hs.grow k1);exact ⟨_,S2,Dj q1 q2 (hf x y v S2 n m (k2.at hn) hm h3),k1.trans k2,rfl⟩
theorem iH {pa pb:Option (List α)} (h:EqN 8 enc) (ha:VE A a (rO (oL enc)) pa) (hb:VE A b (rO (oL enc)) pb):VE A (m2 (eqD false) a b) (rV D.bl) (pa.bind λx=>pb.bind λy=>some (decide (x=y))):=gH ha hb λx y z S n m hn hm q=>by cases q;exact Rq h false hn hm
theorem iB {pa pb:Option (List α)} (h:EqN 8 enc) (ha:VE A a (rO (oL enc)) pa) (hb:VE A b (rO (oL enc)) pb):VE A (m2 (eqD true) a b) (rV D.bl) (pa.bind λx=>pb.bind λy=>some (!decide (x=y))):=gH ha hb λx y z S n m hn hm q=>by cases q;exact Rq h true hn hm
end
section
variable {a b m mo:ME} {enc:α->D} {ml:ML} {pl pk:Option (List α)} {pi:Option Int}
theorem fb (l:List α) (i:Int) (f:α->β):atI (l.map f) i=(atI l i).map f:=by
 unfold atI;rw [AI]
 cases ixN l.length i with
 | none=>rfl
 | some j=>show (l.map f)[j]?=(l[j]?).map f;rw [As]
theorem WJ {l:List α} {d:D} {S:Sto} {i:Int} {x:α} (hs:G1 d S=some (l.map enc)) (h:atI l i=some x):ixA d (.int i) S=.ok (enc x) S:=by
 show IQ (ixD d (.int i) S) _=_
 have:ixD d (.int i) S=.ok (enc x) S:=by
  unfold ixD;rw [hs];dsimp only;rw [fb,h];rfl
 rw [this];rfl
theorem Zj (ha:VE A a (rV (eT enc)) pl) (hb:VE A b (rV D.int) pi):VE A (m2 ixA a b) (rV enc) (pl.bind λl=>pi.bind λi=>atI l i):=Ho ha hb λl i z S q=>WJ rfl q
theorem Zk {pl:Option (List Int)} (ha:VE A a (rV eF) pl) (hb:VE A b (rV D.int) pi):VE A (m2 ixA a b) (rV D.int) (pl.bind λl=>pi.bind λi=>atI l i):=Ho ha hb λl i z S q=>WJ rfl q
theorem Kr (ha:VE A a (rO (oL enc)) pl) (hb:VE A b (rV D.int) pi):VE A (m2 ixA a b) (rV enc) (pl.bind λl=>pi.bind λi=>atI l i):=Zp ha hb λl i z S n hn q=>WJ (GM hn) q
theorem Vi {a':α->D} {b':β->D} {p:Option (α×β)} (ha:VE A a (rV (eP a' b')) p):VE A (m2 ixA a (mC (.int 0))) (rV a') (p.bind λx=>some x.1):=λv hv S0 e F S hs=>by
 obtain ⟨x,h1,h2⟩:=Ax hv;cases h2;obtain ⟨d,S',h3,h4,rfl⟩:=ha x h1 S0 e F S hs;exact ⟨_,S',Dj h3 rfl (Xc (ds:=[a' x.1,b' x.2]) rfl (by decide) rfl),h4,rfl⟩
theorem Ve {a':α->D} {b':β->D} {p:Option (α×β)} (ha:VE A a (rV (eP a' b')) p):VE A (m2 ixA a (mC (.int 1))) (rV b') (p.bind λx=>some x.2):=λv hv S0 e F S hs=>by
 obtain ⟨x,h1,h2⟩:=Ax hv;cases h2;obtain ⟨d,S',h3,h4,rfl⟩:=ha x h1 S0 e F S hs;exact ⟨_,S',Dj h3 rfl (Xc (ds:=[a' x.1,b' x.2]) rfl (by decide) rfl),h4,rfl⟩
theorem W4 {pl:Option (List Int)} (ha:VE A a (rV eF) pl):VE A (M9 a) (rV D.int) (pl.bind λl=>some (l.length:Int)):=λv hv S0 e F S hs=>by
 obtain ⟨l,h1,h2⟩:=Ax hv;cases h2;obtain ⟨d,S',h3,h4,rfl⟩:=ha l h1 S0 e F S hs;exact ⟨_,S',(bB (ds:=l.map D.int) h3 rfl).trans (by rw [AI]),h4,rfl⟩
theorem Mo (ha:VE A a (rO (oL enc)) pl):VE A (M9 a) (rV D.int) (pl.bind λl=>some (l.length:Int)):=λv hv S0 e F S hs=>by
 obtain ⟨l,h1,h2⟩:=Ax hv;cases h2;obtain ⟨d,S',h3,h4,n,rfl,hn⟩:=ha l h1 S0 e F S hs;exact ⟨_,S',(bB (ds:=l.map enc) h3 (GM hn)).trans (by rw [AI]),h4,rfl⟩
theorem IR:∀ns:List Int,Gc (ns.map D.int)=some ns
 | []=>rfl
 | x :: ns=>by rw [A1];unfold Gc;rw [IR ns];rfl
theorem LZ (ha:VE A a (rO (oL enc)) pl):VE A (G6 a) (rV (eT enc)) pl:=λl hv S0 e F S hs=>by
 obtain ⟨d,S',h3,h4,n,rfl,hn⟩:=ha l hv S0 e F S hs;exact ⟨_,S',Mv h3 (GM hn),h4,rfl⟩
theorem SC (ha:VE A a (rO (oL enc)) pl):VL A (MR a) enc pl:=λl hv S0 e F S hs=>by
 obtain ⟨d,S',h3,h4,n,rfl,hn⟩:=ha l hv S0 e F S hs;exact ⟨S',gK h3 (GM hn),h4⟩
theorem c7 (h:VL A ml enc pl):VL A (mN Xa ml) enc pl:=λl hv S0 e F S hs=>by
 obtain ⟨S',h3,h4⟩:=h l hv S0 e F S hs;exact ⟨S',by unfold mN;rw [h3];rfl,h4⟩
theorem TQ:∀l:List Bool,Wa (l.map D.bl)=some l
 | []=>rfl
 | x :: l=>by rw [A1];unfold Wa;rw [TQ l];rfl
theorem iJ {pl:Option (List Bool)} (h:VL A ml D.bl pl):VE A (mQ fg ml) (rV D.bl) (pl.bind λl=>some (l.all id)):=λv hv S0 e F S hs=>by
 obtain ⟨l,h1,h2⟩:=Ax hv;cases h2;obtain ⟨S',h3,h4⟩:=h l h1 S0 e F S hs;refine ⟨_,S',Ye h3 ?_,h4,rfl⟩;unfold fg ZC;rw [TQ]
theorem iI {pl:Option (List Bool)} (h:VL A ml D.bl pl):VE A (mQ fc ml) (rV D.bl) (pl.bind λl=>some (l.any id)):=λv hv S0 e F S hs=>by
 obtain ⟨l,h1,h2⟩:=Ax hv;cases h2;obtain ⟨S',h3,h4⟩:=h l h1 S0 e F S hs;refine ⟨_,S',Ye h3 ?_,h4,rfl⟩;unfold fc ZC;rw [TQ]
theorem DS:VL A BH enc (some []):=λv hv S0 e F S hs=>by cases hv;exact ⟨S,rfl,Keeps.refl S⟩
theorem EU {p:Option α} (h:VE A m (rV enc) p) (hl:VL A ml enc pl):VL A (AR m ml) enc (p.bind λx=>pl.bind λl=>some (x :: l)):=λv hv S0 e F S hs=>by
 obtain ⟨x,h1,h2⟩:=Ax hv;obtain ⟨l,h2',h3⟩:=Ax h2;cases h3;obtain ⟨d,S1,h4,h5,rfl⟩:=h x h1 S0 e F S hs;obtain ⟨S2,h6,h7⟩:=hl l h2' S0 e _ S1 (hs.grow h5);exact ⟨S2,Cg h4 h6,h5.trans h7⟩
def FP (l:List α):Option (List α):=if l.length<=1000000 then some l else none
theorem DN (h:VL A ml enc pl):VL A (Dm ml) enc (pl.bind FP):=λv hv S0 e F S hs=>by
 obtain ⟨l,h1,h2⟩:=Ax hv;unfold FP at h2;split at h2
 ·rename_i hl
  cases h2;obtain ⟨S',h3,h4⟩:=h _ h1 S0 e F S hs;refine ⟨S',?_,h4⟩;unfold Dm;rw [h3];dsimp only [Res.bind];rw [if_pos (by rw [AI];exact bE hl)]
 ·cases h2
theorem Kq (h:VL A ml enc pl):VE A (Gp ml) (rV (eT enc)) (pl.bind FP):=λv hv S0 e F S hs=>by
 obtain ⟨l,h1,h2⟩:=Ax hv;unfold FP at h2;split at h2
 ·rename_i hl
  cases h2;obtain ⟨S',h3,h4⟩:=h _ h1 S0 e F S hs;refine ⟨_,S',?_,h4,rfl⟩;unfold Gp;rw [h3];dsimp only [Res.bind];rw [if_pos (by rw [AI];exact bE hl)];rfl
 ·cases h2
theorem Hs {a':α->D} {b':β->D} {pa:Option α} {pb:Option β} (ha:VE A a (rV a') pa) (hb:VE A b (rV b') pb):VE A (Gp (AR a (AR b BH))) (rV (eP a' b')) (pa.bind λx=>pb.bind λy=>some (x,y)):=λv hv S0 e F S hs=>by
 obtain ⟨x,h1,hv⟩:=Ax hv;obtain ⟨y,h2,h3⟩:=Ax hv;cases h3;obtain ⟨d1,S1,q1,k1,rfl⟩:=ha x h1 S0 e F S hs;obtain ⟨d2,S2,q2,k2,rfl⟩:=hb y h2 S0 e _ S1 (hs.grow k1);exact ⟨_,S2,Vq (ds:=[a' x,b' y]) (Cg q1 (Cg q2 rfl)) (by simp),k1.trans k2,rfl⟩
theorem Ov (ha:VE A a (rV (eT enc)) pl) (hb:VE A b (rV (eT enc)) pk):VE A (m2 Hi a b) (rV (eT enc)) (pl.bind λl=>pk.bind λk=>Lu l k):=Ho ha hb λl k z S q=>by
 unfold Lu at q;split at q
 ·rename_i hl
  cases q;unfold eT;rw [C2];exact dF (by rw [AI,AI];exact bE hl)
 ·cases q
theorem W8 (ha:VE A a (rO (oL enc)) pl) (hb:VE A b (rO (oL enc)) pk):VE A (m2 Hi a b) (rN (oL enc)) (pl.bind λl=>pk.bind λk=>Lu l k):=λv hv S0 e F S hs=>by
 obtain ⟨x,h1,hv⟩:=Ax hv;obtain ⟨y,h2,h3⟩:=Ax hv;obtain ⟨d1,S1,q1,k1,n,rfl,hn⟩:=ha x h1 S0 e F S hs;obtain ⟨d2,S2,q2,k2,m,rfl,hm⟩:=hb y h2 S0 e _ S1 (hs.grow k1);unfold Lu at h3;split at h3
 ·rename_i hl
  cases h3;refine ⟨_,_,Dj q1 q2 (d:=.ref S2.length) (S3:=S2++[oL enc (x++y)]) ?_,(k1.trans k2).trans (Keeps.app _ _),_,rfl,(k1.trans k2).1,FQ _ _⟩;unfold Hi;dsimp only;rw [k2.at hn,hm];unfold oL;dsimp only;rw [if_pos (by rw [AI,AI];exact bE hl),C2]
 ·cases h3
def VO (A:List Sl) (mo:MO) (p:Option (Option Int)):Prop:=∀v,p=some v->∀S0 e F S,Vs S0 A e F S->∃S',mo e S=.ok v S'/\Keeps S S'
theorem Os:VO A Rb (some none):=λv hv S0 e F S hs=>by cases hv;exact ⟨S,rfl,Keeps.refl S⟩
theorem Oq {pi:Option Int} (h:VE A m (rV D.int) pi):VO A (Py m) (pi.bind λi=>some (some i)):=λv hv S0 e F S hs=>by
 obtain ⟨x,h1,h2⟩:=Ax hv;cases h2;obtain ⟨d,S',h3,h4,rfl⟩:=h x h1 S0 e F S hs;exact ⟨S',by unfold Py;rw [h3];rfl,h4⟩
theorem Uw (l:List α) (f:α->β) (lo hi:Option Int):ID (l.map f) lo hi=(ID l lo hi).map f:=by
 unfold ID;rw [AI,<-List.map_drop,<-gv]
theorem W6 {mlo mhi:MO} {po ph:Option (Option Int)} (ha:VE A a (rV (eT enc)) pl) (hl:VO A mlo po) (hh:VO A mhi ph):VE A (M8 a mlo mhi) (rV (eT enc)) (pl.bind λl=>po.bind λx=>ph.bind λy=>some (ID l x y)):=λv hv S0 e F S hs=>by
 obtain ⟨l,h1,hv⟩:=Ax hv;obtain ⟨x,h2,hv⟩:=Ax hv;obtain ⟨y,h3,h4⟩:=Ax hv;cases h4;obtain ⟨d1,S1,q1,k1,rfl⟩:=ha l h1 S0 e F S hs;obtain ⟨S2,q2,k2⟩:=hl x h2 S0 e _ S1 (hs.grow k1);obtain ⟨S3,q3,k3⟩:=hh y h3 S0 e _ S2 ((hs.grow k1).grow k2);refine ⟨_,S3,?_,(k1.trans k2).trans k3,rfl⟩;unfold M8;rw [q1];dsimp only [Res.bind];rw [q2];dsimp only;rw [q3];show Res.ok (D.tup (ID (l.map enc) x y)) S3=_;rw [Uw];rfl
theorem W7 {mlo mhi:MO} {po ph:Option (Option Int)} (ha:VE A a (rO (oL enc)) pl) (hl:VO A mlo po) (hh:VO A mhi ph):VE A (P4 a mlo mhi) (rN (oL enc)) (pl.bind λl=>po.bind λx=>ph.bind λy=>some (ID l x y)):=λv hv S0 e F S hs=>by
 obtain ⟨l,h1,hv⟩:=Ax hv;obtain ⟨x,h2,hv⟩:=Ax hv;obtain ⟨y,h3,h4⟩:=Ax hv;cases h4;obtain ⟨d1,S1,q1,k1,n,rfl,hn⟩:=ha l h1 S0 e F S hs;obtain ⟨S2,q2,k2⟩:=hl x h2 S0 e _ S1 (hs.grow k1);obtain ⟨S3,q3,k3⟩:=hh y h3 S0 e _ S2 ((hs.grow k1).grow k2);refine ⟨.ref S3.length,S3++[oL enc (ID l x y)],?_,((k1.trans k2).trans k3).trans (Keeps.app _ _),_,rfl,((k1.trans k2).trans k3).1,FQ _ _⟩;unfold P4;rw [q1];dsimp only [Res.bind];rw [q2];dsimp only;rw [q3];dsimp only;unfold SQ;dsimp only;rw [K9 ((k2.trans k3).at hn)];show Res.ok _ (S3++[Ob.lst (ID (l.map enc) x y)])=_;rw [Uw];rfl
theorem Zh {pl:Option (List Int)} (ha:VE A a (rO (oL D.int)) pl):VE A (D6 a) (rN (oL D.int)) (pl.bind λl=>some (Cp l)):=λv hv S0 e F S hs=>by
 obtain ⟨l,h1,h2⟩:=Ax hv;cases h2;obtain ⟨d,S',h3,h4,n,rfl,hn⟩:=ha l h1 S0 e F S hs;refine ⟨_,_,JV h3 (MV hn) (es:=(Cp l).map D.int) ?_,h4.trans (Keeps.app _ _),_,rfl,h4.1,FQ _ _⟩;unfold KY;rw [IR]
def SN (l:List (List Int)):Option (List (List Int)):=if l.all (λr=>!r.isEmpty)=true then some (Il l) else none
theorem UO:∀rs:List (List Int),rs.all (λr=>!r.isEmpty)=true->L0 (rs.map Lr)=some rs
 | [],_=>rfl
 | [] :: rs,h=>by simp at h
 | (x :: r) :: rs,h=>by
  rw [gw,EL] at h;show L0 (.tup ((x :: r).map D.int) :: rs.map Lr)=_;unfold L0;rw [IR,UO rs h.2]
theorem Zi {pl:Option (List (List Int))} (ha:VE A a (rO (oL (eT D.int))) pl):VE A (D6 a) (rN (oL (eT D.int))) (pl.bind SN):=λv hv S0 e F S hs=>by
 obtain ⟨l,h1,h2⟩:=Ax hv;obtain ⟨d,S',h3,h4,n,rfl,hn⟩:=ha l h1 S0 e F S hs;unfold SN at h2;split at h2
 ·rename_i hl
  cases h2;refine ⟨_,_,JV h3 (MV hn) (es:=(Il l).map Lr) ?_,h4.trans (Keeps.app _ _),_,rfl,h4.1,FQ _ _⟩
  cases l with
  | nil=>show some ((Cp []).map D.int)=some ((Il []).map Lr);rw [YR];unfold Il;rw [List.mergeSort_nil];rfl
  | cons x l=>
   unfold KY;rw [show Gc (RK (eT D.int) (x :: l))=none from rfl,show L0 (RK (eT D.int) (x :: l))=some (x :: l) from UO _ hl]
 ·cases h2
theorem Js (ha:VE A a (rV (eT enc)) pl):VI A (Dg a) enc pl:=λl hv S0 e F S hs=>by
 obtain ⟨d,S',h3,h4,rfl⟩:=ha l hv S0 e F S hs;exact ⟨_,S',QF (xs:=l.map enc) h3,h4,λ_ _ _ _=>rfl⟩
theorem PZ (ha:VE A a (rN (oL enc)) pl):VI A (Dg a) enc pl:=λl hv S0 e F S hs=>by
 obtain ⟨d,S',h3,h4,n,rfl,h5,h6⟩:=ha l hv S0 e F S hs;exact ⟨_,S',LC h3 h6,h4,λF2 S2 hF h=>Ej (h n _ (hF _ _ (QO h5 h6)))⟩
theorem Zf {i:Nat} {l:List α} (h:A[i]?=some (.z (oL enc l))):VI A (Dg (AG i)) enc (some l):=λ_ hv S0 e F S hs=>by
 cases hv;obtain ⟨x,h1,n,rfl,h2⟩:=hs.sl i _ h;have hn:=hs.fz _ _ h2;exact ⟨_,S,LC (n:=n) (by unfold AG;rw [h1]) hn,Keeps.refl S,λF2 S2 hF h=>Ej (h n _ (hF _ _ (by rw [Fc (Bl hn)];exact h2)))⟩
theorem Jr {i:Nat} {l:List α} (h:A[i]?=some (.y (oL enc l))):VI A (Dg (AG i)) enc (some l):=λ_ hv S0 e F S hs=>by
 cases hv;obtain ⟨x,h1,n,rfl,h2,_⟩:=hs.sl i _ h;have hn:=hs.fz _ _ h2;exact ⟨_,S,LC (n:=n) (by unfold AG;rw [h1]) hn,Keeps.refl S,λF2 S2 hF h=>Ej (h n _ (hF _ _ (by rw [Fc (Bl hn)];exact h2)))⟩
def Ht (lo:Int) (n:Nat):List Int:=(Cw n).map λi:Nat=>lo+i
def SZ (j:Int):Option (List Int):=if -1000000<=j/\j<=1000000 then some (Ht 0 j.toNat) else none
def V2 (i j:Int):Option (List Int):=if -1000000<=i/\i<=1000000/\-1000000<=j/\j<=1000000 then some (Ht i (j - i).toNat) else none
theorem aA (lo:Int) (n:Nat):IN lo n=(Ht lo n).map D.int:=by
 unfold IN Ht;rw [BU];rfl
theorem IG (ha:VE A a (rV D.int) pi):VI A (iR1 (AR a BH)) D.int (pi.bind SZ):=λl hv S0 e F S hs=>by
 obtain ⟨j,h1,h2⟩:=Ax hv;obtain ⟨d,S',h3,h4,rfl⟩:=ha j h1 S0 e F S hs;unfold SZ at h2;split at h2
 ·rename_i hj
  cases h2;exact ⟨_,S',bP (j:=j) (Cg h3 rfl) hj.1 hj.2,h4,λ_ _ _ _=>congrArg some (aA _ _)⟩
 ·cases h2
theorem LY {pj:Option Int} (ha:VE A a (rV D.int) pi) (hb:VE A b (rV D.int) pj):VI A (iR2 (AR a (AR b BH))) D.int (pi.bind λi=>pj.bind λj=>V2 i j):=λl hv S0 e F S hs=>by
 obtain ⟨i,h1,hv⟩:=Ax hv;obtain ⟨j,h0,h2⟩:=Ax hv;obtain ⟨d,S1,h3,h4,rfl⟩:=ha i h1 S0 e F S hs;obtain ⟨d,S2,h5,h6,rfl⟩:=hb j h0 S0 e _ S1 (hs.grow h4);unfold V2 at h2;split at h2
 ·rename_i hj
  cases h2;exact ⟨_,S2,jk (i:=i) (j:=j) (Cg h3 (Cg h5 rfl)) hj.1 hj.2.1 hj.2.2.1 hj.2.2.2,h4.trans h6,λ_ _ _ _=>congrArg some (aA _ _)⟩
 ·cases h2
def Ur (l:List α):List (Int×α):=l.zipIdx.map λx=>((x.2:Int),x.1)
theorem Y1 (l:List α):QR (l.map enc)=(Ur l).map (eP D.int enc):=by
 unfold QR Ur;rw [cY,BU,BU];rfl
theorem hV (ha:VE A a (rO (oL enc)) pl):VK A (Xe a) enc (pl.bind λl=>some l.reverse):=λv hv S0 e F S hs=>by
 obtain ⟨l,h1,h2⟩:=Ax hv;cases h2;obtain ⟨d,S',h3,h4,n,rfl,hn⟩:=ha l h1 S0 e F S hs;refine ⟨Tz (.ref n) (l.map enc).length,S',?_,h4,λS2 k=>?_⟩
 ·unfold Xe
  rw [h3];dsimp only [Res.bind];rw [K9 hn]
 ·unfold Tz
  rw [K9 (k.at hn)];dsimp only;rw [if_pos rfl,cM]
def NN (enc:α->D):Prop:=∀x S neg,Nu neg (enc x) .non S=.ok (.bl neg) S
theorem Nn {enc:α->D}:NN (eT enc):=λ_ _ _=>rfl
theorem NX {p:Option (Option α)} (hn:NN enc) (ha:VE A a (rV (eO enc)) p):VE A (m2 (Nu false) a (mC .non)) (rV D.bl) (p.bind λo=>some o.isNone):=λv hv S0 e F S hs=>by
 obtain ⟨x,h1,h2⟩:=Ax hv;cases h2;obtain ⟨d,S',h3,h4,rfl⟩:=ha x h1 S0 e F S hs;refine ⟨_,S',Dj h3 rfl ?_,h4,rfl⟩
 cases x with
 | none=>rfl
 | some y=>exact hn y S' false
theorem Vh {p:Option (Option α)} (ha:VE A a (rV (eO enc)) p):VE A a (rV enc) (p.bind λo=>o):=λv hv S0 e F S hs=>by
 obtain ⟨x,h1,h2⟩:=Ax hv;cases h2;exact ha _ h1 S0 e F S hs
theorem W1 {p:Option α} (ha:VE A a (rV enc) p):VE A a (rV (eO enc)) (p.bind λo=>some (some o)):=λv hv S0 e F S hs=>by
 obtain ⟨x,h1,h2⟩:=Ax hv;cases h2;exact ha _ h1 S0 e F S hs
theorem dB:VE A (mC .non) (rV (eO enc)) (some none):=DB rfl
end
end
end L4
namespace L4
open PySem L2
section
variable {S0 S S':Sto} {A B:List Sl} {e:Lo} {F:Fz} {α β γ δ ρ σ τ κ κ':Type}
def oDK (enc:α->D) (l:List (Int×α)):Ob:=.dK (l.map λx=>(FV x.1,enc x.2))
def kP (x:Int×Int):List Key:=[FV x.1,FV x.2]
def oDP (enc:α->D) (l:List ((Int×Int)×α)):Ob:=.dT (l.map λx=>(kP x.1,enc x.2))
theorem T5 [DecidableEq κ] [DecidableEq κ'] {kk:κ->κ'} (hk:∀x y,kk x=kk y->x=y) (f:α->β) (l:List (κ×α)) (k:κ):A9 (l.map λx=>(kk x.1,f x.2)) (kk k)=(A9 l k).map f:=by
 unfold A9
 induction l with
 | nil=>rfl
 | cons x l ih=>
  rw [A1,B6,B6]
  by_cases c:x.1=k
  ·rw [decide_eq_true c,decide_eq_true (show kk x.1=kk k by rw [c])]
   rfl
  ·rw [decide_eq_false c,decide_eq_false λz=>c (hk _ _ z)]
   exact ih
theorem US [DecidableEq κ] [DecidableEq κ'] {kk:κ->κ'} (hk:∀x y,kk x=kk y->x=y) (f:α->β) (l:List (κ×α)) (k:κ) (v:α):CW (l.map λx=>(kk x.1,f x.2)) (kk k) (f v)=(CW l k v).map λx=>(kk x.1,f x.2):=by
 have any:((l.map λx=>(kk x.1,f x.2)).any λkv=>decide (kv.1=kk k))=l.any λkv=>decide (kv.1=k):=by
  rw [VD]
  congr 1
  funext x
  exact decide_eq_decide.mpr ⟨hk _ _,λz=>congrArg kk z⟩
 unfold CW;rw [any];split
 ·rw [BU,BU]
  refine EJ λx _=>?_
  show (if kk x.1=kk k then (kk x.1,f v) else (kk x.1,f x.2))=_
  by_cases c:x.1=k
  ·show _=(λx:κ×α=>(kk x.1,f x.2)) (if x.1=k then (x.1,v) else x)
   rw [if_pos c,if_pos (show kk x.1=kk k by rw [c])]
  ·show _=(λx:κ×α=>(kk x.1,f x.2)) (if x.1=k then (x.1,v) else x)
   rw [if_neg c,if_neg λz=>c (hk _ _ z)]
 ·rw [C2]
  rfl
theorem Xd (x y:Int) (h:(FV x:Key)=FV y):x=y:=by cases h;rfl
theorem bK (x y:Int×Int) (h:kP x=kP y):x=y:=by
 obtain ⟨a,b⟩:=x;obtain ⟨c,d⟩:=y;unfold kP at h;cases h;rfl
theorem br {enc:α->D} {l:List (Int×α)} {n:Nat} {S:Sto} (h:S[n]?=some (oDK enc l)) (k:Int):Og (.ref n) (.int k) S=some ((A9 l k).map enc):=by
 unfold Og;dsimp only;rw [h];show some (A9 _ (FV k))=_;rw [T5 Xd]
theorem bq {enc:α->D} {l:List ((Int×Int)×α)} {n:Nat} {S:Sto} (h:S[n]?=some (oDP enc l)) (k:Int×Int):Og (.ref n) (eP D.int D.int k) S=some ((A9 l k).map enc):=by
 unfold Og;dsimp only;rw [h];show some (A9 _ (kP k))=_;rw [T5 bK]
theorem TD {n:Nat} {y:D} {S:Sto} {o:Option D} (hq:G1 (.ref n) S=none) (h:Og (.ref n) y S=some o) (neg:Bool):inA neg y (.ref n) S=.ok (.bl (if neg then !o.isSome else o.isSome)) S:=by
 show IQ (inD neg y (.ref n) S) (LL neg y (.ref n) S)=_;rw [show inD neg y (.ref n) S=.bad by unfold inD;rw [hq]];show LL neg y (.ref n) S=_;unfold LL;rw [h]
theorem bp {n:Nat} {y:D} {S:Sto} {d:D} (hq:G1 (.ref n) S=none) (h:Og (.ref n) y S=some (some d)):ixA (.ref n) y S=.ok d S:=by
 show IQ (ixD (.ref n) y S) (QS (.ref n) y S)=_;rw [show ixD (.ref n) y S=.bad by unfold ixD;rw [hq]];show QS (.ref n) y S=_;unfold QS;rw [h]
theorem ie {enc:α->D} {l:List (Int×α)} {n:Nat} {S:Sto} (h:S[n]?=some (oDK enc l)):G1 (.ref n) S=none:=by unfold G1;dsimp only;rw [h];rfl
theorem ic {enc:α->D} {l:List ((Int×Int)×α)} {n:Nat} {S:Sto} (h:S[n]?=some (oDP enc l)):G1 (.ref n) S=none:=by unfold G1;dsimp only;rw [h];rfl
section
variable {a b m:ME} {enc:α->D}
theorem Zo:VE A So (rN (oDP enc)) (some []):=λv hv S0 e F S hs=>by cases hv;exact ⟨_,_,rfl,Keeps.app _ _,_,rfl,AT _,FQ _ _⟩
theorem Zn {pk:Option Int} {pl:Option (List (Int×α))} (ha:VE A a (rV D.int) pk) (hb:VE A b (rO (oDK enc)) pl):VE A (m2 (inA true) a b) (rV D.bl) (pk.bind λx=>pl.bind λl=>some (!(A9 l x).isSome)):=Vg ha hb λx l z S n hn q=>by cases q;rw [TD (ie hn) (br hn x)];simp
theorem dD {pk:Option (Int×Int)} {pl:Option (List ((Int×Int)×α))} (ha:VE A a (rV (eP D.int D.int)) pk) (hb:VE A b (rO (oDP enc)) pl):VE A (m2 (inA false) a b) (rV D.bl) (pk.bind λx=>pl.bind λl=>some (A9 l x).isSome):=Vg ha hb λx l z S n hn q=>by cases q;rw [TD (ic hn) (bq hn x)];simp
theorem Zm {pk:Option (Int×Int)} {pl:Option (List ((Int×Int)×α))} (ha:VE A a (rV (eP D.int D.int)) pk) (hb:VE A b (rO (oDP enc)) pl):VE A (m2 (inA true) a b) (rV D.bl) (pk.bind λx=>pl.bind λl=>some (!(A9 l x).isSome)):=Vg ha hb λx l z S n hn q=>by cases q;rw [TD (ic hn) (bq hn x)];simp
theorem T2 {pk:Option (Int×Int)} {pl:Option (List ((Int×Int)×α))} (ha:VE A a (rO (oDP enc)) pl) (hb:VE A b (rV (eP D.int D.int)) pk):VE A (m2 ixA a b) (rV enc) (pl.bind λl=>pk.bind λx=>A9 l x):=Zp ha hb λl x z S n hn q=>bp (ic hn) (by rw [bq hn x,q];rfl)
def Kx [DecidableEq κ] (l:List (κ×α)) (k:κ) (v:α):Option (List (κ×α)):=if l.length < 1000000 then some (CW l k v) else none
theorem c6 {ek:κ->D} [DecidableEq κ] {ob:List (κ×α)->Ob} {R:Rk ρ} {p:Option α} {pk:Option κ} {i:Nat} {l:List (κ×α)}
  (hput:∀(l:List (κ×α)) (k:κ) (v:α) (S:Sto) (n:Nat),S[n]?=some (ob l)->l.length < 1000000->Uv (.ref n) (ek k) (enc v) S=some (S.set n (ob (CW l k v))))
  (hi:A[i]?=some (.w i (ob l))) (hk:VE A b (rV ek) pk) (h:VE A m (rV enc) p) (ht:((A.set i .u).all (Sl.oth i))=true) :
  VS A (D2 (AG i) b m) R (p.bind λv=>pk.bind λk=>(Kx l k v).bind λl'=>some (.nx l')) (λl'=>A.set i (.w i (ob l'))):=λf hf S0 e F S hs=>by
 obtain ⟨v,h1,h2⟩:=Ax hf;obtain ⟨k,h2',h3⟩:=Ax h2;obtain ⟨l',h4,h0⟩:=Ax h3;cases h0;unfold Kx at h4;split at h4
 ·rename_i hl
  cases h4;obtain ⟨x,g1,n,rfl,g2,g3⟩:=hs.sl i _ hi;obtain ⟨d,S1,h5,h6,rfl⟩:=h v h1 S0 e F S hs;obtain ⟨d,S2,h7,h8,rfl⟩:=hk k h2' S0 e _ S1 (hs.grow h6);have hg:=(hs.grow h6).grow h8;have hn:=(h6.trans h8).at g3
  have hx:D2 (AG i) b m e S=.ok (.nx e) (S2.set n (ob (CW l k v))):=by
   unfold D2;rw [h5];dsimp only [Res.lift];rw [show AG i e S1=.ok (.ref n) S1 by unfold AG;rw [g1]];dsimp only;rw [h7];dsimp only;rw [hput l k v S2 n hn hl]
  have hF:N2 (N2 F S S1) S1 S2 n=.ow i:=by rw [Fc (Bl (h6.at g3)),Fc (Bl g3)];exact g2
  exact ⟨_,_,hx,e,_,rfl,hg.put ht hi g1 hF,(hs.fle S1).trans ((hs.grow h6).fle S2)⟩
 ·cases h4
theorem Tw {R:Rk ρ} {p:Option α} {pk:Option (Int×Int)} {i:Nat} {l:List ((Int×Int)×α)} (hi:A[i]?=some (.w i (oDP enc l))) (hk:VE A b (rV (eP D.int D.int)) pk) (h:VE A m (rV enc) p) (ht:((A.set i .u).all (Sl.oth i))=true) :
  VS A (D2 (AG i) b m) R (p.bind λv=>pk.bind λk=>(Kx l k v).bind λl'=>some (.nx l')) (λl'=>A.set i (.w i (oDP enc l'))):=
 c6 (λl k v S n hn hl=>by
  unfold Uv;dsimp only;rw [hn];show (if (l.map _).length < sizeLine then some (S.set n (.dT (CW (l.map λx=>(kP x.1,enc x.2)) (kP k) (enc v)))) else none)=_;rw [if_pos (by rw [AI];exact az hl),US bK]
  rfl) hi hk h ht
theorem Zb {b:MS} {R:Rk ρ} {B:σ->List Sl}:VS A b R none B:=λf hf=>by cases hf
theorem SE {i:Nat} {l:List α} (h:A[i]?=some (.y (oL enc l))):VI A (Sy (AG i)) (eP D.int enc) (some (Ur l)):=λ_ hv S0 e F S hs=>by
 cases hv;obtain ⟨x,h1,n,rfl,h2,_⟩:=hs.sl i _ h;have hn:=hs.fz _ _ h2;refine ⟨T0 (GJ (.ref n)),S,?_,Keeps.refl S,λF2 S2 hF h=>?_⟩
 ·unfold Sy
  rw [show AG i e S=.ok (.ref n) S by unfold AG;rw [h1]];dsimp only [Res.bind];rw [Ej hn]
 ·unfold T0
  rw [Ej (h n _ (hF _ _ (by rw [Fc (Bl hn)];exact h2)))];exact congrArg some (Y1 l)
end
end
end L4
namespace L4
open PySem L2
section
variable {α β γ ρ σ τ:Type}
theorem BQ {s:σ} {q:σ->Option (Fw ρ τ)}:BL (some (.nx s)) q=q s:=rfl
theorem cD {r:ρ} {q:σ->Option (Fw ρ τ)}:BL (some (.rt r)) q=some (.rt r):=rfl
theorem XQ {r:ρ}:He (some (.rt r:Fw ρ σ))=some r:=rfl
theorem eG {s:σ}:aW (some (.nx s))=some ():=rfl
theorem S8 {l:List α} {q:σ->α->Option (Fw ρ σ)} {s0:σ} (I:List α->σ->Prop) (h0:I [] s0) (h:∀pre x s,x∈l->pre++[x] <+: l->I pre s->∃s',q s x=some (.nx s')/\I (pre++[x]) s'):∃s,Ev l s0 q=some (.nx s)/\I l s:=by
 have key:∀(r pre:List α) (s:σ),l=pre++r->I pre s->∃s',Ev r s q=some (.nx s')/\I l s':=by
  intro r
  induction r with
  | nil=>intro pre s e hI;rw [BK] at e;subst e;exact ⟨s,rfl,hI⟩
  | cons x r ih=>
   intro pre s e hI;obtain ⟨s',h1,h2⟩:=h pre x s (by rw [e];simp) ⟨r,by rw [e];simp⟩ hI;obtain ⟨s2,h3,h4⟩:=ih (pre++[x]) s' (by rw [e];simp) h2;refine ⟨s2,?_,h4⟩;unfold Ev;rw [h1];exact h3
 exact key l [] s0 rfl h0
theorem bb {l:List α} {q:σ->α->Option (Fw ρ σ)} {s0:σ} (I:List α->σ->Prop) (R:ρ->Prop) (h0:I [] s0) (h:∀pre x s,x∈l->pre++[x] <+: l->I pre s->(∃s',q s x=some (.nx s')/\I (pre++[x]) s')∨∃r,q s x=some (.rt r)/\R r):(∃s,Ev l s0 q=some (.nx s)/\I l s)∨∃r,Ev l s0 q=some (.rt r)/\R r:=by
 have key:∀(r pre:List α) (s:σ),l=pre++r->I pre s->(∃s',Ev r s q=some (.nx s')/\I l s')∨∃y,Ev r s q=some (.rt y)/\R y:=by
  intro r
  induction r with
  | nil=>intro pre s e hI;rw [BK] at e;subst e;exact .inl ⟨s,rfl,hI⟩
  | cons x r ih=>
   intro pre s e hI
   rcases h pre x s (by rw [e];simp) ⟨r,by rw [e];simp⟩ hI with ⟨s',h1,h2⟩ | ⟨y,h1,h2⟩
   ·have e':Ev (x :: r) s q=Ev r s' q:=by
     conv=>lhs;unfold Ev
     rw [h1]
    rw [e'];exact ih (pre++[x]) s' (by rw [e];simp) h2
   ·refine .inr ⟨y,?_,h2⟩
    unfold Ev;rw [h1]
 exact key l [] s0 rfl h0
theorem bw {l:List α} {c:α->Option Bool} {m:α->Option β} {P:α->Bool} {f:α->β} (hc:∀x∈l,c x=some (P x)) (hm:∀x∈l,P x=true->m x=some (f x)):QV c m l=some ((l.filter P).map f):=by
 induction l with
 | nil=>rfl
 | cons x l ih=>
  have ih:=ih (λy hy=>hc y (Ah _ hy)) λy hy=>hm y (Ah _ hy)
  unfold QV;rw [hc x A3];show (if P x=true then _ else _)=_
  cases hp:P x with
  | true=>
   rw [if_pos rfl,hm x A3 hp,ih,Ts hp];rfl
  | false=>
   rw [if_neg AQ,ih,Tt (by rw [hp];exact AQ)]
theorem LM {l:List α} {c:α->Option Bool} {m:α->Option β} {P:α->Bool} {f:α->β} (hl:l.length<=1000000) (hc:∀x∈l,c x=some (P x)) (hm:∀x∈l,P x=true->m x=some (f x)):EO l c m=some ((l.filter P).map f):=by
 unfold EO;rw [if_pos hl,bw hc hm]
theorem IL {l:List α} {m:α->Option β} {f:α->β} (hl:l.length<=1000000) (hm:∀x∈l,m x=some (f x)):EO l (λ_=>some true) m=some (l.map f):=by
 rw [LM (P:=λ_=>true) hl (λ_ _=>rfl) λx hx _=>hm x hx,List.filter_eq_self.mpr λ_ _=>rfl]
theorem HA {l:List α} {c:α->Option Bool} {P:α->Bool} (hl:l.length<=1000000) (hc:∀x∈l,c x=some (P x)):EO l c (λx=>some x)=some (l.filter P):=by
 rw [LM (f:=λx=>x) hl hc λx hx _=>rfl,VC]
theorem Xy {l:List α} {x:α} (h:l.length < 1000000):TV l x=some (l++[x]):=if_pos h
theorem Lj {l k:List α} (h:l.length+k.length<=1000000):Lu l k=some (l++k):=if_pos h
theorem fO {l:List α} (h:l.length<=1000000):FP l=some l:=if_pos h
theorem j8:FP ([]:List α)=some []:=rfl
theorem be (a:α):FP [a]=some [a]:=if_pos (by simp)
theorem few2 (a b:α):FP [a,b]=some [a,b]:=if_pos (by simp)
theorem few3 (a b c:α):FP [a,b,c]=some [a,b,c]:=if_pos (by simp)
theorem XJ {j:Int} (h0:-1000000<=j) (h1:j<=1000000):SZ j=some (Ht 0 j.toNat):=if_pos ⟨h0,h1⟩
theorem da {i j:Int} (h0:-1000000<=i) (h1:i<=1000000) (h2:-1000000<=j) (h3:j<=1000000):V2 i j=some (Ht i (j - i).toNat):=if_pos ⟨h0,h1,h2,h3⟩
theorem Ga {lo:Int} {n:Nat} {x:Int}:x∈Ht lo n↔lo<=x/\x < lo+n:=by
 unfold Ht;rw [A4]
 constructor
 ·rintro ⟨k,hk,rfl⟩
  have:=RJ.mp hk;omega
 ·rintro ⟨h1,h2⟩
  exact ⟨(x - lo).toNat,RJ.mpr (by omega),by omega⟩
theorem Ee (lo:Int) (n:Nat):(Ht lo n).length=n:=by unfold Ht;rw [AI,List.length_range]
theorem dZ (lo:Int) (n:Nat):(Ht lo n).Pairwise (· < ·):=by
 unfold Ht;rw [Bf]
 exact List.pairwise_lt_range.imp λh=>by omega
theorem Wf {l:List α} {i:Int} (h0:0<=i) (h1:i < l.length):∃x,atI l i=some x/\l[i.toNat]?=some x:=by
 have hlt:i.toNat < l.length:=by omega
 exact ⟨l[i.toNat],QZ h0 (BJ hlt),BJ hlt⟩
theorem Xw {l:List α} {i:Int} {x:α} (h:atI l i=some x):x∈l:=by
 unfold atI at h;obtain ⟨j,_,h2⟩:=Ax h;exact CJ h2
theorem O9 {l:List α} (k:Int) (h:l≠[]):∃x,atI l (k % (l.length:Int))=some x/\x∈l:=by
 have hl:0 < (l.length:Int):=by have:=Fe.mpr h;omega
 obtain ⟨x,h1,_⟩:=Wf (l:=l) (i:=k % (l.length:Int)) (gD _ (by omega)) (ZX _ hl);exact ⟨x,h1,Xw h1⟩
theorem M6 {x y:Int} (h:0 < y):Sn x y=some (x % y):=if_pos h
theorem fT {l:List α} {lo hi:Option Int} {x:α} (h:x∈ID l lo hi):x∈l:=Hk (Wr h)
theorem Uq (P:α->Bool) (l:List α) (x:α):(l++[x]).filter P=if P x=true then l.filter P++[x] else l.filter P:=by
 rw [List.filter_append]
 cases c:P x with
 | true=>rw [if_pos rfl,Ts c];rfl
 | false=>rw [if_neg AQ,Tt (by rw [c];exact AQ)];simp
theorem K0 [DecidableEq α]:∀ {l k:List α},l.Nodup->(∀x∈l,x∈k)->l.length<=k.length
 | [],_,_,_=>DI _
 | x :: l,k,nd,h=>by
  have hx:=h x A3;obtain ⟨n1,n2⟩:=Br.mp nd
  have:=K0 (l:=l) (k:=k.erase x) n2 λy hy=>(List.mem_erase_of_ne (λz:y=x=>n1 (by rw [<-z];exact hy))).mpr (h y (Ah _ hy))
  rw [List.length_erase_of_mem hx] at this;have:=List.length_pos_of_mem hx;rw [Ao];omega
def Ok (p:Option α) (P:α->Prop):Prop:=∃v,p=some v/\P v
theorem Ok.pure {v:α} {P:α->Prop} (h:P v):Ok (some v) P:=⟨v,rfl,h⟩
theorem Ok.is {p:Option α} {v:α} (h:Ok p λr=>r=v):p=some v:=by
 obtain ⟨_,h1,rfl⟩:=h;exact h1
theorem Ok.bind {p:Option α} {q:α->Option β} {P:α->Prop} {Q:β->Prop} (h:Ok p P) (hq:∀v,P v->Ok (q v) Q):Ok (p.bind q) Q:=by
 obtain ⟨v,rfl,h⟩:=h;exact hq v h
theorem Ok.imp {p:Option α} {P Q:α->Prop} (h:Ok p P) (i:∀v,P v->Q v):Ok p Q:=by
 obtain ⟨v,rfl,h⟩:=h;exact ⟨v,rfl,i v h⟩
def OkF (p:Option (Fw ρ σ)) (N:σ->Prop) (R:ρ->Prop):Prop:=(∃s,p=some (.nx s)/\N s)∨∃r,p=some (.rt r)/\R r
theorem OkF.nx {s:σ} {N:σ->Prop} {R:ρ->Prop} (h:N s):OkF (some (.nx s)) N R:=.inl ⟨s,rfl,h⟩
theorem OkF.rt {r:ρ} {N:σ->Prop} {R:ρ->Prop} (h:R r):OkF (some (.rt r)) N R:=.inr ⟨r,rfl,h⟩
theorem OkF.seq {p:Option (Fw ρ σ)} {q:σ->Option (Fw ρ τ)} {N:σ->Prop} {N':τ->Prop} {R:ρ->Prop} (h:OkF p N R) (hq:∀s,N s->OkF (q s) N' R):OkF (BL p q) N' R:=by
 rcases h with ⟨s,rfl,h⟩ | ⟨r,rfl,h⟩
 ·exact hq s h
 ·exact .inr ⟨r,rfl,h⟩
theorem OkF.map {p:Option (Fw ρ σ)} {g:σ->τ} {N:σ->Prop} {N':τ->Prop} {R:ρ->Prop} (h:OkF p N R) (hg:∀s,N s->N' (g s)):OkF (HS g p) N' R:=by
 rcases h with ⟨s,rfl,h⟩ | ⟨r,rfl,h⟩
 ·exact .inl ⟨_,rfl,hg s h⟩
 ·exact .inr ⟨r,rfl,h⟩
theorem OkF.for {l:List α} {q:σ->α->Option (Fw ρ σ)} {s0:σ} {R:ρ->Prop} (I:List α->σ->Prop) (h0:I [] s0) (h:∀pre x s,x∈l->pre++[x] <+: l->I pre s->OkF (q s x) (I (pre++[x])) R):OkF (Ev l s0 q) (I l) R:=bb I R h0 h
theorem OkF.out {p:Option (Fw ρ σ)} {R:ρ->Prop} (h:OkF p (λ_=>False) R):Ok (He p) R:=by
 rcases h with ⟨s,rfl,h⟩ | ⟨r,rfl,h⟩
 ·exact h.elim
 ·exact ⟨r,rfl,h⟩
theorem VF.law {f:List D->Sto->Res D} {ns:List Int} (h:VF f [.v (eF ns)] (rV D.bl) (some true)):∃S',f [.fro (ns.map D.int)] []=.ok (.bl true) S':=by
 obtain ⟨d,S',h1,_,rfl⟩:=h true rfl [] [.fro (ns.map D.int)] ⟨rfl,trivial⟩;exact ⟨S',h1⟩
end
end L4
namespace L4
open PySem L2
section
variable {A:List Sl} {a b m:ME} {pa pb:Option Int}
def YS (x y:Int):Option Int:=if fq x y then some (x * 2 ^ y.toNat) else none
def dQ (x y:Int):Option Int:=if 0<=y then some (x / 2 ^ y.toNat) else none
theorem Vf (ha:VE A a (rV D.int) pa) (hb:VE A b (rV D.int) pb):VE A (m2 Z5 a b) (rV D.int) (pa.bind λx=>pb.bind λy=>YS x y):=Ho ha hb λx y z S h=>by
 unfold YS at h;split at h
 ·rename_i hc;cases h;exact if_pos hc
 ·cases h
theorem hX (ha:VE A a (rV D.int) pa) (hb:VE A b (rV D.int) pb):VE A (m2 UG a b) (rV D.int) (pa.bind λx=>pb.bind λy=>dQ x y):=Ho ha hb λx y z S h=>by
 unfold dQ at h;split at h
 ·rename_i hc;cases h;exact if_pos hc
 ·cases h
theorem XA (ha:VE A a (rV D.int) pa) (hb:VE A b (rV D.int) pb):VE A (m2 TX a b) (rV D.int) (pa.bind λx=>pb.bind λy=>some (DA x y)):=Ho ha hb λx y z S h=>by cases h;rfl
theorem W9 (ha:VE A a (rV D.int) pa) (hb:VE A b (rV D.int) pb):VE A (m2 ci a b) (rV D.int) (pa.bind λx=>pb.bind λy=>some (CU x y)):=Ho ha hb λx y z S h=>by cases h;rfl
theorem XC (h:VE A m (rV D.int) pa):VB A (HU m) (pa.bind λx=>some (x != 0)):=λv hv S0 e F S hs=>by
 obtain ⟨l,h1,h2⟩:=Ax hv;cases h2;obtain ⟨d,S',h3,h4,rfl⟩:=h l h1 S0 e F S hs;refine ⟨S',?_,h4⟩;unfold HU;rw [h3];rfl
end
section
variable {A:List Sl} {a m:ME} {α ρ:Type} {enc:α->D}
def IW (l:List α):List (Int×α):=l.zipIdx.map λx=>(((x.2+1:Nat):Int),x.1)
theorem WW (l:List α):Iv (l.map enc)=(IW l).map (eP D.int enc):=by
 unfold Iv IW;rw [cY,BU,BU];rfl
theorem T1 {pl:Option (List α)} (ha:VE A a (rV (eT enc)) pl):VI A (ND a) (eP D.int enc) (pl.bind λl=>some (IW l)):=λv hv S0 e F S hs=>by
 obtain ⟨l,h1,h2⟩:=Ax hv;cases h2;obtain ⟨d,S',h3,h4,rfl⟩:=ha l h1 S0 e F S hs;refine ⟨Gr (Iv (l.map enc)),S',?_,h4,λF2 S2 hF h=>?_⟩
 ·unfold ND
  rw [h3];rfl
 ·show some (Iv (l.map enc))=_
  rw [WW]
theorem La {pl:Option (List Int)} (ha:VE A a (rV (eT D.int)) pl):VE A (D6 a) (rN (oL D.int)) (pl.bind λl=>some (Cp l)):=λv hv S0 e F S hs=>by
 obtain ⟨l,h1,h2⟩:=Ax hv;cases h2;obtain ⟨d,S',h3,h4,rfl⟩:=ha l h1 S0 e F S hs;refine ⟨_,_,JV h3 (ds:=l.map D.int) rfl (es:=(Cp l).map D.int) ?_,h4.trans (Keeps.app _ _),_,rfl,h4.1,FQ _ _⟩;unfold KY;rw [IR]
end
end L4
namespace L4
open PySem L2
section
variable {S0 S S':Sto} {A B:List Sl} {e:Lo} {F:Fz} {α β γ ρ σ τ:Type} {a:ME} {enc:α->D}
theorem FY {n:Nat} {b:MS} {as:List Ar} {R:Rk ρ} {p:Option (Fw ρ σ)} {B:σ->List Sl} (h:VS (as.map Ar.sl++BY (n - as.length) .u) b R p B):VF (En n b) as R (He p):=λv hv S ds ha=>by
 cases p with
 | none=>cases hv
 | some x=>
  obtain ⟨g,S',h1,h2⟩:=h _ rfl S _ _ S (Vs.start ha)
  cases x with
  | rt r=>cases hv;obtain ⟨d,rfl,h2,h3⟩:=h2;exact ⟨d,S',_root_.M.Nj h1,h3,h2⟩
  | nx s=>cases hv
  | bk s=>cases hv
  | ct s=>cases hv
theorem Zg {n:Nat} {b:MS} {as:List Ar} {p:Option (Fw Unit σ)} {B:σ->List Sl} (h:VS (as.map Ar.sl++BY (n - as.length) .u) b (rV eU) p B):VF (En n b) as (rV eU) (aW p):=λv hv S ds ha=>by
 cases p with
 | none=>cases hv
 | some x=>
  obtain ⟨g,S',h1,h2⟩:=h _ rfl S _ _ S (Vs.start ha)
  cases x with
  | rt r=>obtain ⟨d,rfl,h2,h3⟩:=h2;exact ⟨d,S',_root_.M.Nj h1,h3,h2⟩
  | nx s=>obtain ⟨e',F',rfl,h2,h3⟩:=h2;exact ⟨.non,S',_root_.M.Z8 h1,h2.kp,rfl⟩
  | bk s=>cases hv
  | ct s=>cases hv
theorem Zl {t T:String} {r:Bool} {p:Option α} (ha:VE A a (rV enc) p) (ht:∀x S,tyD (enc x) S=some T) (hb:isB t T=some r):VE A (_root_.M.mIs (isB t) (λ_=>none) a) (rV D.bl) (p.bind λ_=>some r):=λv hv S0 e F S hs=>by
 obtain ⟨x,h1,h2⟩:=Ax hv;cases h2;obtain ⟨d,S',h3,h4,rfl⟩:=ha x h1 S0 e F S hs;exact ⟨_,S',_root_.M.mX h3 (ht x S') hb,h4,rfl⟩
end
end L4
namespace L4
open PySem L2
section
variable {κ α:Type} [DecidableEq κ]
theorem DO (l:List (κ×α)) (k:κ) (v:α) (k':κ):A9 (CW l k v) k'=if k'=k then some v else A9 l k':=by
 have key:∀l:List (κ×α),A9 (l.map λkv=>if kv.1=k then (kv.1,v) else kv) k'=if k'=k then (A9 l k').map (λ_=>v) else A9 l k':=by
  intro l
  induction l with
  | nil=>unfold A9;simp
  | cons x l ih=>
   unfold A9 at ih ⊢;rw [A1,B6,B6]
   by_cases c:x.1=k
   ·rw [if_pos c]
    by_cases d:x.1=k'
    ·rw [decide_eq_true d,if_pos (show k'=k from d▸c)]
     rfl
    ·rw [decide_eq_false d]
     exact ih
   ·rw [if_neg c]
    by_cases d:x.1=k'
    ·rw [decide_eq_true d,if_neg (λz:k'=k=>c (d.trans z))]
    ·rw [decide_eq_false d]
     exact ih
 unfold CW;split
 ·rename_i h
  rw [key]
  by_cases c:k'=k
  ·rw [if_pos c,if_pos c]
   subst c
   have:(A9 l k').isSome=true:=by
    unfold A9;rw [Gm,ZV];obtain ⟨x,hx,hk⟩:=HV.mp h;exact ⟨x,hx,hk⟩
   obtain ⟨b,hb⟩:=RI.mp this;rw [hb];rfl
  ·rw [if_neg c,if_neg c]
 ·rename_i h
  unfold A9;rw [List.find?_append]
  by_cases c:k'=k
  ·subst c
   rw [if_pos rfl]
   have:l.find? (λkv=>decide (kv.1=k'))=none:=by
    rw [Ij];intro x hx hk;exact h (HV.mpr ⟨x,hx,hk⟩)
   rw [this];simp
  ·rw [if_neg c]
   have:[(k,v)].find? (λkv=>decide (kv.1=k'))=none:=by
    rw [Ij];intro x hx;rw [Ae.mp hx];simp
    exact λz=>c z.symm
   rw [this];simp
theorem LB (l:List (κ×α)) (k:κ) (v:α):(CW l k v).map (·.1)=if k∈l.map (·.1) then l.map (·.1) else l.map (·.1)++[k]:=by
 have h1:(l.any λkv=>decide (kv.1=k))=true↔k∈l.map (·.1):=by
  rw [HV,A4];exact ⟨λ⟨x,hx,e⟩=>⟨x,hx,of_decide_eq_true e⟩,λ⟨x,hx,e⟩=>⟨x,hx,decide_eq_true e⟩⟩
 unfold CW
 by_cases c:k∈l.map (·.1)
 ·rw [if_pos c,if_pos (h1.mpr c),BU]
  refine EJ λx _=>?_
  show (if x.1=k then (x.1,v) else x).1=x.1
  split <;> rfl
 ·rw [if_neg c,if_neg λz=>c (h1.mp z),C2]
  rfl
theorem JU (l:List (κ×α)) (k:κ):(A9 l k).isSome=true↔k∈l.map (·.1):=by
 unfold A9;rw [Gm,ZV,A4];exact ⟨λ⟨x,hx,e⟩=>⟨x,hx,of_decide_eq_true e⟩,λ⟨x,hx,e⟩=>⟨x,hx,decide_eq_true e⟩⟩
end
def hb (bits x:Int):Bool:=DA (bits / 2 ^ x.toNat) 1 != 0
abbrev HL:=List (Int×Int)
abbrev QL:=List (Int×Bool)
def L3 (st:HL->Int->QL->Option (Bool×HL×QL)) (g:Int):List Int->HL->QL->Option (Bool×HL×QL)
 | [],H,Q=>some (false,H,Q)
 | x :: r,H,Q=>if (A9 Q x).isSome=true then L3 st g r H Q else (Kx Q x true).bind λQ1=>(A9 H x).bind λg2=>(st H g2 Q1).bind λz=>if z.1=true then (Kx z.2.1 x g).bind λH'=>some (true,H',z.2.2) else L3 st g r z.2.1 z.2.2
def HF (T:Int->List Int) (bits:Int):Nat->HL->Int->QL->Option (Bool×HL×QL)
 | 0,_,_,_=>none
 | n+1,H,g,Q=>match ((T g).filter λx=>hb bits x&&!(A9 Q x).isSome).find? (λx=>!(A9 H x).isSome) with
  | some x=>(Kx H x g).bind λH'=>some (true,H',Q)
  | none=>L3 (HF T bits n) g ((T g).filter λx=>hb bits x&&!(A9 Q x).isSome) H Q
section
variable {T:Int->List Int} {bits:Int} {U:List Int} {Gd:Int->Prop}
abbrev w0 (T:Int->List Int) (bits g:Int):List Int:=(T g).filter (hb bits)
structure KOk {α:Type} (U:List Int) (l:List (Int×α)):Prop where
 nd:(l.map (·.1)).Nodup
 sub:∀x∈l.map (·.1),x∈U
theorem KOk.len {α:Type} {l:List (Int×α)} (h:KOk U l):l.length<=U.length:=by
 have:=K0 h.nd h.sub;rwa [AI] at this
theorem KOk.put {α:Type} {l:List (Int×α)} (h:KOk U l) {x:Int} (hx:x∈U) (v:α):KOk U (CW l x v):=by
 by_cases c:x∈l.map (·.1)
 ·exact ⟨by rw [LB,if_pos c];exact h.nd,by rw [LB,if_pos c];exact h.sub⟩
 ·refine ⟨?_,?_⟩
  ·rw [LB,if_neg c]
   unfold GF;rw [A8];exact ⟨h.nd,by simp,λa ha b hb' z=>c (by rw [Ae.mp hb'] at z;rw [<-z];exact ha)⟩
  ·rw [LB,if_neg c]
   intro y hy
   rcases Az.mp hy with hy | hy
   ·exact h.sub y hy
   ·rw [Ae.mp hy];exact hx
theorem KOk.more {α:Type} {l:List (Int×α)} {x:Int} (c:(A9 l x).isSome=false) (v:α):(CW l x v).length=l.length+1:=by
 have h1:x∉l.map (·.1):=λz=>by rw [(JU l x).mpr z] at c;cases c
 have:=congrArg Hm (LB l x v);rw [if_neg h1,AI,AU,AI] at this;exact this
def MOn (T:Int->List Int) (bits:Int) (P:Int->Prop) (H:HL):Prop:=(∀x,P x->∀a,A9 H x=some a->x∈w0 T bits a)/\∀x y a,P x->P y->A9 H x=some a->A9 H y=some a->x=y
abbrev sn (Q:QL) (x:Int):Prop:=(A9 Q x).isSome=true
def Good (T:Int->List Int) (bits:Int) (H:HL) (g:Int) (Q:QL) (H':HL):Prop:=
 (∀x,sn Q x->A9 H' x=A9 H x)/\(MOn T bits (λx=>¬sn Q x) H->(∀x,¬sn Q x->A9 H x≠some g)->MOn T bits (λx=>¬sn Q x) H'/\∀a,(∃x,¬sn Q x/\A9 H' x=some a)↔a=g∨∃x,¬sn Q x/\A9 H x=some a)
def Clo (T:Int->List Int) (bits:Int) (H:HL) (Q Q':QL):Prop:=∀x,sn Q' x->sn Q x∨∃a,A9 H x=some a/\∀y∈w0 T bits a,sn Q' y
structure nM (T:Int->List Int) (bits:Int) (U:List Int) (Gd:Int->Prop) (H:HL) (g:Int) (Q:QL) (z:Bool×HL×QL):Prop where
 h1:KOk U z.2.1
 h2:KOk U z.2.2
 h3:∀x a,A9 z.2.1 x=some a->Gd a
 h4:∀x,sn Q x->sn z.2.2 x
 h5:z.1=false->z.2.1=H/\(∀x∈w0 T bits g,sn z.2.2 x)/\Clo T bits H Q z.2.2
 h6:z.1=true->Good T bits H g Q z.2.1
theorem Sb {α:Type} {l:List (Int×α)} (h:KOk U l) (hU:U.length < 1000000) (x:Int) (v:α):Kx l x v=some (CW l x v):=if_pos (BZ h.len hU)
theorem JD {Q:QL} {x y:Int}:sn (CW Q x true) y↔y=x∨sn Q y:=by
 unfold sn;rw [DO]
 by_cases c:y=x
 ·rw [if_pos c];simp [c]
 ·rw [if_neg c];simp [c]
theorem UI (hT:∀g,Gd g->∀x∈T g,x∈U) (hU:U.length < 1000000):∀(n:Nat) (H:HL) (g:Int) (Q:QL),KOk U H->KOk U Q->(∀x a,A9 H x=some a->Gd a)->Gd g->U.length < n+Q.length->Ok (HF T bits n H g Q) (nM T bits U Gd H g Q):=by
 intro n
 induction n with
 | zero=>intro H g Q hH hQ hG hg hn;exact absurd hQ.len (by omega)
 | succ n ih=>
  intro H g Q hH hQ hG hg hn;unfold HF
  have wm:∀x,x∈(T g).filter (λx=>hb bits x&&!(A9 Q x).isSome)↔x∈w0 T bits g/\¬sn Q x:=by
   intro x;unfold w0 sn;rw [A5,A5]
   cases A9 Q x <;> simp
  generalize (T g).filter (λx=>hb bits x&&!(A9 Q x).isSome)=w at wm
  have wU:∀x∈w,x∈U:=λx hx=>hT g hg x (A5.mp ((wm x).mp hx).1).1
  cases hf:w.find? (λx=>!(A9 H x).isSome) with
  | some x=>
   have hx:=List.mem_of_find?_eq_some hf
   have hfree:A9 H x=none:=by
    have:=List.find?_some hf
    cases q:A9 H x with
    | none=>rfl
    | some a=>rw [q] at this;cases this
   obtain ⟨x1,x2⟩:=(wm x).mp hx;show Ok ((Kx H x g).bind _) _;rw [Sb hH hU];refine .pure ⟨hH.put (wU x hx) g,hQ,λy a hy=>?_,λ_ h=>h,λz=>(by cases z),λ_=>⟨λy hy=>?_,λm ng=>⟨⟨λy hy a e=>?_,λy z a hy hz e1 e2=>?_⟩,λa=>⟨?_,?_⟩⟩⟩⟩
   ·rw [show A9 (true,CW H x g,Q).2.1 y=if y=x then some g else A9 H y from DO _ _ _ _] at hy
    split at hy
    ·cases hy;exact hg
    ·exact hG y a hy
   ·show A9 (CW H x g) y=_
    rw [DO,if_neg λc:y=x=>x2 (by rw [<-c];exact hy)]
   ·rw [show A9 (true,CW H x g,Q).2.1 y=if y=x then some g else A9 H y from DO _ _ _ _] at e
    split at e
    ·rename_i c;cases e;rw [c];exact x1
    ·exact m.1 y hy a e
   ·rw [show A9 (true,CW H x g,Q).2.1 y=if y=x then some g else A9 H y from DO _ _ _ _] at e1
    rw [show A9 (true,CW H x g,Q).2.1 z=if z=x then some g else A9 H z from DO _ _ _ _] at e2;split at e1
    ·rename_i c
     cases e1;split at e2
     ·rename_i d;rw [c,d]
     ·exact absurd e2 (ng z hz)
    ·split at e2
     ·cases e2;exact absurd e1 (ng y hy)
     ·exact m.2 y z a hy hz e1 e2
   ·rintro ⟨y,hy,e⟩
    rw [show A9 (true,CW H x g,Q).2.1 y=if y=x then some g else A9 H y from DO _ _ _ _] at e;split at e
    ·cases e;exact .inl rfl
    ·exact .inr ⟨y,hy,e⟩
   ·rintro (rfl | ⟨y,hy,e⟩)
    ·exact ⟨x,x2,by show A9 (CW H x a) x=_;rw [DO,if_pos rfl]⟩
    ·refine ⟨y,hy,?_⟩
     show A9 (CW H x g) y=_;rw [DO,if_neg λc=>by rw [c,hfree] at e;cases e];exact e
  | none=>
   have held:∀x∈w,∃a,A9 H x=some a:=by
    intro x hx;have:=Ij.mp hf x hx
    cases q:A9 H x with
    | none=>rw [q] at this;exact absurd rfl this
    | some a=>exact ⟨a,rfl⟩
   have key:∀(r:List Int) (Qc:QL),(∀x∈r,x∈w)->KOk U Qc->(∀x,sn Q x->sn Qc x)->Q.length<=Qc.length->Clo T bits H Q Qc->(∀x∈w,x∈r∨sn Qc x)->Ok (L3 (HF T bits n) g r H Qc) (nM T bits U Gd H g Q):=by
    intro r
    induction r with
    | nil=>
     intro Qc _ hQc hs hl hc hw;refine .pure ⟨hH,hQc,hG,hs,λ_=>⟨rfl,λx hx=>?_,hc⟩,λz=>(by cases z)⟩
     by_cases c:sn Q x
     ·exact hs x c
     ·rcases hw x ((wm x).mpr ⟨hx,c⟩) with h | h
      ·cases h
      ·exact h
    | cons x r ih2=>
     intro Qc hr hQc hs hl hc hw;unfold L3
     by_cases c:(A9 Qc x).isSome=true
     ·rw [if_pos c]
      refine ih2 Qc (λy hy=>hr y (Ah _ hy)) hQc hs hl hc λy hy=>?_
      rcases hw y hy with h | h
      ·rcases A2.mp h with rfl | h
       ·exact .inr c
       ·exact .inl h
      ·exact .inr h
     ·rw [if_neg c,Sb hQc hU]
      have hxw:=hr x A3;obtain ⟨x1,x2⟩:=(wm x).mp hxw;obtain ⟨a,ha⟩:=held x hxw;have hQ1:=hQc.put (wU x hxw) true;have WH:=KOk.more (l:=Qc) (x:=x) (by cases q:(A9 Qc x).isSome;rfl;exact absurd q c) true;obtain ⟨z,ez,hz⟩:=ih H a (CW Qc x true) hH hQ1 hG (hG x a ha) (by omega);show Ok ((A9 H x).bind _) _;rw [ha];show Ok ((HF T bits n H a (CW Qc x true)).bind _) _;rw [ez];show Ok (if z.1=true then _ else _) _
      cases hb':z.1 with
      | true=>
       rw [if_pos rfl,Sb hz.h1 hU];obtain ⟨g1,g2⟩:=hz.h6 hb';refine .pure ⟨hz.h1.put (wU x hxw) g,hz.h2,λy b hy=>?_,λy hy=>hz.h4 y (JD.mpr (.inr (hs y hy))),λq=>(by cases q),λ_=>⟨λy hy=>?_,λm ng=>?_⟩⟩
       ·rw [show A9 (true,CW z.2.1 x g,z.2.2).2.1 y=if y=x then some g else A9 z.2.1 y from DO _ _ _ _] at hy
        split at hy
        ·cases hy;exact hg
        ·exact hz.h3 y b hy
       ·show A9 (CW z.2.1 x g) y=_
        rw [DO,if_neg λq:y=x=>x2 (by rw [<-q];exact hy)];exact g1 y (JD.mpr (.inr (hs y hy)))
       ·have R1:∀y,¬sn (CW Qc x true) y->¬sn Q y/\y≠x/\¬sn Qc y:=λy hy=>⟨λq=>hy (JD.mpr (.inr (hs y q))),λq=>hy (JD.mpr (.inl q)),λq=>hy (JD.mpr (.inr q))⟩
        obtain ⟨m1,m2⟩:=g2 ⟨λy hy b e=>m.1 y (R1 y hy).1 b e,λy y' b hy hy' e e'=>m.2 y y' b (R1 y hy).1 (R1 y' hy').1 e e'⟩ λy hy e=>(R1 y hy).2.1 (m.2 y x a (R1 y hy).1 x2 e ha)
        have three:∀y,y=x∨(y≠x/\A9 z.2.1 y=A9 H y/\sn Qc y)∨¬sn (CW Qc x true) y:=λy=>by
         by_cases q:y=x
         ·exact .inl q
         ·by_cases q2:sn Qc y
          ·exact .inr (.inl ⟨q,g1 y (JD.mpr (.inr q2)),q2⟩)
          ·exact .inr (.inr λq3=>(JD.mp q3).elim q q2)
        have hv:∀y,y≠x->A9 (CW z.2.1 x g) y=A9 z.2.1 y:=λy q=>by rw [DO,if_neg q]
        have hvx:A9 (CW z.2.1 x g) x=some g:=by rw [DO,if_pos rfl]
        show MOn T bits _ (CW z.2.1 x g)/\∀b,(∃y,_/\A9 (CW z.2.1 x g) y=some b)↔_
        refine ⟨⟨λy hy b e=>?_,λy y' b hy hy' e e'=>?_⟩,λb=>⟨?_,?_⟩⟩
        ·rcases three y with rfl | ⟨q,q1,q2⟩ | q
         ·rw [hvx] at e;cases e;exact x1
         ·rw [hv y q,q1] at e;exact m.1 y hy b e
         ·rw [hv y (R1 y q).2.1] at e;exact m1.1 y q b e
        ·rcases three y with rfl | ⟨q,q1,q2⟩ | q
         ·rw [hvx] at e
          cases e
          rcases three y' with rfl | ⟨p,p1,p2⟩ | p
          ·rfl
          ·rw [hv y' p,p1] at e';exact absurd e' (ng y' hy')
          ·rw [hv y' (R1 y' p).2.1] at e'
           rcases (m2 g).mp ⟨y',p,e'⟩ with rfl | ⟨y2,p2,e2⟩
           ·exact absurd ha (ng y hy)
           ·exact absurd e2 (ng y2 (R1 y2 p2).1)
         ·rw [hv y q,q1] at e
          rcases three y' with rfl | ⟨p,p1,p2⟩ | p
          ·rw [hvx] at e';cases e';exact absurd e (ng y hy)
          ·rw [hv y' p,p1] at e';exact m.2 y y' b hy hy' e e'
          ·rw [hv y' (R1 y' p).2.1] at e'
           rcases (m2 b).mp ⟨y',p,e'⟩ with rfl | ⟨y2,p2,e2⟩
           ·exact absurd (m.2 y x b hy x2 e ha) q
           ·have:=m.2 y y2 b hy (R1 y2 p2).1 e e2
            rw [<-this] at p2;exact absurd q2 (R1 y p2).2.2
         ·rw [hv y (R1 y q).2.1] at e
          rcases three y' with rfl | ⟨p,p1,p2⟩ | p
          ·rw [hvx] at e'
           cases e'
           rcases (m2 g).mp ⟨y,q,e⟩ with rfl | ⟨y2,p2,e2⟩
           ·exact absurd ha (ng y' hy')
           ·exact absurd e2 (ng y2 (R1 y2 p2).1)
          ·rw [hv y' p,p1] at e'
           rcases (m2 b).mp ⟨y,q,e⟩ with rfl | ⟨y2,p3,e2⟩
           ·exact absurd (m.2 y' x b hy' x2 e' ha) p
           ·have:=m.2 y' y2 b hy' (R1 y2 p3).1 e' e2
            rw [<-this] at p3;exact absurd p2 (R1 y' p3).2.2
          ·rw [hv y' (R1 y' p).2.1] at e'
           exact m1.2 y y' b q p e e'
        ·rintro ⟨y,hy,e⟩
         rcases three y with rfl | ⟨q,q1,q2⟩ | q
         ·rw [hvx] at e;cases e;exact .inl rfl
         ·rw [hv y q,q1] at e;exact .inr ⟨y,hy,e⟩
         ·rw [hv y (R1 y q).2.1] at e
          rcases (m2 b).mp ⟨y,q,e⟩ with rfl | ⟨y2,p2,e2⟩
          ·exact .inr ⟨x,x2,ha⟩
          ·exact .inr ⟨y2,(R1 y2 p2).1,e2⟩
        ·rintro (rfl | ⟨y,hy,e⟩)
         ·exact ⟨x,x2,hvx⟩
         ·rcases three y with rfl | ⟨q,q1,q2⟩ | q
          ·rw [ha] at e
           cases e;obtain ⟨y',p,e'⟩:=(m2 a).mpr (.inl rfl);exact ⟨y',(R1 y' p).1,by rw [hv y' (R1 y' p).2.1];exact e'⟩
          ·exact ⟨y,hy,by rw [hv y q,q1];exact e⟩
          ·obtain ⟨y',p,e'⟩:=(m2 b).mpr (.inr ⟨y,q,e⟩)
           exact ⟨y',(R1 y' p).1,by rw [hv y' (R1 y' p).2.1];exact e'⟩
      | false=>
       rw [if_neg AQ];obtain ⟨f1,f2,f3⟩:=hz.h5 hb';rw [f1]
       have up:∀y,sn Qc y->sn z.2.2 y:=λy hy=>hz.h4 y (JD.mpr (.inr hy))
       refine ih2 z.2.2 (λy hy=>hr y (Ah _ hy)) hz.h2 (λy hy=>up y (hs y hy)) ?_ (λy hy=>?_) λy hy=>?_
       ·have h1:∀k∈Qc.map (·.1),k∈z.2.2.map (·.1):=λk hk=>(JU _ _).mp (up k ((JU _ _).mpr hk))
        have:=K0 hQc.nd h1;rw [AI,AI] at this;omega
       ·rcases f3 y hy with h | h
        ·rcases JD.mp h with rfl | h
         ·exact .inr ⟨a,ha,f2⟩
         ·rcases hc y h with h | ⟨b,e,k⟩
          ·exact .inl h
          ·exact .inr ⟨b,e,λy' hy'=>up y' (k y' hy')⟩
        ·exact .inr h
       ·rcases hw y hy with h | h
        ·rcases A2.mp h with rfl | h
         ·exact .inr (hz.h4 _ (JD.mpr (.inl rfl)))
         ·exact .inl h
        ·exact .inr (up y h)
   exact key w Q (λ_ h=>h) hQ (λ_ h=>h) (AT _) (λx hx=>.inl hx) λx hx=>.inl hx
end
end L4
namespace L4
open PySem L2
def Pk (bits:Int):List Int->HL->Option HL
 | [],H=>some H
 | g :: r,H=>if hb bits g=true then (Kx H g g).bind λH'=>Pk bits r H' else Pk bits r H
def Pq (T:Int->List Int) (bits:Int) (n:Nat):List Int->HL->Option Bool
 | [],_=>some true
 | g :: r,H=>if hb bits g=true then Pq T bits n r H else (HF T bits n H g []).bind λz=>if z.1=true then Pq T bits n r z.2.1 else some false
def QJ (T:Int->List Int) (bits:Int) (n:Nat) (gs:List Int):Option Bool:=(Pk bits gs []).bind λH=>Pq T bits n gs H
def Sdr (T:Int->List Int) (bits:Int) (gs:List Int):Prop:=∃f:Int->Int,(∀g∈gs,f g∈w0 T bits g)/\∀a∈gs,∀b∈gs,f a=f b->a=b
section
variable {T:Int->List Int} {bits:Int} {U:List Int} {Gd:Int->Prop}
theorem YN (hU:U.length < 1000000):∀(gs:List Int) (H:HL),(∀g∈gs,g∈U)->KOk U H->Ok (Pk bits gs H) λH'=>KOk U H'/\∀x,A9 H' x=if x∈gs/\hb bits x=true then some x else A9 H x:=by
 intro gs
 induction gs with
 | nil=>intro H _ h;exact .pure ⟨h,λx=>by rw [if_neg (by simp)]⟩
 | cons g gs ih=>
  intro H hg h;unfold Pk
  cases c:hb bits g with
  | true=>
   rw [if_pos rfl,Sb h hU]
   refine (ih (CW H g g) (λy hy=>hg y (Ah _ hy)) (h.put (hg g A3) g)).imp λH' ⟨h1,h2⟩=>⟨h1,λx=>?_⟩
   rw [h2 x,DO]
   by_cases d:x=g
   ·subst d
    rw [if_pos rfl,if_pos (show x∈x :: gs/\hb bits x=true from ⟨A3,c⟩)]
    split <;> rfl
   ·rw [if_neg d]
    have:(x∈g :: gs/\hb bits x=true)↔(x∈gs/\hb bits x=true):=by rw [A2];simp [d]
    by_cases q:x∈gs/\hb bits x=true
    ·rw [if_pos q,if_pos (this.mpr q)]
    ·rw [if_neg q,if_neg λz=>q (this.mp z)]
  | false=>
   rw [if_neg AQ]
   refine (ih H (λy hy=>hg y (Ah _ hy)) h).imp λH' ⟨h1,h2⟩=>⟨h1,λx=>?_⟩
   rw [h2 x]
   have:(x∈g :: gs/\hb bits x=true)↔(x∈gs/\hb bits x=true):=by
    rw [A2];refine ⟨λ⟨z,y⟩=>⟨z.elim (λe=>?_) id,y⟩,λ⟨z,y⟩=>⟨.inr z,y⟩⟩;rw [e,c] at y;cases y
   by_cases q:x∈gs/\hb bits x=true
   ·rw [if_pos q,if_pos (this.mpr q)]
   ·rw [if_neg q,if_neg λz=>q (this.mp z)]
theorem ak {α:Type}:KOk U ([]:List (Int×α)):=⟨FL,λ_ h=>(nomatch h)⟩
theorem Yc (hT:∀g,Gd g->∀x∈T g,x∈U) (hU:U.length < 1000000) {n:Nat} (hn:U.length < n) {gs:List Int} (hg:∀g∈gs,Gd g) (hnd:gs.Nodup):∀(r pre:List Int) (H:HL),gs=pre++r->KOk U H->(∀x a,A9 H x=some a->Gd a)->MOn T bits (λ_=>True) H->(∀a,(∃x,A9 H x=some a)↔a∈gs/\(a∈pre∨hb bits a=true))->Ok (Pq T bits n r H) λb=>b=true↔Sdr T bits gs:=by
 intro r
 induction r with
 | nil=>
  intro pre H e hH hG hM hI;rw [BK] at e;subst e;refine .pure ⟨λ_=>?_,λ_=>rfl⟩
  have ex:∀a:Int,∃x:Int,a∈gs->A9 H x=some a:=λa=>by
   by_cases c:a∈gs
   ·obtain ⟨x,hx⟩:=(hI a).mpr ⟨c,.inl c⟩
    exact ⟨x,λ_=>hx⟩
   ·exact ⟨0,λz=>absurd z c⟩
  refine ⟨λa=>CH (ex a),λa ha=>hM.1 _ trivial a (Cz (ex a) ha),λa ha b hb' e=>?_⟩;have h1:=Cz (ex a) ha;have h2:=Cz (ex b) hb';have e:CH (ex a)=CH (ex b):=e;rw [e,h2] at h1;cases h1;rfl
 | cons g r ih=>
  intro pre H e hH hG hM hI
  have hgm:g∈gs:=by rw [e];simp
  have hgp:g∉pre:=λz=>by
   rw [e] at hnd;exact (D4.mp hnd).2.2 g z g A3 rfl
  unfold Pq
  cases c:hb bits g with
  | true=>
   rw [if_pos rfl]
   refine ih (pre++[g]) H (by rw [e];simp) hH hG hM λa=>?_
   rw [hI a];refine ⟨λ⟨z,y⟩=>⟨z,y.elim (λy=>.inl (Bz _ y)) .inr⟩,λ⟨z,y⟩=>⟨z,y.elim (λy=>?_) .inr⟩⟩
   rcases Az.mp y with y | y
   ·exact .inl y
   ·rw [Ae.mp y];exact .inr c
  | false=>
   rw [if_neg AQ];obtain ⟨z,ez,hz⟩:=UI (bits:=bits) hT hU n H g [] hH ak hG (hg g hgm) (by simpa using hn);rw [ez];show Ok (if z.1=true then _ else _) _
   have no:∀x,¬sn ([]:QL) x:=λx h=>by unfold sn at h;cases h
   have ng:∀x,A9 H x≠some g:=λx q=>by
    have:=((hI g).mp ⟨x,q⟩).2
    rcases this with h | h
    ·exact hgp h
    ·rw [c] at h;cases h
   cases hb':z.1 with
   | true=>
    rw [if_pos rfl];obtain ⟨-,g2⟩:=hz.h6 hb'
    obtain ⟨m1,m2⟩:=g2 ⟨λx _ a q=>hM.1 x trivial a q,λx y a _ _ q q'=>hM.2 x y a trivial trivial q q'⟩ λx _=>ng x
    refine ih (pre++[g]) z.2.1 (by rw [e];simp) hz.h1 hz.h3 ⟨λx _ a q=>m1.1 x (no x) a q,λx y a _ _ q q'=>m1.2 x y a (no x) (no y) q q'⟩ λa=>?_
    constructor
    ·rintro ⟨x,hx⟩
     rcases (m2 a).mp ⟨x,no x,hx⟩ with rfl | ⟨y,_,hy⟩
     ·exact ⟨hgm,.inl (by simp)⟩
     ·obtain ⟨q1,q2⟩:=(hI a).mp ⟨y,hy⟩
      exact ⟨q1,q2.elim (λq=>.inl (Bz _ q)) .inr⟩
    ·rintro ⟨q1,q2⟩
     have:a=g∨∃x,¬sn ([]:QL) x/\A9 H x=some a:=by
      rcases q2 with q2 | q2
      ·rcases Az.mp q2 with q2 | q2
       ·obtain ⟨x,hx⟩:=(hI a).mpr ⟨q1,.inl q2⟩
        exact .inr ⟨x,no x,hx⟩
       ·exact .inl (Ae.mp q2)
      ·obtain ⟨x,hx⟩:=(hI a).mpr ⟨q1,.inr q2⟩
       exact .inr ⟨x,no x,hx⟩
     obtain ⟨x,_,hx⟩:=(m2 a).mpr this;exact ⟨x,hx⟩
   | false=>
    rw [if_neg AQ];obtain ⟨f1,f2,f3⟩:=hz.h5 hb';refine .pure ⟨λq=>(by cases q),?_⟩;rintro ⟨f,fw,fi⟩
    exfalso
    have X:=z.2.2.map (·.1)
    have hold:∀x∈z.2.2.map (·.1),∃a,A9 H x=some a/\∀y∈w0 T bits a,sn z.2.2 y:=λx hx=>by
     rcases f3 x ((JU _ _).mpr hx) with h | h
     ·exact absurd h (no x)
     ·exact h
    have ex:∀x:Int,∃a:Int,x∈z.2.2.map (·.1)->A9 H x=some a/\∀y∈w0 T bits a,sn z.2.2 y:=λx=>by
     by_cases q:x∈z.2.2.map (·.1)
     ·obtain ⟨a,h⟩:=hold x q
      exact ⟨a,λ_=>h⟩
     ·exact ⟨0,λq'=>absurd q' q⟩
    have hc:=λx=>Cz (ex x)
    generalize hh:(λx=>CH (ex x))=h at hc
    have hc':∀x∈z.2.2.map (·.1),A9 H x=some (h x)/\∀y∈w0 T bits (h x),sn z.2.2 y:=λx hx=>by rw [<-hh];exact hc x hx
    have nd:(f g :: (z.2.2.map (·.1)).map λx=>f (h x)).Nodup:=by
     rw [Br]
     have hmem:∀x∈z.2.2.map (·.1),h x∈gs:=λx hx=>((hI (h x)).mp ⟨x,(hc' x hx).1⟩).1
     refine ⟨λq=>?_,?_⟩
     ·obtain ⟨x,hx,e1⟩:=A4.mp q
      have:=fi (h x) (hmem x hx) g hgm e1;exact ng x (by rw [(hc' x hx).1,this])
     ·unfold GF
      rw [Bf]
      refine hz.h2.nd.imp_of_mem λ{x y} hx hy ne e1=>ne ?_
      have:=fi (h x) (hmem x hx) (h y) (hmem y hy) e1;exact hM.2 x y (h x) trivial trivial (hc' x hx).1 (by rw [this];exact (hc' y hy).1)
    have sub:∀y∈(f g :: (z.2.2.map (·.1)).map λx=>f (h x)),y∈z.2.2.map (·.1):=by
     intro y hy
     rcases A2.mp hy with rfl | hy
     ·exact (JU _ _).mp (f2 _ (fw g hgm))
     ·obtain ⟨x,hx,rfl⟩:=A4.mp hy
      exact (JU _ _).mp ((hc' x hx).2 _ (fw _ ((hI (h x)).mp ⟨x,(hc' x hx).1⟩).1))
    have:=K0 nd sub;rw [Ao,AI] at this;omega
theorem Rp (hT:∀g,Gd g->∀x∈T g,x∈U) (hU:U.length < 1000000) {n:Nat} (hn:U.length < n) {gs:List Int} (hg:∀g∈gs,Gd g/\g∈T g) (hnd:gs.Nodup):Ok (QJ T bits n gs) λb=>b=true↔Sdr T bits gs:=by
 unfold QJ
 refine (YN hU gs [] (λg h=>hT g (hg g h).1 g (hg g h).2) ak).bind λH ⟨h1,h2⟩=>?_
 have hv:∀x a,A9 H x=some a->a=x/\x∈gs/\hb bits x=true:=λx a e=>by
  rw [h2 x] at e;split at e
  ·rename_i q;cases e;exact ⟨rfl,q⟩
  ·cases e
 refine Yc hT hU hn (λg h=>(hg g h).1) hnd gs [] H rfl h1 (λx a e=>?_) ⟨λx _ a e=>?_,λx y a _ _ e e'=>?_⟩ λa=>⟨?_,?_⟩
 ·obtain ⟨rfl,q,_⟩:=hv x a e;exact (hg _ q).1
 ·obtain ⟨rfl,q1,q2⟩:=hv x a e
  exact A5.mpr ⟨(hg _ q1).2,q2⟩
 ·rw [<-(hv x a e).1,<-(hv y a e').1]
 ·rintro ⟨x,e⟩
  obtain ⟨rfl,q1,q2⟩:=hv x a e;exact ⟨q1,.inr q2⟩
 ·rintro ⟨q1,q2⟩
  refine ⟨a,?_⟩;rw [h2 a,if_pos ⟨q1,q2.elim (λq=>(nomatch q)) id⟩]
end
end L4
namespace L4
open PySem L2
def U0 (rs:List (List Int)):Option (List Int):=rs[Ez (λi j=>HT.lexLt (rs.getD i []) (rs.getD j [])) (rs.length - 1)]?
theorem RV:∀rs:List (List Int),RW (rs.map (eT D.int))=some rs
 | []=>rfl
 | r :: rs=>by
  rw [A1];show (match Gc (r.map D.int),RW (rs.map (eT D.int)) with | some r,some rs=>some (r :: rs) | _,_=>none)=_;rw [IR,RV rs]
theorem dC {A:List Sl} {a:ME} {pl:Option (List (List Int))} (ha:VE A a (rO (oL (eT D.int))) pl):VE A (mQ WC (MR a)) (rV (eT D.int)) (pl.bind U0):=λv hv S0 e F S hs=>by
 obtain ⟨l,h1,h2⟩:=Ax hv;obtain ⟨d,S',h3,h4,n,rfl,hn⟩:=ha l h1 S0 e F S hs;refine ⟨_,S',Ye (f:=WC) (gK h3 (GM hn)) ?_,h4,rfl⟩;unfold WC;rw [RV];dsimp only;unfold U0 at h2;rw [As,h2];rfl
theorem fR {α:Type} [DecidableEq α] {n:Nat} {enc:α->D} (h:EqN n enc):EqN (n+1) (eO (eT enc)):=λx y=>by
 cases x with
 | none=>cases y <;> rfl
 | some x=>
  cases y with
  | none=>rfl
  | some y=>
   refine (TC h x y).trans ?_
   by_cases c:x=y
   ·rw [decide_eq_true c,decide_eq_true (congrArg some c)]
   ·rw [decide_eq_false c,decide_eq_false λe=>c (Ck e)]
theorem jX {α:Type} {enc:α->D}:NL (eO (eT enc)):=λx S=>by cases x <;> rfl
def rOP {α β:Type} (enc:α->D) (ob:β->Ob):Rk (Option (α×β)):=λv S0 d S=>match v with
 | none=>d=.non
 | some ab=>∃n,d=.tup [enc ab.1,.ref n]/\S0.length<=n/\S[n]?=some (ob ab.2)
section
variable {α β ρ σ:Type} {A:List Sl} {enc:α->D} {ob:β->Ob}
theorem im:∀(v:Option (α×β)) (S S1:Sto) (d:D) (S':Sto),S.length<=S1.length->rOP enc ob v S1 d S'->rOP enc ob v S d S':=λv _ _ _ _ l h=>by
 cases v with
 | none=>exact h
 | some ab=>obtain ⟨n,h1,h2,h3⟩:=h;exact ⟨n,h1,Am l h2,h3⟩
theorem cy {B:σ->List Sl}:VS A (Ct (mC .non)) (rOP enc ob) (some (.rt none)) B:=λf hf S0 e F S hs=>by
 cases hf;exact ⟨.rt .non,S,rfl,_,rfl,rfl,hs.kp⟩
theorem cx {B:σ->List Sl} {ma mb:ME} {p:Option α} {q:Option β} (ha:VE A ma (rV enc) p) (hb:VE A mb (rN ob) q):VS A (Ct (Gp (AR ma (AR mb BH)))) (rOP enc ob) (p.bind λx=>q.bind λy=>some (.rt (some (x,y)))) B:=λf hf S0 e F S hs=>by
 obtain ⟨x,h1,h2⟩:=Ax hf;obtain ⟨y,h3,h4⟩:=Ax h2;cases h4;obtain ⟨d1,S1,c1,k1,rfl⟩:=ha x h1 S0 e F S hs;obtain ⟨d2,S2,c2,k2,n,rfl,h5,h6⟩:=hb y h3 S0 e _ S1 (hs.grow k1);exact ⟨_,S2,MD (Vq (Cg c1 (Cg c2 rfl)) (by simp)),_,rfl,⟨n,rfl,Am (Am hs.kp.1 k1.1) h5,h6⟩,(hs.kp.trans k1).trans k2⟩
theorem Pc {e:Lo} {S:Sto} {i:Nat} {d:D} (h:e[i]?=some (some d)):AG i e S=.ok d S:=by unfold AG;rw [h]
theorem cu {m:ME} {p:Option (Option (Int×List Int))} {t:List Int} {i j k:Nat} (hi:A[i]?=some (.w i (oL D.int t))) (hk:A[k]?=some .u) (hij:i≠j) (hik:i≠k) (hjk:j≠k) (hm:VE A m (rOP D.int (oL D.int)) p) (ht:(((A.set k .u).set i .u).all (Sl.oth i))=true) :
  VS A (BN (CP k m) (BN (sIf (mB (m2 (Nu false) (AG k) (mC .non))) (Ct (mC .non)) sNx) (BN (GP (Od (AG i) (m2 ixA (AG k) (mC (.int 0))))) (CP j (m2 ixA (AG k) (mC (.int 1))))))) (rV (eO (eT D.int)))
   (p.bind λo=>match o with | none=>some (.rt none) | some ab=>(TV t ab.1).bind λl=>some (.nx (l,ab.2))) (λz:List Int×List Int=>((A.set k .u).set i (.w i (oL D.int z.1))).set j (.z (oL D.int z.2))):=λf hf S0 e F S hs=>by
 obtain ⟨o,h1,h2⟩:=Ax hf;obtain ⟨d,S',c1,k1,r1⟩:=hm o h1 S0 e F S hs;have g:=hs.grow k1;have s1:CP k m e S=.ok (.nx (e.set k (some d))) S':=JE c1;obtain ⟨xk,ek,_⟩:=hs.sl k _ hk;have hkl:=(AH.mp ek).1
 have vk:(e.set k (some d))[k]?=some (some d):=by rw [A6 hkl]
 cases o with
 | none=>
  cases r1;cases h2;have t1:mB (m2 (Nu false) (AG k) (mC .non)) (e.set k (some .non)) S'=.ok true S':=RF (Dj (Pc vk) rfl rfl);exact ⟨.rt .non,S',(CV s1).trans (Pn ((Gs t1).trans ((if_pos rfl).trans rfl))),_,rfl,rfl,hs.kp.trans k1⟩
 | some ab=>
  obtain ⟨n,rfl,hn,hb⟩:=r1;obtain ⟨l,h3,h4⟩:=Ax h2;cases h4;unfold TV at h3;split at h3
  ·rename_i hl
   cases h3;obtain ⟨x,g1,n3,rfl,g2,g3⟩:=g.sl i _ hi;have t1:mB (m2 (Nu false) (AG k) (mC .non)) (e.set k (some (.tup [.int ab.1,.ref n]))) S'=.ok false S':=RF (Dj (Pc vk) rfl rfl)
   have vi:(e.set k (some (.tup [D.int ab.1,.ref n])))[i]?=some (some (.ref n3)):=by rw [At (Bo hik)];exact g1
   have hx:=TU (mo:=AG i) (ma:=m2 ixA (AG k) (mC (.int 0))) (e:=e.set k (some (.tup [.int ab.1,.ref n]))) (S:=S') (S1:=S') (S2:=S') (y:=.int ab.1) (n:=n3) (Pc vi) g3 (Dj (Pc vk) rfl rfl) g3 (by rw [AI];exact az hl);rw [show t.map D.int++[D.int ab.1]=(t++[ab.1]).map D.int by simp] at hx;have v1:=(g.set (a:=.u) (x:=some (.tup [.int ab.1,.ref n])) k trivial).put (i:=i) (n:=n3) (o:=oL D.int t) (o':=oL D.int (t++[ab.1])) ht (by rw [At (Bo hik)];exact hi) vi g2;have v2:=v1.set (a:=.z (oL D.int ab.2)) (x:=some (.ref n)) j ⟨n,rfl,QO hn hb⟩;have s4:CP j (m2 ixA (AG k) (mC (.int 1))) (e.set k (some (.tup [.int ab.1,.ref n]))) (S'.set n3 (oL D.int (t++[ab.1])))=.ok (.nx ((e.set k (some (.tup [.int ab.1,.ref n]))).set j (some (.ref n)))) (S'.set n3 (oL D.int (t++[ab.1]))):=JE (Dj (Pc vk) rfl rfl);refine ⟨_,_,(CV s1).trans ((CV ((Gs t1).trans ((if_neg AQ).trans rfl))).trans ((CV (Lk hx)).trans s4)),_,_,rfl,v2,hs.fle S'⟩
  ·cases h3
end
theorem iG {A:List Sl} {a b:ME} {pa pb:Option (List Int)} (ha:VE A a (rV (eT D.int)) pa) (hb:VE A b (rV (eT D.int)) pb):VE A (m2 gtT a b) (rV D.bl) (pa.bind λx=>pb.bind λy=>some (Srt.ltL y x)):=λv hv S0 e F S hs=>by
 obtain ⟨x,h1,hv⟩:=Ax hv;obtain ⟨y,h2,h3⟩:=Ax hv;cases h3;obtain ⟨d1,S1,q1,k1,rfl⟩:=ha x h1 S0 e F S hs;obtain ⟨d2,S2,q2,k2,rfl⟩:=hb y h2 S0 e _ S1 (hs.grow k1);refine ⟨_,S2,Dj q1 q2 (d:=.bl (Srt.ltL y x)) ?_,k1.trans k2,rfl⟩;show (match Gc (x.map D.int),Gc (y.map D.int) with | some ns,some ms=>Res.ok (D.bl (Srt.ltL ms ns)) S2 | _,_=>.bad)=_;rw [IR,IR]
end L4
namespace L2
open PySem PySem.Spec PyProof.Rows
section
variable {P:Ap} {w:BE} {K:AB} {mg:Str->Option AD} {base:Bu}
theorem Bm {x qual:Str} {st:C1} {f:AM} {fd:Df} {N ps:List Str} {k n:Nat} (F:Fun K x qual st f fd) (Sc:Bp N ps (Al st)) (hn:ps.length=n) {mb:MS}
  (hbody:∀(cdv:AD) (A:BC) (outer:List Env) (s:AE) (H:Hp) (E:XK),Hj k (A.deeper (L8 qual (Al st) s.heap.objs.size f cdv))->(A.deeper (L8 qual (Al st) s.heap.objs.size f cdv)).units+64 < Dr->N.Nodup ->
   GSs (WX (CXG P w) P w K mg base N qual (Al st) f cdv A outer s H E).q noE (Bi st) mb) :
  Dq P w K mg base (CXG P w) (k+1) f fd ps (spM K n (En N.length mb)):=fK F Sc hn λcdv A outer s H E hr=>hbody cdv A outer s H E hr hr.units Sc.nd
end
end L2
namespace M
open PySem PySem.Spec PyProof.Rows L2
def top (i:Nat):C1:=gu.main.body.getD i (.Pass ⟨0,0,0,0⟩)
structure Wd where
 Web:AM
def Wd.excs (W:Wd):List AM:=[]
abbrev ED:C1:=top 9
abbrev EC:C1:=top 10
abbrev G3:C1:=em (top 8) 0
abbrev DE:C1:=top 11
abbrev Nh:C1:=top 12
abbrev G2:C1:=top 14
abbrev II:C1:=top 15
abbrev JX:C1:=top 16
abbrev Ni:C1:=top 17
abbrev FB:C1:=top 18
abbrev FC:C1:=top 19
abbrev DY:C1:=top 21
abbrev IH:C1:=top 25
abbrev DZ:C1:=top 24
abbrev Fp:C1:=top 23
abbrev IJ:C1:=top 22
abbrev Lb:C1:=top 26
abbrev EE:C1:=top 28
abbrev FD:C1:=top 29
abbrev DF:C1:=top 30
abbrev Fq:C1:=top 31
abbrev Ek:C1:=top 32
abbrev Ft:C1:=top 33
abbrev Fs:C1:=top 34
abbrev Dt:C1:=top 35
abbrev FF:C1:=top 36
abbrev FE:C1:=top 37
abbrev RT:C1:=top 38
def QX (W:Wd):MS:=
  (BN (CP 2 So)
  (BN (GN (Dg (AG 1)) (KW 2 (D1 (tgN 3) (D1 (tgN 4) Kt)))
  (BN (CP 5 (Gp (AR (mQ M7 (AR (AG 3) (AR (AG 4) BH))) (AR (mQ Rf (AR (AG 3) (AR (AG 4) BH))) BH))))
  (BN (sIf (mB (m2 (eqD false) (m2 ixA (AG 5) (mC (.int 0))) (m2 ixA (AG 5) (mC (.int 1))))) Qz sNx)
  (BN (sIf (mOr (mB (m2 ltD (m2 ixA (AG 5) (mC (.int 0))) (mC (.int 0)))) (mB (m2 geD (m2 ixA (AG 5) (mC (.int 1))) (AG 0)))) Qz sNx)
  (BN (sIf (mB (m2 (inA false) (AG 5) (AG 2))) Qz sNx)
  (D2 (AG 2) (AG 5) (mC (.bl true))))))))
  (Ct (G6 (D6 (AG 2))))))
def Gh (W:Wd):List D->Sto->Res D:=En 6 (QX W)
def LP (W:Wd):MS:=
  (BN (CP 2 (Da (Di 1 (iR1 (AR (AG 0) BH)) (tgN 0) Gu (Da (Dm BH)))))
  (BN (GN (Dg (AG 1)) (KW 2 (D1 (tgN 3) (D1 (tgN 4) Kt)))
  (BN (GP (Od (m2 ixA (AG 2) (AG 3)) (AG 4)))
  (GP (Od (m2 ixA (AG 2) (AG 4)) (AG 3)))))
  (Ct (G6 (Da (Di 1 (Dg (AG 2)) (tgN 0) Gu (G6 (D6 (AG 0)))))))))
def Gg (W:Wd):List D->Sto->Res D:=En 5 (LP W)
def QY (W:Wd):MS:=
  (BN (sIf (MU (mB (m3 leD leD (mC (.int 1)) (AG 1) (mC (.int 60))))) Qz sNx)
  (BN (RU W.Web "places" (AG 0) (AG 1))
  (BN (RU W.Web "ties" (AG 0) (B7 2 (Gh W) (AR (AG 1) (AR (AG 2) BH))))
  (RU W.Web "near_sets" (AG 0) (B7 2 (Gg W) (AR (AG 1) (AR (Oc W.Web "ties" (AG 0)) BH)))))))
def KF (W:Wd):List D->Sto->Res D:=En 3 (QY W)
def Gj (W:Wd):MS:=
  (sIf (MU (mB (m3 leD ltD (mC (.int 0)) (AG 1) (Oc W.Web "places" (AG 0))))) Qz sNx)
def Gf (W:Wd):List D->Sto->Res D:=En 2 (Gj W)
def Wb (W:Wd):MS:=
  (BN (GP (B7 2 (Gf W) (AR (AG 0) (AR (AG 1) BH))))
  (Ct (m2 ixA (Oc W.Web "near_sets" (AG 0)) (AG 1))))
def TB (W:Wd):List D->Sto->Res D:=En 2 (Wb W)
def MZ (W:Wd):MS:=
  (Ct (Da (Di 1 (iR1 (AR (Oc W.Web "places" (AG 0)) BH)) (tgN 0) Gu (G6 (D6 (m2 Hi (Gp (AR (AG 0) BH)) (B7 2 (TB W) (AR (AG 1) (AR (AG 0) BH)))))))))
def J8 (W:Wd):List D->Sto->Res D:=En 1 (MZ W)
def N6 (W:Wd):MS:=
  (BN (CP 1 (mC (.int 0)))
  (BN (GN (Dg (AG 0)) (tgN 2)
  (YX 1 (λa b=>Lz a b) (m2 Z5 (mC (.int 1)) (AG 2))))
  (Ct (AG 1))))
def Li (W:Wd):List D->Sto->Res D:=En 3 (N6 W)
def U1 (W:Wd) (fr:List D->Sto->Res D):MS:=
  (BN (CP 5 (Da (Di 1 (Dg (m2 ixA (AG 0) (AG 3))) (tgN 0) (Nr (HU (m2 TX (m2 UG (AG 2) (AG 0)) (mC (.int 1)))) (mB (m2 (inA true) (AG 0) (AG 5)))) (AG 0))))
  (BN (GN (Dg (AG 5)) (tgN 6)
  (sIf (mB (m2 (inA true) (AG 6) (AG 2))) (BN (D2 (AG 2) (AG 6) (AG 3))
  (Ct (mC (.bl true)))) sNx))
  (BN (GN (Dg (AG 5)) (tgN 6)
  (sIf (mB (m2 (inA true) (AG 6) (AG 4))) (BN (D2 (AG 4) (AG 6) (mC (.bl true)))
  (sIf (HU (B7 5 fr (AR (AG 0) (AR (AG 1) (AR (AG 2) (AR (m2 ixA (AG 2) (AG 6)) (AR (AG 4) BH))))))) (BN (D2 (AG 2) (AG 6) (AG 3))
  (Ct (mC (.bl true)))) sNx)) sNx))
  (Ct (mC (.bl false))))))
def Fb (W:Wd):Nat->List D->Sto->Res D
 | 0=>λ_ _=>.bad
 | n+1=>En 7 (U1 W (Fb W n))
def Wc (W:Wd):MS:=
  (BN (CP 3 Nq)
  (BN (GN (Dg (AG 1)) (tgN 4)
  (sIf (HU (m2 TX (m2 UG (AG 2) (AG 4)) (mC (.int 1)))) (D2 (AG 3) (AG 4) (AG 4)) sNx))
  (BN (GN (Dg (AG 1)) (tgN 4)
  (sIf (Nr (MU (HU (m2 TX (m2 UG (AG 2) (AG 4)) (mC (.int 1))))) (MU (HU (B7 5 (Fb W 9) (AR (AG 0) (AR (AG 2) (AR (AG 3) (AR (AG 4) (AR Nq BH))))))))) (Ct (mC (.bl false))) sNx))
  (Ct (mC (.bl true))))))
def QN (W:Wd):List D->Sto->Res D:=En 5 (Wc W)
def KI (W:Wd):MS:=
  (BN (GN (Dg (m2 ixA (AG 0) (AG 1))) (tgN 4)
  (BN (CP 5 (m2 Z5 (mC (.int 1)) (AG 4)))
  (BN (CP 6 (Da (Di 1 (Dg (AG 3)) (tgN 0) (HU (m2 TX (AG 0) (AG 6))) (m2 ci (AG 0) (AG 6)))))
  (GN (Sy (AG 6)) (KW 2 (D1 (tgN 7) (D1 (tgN 8) Kt)))
  (sIf (HU (B7 3 (QN W) (AR (AG 0) (AR (AG 2) (AR (AG 8) BH))))) (Ct (Gp (AR (AG 4) (AR (P4 (AG 6) (Py (AG 7)) Rb) BH)))) sNx)))))
  (Ct (mC .non)))
def KA (W:Wd):List D->Sto->Res D:=En 9 (KI W)
def KJ (W:Wd):MS:=
  (BN (CP 3 (Da (Dm BH)))
  (BN (CP 4 (AG 2))
  (BN (GN (ND (AG 1)) (KW 2 (D1 (tgN 5) (D1 (tgN 6) Kt)))
  (BN (CP 7 (B7 4 (KA W) (AR (AG 0) (AR (AG 6) (AR (M8 (AG 1) (Py (AG 5)) Rb) (AR (AG 4) BH))))))
  (BN (sIf (mB (m2 (Nu false) (AG 7) (mC .non))) (Ct (mC .non)) sNx)
  (BN (GP (Od (AG 3) (m2 ixA (AG 7) (mC (.int 0)))))
  (CP 4 (m2 ixA (AG 7) (mC (.int 1))))))))
  (Ct (G6 (AG 3))))))
def KB (W:Wd):List D->Sto->Res D:=En 8 (KJ W)
def HB (W:Wd):MS:=
  (sIf (mOr (MU (mB (m3 leD ltD (mC (.int 0)) (AG 2) (Oc W.Web "places" (AG 0))))) (mB (m2 (inA false) (AG 2) (AG 1)))) Qz sNx)
def G8 (W:Wd):List D->Sto->Res D:=En 3 (HB W)
def N5 (W:Wd):MS:=
  (BN (sIf (Nr (mB (m2 (inA true) (AG 3) (AG 1))) (MU (mB (mQ fc (MR (Da (Di 1 (Dg (AG 2)) (tgN 0) Gu (m2 (inA false) (AG 4) (m2 ixA (AG 1) (AG 0)))))))))) (Ct (mC (.bl false))) sNx)
  (BN (CP 4 (m2 SL (m2 Z5 (mC (.int 1)) (M9 (AG 0))) (mC (.int 1))))
  (Ct (B7 3 (QN W) (AR (AG 0) (AR (AG 2) (AR (m2 ci (AG 4) (B7 1 (Li W) (AR (AG 1) BH))) BH)))))))
def N0 (W:Wd):List D->Sto->Res D:=En 5 (N5 W)
def HC (W:Wd):MS:=
  (BN (CP 3 (B7 1 (J8 W) (AR (AG 0) BH)))
  (BN (CP 4 (Da (Dm (AR (Gp BH) BH))))
  (BN (GN (ND (AG 1)) (KW 2 (D1 (tgN 5) (D1 (tgN 6) Kt)))
  (BN (CP 7 (M8 (AG 1) (Py (AG 5)) Rb))
  (BN (CP 8 (Da (Dm BH)))
  (BN (GN (Dg (AG 4)) (tgN 9)
  (BN (CP 10 (Da (Di 1 (Dg (m2 ixA (AG 3) (AG 6))) (tgN 0) (mB (m2 (inA true) (AG 0) (AG 10))) (m2 Hi (AG 10) (Gp (AR (AG 0) BH))))))
  (GP (J3 (AG 8) (Da (Di 1 (Dg (AG 10)) (tgN 0) (HU (B7 4 (N0 W) (AR (AG 4) (AR (AG 0) (AR (AG 8) (AR (AG 3) BH)))))) (AG 0)))))))
  (CP 4 (AG 8))))))
  (Ct (AG 4)))))
def G9 (W:Wd):List D->Sto->Res D:=En 11 (HC W)
def LO (W:Wd):MS:=
  (Ct (G6 (Da (Di 1 (Dg (AG 0)) (tgN 0) Gu (ax (mB (m2 (eqD false) (AG 0) (AG 2))) (AG 3) (AG 0))))))
def LG (W:Wd):List D->Sto->Res D:=En 3 (LO W)
def N7 (W:Wd):MS:=
  (BN (GP (B7 3 (G8 W) (AR (AG 0) (AR (AG 1) (AR (AG 2) BH)))))
  (BN (sIf (mB (m2 (eqD false) (AG 3) (mC (.str "one")))) (BN (CP 4 (Da (Di 1 (Dg (AG 1)) (tgN 0) (mB (m2 (inA false) (AG 0) (B7 2 (TB W) (AR (AG 1) (AR (AG 3) BH))))) (AG 0))))
  (Ct (D6 (Da (Di 1 (Dg (AG 4)) (tgN 0) Gu (B7 3 (LG W) (AR (AG 2) (AR (AG 0) (AR (AG 3) BH))))))))) sNx)
  (Ct (B7 3 (G9 W) (AR (AG 0) (AR (AG 1) (AR (AG 2) BH)))))))
def N1 (W:Wd):List D->Sto->Res D:=En 5 (N7 W)
def TR (W:Wd):MS:=
  (Ct (B7 3 (KB W) (AR (B7 1 (J8 W) (AR (AG 0) BH)) (AR (AG 1) (AR (Da (Dm (AR (B7 1 (Li W) (AR (AG 2) BH)) BH))) BH)))))
def J9 (W:Wd):List D->Sto->Res D:=En 3 (TR W)
def IY (W:Wd):MS:=
  (BN (sIf (mB (m2 ltD (AG 1) (M9 (AG 0)))) (Ct (m2 ixA (AG 0) (AG 1))) sNx)
  (Ct (mC (.int 0))))
def DC (W:Wd):List D->Sto->Res D:=En 2 (IY W)
def KL (W:Wd):MS:=
  (BN (CP 1 (Da (Dm BH)))
  (BN (GN (iR1 (AR (AG 0) BH)) (tgN 2)
  (GN (iR2 (AR (m2 Hi (AG 2) (mC (.int 1))) (AR (AG 0) BH))) (tgN 3)
  (GP (Od (AG 1) (Gp (AR (AG 2) (AR (AG 3) BH)))))))
  (Ct (AG 1))))
def IC (W:Wd):List D->Sto->Res D:=En 4 (KL W)
def Gk (W:Wd):MS:=
  (BN (sIf (mB (m2 (eqD false) (AG 1) (mC (.int 1)))) (Ct (Da (Di 1 (iR1 (AR (m2 SL (AG 0) (mC (.int 1))) BH)) (tgN 0) Gu (Gp (AR (AG 0) (AR (m2 Hi (AG 0) (mC (.int 1))) BH)))))) sNx)
  (BN (sIf (mB (m2 (eqD false) (AG 1) (mC (.int 2)))) (Ct (m2 Hi (Da (Di 1 (iR1 (AR (m2 SL (AG 0) (mC (.int 1))) BH)) (tgN 0) Gu (Gp (AR (AG 0) (AR (m2 Hi (AG 0) (mC (.int 1))) BH))))) (Da (Dm (AR (Gp (AR (mC (.int 0)) (AR (m2 SL (AG 0) (mC (.int 1))) BH))) BH))))) sNx)
  (BN (sIf (mB (m2 (eqD false) (AG 1) (mC (.int 3)))) (Ct (B7 1 (IC W) (AR (AG 0) BH))) sNx)
  (BN (sIf (mB (m2 (eqD false) (AG 1) (mC (.int 4)))) (Ct (Da (Di 1 (iR2 (AR (mC (.int 1)) (AR (AG 0) BH))) (tgN 0) Gu (Gp (AR (mC (.int 0)) (AR (AG 0) BH)))))) sNx)
  (Ct (Da (Dm BH)))))))
def Gi (W:Wd):List D->Sto->Res D:=En 2 (Gk W)
def LQ (W:Wd):MS:=
  (BN (CP 3 (B7 1 (IC W) (AR (AG 2) BH)))
  (BN (CP 4 So)
  (BN (GN (Dg (B7 2 (Gi W) (AR (AG 2) (AR (m2 Np (m2 QM (B7 2 (DC W) (AR (AG 0) (AR (mC (.int 0)) BH))) (mC (.int 7))) (mC (.int 6))) BH)))) (tgN 5)
  (D2 (AG 4) (AG 5) (mC (.bl true))))
  (BN (GN (iR2 (AR (AG 1) (AR (mQ M7 (AR (M9 (AG 0)) (AR (mC (.int 63)) BH))) BH))) (tgN 6)
  (BN (CP 5 (m2 ixA (AG 3) (m2 Np (m2 ixA (AG 0) (AG 6)) (M9 (AG 3)))))
  (D2 (AG 4) (AG 5) (aw (m2 (inA true) (AG 5) (AG 4)) (Ud (m2 ixA (AG 4) (AG 5)))))))
  (Ct (Da (Di 1 (Dg (AG 3)) (tgN 0) (Nr (mB (m2 (inA false) (AG 0) (AG 5))) (HU (m2 ixA (AG 5) (AG 0)))) (AG 0))))))))
def LH (W:Wd):List D->Sto->Res D:=En 7 (LQ W)
def JH (W:Wd):MS:=
  (BN (sIf (mB (m2 (eqD false) (m2 Np (m2 QM (B7 2 (DC W) (AR (AG 0) (AR (mC (.int 0)) BH))) (mC (.int 42))) (mC (.int 2))) (mC (.int 0)))) (Ct (Da (mN Xa (MR (AG 1))))) sNx)
  (Ct (Da (Di 1 (Xe (AG 1)) (tgN 0) Gu (Gp (AR (m2 ixA (AG 0) (mC (.int 1))) (AR (m2 ixA (AG 0) (mC (.int 0))) BH)))))))
def JG (W:Wd):List D->Sto->Res D:=En 2 (JH W)
def LS (W:Wd):MS:=
  (BN (CP 2 (Da (Dm BH)))
  (BN (GN (Dg (AG 0)) (tgN 3)
  (sIf (mB (m2 (inA false) (AG 1) (AG 3))) (GP (Od (AG 2) (m2 SL (m2 Hi (m2 ixA (AG 3) (mC (.int 0))) (m2 ixA (AG 3) (mC (.int 1)))) (AG 1)))) sNx))
  (Ct (D6 (AG 2)))))
def LJ (W:Wd):List D->Sto->Res D:=En 4 (LS W)
def LR (W:Wd):MS:=
  (BN (CP 2 (Da (Dm (AR (Gp BH) BH))))
  (BN (GN (iR1 (AR (AG 1) BH)) (tgN 3)
  (BN (CP 4 (Da (Dm BH)))
  (BN (GN (Dg (AG 2)) (tgN 5)
  (BN (CP 6 (mC (.int 0)))
  (BN (sIf (mB (m2 (eqD true) (AG 5) (Gp BH))) (CP 6 (m2 Hi (m2 ixA (AG 5) (eW (mC (.int 1)))) (mC (.int 1)))) sNx)
  (GP (J3 (AG 4) (Da (Di 1 (iR2 (AR (AG 6) (AR (m2 Hi (m2 Hi (m2 SL (AG 0) (AG 1)) (AG 3)) (mC (.int 1))) BH))) (tgN 0) Gu (m2 Hi (AG 6) (Gp (AR (AG 0) BH))))))))))
  (CP 2 (AG 4)))))
  (Ct (AG 2))))
def LI (W:Wd):List D->Sto->Res D:=En 7 (LR W)
def Hh (W:Wd):MS:=
  (BN (sIf (MU (mB (mIs (isB "tuple") (λ_=>none) (AG 0)))) (Ct (mC (.bl false))) sNx)
  (Ct (mQ fg (MR (Da (Di 1 (Dg (AG 0)) (tgN 0) Gu (Rh (mIs (isB "int") (λ_=>none) (AG 0)) (Ud (mIs (isB "bool") (λ_=>none) (AG 0))))))))))
def Hg (W:Wd):List D->Sto->Res D:=En 1 (Hh W)
def KN (W:Wd):MS:=
  (BN (CP 3 (Da (Dm (AR (Gp BH) BH))))
  (BN (GN (Dg (AG 1)) (tgN 4)
  (BN (CP 5 (Da (Di 1 (Dg (m2 Hi (Da (Dm (AR (AG 4) BH))) (B7 2 (LJ W) (AR (AG 0) (AR (AG 4) BH))))) (tgN 0) (mB (m2 (inA false) (AG 0) (AG 3))) (AG 0))))
  (BN (CP 6 (Da (Dm BH)))
  (BN (GN (Dg (AG 3)) (tgN 7)
  (GP (J3 (AG 6) (Da (Di 1 (Dg (AG 5)) (tgN 0) (mB (m2 (inA true) (AG 0) (AG 8))) (m2 Hi (AG 8) (Gp (AR (AG 0) BH))))))))
  (CP 3 (AG 6))))))
  (BN (sIf (mB (m2 (eqD false) (AG 3) (Da (Dm BH)))) (Ct (mC .non)) sNx)
  (Ct (mQ WC (MR (AG 3)))))))
def KD (W:Wd):List D->Sto->Res D:=En 8 (KN W)
def KM (W:Wd):MS:=
  (BN (CP 4 (B7 3 (J9 W) (AR (AG 0) (AR (AG 2) (AR (AG 3) BH)))))
  (BN (CP 5 (B7 3 (KD W) (AR (AG 1) (AR (AG 2) (AR (AG 3) BH)))))
  (BN (sIf (mB (m2 (Nu false) (AG 5) (mC .non))) (Ct (m2 (Nu false) (AG 4) (mC .non))) sNx)
  (Ct (Rh (m2 (eqD false) (AG 4) (AG 5)) (B7 1 (Hg W) (AR (AG 4) BH)))))))
def KC (W:Wd):List D->Sto->Res D:=En 6 (KM W)
def cF (W:Wd):MS:=
  (BN (CP 1 (B7 2 (DC W) (AR (AG 0) (AR (mC (.int 0)) BH))))
  (BN (CP 2 (m2 Hi (m2 Hi (mC (.int 2)) (m2 Np (AG 1) (mC (.int 5)))) (eY (m2 (eqD false) (m2 Np (m2 QM (AG 1) (mC (.int 84))) (mC (.int 8))) (mC (.int 1))))))
  (BN (CP 3 (B7 3 (LH W) (AR (AG 0) (AR (mC (.int 4)) (AR (AG 2) BH)))))
  (BN (CP 4 (Rg W.Web 3 (KF W) (AR (AG 2) (AR (B7 2 (JG W) (AR (AG 0) (AR (AG 3) BH))) BH))))
  (BN (CP 5 (m2 Hi (mC (.int 1)) (m2 Np (B7 2 (DC W) (AR (AG 0) (AR (mC (.int 1)) BH))) (mQ M7 (AR (mC (.int 4)) (AR (m2 SL (AG 2) (mC (.int 1))) BH))))))
  (BN (CP 6 (B7 2 (LI W) (AR (AG 2) (AR (AG 5) BH))))
  (BN (CP 7 (B7 2 (DC W) (AR (AG 0) (AR (mC (.int 2)) BH))))
  (BN (CP 8 (m2 ixA (AG 6) (m2 Np (AG 7) (M9 (AG 6)))))
  (BN (CP 9 (m2 ixA (AG 6) (m2 Np (m2 QM (AG 7) (mC (.int 35))) (M9 (AG 6)))))
  (BN (GN (Dg (Da (Dm (AR (Gp (AR (AG 8) (AR (AG 9) BH))) (AR (Gp (AR (AG 9) (AR (AG 8) BH))) (AR (Gp (AR (AG 8) (AR (AG 8) BH))) BH)))))) (tgN 10)
  (sIf (MU (HU (B7 4 (KC W) (AR (AG 4) (AR (AG 3) (AR (m2 ixA (AG 10) (mC (.int 0))) (AR (m2 ixA (AG 10) (mC (.int 1))) BH))))))) (Ct (mC (.bl false))) sNx))
  (BN (sIf (mB (m2 (eqD true) (m2 (Nu false) (B7 3 (J9 W) (AR (AG 4) (AR (AG 8) (AR (AG 9) BH)))) (mC .non)) (m2 (Nu false) (B7 3 (J9 W) (AR (AG 4) (AR (AG 9) (AR (AG 8) BH)))) (mC .non)))) (Ct (mC (.bl false))) sNx)
  (BN (sIf (mB (m2 (Nu false) (B7 3 (J9 W) (AR (AG 4) (AR (AG 8) (AR (AG 8) BH)))) (mC .non))) (Ct (mC (.bl false))) sNx)
  (BN (CP 11 (Da (Di 1 (iR1 (AR (AG 2) BH)) (tgN 0) (mB (m2 (inA true) (AG 0) (AG 9))) (AG 0))))
  (BN (CP 12 (m2 ixA (AG 11) (m2 Np (B7 2 (DC W) (AR (AG 0) (AR (mC (.int 3)) BH))) (M9 (AG 11)))))
  (BN (GN (Dg (Da (Dm (AR (mC (.str "one")) (AR (mC (.str "all")) BH))))) (tgN 13)
  (GN (Dg (P4 (B7 4 (N1 W) (AR (AG 4) (AR (AG 8) (AR (AG 12) (AR (AG 13) BH))))) Rb (Py (mC (.int 30))))) (tgN 14)
  (BN (CP 15 (B7 3 (J9 W) (AR (AG 4) (AR (AG 8) (AR (G6 (D6 (AG 14))) BH)))))
  (sIf (mOr (mB (m2 (Nu false) (AG 15) (mC .non))) (mOr (mB (m2 gtT (AG 15) (AG 14))) (mB (m2 (eqD true) (D6 (AG 15)) (D6 (AG 14)))))) (Ct (mC (.bl false))) sNx))))
  (Ct (mC (.bl true))))))))))))))))))
def Xl (W:Wd):List D->Sto->Res D:=En 16 (cF W)
structure Txt (K:AB) (mg:Str->Option AD) (W:Wd) where
 d_checked_ties:Dfn K mg "checked_ties" "checked_ties" ED ["places", "ties"]
 d_near_sets_of:Dfn K mg "near_sets_of" "near_sets_of" EC ["places", "ties"]
 d_Web_init:Mtd K "__init__" "Web.__init__" G3 ["self", "places", "ties"]
 d_refuse_no_place:Dfn K mg "refuse_no_place" "refuse_no_place" DE ["web", "place"]
 d_near:Dfn K mg "near" "near" Nh ["web", "place"]
 d_takes_of:Dfn K mg "takes_of" "takes_of" G2 ["web"]
 d_bits_of:Dfn K mg "bits_of" "bits_of" II ["some"]
 d_settle:Dfn K mg "settle" "settle" JX ["takes", "bits", "holders", "guard", "seen"]
 d_fits:Dfn K mg "fits" "fits" Ni ["takes", "guards", "bits"]
 d_first_step:Dfn K mg "first_step" "first_step" FB ["takes", "guard", "rest", "wanted"]
 d_first_into:Dfn K mg "first_into" "first_into" FC ["takes", "guards", "wanted"]
 d_refuse_no_call:Dfn K mg "refuse_no_call" "refuse_no_call" DY ["web", "standing", "call"]
 d_can_end:Dfn K mg "can_end" "can_end" IH ["takes", "told", "rest", "call"]
 d_answers_of_all:Dfn K mg "answers_of_all" "answers_of_all" DZ ["web", "standing", "call"]
 d_with_step:Dfn K mg "with_step" "with_step" Fp ["standing", "guard", "place"]
 d_answers:Dfn K mg "answers" "answers" IJ ["web", "standing", "call", "kind"]
 d_leads:Dfn K mg "leads" "leads" Lb ["web", "standing", "other"]
 d__law_cell_at:Dfn K mg "_law_cell_at" "_law_cell_at" EE ["script", "k"]
 d__law_pairs:Dfn K mg "_law_pairs" "_law_pairs" FD ["places"]
 d__law_first_ties:Dfn K mg "_law_first_ties" "_law_first_ties" DF ["places", "style"]
 d__law_ties:Dfn K mg "_law_ties" "_law_ties" Fq ["script", "first", "places"]
 d__law_handed:Dfn K mg "_law_handed" "_law_handed" Ek ["script", "ties"]
 d__law_near:Dfn K mg "_law_near" "_law_near" Ft ["ties", "place"]
 d__law_sets:Dfn K mg "_law_sets" "_law_sets" Fs ["places", "guards"]
 d__law_set_told:Dfn K mg "_law_set_told" "_law_set_told" Dt ["found"]
 d__law_first:Dfn K mg "_law_first" "_law_first" FF ["ties", "standing", "other"]
 d__law_leads:Dfn K mg "_law_leads" "_law_leads" FE ["web", "ties", "standing", "other"]
 d_law:Dfn K mg "law" "law" RT ["script"]
 c_Web:Own K mg "Web" W.Web d_Web_init.f
 n_Web_places:IZ K W.Web "places"
 n_Web_ties:IZ K W.Web "ties"
 n_Web_near_sets:IZ K W.Web "near_sets"
 b_all:mg "all" = none
 b_any:mg "any" = none
 b_bool:mg "bool" = none
 b_enumerate:mg "enumerate" = none
 b_int:mg "int" = none
 b_isinstance:mg "isinstance" = none
 b_len:mg "len" = none
 b_list:mg "list" = none
 b_max:mg "max" = none
 b_min:mg "min" = none
 b_range:mg "range" = none
 b_reversed:mg "reversed" = none
 b_sorted:mg "sorted" = none
 b_tuple:mg "tuple" = none
 g_MOST_PLACES:∃tk,mg "MOST_PLACES" = some (.int 60 tk)
section
variable {P:Ap} {w:BE} {K:AB} {mg:Str->Option AD} {base:Bu} {W:Wd}
theorem OW:Bp ["places", "ties", "found", "one", "other", "tie"] ["places", "ties"] (Al ED):=Go
theorem Oa (T:Txt K mg W):Dq P w K mg base (CXG P w) 1 T.d_checked_ties.f T.d_checked_ties.fd ["places", "ties"] (spM K 2 (Gh W)):=by
 refine Bm (k:=0) T.d_checked_ties.F OW rfl λ_ _ _ _ _ _ hr hu nd=>?_
 exact (AX (Ce 2 nd Um)
  (AX (DU (good_none rfl).own rfl (Ch (AC (pv 1))) (QH rfl (Fa (B8 3 nd) (Fa (B8 4 nd) NE)))
  (AX (Ce 5 nd (EY (AK (S7 rfl rfl T.b_min (AK (AC (pv 3)) (AK (AC (pv 4)) Aq))) (AK (fD rfl rfl T.b_max (AK (AC (pv 3)) (AK (AC (pv 4)) Aq))) Aq))))
  (AX (Dk (Do (Kz hu) (Dw hu (AC (pv 5)) ge_int) (Dw hu (AC (pv 5)) ge_int) (DJ _)) (Aj Jc) B5)
  (AX (Dk (WO (Xf (Do XT (Dw hu (AC (pv 5)) ge_int) ge_int (DJ _)) (WN (Do mI (Dw hu (AC (pv 5)) ge_int) (AC (pv 0)) (DJ _))))) (Aj Jc) B5)
  (AX (Dk (Rn hu (AC (pv 5)) (AC (pv 2))) (Aj Jc) B5)
  (Aj (J6 (BZ (DX (by decide:1<=64) _) hu) (AC (pv 2)) (AC (pv 5)) IV rfl)))))))
  (Aj (Bd (IU rfl T.b_tuple (Fy rfl rfl T.b_sorted (AC (pv 2))))))))
theorem OV:Bp ["places", "ties", "rows", "one", "other"] ["places", "ties"] (Al EC):=Go
theorem OZ (T:Txt K mg W):Dq P w K mg base (CXG P w) 1 T.d_near_sets_of.f T.d_near_sets_of.fd ["places", "ties"] (spM K 2 (Gg W)):=by
 refine Bm (k:=0) T.d_near_sets_of.F OV rfl λ_ _ _ _ _ _ hr hu nd=>?_
 exact (AX (J7 (i:=2) (own:=["place"]) (N':=["place", "·1", "·2", "·3", "·4", "·5"]) rfl rfl nd rfl (by first | exact KR rfl | exact JL rfl) (C6 (by kernel_rfl)) (G7 rfl T.b_range (AK (AC (pv 0)) Aq)) (λ_ _ _ _ _ _=>(B8 0 (by decide +kernel:(["place", "·1", "·2", "·3", "·4", "·5"]:List Str).Nodup))) (λ_ _ _ _ _ _=>Ef) (λ_ _ _ _ _ _=>(CY (E4 Aq))))
  (AX (DU (good_none rfl).own rfl (Ch (AC (pv 1))) (QH rfl (Fa (B8 3 nd) (Fa (B8 4 nd) NE)))
  (AX (HI (Jd (Dw hu (AC (pv 2)) (AC (pv 3))) (AC (pv 4))))
  (Aj (HI (Jd (Dw hu (AC (pv 2)) (AC (pv 4))) (AC (pv 3)))))))
  (Aj (Bd (IU rfl T.b_tuple (CY (Et (own:=["row"]) (N':=["row", "·1", "·2", "·3", "·4", "·5"]) rfl (C6 (by kernel_rfl)) (Ch (AC (pv 2))) (λ_ _ _ _ _ _=>(B8 0 (by decide +kernel:(["row", "·1", "·2", "·3", "·4", "·5"]:List Str).Nodup))) (λ_ _ _ _ _ _=>Ef) (λ_ _ _ _ _ _=>(IU rfl T.b_tuple (Fy rfl rfl T.b_sorted (AC (pv 0))))))))))))
theorem UK:Bp ["self", "places", "ties"] ["self", "places", "ties"] (Al G3):=Go
theorem UV (T:Txt K mg W):Dq P w K mg base (CXG P w) 2 T.d_Web_init.f T.d_Web_init.fd ["self", "places", "ties"] (spM K 3 (KF W)):=by
 refine Bm (k:=1) T.d_Web_init.F UK rfl λ_ _ _ _ _ _ hr hu nd=>?_
 exact (AX (Dk (LD (QG XU XU ge_int (AC (pv 1)) (bX rfl T.g_MOST_PLACES.choose_spec))) (Aj Jc) B5)
  (AX (WP T.c_Web.cl T.n_Web_places (AC (pv 0)) (AC (pv 1)) rfl)
  (AX (WP T.c_Web.cl T.n_Web_ties (AC (pv 0)) (BP (Oa T) (good_none rfl).pass (hr.mono (by decide)) rfl T.d_checked_ties.m T.d_checked_ties.kp T.d_checked_ties.b (AK (AC (pv 1)) (AK (AC (pv 2)) Aq))) rfl)
  (Aj (WP T.c_Web.cl T.n_Web_near_sets (AC (pv 0)) (BP (OZ T) (good_none rfl).pass (hr.mono (by decide)) rfl T.d_near_sets_of.m T.d_near_sets_of.kp T.d_near_sets_of.b (AK (AC (pv 1)) (AK (QI T.c_Web.cl T.n_Web_ties (AC (pv 0)) rfl) Aq))) rfl)))))
theorem MB:Bp ["web", "place"] ["web", "place"] (Al DE):=Go
theorem MH (T:Txt K mg W):Dq P w K mg base (CXG P w) 1 T.d_refuse_no_place.f T.d_refuse_no_place.fd ["web", "place"] (spM K 2 (Gf W)):=by
 refine Bm (k:=0) T.d_refuse_no_place.F MB rfl λ_ _ _ _ _ _ hr hu nd=>?_
 exact (Aj (Dk (LD (QG XU XT ge_int (AC (pv 1)) (QI T.c_Web.cl T.n_Web_places (AC (pv 0)) rfl))) (Aj Jc) B5))
theorem dW:Bp ["web", "place"] ["web", "place"] (Al Nh):=Go
theorem XR (T:Txt K mg W):Dq P w K mg base (CXG P w) 2 T.d_near.f T.d_near.fd ["web", "place"] (spM K 2 (TB W)):=by
 refine Bm (k:=1) T.d_near.F dW rfl λ_ _ _ _ _ _ hr hu nd=>?_
 exact (AX (HI (BP (MH T) (good_none rfl).pass (hr.mono (by decide)) rfl T.d_refuse_no_place.m T.d_refuse_no_place.kp T.d_refuse_no_place.b (AK (AC (pv 0)) (AK (AC (pv 1)) Aq))))
  (Aj (Bd (Dw hu (QI T.c_Web.cl T.n_Web_near_sets (AC (pv 0)) rfl) (AC (pv 1))))))
theorem UJ:Bp ["web"] ["web"] (Al G2):=Go
theorem OI (T:Txt K mg W):Dq P w K mg base (CXG P w) 3 T.d_takes_of.f T.d_takes_of.fd ["web"] (spM K 1 (J8 W)):=by
 refine Bm (k:=2) T.d_takes_of.F UJ rfl λ_ _ _ _ _ _ hr hu nd=>?_
 exact (Aj (Bd (CY (Et (own:=["place"]) (N':=["place", "web"]) rfl (C6 (by kernel_rfl)) (G7 rfl T.b_range (AK (QI T.c_Web.cl T.n_Web_places (AC (pv 0)) rfl) Aq)) (λ_ _ _ _ _ _=>(B8 0 (by decide +kernel:(["place", "web"]:List Str).Nodup))) (λ_ _ _ _ _ _=>Ef) (λ_ _ _ _ _ _=>(IU rfl T.b_tuple (Fy rfl rfl T.b_sorted (BV FO (EY (AK (AC (pv 0)) Aq)) (BP (XR T) (good_none rfl).pass (hr.mono (by decide)) rfl T.d_near.m T.d_near.kp T.d_near.b (AK (AC (pv 1)) (AK (AC (pv 0)) Aq)))))))))))
theorem V0:Bp ["some", "bits", "place"] ["some"] (Al II):=Go
theorem Pu (T:Txt K mg W):Dq P w K mg base (CXG P w) 1 T.d_bits_of.f T.d_bits_of.fd ["some"] (spM K 1 (Li W)):=by
 refine Bm (k:=0) T.d_bits_of.F V0 rfl λ_ _ _ _ _ _ hr hu nd=>?_
 exact (AX (Ce 1 nd ge_int)
  (AX (DU (good_none rfl).own rfl (Ch (AC (pv 0))) (B8 2 nd)
  (Aj (mz 1 nd mY (BV V9 ge_int (AC (pv 2))))))
  (Aj (Bd (AC (pv 1))))))
theorem YW:Bp ["takes", "bits", "holders", "guard", "seen", "wanted", "place"] ["takes", "bits", "holders", "guard", "seen"] (Al JX):=Go
theorem Ra (T:Txt K mg W):∀n:Nat,Dq P w K mg base (CXG P w) (0+n) T.d_settle.f T.d_settle.fd ["takes", "bits", "holders", "guard", "seen"] (spM K 5 (Fb W n))
 | 0=>j5
 | n+1=>by
  refine Bm (k:=0+n) T.d_settle.F YW rfl λ_ _ _ _ _ _ hr hu nd=>?_
  exact (AX (J7 (i:=5) (own:=["place"]) (N':=["place", "·1", "bits", "·3", "·4", "seen", "·6", "·7"]) rfl rfl nd rfl (by first | exact KR rfl | exact JL rfl) (C6 (by kernel_rfl)) (Ch (Dw hu (AC (pv 0)) (AC (pv 3)))) (λ_ _ _ _ _ _=>(B8 0 (by decide +kernel:(["place", "·1", "bits", "·3", "·4", "seen", "·6", "·7"]:List Str).Nodup))) (λ_ _ _ _ _ _=>(Ge (WO (S6 (FZ (BV Sj (BV V8 (AC (pv 2)) (AC (pv 0))) ge_int)) (O3 (IS hu (AC (pv 0)) (AC (pv 5)))))))) (λ_ _ _ _ _ _=>(AC (pv 0))))
  (AX (DU (good_none rfl).own rfl (Ch (AC (pv 5))) (B8 6 nd)
  (Aj (Dk (IS hu (AC (pv 6)) (AC (pv 2))) (AX (J6 (BZ (DX (by decide:1<=64) _) hu) (AC (pv 2)) (AC (pv 6)) (AC (pv 3)) rfl)
  (Aj (Bd IV))) B5)))
  (AX (DU (good_none rfl).own rfl (Ch (AC (pv 5))) (B8 6 nd)
  (Aj (Dk (IS hu (AC (pv 6)) (AC (pv 4))) (AX (J6 (BZ (DX (by decide:1<=64) _) hu) (AC (pv 4)) (AC (pv 6)) IV rfl)
  (Aj (Dk (FZ (BP (Ra T n) (good_none rfl).pass (hr.mono (AT _)) rfl T.d_settle.m T.d_settle.kp T.d_settle.b (AK (AC (pv 0)) (AK (AC (pv 1)) (AK (AC (pv 2)) (AK (Dw hu (AC (pv 2)) (AC (pv 6))) (AK (AC (pv 4)) Aq))))))) (AX (J6 (BZ (DX (by decide:1<=64) _) hu) (AC (pv 2)) (AC (pv 6)) (AC (pv 3)) rfl)
  (Aj (Bd IV))) B5))) B5)))
  (Aj (Bd IV)))))
theorem dX:Bp ["takes", "guards", "bits", "holders", "guard"] ["takes", "guards", "bits"] (Al Ni):=Go
theorem XS (T:Txt K mg W):Dq P w K mg base (CXG P w) 11 T.d_fits.f T.d_fits.fd ["takes", "guards", "bits"] (spM K 3 (QN W)):=by
 refine Bm (k:=10) T.d_fits.F dX rfl λ_ _ _ _ _ _ hr hu nd=>?_
 exact (AX (Ce 3 nd Uo)
  (AX (DU (good_none rfl).own rfl (Ch (AC (pv 1))) (B8 4 nd)
  (Aj (Dk (FZ (BV Sj (BV V8 (AC (pv 2)) (AC (pv 4))) ge_int)) (Aj (J6 (BZ (DX (by decide:1<=64) _) hu) (AC (pv 3)) (AC (pv 4)) (AC (pv 4)) rfl)) B5)))
  (AX (DU (good_none rfl).own rfl (Ch (AC (pv 1))) (B8 4 nd)
  (Aj (Dk (WO (S6 (LD (FZ (BV Sj (BV V8 (AC (pv 2)) (AC (pv 4))) ge_int))) (O3 (LD (FZ (BP (Ra T 9) (good_none rfl).pass (hr.mono (by decide)) rfl T.d_settle.m T.d_settle.kp T.d_settle.b (AK (AC (pv 0)) (AK (AC (pv 2)) (AK (AC (pv 3)) (AK (AC (pv 4)) (AK Uo Aq))))))))))) (Aj (Bd IV)) B5)))
  (Aj (Bd IV)))))
theorem Qu:Bp ["takes", "guard", "rest", "wanted", "place", "bit", "lefts", "number", "left"] ["takes", "guard", "rest", "wanted"] (Al FB):=Go
theorem Q2 (T:Txt K mg W):Dq P w K mg base (CXG P w) 12 T.d_first_step.f T.d_first_step.fd ["takes", "guard", "rest", "wanted"] (spM K 4 (KA W)):=by
 refine Bm (k:=11) T.d_first_step.F Qu rfl λ_ _ _ _ _ _ hr hu nd=>?_
 exact (AX (DU (good_none rfl).own rfl (Ch (Dw hu (AC (pv 0)) (AC (pv 1)))) (B8 4 nd)
  (AX (Ce 5 nd (BV V9 ge_int (AC (pv 4))))
  (AX (J7 (i:=6) (own:=["left"]) (N':=["left", "·1", "·2", "·3", "·4", "·5", "bit", "·7", "·8", "·9"]) rfl rfl nd rfl (by first | exact KR rfl | exact JL rfl) (C6 (by kernel_rfl)) (Ch (AC (pv 3))) (λ_ _ _ _ _ _=>(B8 0 (by decide +kernel:(["left", "·1", "·2", "·3", "·4", "·5", "bit", "·7", "·8", "·9"]:List Str).Nodup))) (λ_ _ _ _ _ _=>(Ge (FZ (BV Sj (AC (pv 0)) (AC (pv 6)))))) (λ_ _ _ _ _ _=>(BV ae (AC (pv 0)) (AC (pv 6)))))
  (Aj (DU (good_none rfl).own rfl (e8 rfl T.b_enumerate (AC (pv 6))) (QH rfl (Fa (B8 7 nd) (Fa (B8 8 nd) NE)))
  (Aj (Dk (FZ (BP (XS T) (good_none rfl).pass (hr.mono (by decide)) rfl T.d_fits.m T.d_fits.kp T.d_fits.b (AK (AC (pv 0)) (AK (AC (pv 2)) (AK (AC (pv 8)) Aq))))) (Aj (Bd (EY (AK (AC (pv 4)) (AK (Ul (AC (pv 6)) (O4 (AC (pv 7))) O5) Aq))))) B5)))))))
  (Aj (Bd JF)))
theorem Qv:Bp ["takes", "guards", "wanted", "told", "lefts", "number", "guard", "step"] ["takes", "guards", "wanted"] (Al FC):=Go
theorem Q3 (T:Txt K mg W):Dq P w K mg base (CXG P w) 13 T.d_first_into.f T.d_first_into.fd ["takes", "guards", "wanted"] (spM K 3 (KB W)):=by
 refine Bm (k:=12) T.d_first_into.F Qv rfl λ_ _ _ _ _ _ hr hu nd=>?_
 exact (AX (Ce 3 nd (CY (E4 Aq)))
  (AX (Ce 4 nd (AC (pv 2)))
  (AX (DU (good_none rfl).own rfl (Uk rfl T.b_enumerate (AC (pv 1))) (QH rfl (Fa (B8 5 nd) (Fa (B8 6 nd) NE)))
  (AX (Ce 7 nd (BP (Q2 T) (good_none rfl).pass (hr.mono (by decide)) rfl T.d_first_step.m T.d_first_step.kp T.d_first_step.b (AK (AC (pv 0)) (AK (AC (pv 6)) (AK (Ro (AC (pv 1)) (O4 (AC (pv 5))) O5) (AK (AC (pv 4)) Aq))))))
  (AX (Dk (Do MN (AC (pv 7)) JF (DJ _)) (Aj (Bd JF)) B5)
  (AX (HI (Jd (AC (pv 3)) (Dw hu (AC (pv 7)) ge_int)))
  (Aj (Ce 4 nd (Dw hu (AC (pv 7)) ge_int)))))))
  (Aj (Bd (IU rfl T.b_tuple (AC (pv 3))))))))
theorem Mx:Bp ["web", "standing", "call"] ["web", "standing", "call"] (Al DY):=Go
theorem M4 (T:Txt K mg W):Dq P w K mg base (CXG P w) 1 T.d_refuse_no_call.f T.d_refuse_no_call.fd ["web", "standing", "call"] (spM K 3 (G8 W)):=by
 refine Bm (k:=0) T.d_refuse_no_call.F Mx rfl λ_ _ _ _ _ _ hr hu nd=>?_
 exact (Aj (Dk (WO (Xf (LD (QG XU XT ge_int (AC (pv 2)) (QI T.c_Web.cl T.n_Web_places (AC (pv 0)) rfl))) (WN (Rn hu (AC (pv 2)) (AC (pv 1)))))) (Aj Jc) B5))
theorem Vz:Bp ["takes", "told", "rest", "call", "everywhere"] ["takes", "told", "rest", "call"] (Al IH):=Go
theorem V6 (T:Txt K mg W):Dq P w K mg base (CXG P w) 12 T.d_can_end.f T.d_can_end.fd ["takes", "told", "rest", "call"] (spM K 4 (N0 W)):=by
 refine Bm (k:=11) T.d_can_end.F Vz rfl λ_ _ _ _ _ _ hr hu nd=>?_
 exact (AX (Dk (WO (S6 (IS hu (AC (pv 3)) (AC (pv 1))) (O3 (LD (bS (jz rfl rfl T.b_any (CY (Et (own:=["guard"]) (N':=["guard", "takes", "·2", "·3", "call", "·5"]) rfl (C6 (by kernel_rfl)) (Ch (AC (pv 2))) (λ_ _ _ _ _ _=>(B8 0 (by decide +kernel:(["guard", "takes", "·2", "·3", "call", "·5"]:List Str).Nodup))) (λ_ _ _ _ _ _=>Ef) (λ_ _ _ _ _ _=>(nA hu (AC (pv 4)) (Dw hu (AC (pv 1)) (AC (pv 0))))))))))))) (Aj (Bd IV)) B5)
  (AX (Ce 4 nd (BV MM (BV V9 ge_int (MX rfl T.b_len (AC (pv 0)))) ge_int))
  (Aj (Bd (BP (XS T) (good_none rfl).pass (hr.mono (by decide)) rfl T.d_fits.m T.d_fits.kp T.d_fits.b (AK (AC (pv 0)) (AK (AC (pv 2)) (AK (BV ae (AC (pv 4)) (BP (Pu T) (good_none rfl).pass (hr.mono (by decide)) rfl T.d_bits_of.m T.d_bits_of.kp T.d_bits_of.b (AK (AC (pv 1)) Aq))) Aq))))))))
theorem Mz:Bp ["web", "standing", "call", "takes", "begun", "number", "guard", "rest", "longer", "told", "steps"] ["web", "standing", "call"] (Al DZ):=Go
theorem M5 (T:Txt K mg W):Dq P w K mg base (CXG P w) 13 T.d_answers_of_all.f T.d_answers_of_all.fd ["web", "standing", "call"] (spM K 3 (G9 W)):=by
 refine Bm (k:=12) T.d_answers_of_all.F Mz rfl λ_ _ _ _ _ _ hr hu nd=>?_
 exact (AX (Ce 3 nd (BP (OI T) (good_none rfl).pass (hr.mono (by decide)) rfl T.d_takes_of.m T.d_takes_of.kp T.d_takes_of.b (AK (AC (pv 0)) Aq)))
  (AX (Ce 4 nd (CY (E4 (AK (EY Aq) Aq))))
  (AX (DU (good_none rfl).own rfl (Uk rfl T.b_enumerate (AC (pv 1))) (QH rfl (Fa (B8 5 nd) (Fa (B8 6 nd) NE)))
  (AX (Ce 7 nd (Ro (AC (pv 1)) (O4 (AC (pv 5))) O5))
  (AX (Ce 8 nd (CY (E4 Aq)))
  (AX (DU (good_none rfl).own rfl (Ch (AC (pv 4))) (B8 9 nd)
  (AX (J7 (i:=10) (own:=["place"]) (N':=["place", "·1", "·2", "·3", "·4", "·5", "·6", "·7", "·8", "·9", "told", "·11"]) rfl rfl nd rfl (by first | exact KR rfl | exact JL rfl) (C6 (by kernel_rfl)) (Ch (Dw hu (AC (pv 3)) (AC (pv 6)))) (λ_ _ _ _ _ _=>(B8 0 (by decide +kernel:(["place", "·1", "·2", "·3", "·4", "·5", "·6", "·7", "·8", "·9", "told", "·11"]:List Str).Nodup))) (λ_ _ _ _ _ _=>(Ge (IS hu (AC (pv 0)) (AC (pv 10))))) (λ_ _ _ _ _ _=>(BV FO (AC (pv 10)) (EY (AK (AC (pv 0)) Aq)))))
  (Aj (HI (Nv (AC (pv 8)) (CY (Et (own:=["step"]) (N':=["step", "·1", "·2", "call", "takes", "·5", "·6", "·7", "rest", "·9", "·10", "·11"]) rfl (C6 (by kernel_rfl)) (Ch (AC (pv 10))) (λ_ _ _ _ _ _=>(B8 0 (by decide +kernel:(["step", "·1", "·2", "call", "takes", "·5", "·6", "·7", "rest", "·9", "·10", "·11"]:List Str).Nodup))) (λ_ _ _ _ _ _=>(Ge (FZ (BP (V6 T) (good_none rfl).pass (hr.mono (by decide)) rfl T.d_can_end.m T.d_can_end.kp T.d_can_end.b (AK (AC (pv 4)) (AK (AC (pv 0)) (AK (AC (pv 8)) (AK (AC (pv 3)) Aq)))))))) (λ_ _ _ _ _ _=>(AC (pv 0))))))))))
  (Aj (Ce 4 nd (AC (pv 8))))))))
  (Aj (Bd (AC (pv 4)))))))
theorem SU:Bp ["standing", "guard", "place"] ["standing", "guard", "place"] (Al Fp):=Go
theorem Sf (T:Txt K mg W):Dq P w K mg base (CXG P w) 1 T.d_with_step.f T.d_with_step.fd ["standing", "guard", "place"] (spM K 3 (LG W)):=by
 refine Bm (k:=0) T.d_with_step.F SU rfl λ_ _ _ _ _ _ hr hu nd=>?_
 exact (Aj (Bd (IU rfl T.b_tuple (CY (Et (own:=["other"]) (N':=["other", "·1", "guard", "place"]) rfl (C6 (by kernel_rfl)) (Ch (AC (pv 0))) (λ_ _ _ _ _ _=>(B8 0 (by decide +kernel:(["other", "·1", "guard", "place"]:List Str).Nodup))) (λ_ _ _ _ _ _=>Ef) (λ_ _ _ _ _ _=>(bW (Do (Kz hu) (AC (pv 0)) (AC (pv 2)) (DJ _)) (AC (pv 3)) (AC (pv 0)))))))))
theorem V1:Bp ["web", "standing", "call", "kind", "movers"] ["web", "standing", "call", "kind"] (Al IJ):=Go
theorem V7 (T:Txt K mg W):Dq P w K mg base (CXG P w) 14 T.d_answers.f T.d_answers.fd ["web", "standing", "call", "kind"] (spM K 4 (N1 W)):=by
 refine Bm (k:=13) T.d_answers.F V1 rfl λ_ _ _ _ _ _ hr hu nd=>?_
 exact (AX (HI (BP (M4 T) (good_none rfl).pass (hr.mono (by decide)) rfl T.d_refuse_no_call.m T.d_refuse_no_call.kp T.d_refuse_no_call.b (AK (AC (pv 0)) (AK (AC (pv 1)) (AK (AC (pv 2)) Aq)))))
  (AX (Dk (Do (Kz hu) (AC (pv 3)) WR (DJ _)) (AX (J7 (i:=4) (own:=["guard"]) (N':=["guard", "web", "·2", "call", "·4", "·5"]) rfl rfl nd rfl (by first | exact KR rfl | exact JL rfl) (C6 (by kernel_rfl)) (Ch (AC (pv 1))) (λ_ _ _ _ _ _=>(B8 0 (by decide +kernel:(["guard", "web", "·2", "call", "·4", "·5"]:List Str).Nodup))) (λ_ _ _ _ _ _=>(Ge (Rn hu (AC (pv 0)) (BP (XR T) (good_none rfl).pass (hr.mono (by decide)) rfl T.d_near.m T.d_near.kp T.d_near.b (AK (AC (pv 1)) (AK (AC (pv 3)) Aq)))))) (λ_ _ _ _ _ _=>(AC (pv 0))))
  (Aj (Bd (Fy rfl rfl T.b_sorted (CY (Et (own:=["guard"]) (N':=["guard", "·1", "standing", "call", "·4", "·5"]) rfl (C6 (by kernel_rfl)) (Ch (AC (pv 4))) (λ_ _ _ _ _ _=>(B8 0 (by decide +kernel:(["guard", "·1", "standing", "call", "·4", "·5"]:List Str).Nodup))) (λ_ _ _ _ _ _=>Ef) (λ_ _ _ _ _ _=>(BP (Sf T) (good_none rfl).pass (hr.mono (by decide)) rfl T.d_with_step.m T.d_with_step.kp T.d_with_step.b (AK (AC (pv 2)) (AK (AC (pv 0)) (AK (AC (pv 3)) Aq))))))))))) B5)
  (Aj (Bd (BP (M5 T) (good_none rfl).pass (hr.mono (by decide)) rfl T.d_answers_of_all.m T.d_answers_of_all.kp T.d_answers_of_all.b (AK (AC (pv 0)) (AK (AC (pv 1)) (AK (AC (pv 2)) Aq))))))))
theorem Z6:Bp ["web", "standing", "other"] ["web", "standing", "other"] (Al Lb):=Go
theorem Ky (T:Txt K mg W):Dq P w K mg base (CXG P w) 14 T.d_leads.f T.d_leads.fd ["web", "standing", "other"] (spM K 3 (J9 W)):=by
 refine Bm (k:=13) T.d_leads.F Z6 rfl λ_ _ _ _ _ _ hr hu nd=>?_
 exact (Aj (Bd (BP (Q3 T) (good_none rfl).pass (hr.mono (by decide)) rfl T.d_first_into.m T.d_first_into.kp T.d_first_into.b (AK (BP (OI T) (good_none rfl).pass (hr.mono (by decide)) rfl T.d_takes_of.m T.d_takes_of.kp T.d_takes_of.b (AK (AC (pv 0)) Aq)) (AK (AC (pv 1)) (AK (CY (E4 (AK (BP (Pu T) (good_none rfl).pass (hr.mono (by decide)) rfl T.d_bits_of.m T.d_bits_of.kp T.d_bits_of.b (AK (AC (pv 2)) Aq)) Aq))) Aq))))))
theorem OX:Bp ["script", "k"] ["script", "k"] (Al EE):=Go
theorem Du (T:Txt K mg W):Dq P w K mg base (CXG P w) 1 T.d__law_cell_at.f T.d__law_cell_at.fd ["script", "k"] (spM K 2 (DC W)):=by
 refine Bm (k:=0) T.d__law_cell_at.F OX rfl λ_ _ _ _ _ _ hr hu nd=>?_
 exact (AX (Dk (Do XT (AC (pv 1)) (MX rfl T.b_len (AC (pv 0))) (DJ _)) (Aj (Bd (Dw hu (AC (pv 0)) (AC (pv 1))))) B5)
  (Aj (Bd ge_int)))
theorem Qw:Bp ["places", "found", "one", "other"] ["places"] (Al FD):=Go
theorem L1 (T:Txt K mg W):Dq P w K mg base (CXG P w) 1 T.d__law_pairs.f T.d__law_pairs.fd ["places"] (spM K 1 (IC W)):=by
 refine Bm (k:=0) T.d__law_pairs.F Qw rfl λ_ _ _ _ _ _ hr hu nd=>?_
 exact (AX (Ce 1 nd (CY (E4 Aq)))
  (AX (DU (good_none rfl).own rfl (G7 rfl T.b_range (AK (AC (pv 0)) Aq)) (B8 2 nd)
  (Aj (DU (good_none rfl).own rfl (Lh rfl T.b_range (AK (BV FO (AC (pv 2)) ge_int) (AK (AC (pv 0)) Aq))) (B8 3 nd)
  (Aj (HI (Jd (AC (pv 1)) (EY (AK (AC (pv 2)) (AK (AC (pv 3)) Aq)))))))))
  (Aj (Bd (AC (pv 1))))))
theorem MC:Bp ["places", "style"] ["places", "style"] (Al DF):=Go
theorem MK (T:Txt K mg W):Dq P w K mg base (CXG P w) 2 T.d__law_first_ties.f T.d__law_first_ties.fd ["places", "style"] (spM K 2 (Gi W)):=by
 refine Bm (k:=1) T.d__law_first_ties.F MC rfl λ_ _ _ _ _ _ hr hu nd=>?_
 exact (AX (Dk (Do (Kz hu) (AC (pv 1)) ge_int (DJ _)) (Aj (Bd (CY (Et (own:=["k"]) (N':=["k", "·1", "·2"]) rfl (C6 (by kernel_rfl)) (G7 rfl T.b_range (AK (BV MM (AC (pv 0)) ge_int) Aq)) (λ_ _ _ _ _ _=>(B8 0 (by decide +kernel:(["k", "·1", "·2"]:List Str).Nodup))) (λ_ _ _ _ _ _=>Ef) (λ_ _ _ _ _ _=>(EY (AK (AC (pv 0)) (AK (BV FO (AC (pv 0)) ge_int) Aq)))))))) B5)
  (AX (Dk (Do (Kz hu) (AC (pv 1)) ge_int (DJ _)) (Aj (Bd (BV FO (CY (Et (own:=["k"]) (N':=["k", "·1", "·2"]) rfl (C6 (by kernel_rfl)) (G7 rfl T.b_range (AK (BV MM (AC (pv 0)) ge_int) Aq)) (λ_ _ _ _ _ _=>(B8 0 (by decide +kernel:(["k", "·1", "·2"]:List Str).Nodup))) (λ_ _ _ _ _ _=>Ef) (λ_ _ _ _ _ _=>(EY (AK (AC (pv 0)) (AK (BV FO (AC (pv 0)) ge_int) Aq)))))) (CY (E4 (AK (EY (AK ge_int (AK (BV MM (AC (pv 0)) ge_int) Aq))) Aq)))))) B5)
  (AX (Dk (Do (Kz hu) (AC (pv 1)) ge_int (DJ _)) (Aj (Bd (BP (L1 T) (good_none rfl).pass (hr.mono (by decide)) rfl T.d__law_pairs.m T.d__law_pairs.kp T.d__law_pairs.b (AK (AC (pv 0)) Aq)))) B5)
  (AX (Dk (Do (Kz hu) (AC (pv 1)) ge_int (DJ _)) (Aj (Bd (CY (Et (own:=["k"]) (N':=["k", "·1", "·2"]) rfl (C6 (by kernel_rfl)) (Lh rfl T.b_range (AK ge_int (AK (AC (pv 0)) Aq))) (λ_ _ _ _ _ _=>(B8 0 (by decide +kernel:(["k", "·1", "·2"]:List Str).Nodup))) (λ_ _ _ _ _ _=>Ef) (λ_ _ _ _ _ _=>(EY (AK ge_int (AK (AC (pv 0)) Aq)))))))) B5)
  (Aj (Bd (CY (E4 Aq))))))))
theorem SV:Bp ["script", "first", "places", "pairs", "there", "tie", "k"] ["script", "first", "places"] (Al Fq):=Go
theorem Sg (T:Txt K mg W):Dq P w K mg base (CXG P w) 3 T.d__law_ties.f T.d__law_ties.fd ["script", "first", "places"] (spM K 3 (LH W)):=by
 refine Bm (k:=2) T.d__law_ties.F SV rfl λ_ _ _ _ _ _ hr hu nd=>?_
 exact (AX (Ce 3 nd (BP (L1 T) (good_none rfl).pass (hr.mono (by decide)) rfl T.d__law_pairs.m T.d__law_pairs.kp T.d__law_pairs.b (AK (AC (pv 2)) Aq)))
  (AX (Ce 4 nd Um)
  (AX (DU (good_none rfl).own rfl (Ch (BP (MK T) (good_none rfl).pass (hr.mono (by decide)) rfl T.d__law_first_ties.m T.d__law_first_ties.kp T.d__law_first_ties.b (AK (AC (pv 2)) (AK (BV J1 (BV Oy (BP (Du T) (good_none rfl).pass (hr.mono (by decide)) rfl T.d__law_cell_at.m T.d__law_cell_at.kp T.d__law_cell_at.b (AK (AC (pv 0)) (AK ge_int Aq))) ge_int) ge_int) Aq)))) (B8 5 nd)
  (Aj (J6 (BZ (DX (by decide:1<=64) _) hu) (AC (pv 4)) (AC (pv 5)) IV rfl)))
  (AX (DU (good_none rfl).own rfl (Lh rfl T.b_range (AK (AC (pv 1)) (AK (S7 rfl rfl T.b_min (AK (MX rfl T.b_len (AC (pv 0))) (AK ge_int Aq))) Aq))) (B8 6 nd)
  (AX (Ce 5 nd (Dw hu (AC (pv 3)) (BV J1 (Dw hu (AC (pv 0)) (AC (pv 6))) (MX rfl T.b_len (AC (pv 3))))))
  (Aj (J6 (BZ (DX (by decide:1<=64) _) hu) (AC (pv 4)) (AC (pv 5)) (L2.m8 (bU hu (AC (pv 5)) (AC (pv 4))) (WS (bV (Dw hu (AC (pv 4)) (AC (pv 5)))))) rfl))))
  (Aj (Bd (CY (Et (own:=["tie"]) (N':=["tie", "·1", "·2", "·3", "·4", "there", "·6", "·7"]) rfl (C6 (by kernel_rfl)) (Ch (AC (pv 3))) (λ_ _ _ _ _ _=>(B8 0 (by decide +kernel:(["tie", "·1", "·2", "·3", "·4", "there", "·6", "·7"]:List Str).Nodup))) (λ_ _ _ _ _ _=>(Ge (WO (S6 (Rn hu (AC (pv 0)) (AC (pv 5))) (O3 (FZ (Dw hu (AC (pv 5)) (AC (pv 0))))))))) (λ_ _ _ _ _ _=>(AC (pv 0)))))))))))
theorem Po:Bp ["script", "ties"] ["script", "ties"] (Al Ek):=Go
theorem Pv (T:Txt K mg W):Dq P w K mg base (CXG P w) 2 T.d__law_handed.f T.d__law_handed.fd ["script", "ties"] (spM K 2 (JG W)):=by
 refine Bm (k:=1) T.d__law_handed.F Po rfl λ_ _ _ _ _ _ hr hu nd=>?_
 exact (AX (Dk (Do (Kz hu) (BV J1 (BV Oy (BP (Du T) (good_none rfl).pass (hr.mono (by decide)) rfl T.d__law_cell_at.m T.d__law_cell_at.kp T.d__law_cell_at.b (AK (AC (pv 0)) (AK ge_int Aq))) ge_int) ge_int) ge_int (DJ _)) (Aj (Bd (fF rfl T.b_list (AC (pv 1))))) B5)
  (Aj (Bd (CY (Et (own:=["tie"]) (N':=["tie", "·1", "·2"]) rfl (C6 (by kernel_rfl)) (ju rfl T.b_reversed (AC (pv 1))) (λ_ _ _ _ _ _=>(B8 0 (by decide +kernel:(["tie", "·1", "·2"]:List Str).Nodup))) (λ_ _ _ _ _ _=>Ef) (λ_ _ _ _ _ _=>(EY (AK (Dw hu (AC (pv 0)) ge_int) (AK (Dw hu (AC (pv 0)) ge_int) Aq)))))))))
theorem SX:Bp ["ties", "place", "found", "tie"] ["ties", "place"] (Al Ft):=Go
theorem Si (T:Txt K mg W):Dq P w K mg base (CXG P w) 1 T.d__law_near.f T.d__law_near.fd ["ties", "place"] (spM K 2 (LJ W)):=by
 refine Bm (k:=0) T.d__law_near.F SX rfl λ_ _ _ _ _ _ hr hu nd=>?_
 exact (AX (Ce 2 nd (CY (E4 Aq)))
  (AX (DU (good_none rfl).own rfl (Ch (AC (pv 0))) (B8 3 nd)
  (Aj (Dk (Rn hu (AC (pv 1)) (AC (pv 3))) (Aj (HI (Jd (AC (pv 2)) (BV MM (BV FO (Dw hu (AC (pv 3)) ge_int) (Dw hu (AC (pv 3)) ge_int)) (AC (pv 1)))))) B5)))
  (Aj (Bd (Fy rfl rfl T.b_sorted (AC (pv 2)))))))
theorem SW:Bp ["places", "guards", "rows", "k", "longer", "row", "least"] ["places", "guards"] (Al Fs):=Go
theorem Sh (T:Txt K mg W):Dq P w K mg base (CXG P w) 1 T.d__law_sets.f T.d__law_sets.fd ["places", "guards"] (spM K 2 (LI W)):=by
 refine Bm (k:=0) T.d__law_sets.F SW rfl λ_ _ _ _ _ _ hr hu nd=>?_
 exact (AX (Ce 2 nd (CY (E4 (AK (EY Aq) Aq))))
  (AX (DU (good_none rfl).own rfl (G7 rfl T.b_range (AK (AC (pv 1)) Aq)) (B8 3 nd)
  (AX (Ce 4 nd (CY (E4 Aq)))
  (AX (DU (good_none rfl).own rfl (Ch (AC (pv 2))) (B8 5 nd)
  (AX (Ce 6 nd ge_int)
  (AX (Dk (Do (ag hu) (AC (pv 5)) (EY Aq) (DJ _)) (Aj (Ce 6 nd (BV FO (Dw hu (AC (pv 5)) (jx ge_int)) ge_int))) B5)
  (Aj (HI (Nv (AC (pv 4)) (CY (Et (own:=["place"]) (N':=["place", "·1", "·2", "·3", "·4", "·5", "row", "·7"]) rfl (C6 (by kernel_rfl)) (Lh rfl T.b_range (AK (AC (pv 6)) (AK (BV FO (BV FO (BV MM (AC (pv 0)) (AC (pv 1))) (AC (pv 3))) ge_int) Aq))) (λ_ _ _ _ _ _=>(B8 0 (by decide +kernel:(["place", "·1", "·2", "·3", "·4", "·5", "row", "·7"]:List Str).Nodup))) (λ_ _ _ _ _ _=>Ef) (λ_ _ _ _ _ _=>(BV FO (AC (pv 6)) (EY (AK (AC (pv 0)) Aq))))))))))))
  (Aj (Ce 2 nd (AC (pv 4)))))))
  (Aj (Bd (AC (pv 2))))))
theorem Ng:Bp ["found"] ["found"] (Al Dt):=Go
theorem Nl (T:Txt K mg W):Dq P w K mg base (CXG P w) 1 T.d__law_set_told.f T.d__law_set_told.fd ["found"] (spM K 1 (Hg W)):=by
 refine Bm (k:=0) T.d__law_set_told.F Ng rfl λ_ _ _ _ _ _ hr hu nd=>?_
 exact (AX (Dk (LD (bS (WT (c:=.ty "tuple") (cv:=.type "tuple") (λ_ r=>r) Yr rfl T.b_isinstance (AC (pv 0)) (Sd rfl T.b_tuple OS rfl)))) (Aj (Bd IV)) B5)
  (Aj (Bd (j0 rfl rfl T.b_all (CY (Et (own:=["place"]) (N':=["place", "·1"]) rfl (C6 (by kernel_rfl)) (Ch (AC (pv 0))) (λ_ _ _ _ _ _=>(B8 0 (by decide +kernel:(["place", "·1"]:List Str).Nodup))) (λ_ _ _ _ _ _=>Ef) (λ_ _ _ _ _ _=>(L2.bZ (WT (c:=.ty "int") (cv:=.type "int") (λ_ r=>r) ej rfl T.b_isinstance (AC (pv 0)) (Sd rfl T.b_int PJ rfl)) (WS (bV (WT (c:=.ty "bool") (cv:=.type "bool") (λ_ r=>r) bN rfl T.b_isinstance (AC (pv 0)) (Sd rfl T.b_bool nX rfl))))))))))))
theorem Qy:Bp ["ties", "standing", "other", "rows", "guard", "steps", "longer", "row"] ["ties", "standing", "other"] (Al FF):=Go
theorem Q5 (T:Txt K mg W):Dq P w K mg base (CXG P w) 2 T.d__law_first.f T.d__law_first.fd ["ties", "standing", "other"] (spM K 3 (KD W)):=by
 refine Bm (k:=1) T.d__law_first.F Qy rfl λ_ _ _ _ _ _ hr hu nd=>?_
 exact (AX (Ce 3 nd (CY (E4 (AK (EY Aq) Aq))))
  (AX (DU (good_none rfl).own rfl (Ch (AC (pv 1))) (B8 4 nd)
  (AX (J7 (i:=5) (own:=["place"]) (N':=["place", "·1", "·2", "other", "·4", "·5", "·6", "·7", "·8"]) rfl rfl nd rfl (by first | exact KR rfl | exact JL rfl) (C6 (by kernel_rfl)) (Ch (BV FO (CY (E4 (AK (AC (pv 4)) Aq))) (BP (Si T) (good_none rfl).pass (hr.mono (by decide)) rfl T.d__law_near.m T.d__law_near.kp T.d__law_near.b (AK (AC (pv 0)) (AK (AC (pv 4)) Aq))))) (λ_ _ _ _ _ _=>(B8 0 (by decide +kernel:(["place", "·1", "·2", "other", "·4", "·5", "·6", "·7", "·8"]:List Str).Nodup))) (λ_ _ _ _ _ _=>(Ge (Rn hu (AC (pv 0)) (AC (pv 3))))) (λ_ _ _ _ _ _=>(AC (pv 0))))
  (AX (Ce 6 nd (CY (E4 Aq)))
  (AX (DU (good_none rfl).own rfl (Ch (AC (pv 3))) (B8 7 nd)
  (Aj (HI (Nv (AC (pv 6)) (CY (Et (own:=["place"]) (N':=["place", "·1", "·2", "·3", "·4", "·5", "·6", "·7", "row"]) rfl (C6 (by kernel_rfl)) (Ch (AC (pv 5))) (λ_ _ _ _ _ _=>(B8 0 (by decide +kernel:(["place", "·1", "·2", "·3", "·4", "·5", "·6", "·7", "row"]:List Str).Nodup))) (λ_ _ _ _ _ _=>(Ge (IS hu (AC (pv 0)) (AC (pv 8))))) (λ_ _ _ _ _ _=>(BV FO (AC (pv 8)) (EY (AK (AC (pv 0)) Aq))))))))))
  (Aj (Ce 3 nd (AC (pv 6))))))))
  (AX (Dk (Do (Kz hu) (AC (pv 3)) (CY (E4 Aq)) (DJ _)) (Aj (Bd JF)) B5)
  (Aj (Bd (fC hu rfl rfl T.b_min (AC (pv 3))))))))
theorem Qx:Bp ["web", "ties", "standing", "other", "found", "due"] ["web", "ties", "standing", "other"] (Al FE):=Go
theorem Q4 (T:Txt K mg W):Dq P w K mg base (CXG P w) 15 T.d__law_leads.f T.d__law_leads.fd ["web", "ties", "standing", "other"] (spM K 4 (KC W)):=by
 refine Bm (k:=14) T.d__law_leads.F Qx rfl λ_ _ _ _ _ _ hr hu nd=>?_
 exact (AX (Ce 4 nd (BP (Ky T) (good_none rfl).pass (hr.mono (by decide)) rfl T.d_leads.m T.d_leads.kp T.d_leads.b (AK (AC (pv 0)) (AK (AC (pv 2)) (AK (AC (pv 3)) Aq)))))
  (AX (Ce 5 nd (BP (Q5 T) (good_none rfl).pass (hr.mono (by decide)) rfl T.d__law_first.m T.d__law_first.kp T.d__law_first.b (AK (AC (pv 1)) (AK (AC (pv 2)) (AK (AC (pv 3)) Aq)))))
  (AX (Dk (Do MN (AC (pv 5)) JF (DJ _)) (Aj (Bd (MY MN (AC (pv 4)) JF (DJ _)))) B5)
  (Aj (Bd (L2.bZ (MY (Kz hu) (AC (pv 4)) (AC (pv 5)) (DJ _)) (WS (BP (Nl T) (good_none rfl).pass (hr.mono (by decide)) rfl T.d__law_set_told.m T.d__law_set_told.kp T.d__law_set_told.b (AK (AC (pv 4)) Aq)))))))))
theorem ij:Bp ["script", "head", "places", "ties", "web", "guards", "some", "cell", "one", "other", "pair", "free", "call", "kind", "told", "found"] ["script"] (Al RT):=Go
theorem jS (T:Txt K mg W):Dq P w K mg base (CXG P w) 16 T.d_law.f T.d_law.fd ["script"] (spM K 1 (Xl W)):=by
 refine Bm (k:=15) T.d_law.F ij rfl λ_ _ _ _ _ _ hr hu nd=>?_
 exact (AX (Ce 1 nd (BP (Du T) (good_none rfl).pass (hr.mono (by decide)) rfl T.d__law_cell_at.m T.d__law_cell_at.kp T.d__law_cell_at.b (AK (AC (pv 0)) (AK ge_int Aq))))
  (AX (Ce 2 nd (BV FO (BV FO ge_int (BV J1 (AC (pv 1)) ge_int)) (fG rfl T.b_int (MY (Kz hu) (BV J1 (BV Oy (AC (pv 1)) ge_int) ge_int) ge_int (DJ _)))))
  (AX (Ce 3 nd (BP (Sg T) (good_none rfl).pass (hr.mono (by decide)) rfl T.d__law_ties.m T.d__law_ties.kp T.d__law_ties.b (AK (AC (pv 0)) (AK ge_int (AK (AC (pv 2)) Aq)))))
  (AX (Ce 4 nd (fE T.c_Web.mk' (UV T) (good_none rfl).pass (hr.mono (by decide)) rfl T.c_Web.m T.d_Web_init.b (AK (AC (pv 2)) (AK (BP (Pv T) (good_none rfl).pass (hr.mono (by decide)) rfl T.d__law_handed.m T.d__law_handed.kp T.d__law_handed.b (AK (AC (pv 0)) (AK (AC (pv 3)) Aq))) Aq))))
  (AX (Ce 5 nd (BV FO ge_int (BV J1 (BP (Du T) (good_none rfl).pass (hr.mono (by decide)) rfl T.d__law_cell_at.m T.d__law_cell_at.kp T.d__law_cell_at.b (AK (AC (pv 0)) (AK ge_int Aq))) (S7 rfl rfl T.b_min (AK ge_int (AK (BV MM (AC (pv 2)) ge_int) Aq))))))
  (AX (Ce 6 nd (BP (Sh T) (good_none rfl).pass (hr.mono (by decide)) rfl T.d__law_sets.m T.d__law_sets.kp T.d__law_sets.b (AK (AC (pv 2)) (AK (AC (pv 5)) Aq))))
  (AX (Ce 7 nd (BP (Du T) (good_none rfl).pass (hr.mono (by decide)) rfl T.d__law_cell_at.m T.d__law_cell_at.kp T.d__law_cell_at.b (AK (AC (pv 0)) (AK ge_int Aq))))
  (AX (Ce 8 nd (Dw hu (AC (pv 6)) (BV J1 (AC (pv 7)) (MX rfl T.b_len (AC (pv 6))))))
  (AX (Ce 9 nd (Dw hu (AC (pv 6)) (BV J1 (BV Oy (AC (pv 7)) ge_int) (MX rfl T.b_len (AC (pv 6))))))
  (AX (DU (good_none rfl).own rfl (Ch (CY (E4 (AK (EY (AK (AC (pv 8)) (AK (AC (pv 9)) Aq))) (AK (EY (AK (AC (pv 9)) (AK (AC (pv 8)) Aq))) (AK (EY (AK (AC (pv 8)) (AK (AC (pv 8)) Aq))) Aq)))))) (B8 10 nd)
  (Aj (Dk (LD (FZ (BP (Q4 T) (good_none rfl).pass (hr.mono (by decide)) rfl T.d__law_leads.m T.d__law_leads.kp T.d__law_leads.b (AK (AC (pv 4)) (AK (AC (pv 3)) (AK (Dw hu (AC (pv 10)) ge_int) (AK (Dw hu (AC (pv 10)) ge_int) Aq))))))) (Aj (Bd IV)) B5)))
  (AX (Dk (Do (ag hu) (MY MN (BP (Ky T) (good_none rfl).pass (hr.mono (by decide)) rfl T.d_leads.m T.d_leads.kp T.d_leads.b (AK (AC (pv 4)) (AK (AC (pv 8)) (AK (AC (pv 9)) Aq)))) JF (DJ _)) (MY MN (BP (Ky T) (good_none rfl).pass (hr.mono (by decide)) rfl T.d_leads.m T.d_leads.kp T.d_leads.b (AK (AC (pv 4)) (AK (AC (pv 9)) (AK (AC (pv 8)) Aq)))) JF (DJ _)) (DJ _)) (Aj (Bd IV)) B5)
  (AX (Dk (Do MN (BP (Ky T) (good_none rfl).pass (hr.mono (by decide)) rfl T.d_leads.m T.d_leads.kp T.d_leads.b (AK (AC (pv 4)) (AK (AC (pv 8)) (AK (AC (pv 8)) Aq)))) JF (DJ _)) (Aj (Bd IV)) B5)
  (AX (J7 (i:=11) (own:=["place"]) (N':=["place", "·1", "·2", "·3", "·4", "·5", "·6", "·7", "·8", "one", "·10", "·11", "·12", "·13", "·14", "·15", "·16"]) rfl rfl nd rfl (by first | exact KR rfl | exact JL rfl) (C6 (by kernel_rfl)) (G7 rfl T.b_range (AK (AC (pv 2)) Aq)) (λ_ _ _ _ _ _=>(B8 0 (by decide +kernel:(["place", "·1", "·2", "·3", "·4", "·5", "·6", "·7", "·8", "one", "·10", "·11", "·12", "·13", "·14", "·15", "·16"]:List Str).Nodup))) (λ_ _ _ _ _ _=>(Ge (IS hu (AC (pv 0)) (AC (pv 9))))) (λ_ _ _ _ _ _=>(AC (pv 0))))
  (AX (Ce 12 nd (Dw hu (AC (pv 11)) (BV J1 (BP (Du T) (good_none rfl).pass (hr.mono (by decide)) rfl T.d__law_cell_at.m T.d__law_cell_at.kp T.d__law_cell_at.b (AK (AC (pv 0)) (AK ge_int Aq))) (MX rfl T.b_len (AC (pv 11))))))
  (AX (DU (good_none rfl).own rfl (Ch (CY (E4 (AK WR (AK WR Aq))))) (B8 13 nd)
  (Aj (DU (good_none rfl).own rfl (Ch (Ul (BP (V7 T) (good_none rfl).pass (hr.mono (by decide)) rfl T.d_answers.m T.d_answers.kp T.d_answers.b (AK (AC (pv 4)) (AK (AC (pv 8)) (AK (AC (pv 12)) (AK (AC (pv 13)) Aq))))) O5 (O4 ge_int))) (B8 14 nd)
  (AX (Ce 15 nd (BP (Ky T) (good_none rfl).pass (hr.mono (by decide)) rfl T.d_leads.m T.d_leads.kp T.d_leads.b (AK (AC (pv 4)) (AK (AC (pv 8)) (AK (IU rfl T.b_tuple (Fy rfl rfl T.b_sorted (AC (pv 14)))) Aq)))))
  (Aj (Dk (WO (Xf (Do MN (AC (pv 15)) JF (DJ _)) (Xf (Do (jT hu) (AC (pv 15)) (AC (pv 14)) (DJ _)) (WN (Do (ag hu) (Fy rfl rfl T.b_sorted (AC (pv 15))) (Fy rfl rfl T.b_sorted (AC (pv 14))) (DJ _)))))) (Aj (Bd IV)) B5))))))
  (Aj (Bd IV)))))))))))))))))
end
end M
namespace M
open PySem L2
open Srt (ltL)
def pairD (x:Int×Int):D:=.tup [.int x.1,.int x.2]
def nrm (x:Int×Int):Int×Int:=(if x.2 < x.1 then x.2 else x.1,if x.2 > x.1 then x.2 else x.1)
def SY (x:Int×Int):List Int:=[x.1,x.2]
def NC (x:Int×Int):List Key:=[.inl x.1,.inl x.2]
theorem Uh {x y:Int×Int} (h:NC x=NC y):x=y:=by
 unfold NC at h;simp at h;exact RH h.1 h.2
theorem MW:∀ns:List Int,Gc (ns.map D.int)=some ns
 | []=>rfl
 | n :: ns=>by
  rw [A1];unfold Gc;rw [MW ns];rfl
theorem Pp:∀rs:List (List Int),(∀r∈rs,r≠[])->L0 (rs.map Lr)=some rs
 | [],_=>rfl
 | [] :: rs,h=>absurd rfl (h [] A3)
 | (n :: ns) :: rs,h=>by
  rw [A1];unfold Lr L0;rw [MW,show RK (λr:List Int=>D.tup (r.map D.int)) rs=rs.map Lr from rfl,Pp rs λr hr=>h r (Ah _ hr)]
theorem Vv (rs:List (List Int)) (h:∀r∈rs,r≠[]):KY (rs.map Lr)=some ((Il rs).map Lr):=by
 unfold KY
 cases rs with
 | nil=>simp [Gc,Il]
 | cons r rs=>
  have:Gc ((r :: rs).map Lr)=none:=rfl;rw [this,Pp _ h]
theorem Vw (ns:List Int):KY (ns.map D.int)=some ((Cp ns).map D.int):=by
 unfold KY;rw [MW]
def K5 (ps:List (Int×Int)):List (List Key×D):=ps.map λx=>(NC (nrm x),.bl true)
theorem au (ps:List (Int×Int)) (x:Int×Int):(A9 (K5 ps) (NC (nrm x))).isSome=decide (nrm x∈ps.map nrm):=by
 unfold A9 K5
 induction ps with
 | nil=>rfl
 | cons y ps ih=>
  rw [A1,B6]
  by_cases e:NC (nrm y)=NC (nrm x)
  ·rw [decide_eq_true e]
   simp [Uh e]
  ·rw [decide_eq_false e]
   have e':nrm x≠nrm y:=λz=>e (by rw [z])
   simp only [A1,A2,e',false_or];exact ih
theorem aq (ps:List (Int×Int)) (x:Int×Int) (h:nrm x∉ps.map nrm):CW (K5 ps) (NC (nrm x)) (.bl true)=K5 (ps++[x]):=by
 unfold CW;rw [if_neg]
 ·simp [K5]
 ·intro z
  obtain ⟨y,hy,e⟩:=HV.mp z;obtain ⟨a,ha,rfl⟩:=A4.mp hy;exact h (by rw [<-Uh (of_decide_eq_true e)];exact YA ha)
theorem mZ {S:Sto} {n:Nat} {kvs:List (List Key×D)} {x:Int×Int} (h:S[n]?=some (.dT kvs)) (neg:Bool):inA neg (pairD x) (.ref n) S=.ok (.bl (if neg then !(A9 kvs (NC x)).isSome else (A9 kvs (NC x)).isSome)) S:=by
 show IQ (inD neg (pairD x) (.ref n) S) (LL neg (pairD x) (.ref n) S)=_
 have e:inD neg (pairD x) (.ref n) S=.bad:=by
  unfold inD G1;dsimp only;rw [h]
 have e2:Og (.ref n) (pairD x) S=some (A9 kvs (NC x)):=by
  unfold Og pairD;dsimp only;rw [h];rfl
 rw [e];show LL neg (pairD x) (.ref n) S=_;unfold LL;rw [e2]
theorem bn {mo mi mv:ME} {e:Lo} {S:Sto} {d:Nat} {kvs:List (List Key×D)} {x:Int×Int} {v:D} (hv:mv e S=.ok v S) (ho:mo e S=.ok (.ref d) S) (hi:mi e S=.ok (pairD x) S) (h:S[d]?=some (.dT kvs)) (hl:kvs.length < sizeLine) :
  D2 mo mi mv e S=.ok (.nx e) (S.set d (.dT (CW kvs (NC x) v))):=by
 unfold D2;rw [hv];dsimp only [Res.lift];rw [ho];dsimp only [Res.lift];rw [hi];dsimp only [Res.lift]
 have:Uv (.ref d) (pairD x) v S=some (S.set d (.dT (CW kvs (NC x) v))):=by
  unfold Uv pairD;dsimp only;rw [h];show (if kvs.length < sizeLine then some (S.set d (.dT (CW kvs (NC x) v))) else none)=_;rw [if_pos hl]
 rw [this]
theorem ix0 (x:Int×Int) (S:Sto):ixA (pairD x) (.int 0) S=.ok (.int x.1) S:=rfl
theorem ix1 (x:Int×Int) (S:Sto):ixA (pairD x) (.int 1) S=.ok (.int x.2) S:=rfl
def Fit (p:Int) (x:Int×Int):Prop:=(nrm x).1≠(nrm x).2/\0<=(nrm x).1/\(nrm x).2 < p
abbrev kH (W:Wd):MS:=BN (CP 5 (Gp (AR (mQ M7 (AR (AG 3) (AR (AG 4) BH))) (AR (mQ Rf (AR (AG 3) (AR (AG 4) BH))) BH))))
  (BN (sIf (mB (m2 (eqD false) (m2 ixA (AG 5) (mC (.int 0))) (m2 ixA (AG 5) (mC (.int 1))))) Qz sNx)
  (BN (sIf (mOr (mB (m2 ltD (m2 ixA (AG 5) (mC (.int 0))) (mC (.int 0)))) (mB (m2 geD (m2 ixA (AG 5) (mC (.int 1))) (AG 0)))) Qz sNx)
  (BN (sIf (mB (m2 (inA false) (AG 5) (AG 2))) Qz sNx)
  (D2 (AG 2) (AG 5) (mC (.bl true))))))
theorem Sm {t:MT} {a:MS} {e:Lo} {S:Sto} (h:t e S=.ok false S):sIf t a sNx e S=.ok (.nx e) S:=(Gs (a:=a) (b:=sNx) h).trans rfl
theorem Zw {W:Wd} {p:Int} {t:D} {n:Nat} {S:Sto} {x:Int×Int} {z5:Option D} {ps:List (Int×Int)} (hn:S[n]?=some (.dT (K5 ps))) (hl:ps.length<=100000) (hf:Fit p x) (f4:nrm x∉ps.map nrm) :
  kH W [some (.int p),some t,some (.ref n),some (.int x.1),some (.int x.2),z5] S=.ok (.nx [some (.int p),some t,some (.ref n),some (.int x.1),some (.int x.2),some (pairD (nrm x))]) (S.set n (.dT (K5 (ps++[x])))):=by
 have e0:CP 5 (Gp (AR (mQ M7 (AR (AG 3) (AR (AG 4) BH))) (AR (mQ Rf (AR (AG 3) (AR (AG 4) BH))) BH))) [some (.int p),some t,some (.ref n),some (.int x.1),some (.int x.2),z5] S =
   .ok (.nx [some (.int p),some t,some (.ref n),some (.int x.1),some (.int x.2),some (pairD (nrm x))]) S:=
  JE (i:=5) (Vq (ds:=[.int (nrm x).1,.int (nrm x).2]) (Cg (Ye (ds:=[.int x.1,.int x.2]) (S1:=S) rfl rfl) (Cg (Ye (ds:=[.int x.1,.int x.2]) (S1:=S) rfl rfl) rfl)) (by simp))
 obtain ⟨f1,f2,f3⟩:=hf;refine (CV e0).trans ((CV (Sm (RF (Dj (Dj rfl rfl (ix0 _ _)) (Dj rfl rfl (ix1 _ _)) (kB (decide_eq_false f1)))))).trans ((CV (Sm ((aZ (RF (Dj (Dj rfl rfl (ix0 _ _)) rfl (jZ (decide_eq_false (by omega)))))).trans (RF (Dj (Dj rfl rfl (ix1 _ _)) rfl (j3 (decide_eq_false (by omega)))))))).trans ((CV (Sm (RF (Dj rfl rfl ?_)))).trans ?_)))
 ·rw [mZ hn,au,decide_eq_false f4]
  rfl
 ·rw [bn (x:=nrm x) rfl rfl rfl hn (by unfold K5;rw [AI];exact BZ hl (by decide)),aq _ _ f4]
end M
namespace M
open PySem L2
open Srt (ltL)
theorem Yt {m:ME} {e:Lo} {S S1:Sto} {d:D} {xs:List D} (h:m e S=.ok d S1) (hx:GJ d S1=some xs):Dg m e S=.ok (GJ d) S1:=by
 unfold Dg;rw [h];dsimp only [Res.bind];rw [hx]
def E5 (p:Int) (ps:List (Int×Int)):Prop:=(∀x∈ps,Fit p x)/\(ps.map nrm).Nodup
theorem E5.snoc {p:Int} {ps:List (Int×Int)} {x:Int×Int}:E5 p (ps++[x])↔E5 p ps/\Fit p x/\nrm x∉ps.map nrm:=by
 unfold E5;rw [C2,D4]
 constructor
 ·rintro ⟨h1,h2,h3,h4⟩
  exact ⟨⟨λy hy=>h1 y (by simp [hy]),h2⟩,h1 x (by simp),λz=>h4 _ z _ (by simp) rfl⟩
 ·rintro ⟨⟨h1,h2⟩,h3,h4⟩
  refine ⟨λy hy=>?_,h2,by simp,λa ha b hb e=>?_⟩
  ·rcases Az.mp hy with hy | hy
   ·exact h1 y hy
   ·rw [Ae.mp hy];exact h3
  ·simp at hb
   subst hb;subst e;exact h4 ha
theorem E5.take {p:Int} {ps:List (Int×Int)} (h:E5 p ps) (i:Nat):E5 p (ps.take i):=by
 refine ⟨λx hx=>h.1 x (Wr hx),?_⟩;rw [gv];exact h.2.sublist (ZS _ _)
theorem take_snoc {α:Type} {l:List α} {i:Nat} {x:α} (h:l[i]?=some x):l.take (i+1)=l.take i++[x]:=by
 rw [OA,h];rfl
theorem TK (W:Wd) {p:Int} {d:D} {S:Sto} {ps:List (Int×Int)} (hv:∀S',Keeps S S'->GJ d S'=some (ps.map pairD)) (hl:ps.length<=100000) (hf:E5 p ps) :
  ∃z3 z4 z5,GN (Dg (AG 1)) (KW 2 (D1 (tgN 3) (D1 (tgN 4) Kt))) (kH W) [some (.int p),some d,some (.ref S.length),none,none,none] (S++[.dT []])=.ok (.nx [some (.int p),some d,some (.ref S.length),z3,z4,z5]) (S++[.dT (K5 ps)]):=by
 rw [LF (Yt (m:=AG 1) (d:=d) (S1:=S++[.dT []]) rfl (hv _ (Keeps.app _ _)))]
 obtain ⟨f,S',h,z3,z4,z5,rfl,rfl⟩:=Ny (v:=GJ d) (g:=KW 2 (D1 (tgN 3) (D1 (tgN 4) Kt))) (b:=kH W) (xs:=ps.map pairD) (e:=[some (.int p),some d,some (.ref S.length),none,none,none]) (S:=S++[.dT []]) (λi e S'=>(∃z3 z4 z5,e=[some (.int p),some d,some (.ref S.length),z3,z4,z5])/\S'=S++[.dT (K5 (ps.take i))]) (λf S'=>∃z3 z4 z5,f=.nx [some (.int p),some d,some (.ref S.length),z3,z4,z5]/\S'=S++[.dT (K5 ps)]) ⟨⟨none,none,none,rfl⟩,by simp [K5]⟩ (by rintro i e S' ⟨_,rfl⟩;exact hv _ (Keeps.app _ _))
  (by
   rintro i y e S' hy ⟨⟨z3,z4,z5,rfl⟩,rfl⟩;rw [As] at hy
   cases hx:ps[i]? with
   | none=>rw [hx] at hy;cases hy
   | some x=>
    rw [hx] at hy;cases hy;have hlt:=(AH.mp hx).1;have af:=hf.take (i+1);rw [take_snoc hx] at af;obtain ⟨_,c1,c2⟩:=E5.snoc.mp af;refine ⟨[some (.int p),some d,some (.ref S.length),some (.int x.1),some (.int x.2),z5],_,rfl,_,_,Zw (W:=W) (p:=p) (t:=d) (z5:=z5) (x:=x) (FQ S (.dT (K5 (ps.take i)))) (by rw [C9];omega) c1 c2,⟨_,_,_,rfl⟩,?_⟩;rw [take_snoc hx]
    simp)
  (by
   rintro e S' ⟨⟨z3,z4,z5,rfl⟩,rfl⟩;rw [AI,cK]
   exact ⟨_,_,_,rfl,rfl⟩)
 exact ⟨z3,z4,z5,h⟩
def Ju (ps:List (Int×Int)):List (List Int):=Il (ps.map λx=>SY (nrm x))
theorem TL (W:Wd) {p:Int} {d:D} {S:Sto} {ps:List (Int×Int)} (hv:∀S',Keeps S S'->GJ d S'=some (ps.map pairD)) (hl:ps.length<=100000) (hf:E5 p ps) :
  ∃S',Gh W [.int p,d] S=.ok (.tup ((Ju ps).map Lr)) S'/\Keeps S S':=by
 obtain ⟨z3,z4,z5,h1⟩:=TK W hv hl hf
 ·have hi:J5 (.ref S.length) (S++[.dT (K5 ps)])=some ((ps.map λx=>SY (nrm x)).map Lr):=by
   unfold J5;dsimp only;rw [FQ];dsimp only;unfold K5;rw [BU,BU];rfl
  have hs:=JV (m:=AG 2) (e:=[some (.int p),some d,some (.ref S.length),z3,z4,z5]) (S:=S++[.dT (K5 ps)]) rfl hi (Vv _ (by intro r hr;obtain ⟨x,_,rfl⟩:=A4.mp hr;simp [SY]));refine ⟨S++[.dT (K5 ps)]++[.lst ((Ju ps).map Lr)],Nj ?_,(Keeps.app S _).trans (Keeps.app _ _)⟩;refine On (CV (e:=[some (.int p),some d,none,none,none,none]) (e1:=[some (.int p),some d,some (.ref S.length),none,none,none]) (S:=S) (S1:=S++[.dT []]) rfl) ?_;refine On (CV h1) ?_;exact MD (Mv hs (GM (FQ _ _)))
end M
namespace M
open PySem L2
def Cq (ts:List (Int×Int)) (x:Nat):List Int:=ts.flatMap λt=>(if t.1=(x:Int) then [t.2] else [])++(if t.2=(x:Int) then [t.1] else [])
theorem UZ (ts:List (Int×Int)) (t:Int×Int) (x:Nat):Cq (ts++[t]) x=Cq ts x++((if t.1=(x:Int) then [t.2] else [])++(if t.2=(x:Int) then [t.1] else [])):=by
 unfold Cq;rw [Mg];simp
def GR (p:Nat) (F:Nat->List Int):Sto:=(Cw p).map λx=>Ob.lst ((F x).map D.int)
def E3 (k p:Nat):List D:=(Cw p).map λx=>D.ref (k+x)
def stN (S:Sto) (p:Nat) (F:Nat->List Int):Sto:=S++GR p F++[.lst (E3 S.length p)]
theorem IM (p:Nat) (F:Nat->List Int):(GR p F).length=p:=by simp [GR]
theorem SM (S:Sto) (p:Nat) (F:Nat->List Int):(stN S p F).length=S.length+p+1:=by simp [stN,IM];lia
theorem Nc (S:Sto) (p:Nat) (F:Nat->List Int):Keeps S (stN S p F):=(Keeps.app S _).trans (Keeps.app _ _)
theorem Ku (S:Sto) (p:Nat) (F:Nat->List Int):(stN S p F)[S.length+p]?=some (.lst (E3 S.length p)):=by
 have:S.length+p=(S++GR p F).length:=by simp [IM]
 unfold stN;rw [this];exact FQ _ _
theorem Jv (S:Sto) {p a:Nat} (F:Nat->List Int) (h:a < p):(stN S p F)[S.length+a]?=some (.lst ((F a).map D.int)):=by
 unfold stN;rw [BM,BB (by lia),Ak (by rw [IM];lia),show S.length+a - S.length=a by lia];unfold GR;rw [As,DV h];rfl
theorem XI (S:Sto) {p a:Nat} (F:Nat->List Int) (ys:List Int) (h:a < p):(stN S p F).set (S.length+a) (.lst (ys.map D.int))=stN S p (λx=>if x=a then ys else F x):=by
 apply JQ
 intro j
 by_cases e:S.length+a=j
 ·subst e
  rw [A6 (by rw [SM];lia),Jv _ _ h,if_pos rfl]
 ·rw [At e]
  by_cases h1:j < S.length
  ·rw [(Nc S p F).2 j h1,(Nc S p _).2 j h1]
  by_cases h2:j - S.length < p
  ·have e2:j=S.length+(j - S.length):=by lia
   rw [e2,Jv S F h2,Jv S _ h2,if_neg (by lia)]
  by_cases h3:j=S.length+p
  ·subst h3
   rw [Ku,Ku]
  ·rw [Cb (by rw [SM];lia),Cb (by rw [SM];lia)]
theorem Xb {S:Sto} {p a:Nat} (F:Nat->List Int) (h:a < p):ixA (.ref (S.length+p)) (.int a) (stN S p F)=.ok (.ref (S.length+a)) (stN S p F):=by
 show IQ (ixD _ _ _) _=_;have e1:G1 (.ref (S.length+p)) (stN S p F)=some (E3 S.length p):=GM (Ku S p F)
 have e2:atI (E3 S.length p) (a:Int)=some (.ref (S.length+a)):=by
  unfold atI ixN;rw [show (E3 S.length p).length=p by simp [E3],if_pos (by lia),if_pos (by lia)];simp only [AF,CD];unfold E3;rw [As,DV h];rfl
 have:ixD (.ref (S.length+p)) (.int a) (stN S p F)=.ok (.ref (S.length+a)) (stN S p F):=by
  unfold ixD;rw [e1];dsimp only;rw [e2]
 rw [this];rfl
theorem Zz (S:Sto):∀p:Nat,S++GR (p+1) (λ_=>[])=S++GR p (λ_=>[])++[.lst []]:=λp=>by
 unfold GR;rw [Qa,C2,BM];rfl
theorem YZ {p:Nat} (hp:p<=60) {mp:ME} {e:Lo} {S:Sto} (h0:mp e S=.ok (.int p) S) :
  Di 1 (iR1 (AR mp BH)) (tgN 0) Gu (Da (Dm BH)) e S=.ok (E3 S.length p) (S++GR p λ_=>[]):=by
 have hi:iR1 (AR mp BH) e S=.ok (Gr (IN 0 p)) S:=by
  have:=bP (ml:=AR mp BH) (e:=e) (S:=S) (S1:=S) (j:=p) (Cg h0 rfl) (by lia) (by lia);simpa using this
 obtain ⟨r,S1,q1,e',⟨z,_⟩,rfl,rfl⟩:=Xr (v:=Gr (IN 0 p)) (g:=tgN 0) (c:=Gu) (m:=Da (Dm BH)) (xs:=IN 0 p) (e:=none :: e) (S:=S)
  (λi e' S' acc=>(∃z,e'=z :: e)/\S'=S++GR i (λ_=>[])/\acc=E3 S.length i)
  ⟨⟨none,rfl⟩,by simp [GR],rfl⟩ (λ_ _ _ _ _=>rfl)
  (by
   rintro i d e' S' acc hd ⟨⟨z,rfl⟩,rfl,rfl⟩;obtain ⟨hi,rfl⟩:=aB hd;refine ⟨by simp [E3];exact BZ (m:=60) (by lia) (by decide),some (.int (0+i)) :: e,_,rfl,true,_,rfl,.inl ⟨rfl,.ref (S++GR i λ_=>[]).length,_,rfl,⟨_,rfl⟩,(Zz S i).symm,?_⟩⟩;unfold E3;rw [Qa,C2,AU,IM]
   rfl)
 rw [Yb] at q1;exact (TH hi).trans q1
abbrev Xv:MS:=BN (GP (Od (m2 ixA (AG 2) (AG 3)) (AG 4))) (GP (Od (m2 ixA (AG 2) (AG 4)) (AG 3)))
def In (p:Nat) (t:Int×Int):Prop:=0<=t.1/\t.1 < p/\0<=t.2/\t.2 < p/\t.1≠t.2
theorem YY {p:Nat} {S:Sto} {F:Nat->List Int} {t:Int×Int} {d0 d1:D} (ht:In p t) (hF:∀x,(F x).length < 200000) :
  Xv [some d0,some d1,some (.ref (S.length+p)),some (.int t.1),some (.int t.2)] (stN S p F)=.ok (.nx [some d0,some d1,some (.ref (S.length+p)),some (.int t.1),some (.int t.2)])
   (stN S p λx=>F x++((if t.1=(x:Int) then [t.2] else [])++(if t.2=(x:Int) then [t.1] else []))):=by
 obtain ⟨a,ha⟩:∃a:Nat,t.1=a:=⟨t.1.toNat,by have:=ht.1;lia⟩
 obtain ⟨b,hb⟩:∃b:Nat,t.2=b:=⟨t.2.toNat,by have:=ht.2.2.1;lia⟩
 obtain ⟨_,h2,_,h4,h5⟩:=ht
 have hab:a≠b:=λe=>h5 (by rw [ha,hb,e])
 rw [ha,hb]
 have hz:∀x,((F x).map D.int).length < sizeLine:=λx=>by rw [AI];exact lB (hF x) (by decide)
 have s1:=TU (mo:=m2 ixA (AG 2) (AG 3)) (ma:=AG 4) (e:=[some d0,some d1,some (.ref (S.length+p)),some (.int a),some (.int b)]) (S:=stN S p F) (S1:=stN S p F) (S2:=stN S p F) (n:=S.length+a) (y:=.int b) (Dj rfl rfl (Xb F (by lia))) (Jv S F (by lia)) rfl (Jv S F (by lia)) (hz a);rw [show (F a).map D.int++[D.int b]=(F a++[(b:Int)]).map D.int by simp,XI S F _ (by lia)] at s1
 have hrow:(stN S p λx=>if x=a then F a++[(b:Int)] else F x)[S.length+b]?=some (.lst ((F b).map D.int)):=by
  rw [Jv S _ (by lia),if_neg (Bo hab)]
 have s2:=TU (mo:=m2 ixA (AG 2) (AG 4)) (ma:=AG 3) (e:=[some d0,some d1,some (.ref (S.length+p)),some (.int a),some (.int b)]) (S:=stN S p λx=>if x=a then F a++[(b:Int)] else F x) (S1:=stN S p λx=>if x=a then F a++[(b:Int)] else F x) (S2:=stN S p λx=>if x=a then F a++[(b:Int)] else F x) (n:=S.length+b) (y:=.int a) (Dj rfl rfl (Xb _ (by lia))) hrow rfl hrow (hz b);rw [show (F b).map D.int++[D.int a]=(F b++[(a:Int)]).map D.int by simp,XI S _ _ (by lia)] at s2;unfold Xv;rw [CV (Lk s1),Lk s2]
 congr 2
 funext x
 by_cases e1:x=b
 ·subst e1
  have:¬((a:Int)=(x:Int)):=by lia
  simp [this]
 ·by_cases e2:x=a
  ·subst e2
   have:¬((b:Int)=(x:Int)):=by lia
   simp [e1,this]
  ·have h1:¬((a:Int)=(x:Int)):=by lia
   have h2:¬((b:Int)=(x:Int)):=by lia
   simp [e1,e2,h1,h2]
end M
namespace M
open PySem L2
theorem WB (ts:List (Int×Int)) (x:Nat):(Cq ts x).length<=2 * ts.length:=by
 unfold Cq
 induction ts with
 | nil=>simp
 | cons t ts ih=>
  rw [DM,AU,Ao]
  have:((if t.1=(x:Int) then [t.2] else [])++(if t.2=(x:Int) then [t.1] else [])).length<=2:=by split <;> split <;> simp
  lia
def Nf (p:Nat) (ts:List (Int×Int)):List D:=(Cw p).map λx=>.tup ((Cp (Cq ts x)).map D.int)
theorem eS (W:Wd) {p:Nat} (hp:p<=60) {ts:List (Int×Int)} (ht:∀t∈ts,In p t) (hl:ts.length<=90000) (S:Sto) :
  ∃S',Gg W [.int p,.tup (ts.map pairD)] S=.ok (.tup (Nf p ts)) S'/\Keeps S S':=by
 have a1:=JE (i:=2) (WA (YZ hp (mp:=AG 0) (e:=[some (.int p),some (.tup (ts.map pairD)),none,none,none]) (S:=S) rfl));have e1:(S++GR p λ_=>[])++[.lst (E3 S.length p)]=stN S p (Cq []):=rfl
 have e2:(S++GR p λ_=>[]).length=S.length+p:=by simp [IM]
 rw [e1,e2] at a1
 obtain ⟨f,S1,h1,⟨z3,z4,rfl⟩,rfl⟩:=Ny (v:=Gr (ts.map pairD)) (g:=KW 2 (D1 (tgN 3) (D1 (tgN 4) Kt))) (b:=Xv) (xs:=ts.map pairD) (e:=[some (.int p),some (.tup (ts.map pairD)),some (.ref (S.length+p)),none,none]) (S:=stN S p (Cq []))
  (λi e S'=>(∃z3 z4,e=[some (.int p),some (.tup (ts.map pairD)),some (.ref (S.length+p)),z3,z4])/\S'=stN S p (Cq (ts.take i)))
  (λf S'=>(∃z3 z4,f=.nx [some (.int p),some (.tup (ts.map pairD)),some (.ref (S.length+p)),z3,z4])/\S'=stN S p (Cq ts))
  ⟨⟨none,none,rfl⟩,rfl⟩ (λ_ _ _ _=>rfl)
  (by
   rintro i y e S' hy ⟨⟨z3,z4,rfl⟩,rfl⟩;rw [As] at hy
   cases hx:ts[i]? with
   | none=>rw [hx] at hy;cases hy
   | some t=>
    rw [hx] at hy;cases hy;refine ⟨[some (.int p),some (.tup (ts.map pairD)),some (.ref (S.length+p)),some (.int t.1),some (.int t.2)],_,rfl,_,_,YY (ht t (CJ hx)) (λx=>?_),⟨_,_,rfl⟩,?_⟩
    ·have:=WB (ts.take i) x
     rw [C9] at this;exact BZ (Am this (Nat.mul_le_mul_left 2 (Am (cW _ _) hl))) (by decide)
    ·rw [take_snoc hx,show Cq (ts.take i++[t])=_ from funext λx=>UZ _ _ x])
  (by
   rintro e S' ⟨⟨z3,z4,rfl⟩,rfl⟩;rw [AI,cK]
   exact ⟨⟨_,_,rfl⟩,rfl⟩)
 have a2:=(LF (g:=KW 2 (D1 (tgN 3) (D1 (tgN 4) Kt))) (b:=Xv) (QF (m:=AG 1) (e:=[some (.int p),some (.tup (ts.map pairD)),some (.ref (S.length+p)),none,none]) (S:=stN S p (Cq [])) (S1:=stN S p (Cq [])) (xs:=ts.map pairD) rfl)).trans h1
 obtain ⟨r,S2,q1,e',⟨z,_⟩,K,rfl⟩:=Xr (v:=GJ (.ref (S.length+p))) (g:=tgN 0) (c:=Gu) (m:=G6 (D6 (AG 0))) (xs:=E3 S.length p) (e:=[none,some (.int p),some (.tup (ts.map pairD)),some (.ref (S.length+p)),z3,z4]) (S:=stN S p (Cq ts))
  (λi e' S' acc=>(∃z,e'=[z,some (.int p),some (.tup (ts.map pairD)),some (.ref (S.length+p)),z3,z4])/\Keeps (stN S p (Cq ts)) S'/\acc=(Cw i).map λx=>.tup ((Cp (Cq ts x)).map D.int))
  ⟨⟨none,rfl⟩,.refl _,rfl⟩ (λi e' S' acc h=>Ej (h.2.1.at (Ku S p _)))
  (by
   rintro i d e' S' acc hd ⟨⟨z,rfl⟩,K,rfl⟩
   have hi:i < p:=by
    have:=(AH.mp hd).1;simpa [E3] using this
   unfold E3 at hd;rw [As,DV hi] at hd;cases hd;have hit:J5 (.ref (S.length+i)) S'=some ((Cq ts i).map D.int):=MV (K.at (Jv S _ hi));have hs:=JV (m:=AG 0) (e:=[some (.ref (S.length+i)),some (.int p),some (.tup (ts.map pairD)),some (.ref (S.length+p)),z3,z4]) (S:=S') (S1:=S') rfl hit (Vw _);refine ⟨by simp;exact BZ (m:=60) (by lia) (by decide),[some (.ref (S.length+i)),some (.int p),some (.tup (ts.map pairD)),some (.ref (S.length+p)),z3,z4],_,rfl,true,_,rfl,.inl ⟨rfl,_,_,Mv hs (GM (FQ _ _)),⟨_,rfl⟩,K.trans (Keeps.app _ _),?_⟩⟩;rw [Qa,C2]
   rfl)
 have a3:=(TH (n:=1) (g:=tgN 0) (c:=Gu) (m:=G6 (D6 (AG 0))) (LC (m:=AG 2) (e:=[some (.int p),some (.tup (ts.map pairD)),some (.ref (S.length+p)),z3,z4]) (S:=stN S p (Cq ts)) (S1:=stN S p (Cq ts)) rfl (Ku S p _))).trans q1;rw [show (E3 S.length p).length=p by simp [E3]] at a3;refine ⟨S2++[.lst (Nf p ts)],Nj ?_,((Nc S p _).trans K).trans (Keeps.app _ _)⟩;unfold LP;refine On (CV a1) ?_;refine On (CV a2) ?_;exact MD (Mv (WA a3) (GM (FQ _ _)))
end M
namespace M
open PySem L2
open Srt (ltL)
def toP (r:List Int):Int×Int:=(r.getD 0 0,r.getD 1 0)
def Ed (ps:List (Int×Int)):List (Int×Int):=(Ju ps).map toP
theorem Pg {ps:List (Int×Int)} {r:List Int} (h:r∈Ju ps):∃x∈ps,r=SY (nrm x):=by
 have:=(Fm _).mem_iff.mp h;obtain ⟨x,hx,rfl⟩:=A4.mp this;exact ⟨x,hx,rfl⟩
theorem YK (ps:List (Int×Int)):(Ed ps).map SY=Ju ps:=by
 unfold Ed;rw [BU]
 conv=>rhs;rw [<-Wt (Ju ps)]
 refine EJ λr hr=>?_
 obtain ⟨x,_,rfl⟩:=Pg hr;rfl
theorem Vr (ps:List (Int×Int)):(Ju ps).map Lr=(Ed ps).map pairD:=by
 rw [<-YK,BU];rfl
theorem Zv {ps:List (Int×Int)} {t:Int×Int} (h:t∈Ed ps):∃x∈ps,t=nrm x:=by
 obtain ⟨r,hr,rfl⟩:=A4.mp h;obtain ⟨x,hx,rfl⟩:=Pg hr;exact ⟨x,hx,rfl⟩
theorem Nb (ps:List (Int×Int)):(Ed ps).Perm (ps.map nrm):=by
 unfold Ed Ju;have:=(Fm (ps.map λx=>SY (nrm x))).map toP;refine this.trans ?_;rw [BU];exact Wu rfl
theorem jU (x:Int×Int):(nrm x).1<=(nrm x).2:=by
 unfold nrm;dsimp only
 split <;> split <;> lia
theorem Fit.in {p:Nat} {x:Int×Int} (h:Fit p x):In p (nrm x):=by
 obtain ⟨h1,h2,h3⟩:=h;have:=jU x;exact ⟨h2,by lia,by lia,h3,h1⟩
theorem mL:¬(("places" : Str) = "ties"):=by decide +kernel
theorem mM:¬(("places" : Str) = "near_sets"):=by decide +kernel
theorem mK:¬(("ties" : Str) = "near_sets"):=by decide +kernel
theorem put2 (a b:D):OY "ties" b [(("places" : Str),a)]=([("places",a),("ties",b)]:List (Str×D)):=by
 show (if ("places" : Str) = "ties" then _ else _)=_;rw [if_neg mL];rfl
theorem put3 (a b c:D):OY "near_sets" c [(("places" : Str),a),("ties",b)]=([("places",a),("ties",b),("near_sets",c)]:List (Str×D)):=by
 show (if ("places" : Str) = "near_sets" then _ else _)=_;rw [if_neg mM]
 have:OY "near_sets" c [(("ties" : Str),b)]=([("ties",b),("near_sets",c)]:List (Str×D)):=by
  show (if ("ties" : Str) = "near_sets" then _ else _)=_;rw [if_neg mK];rfl
 rw [this]
theorem mT (a b c:D):([("places",a),("ties",b),("near_sets",c)]:List (Str×D)).lookup ("places" : Str)=some a:=by
 rw [Ci,show (("places" : Str)=="places")=true by decide +kernel]
theorem mS (a b c:D):([("places",a),("ties",b),("near_sets",c)]:List (Str×D)).lookup ("near_sets" : Str)=some c:=by
 rw [Ci,show (("near_sets" : Str)=="places")=false by decide +kernel];dsimp only;rw [Ci,show (("near_sets" : Str)=="ties")=false by decide +kernel];dsimp only;rw [Ci,show (("near_sets" : Str)=="near_sets")=true by decide +kernel]
theorem ja (a b:D):([("places",a),("ties",b)]:List (Str×D)).lookup ("ties" : Str)=some b:=by
 rw [Ci,show (("ties" : Str)=="places")=false by decide +kernel];dsimp only;rw [Ci,show (("ties" : Str)=="ties")=true by decide +kernel]
end M
namespace M
open PySem L2 L4
def Eu (W:Wd) (w:Nat×List (Int×Int)):Ob:=.ins W.Web [("places",.int w.1),("ties",.tup (w.2.map pairD)),("near_sets",.tup (Nf w.1 w.2))]
def No (p:Nat) (ts:List (Int×Int)):List (List Int):=(Cw p).map λx=>Cp (Cq ts x)
theorem ao (p:Nat) (ts:List (Int×Int)):D.tup (Nf p ts)=eT (eT D.int) (No p ts):=by
 unfold Nf No eT;rw [BU];rfl
open Classical in
def Za (x:Int) (l:List (Int×Int)):Option (Nat×List (Int×Int)):=if 1<=x/\x<=60/\E5 x l/\l.length<=90000 then some (x.toNat,Ed l) else none
section
variable {W:Wd} {A:List Sl} {a b m:ME} {p:Option (Nat×List (Int×Int))}
theorem W5 {α:Type} {f:Str} {enc:α->D} {g:Nat×List (Int×Int)->α} (h:VE A m (rO (Eu W)) p) (hl:∀w,([("places",D.int w.1),("ties",.tup (w.2.map pairD)),("near_sets",.tup (Nf w.1 w.2))]:List (Str×D)).lookup f=some (enc (g w))):VE A (Oc W.Web f m) (rV enc) (p.bind λw=>some (g w)):=λv hv S0 e F S hs=>by
 obtain ⟨w,h1,h2⟩:=Ax hv;cases h2;obtain ⟨d,S',h3,h4,n,rfl,hn⟩:=h w h1 S0 e F S hs;exact ⟨_,S',bd h3 hn (hl w),h4,rfl⟩
theorem NW (h:VE A m (rO (Eu W)) p):VE A (Oc W.Web "places" m) (rV D.int) (p.bind λw=>some (w.1:Int)):=W5 h λw=>mT _ _ _
theorem dA (h:VE A m (rO (Eu W)) p):VE A (Oc W.Web "near_sets" m) (rV (eT (eT D.int))) (p.bind λw=>some (No w.1 w.2)):=W5 h λw=>by rw [<-ao];exact mS _ _ _
theorem g8 (W:Wd) {p:Nat} (h1:1<=p) (hp:p<=60) {d:D} {S:Sto} {ps:List (Int×Int)} (hv:∀S',Keeps S S'->GJ d S'=some (ps.map pairD)) (hl:ps.length<=90000) (hf:E5 p ps) {e:Lo} {ml:ML} {S0:Sto} (ha:ml e S0=.ok [.int p,d] S) :
  ∃S',Rg W.Web 3 (KF W) ml e S0=.ok (.ref S.length) S'/\Keeps S S'/\S'[S.length]?=some (Eu W (p,Ed ps)):=by
 have t0:MU (mB (m3 leD leD (mC (.int 1)) (AG 1) (mC (.int 60)))) [some (.ref S.length),some (.int p),some d] (S++[.ins W.Web []])=.ok false (S++[.ins W.Web []]):=
  MP (b:=true) (RF (gX (S3:=S++[.ins W.Web []]) rfl rfl (bD (decide_eq_true (by omega))) rfl (bD (decide_eq_true (by omega)))))
 have hq0:(S++[Ob.ins W.Web []])[S.length]?=some (.ins W.Web []):=FQ _ _;have e1:=SR (C:=W.Web) (f:="places") (mo:=AG 0) (mv:=AG 1) (e:=[some (.ref S.length),some (.int p),some d]) (S:=S++[.ins W.Web []]) (v:=.int p) rfl rfl hq0 (by decide);have K1:Keeps S ((S++[Ob.ins W.Web []]).set S.length (.ins W.Web (OY "places" (.int p) []))):=(Keeps.app S _).set (AT _) _;generalize hS1:(S++[Ob.ins W.Web []]).set S.length (.ins W.Web (OY "places" (.int p) []))=S1 at e1 K1
 have hq1:S1[S.length]?=some (.ins W.Web [("places",.int p)]):=by rw [<-hS1];exact A6 (by simp)
 obtain ⟨S2,c2,K2⟩:=TL W (p:=p) (d:=d) (S:=S1) (ps:=ps) (λS' k=>hv S' (K1.trans k)) (Am hl (by decide)) hf;rw [Vr] at c2;have e2:=SR (C:=W.Web) (f:="ties") (mo:=AG 0) (mv:=B7 2 (Gh W) (AR (AG 1) (AR (AG 2) BH))) (e:=[some (.ref S.length),some (.int p),some d]) (S:=S1) ((NH rfl rfl).trans c2) rfl (K2.at hq1) (by simp);have K3:Keeps S (S2.set S.length (.ins W.Web (OY "ties" (.tup ((Ed ps).map pairD)) [("places",.int p)]))):=(K1.trans K2).set (AT _) _;rw [put2] at e2 K3;have hlt2:S.length < S2.length:=(AH.mp (K2.at hq1)).1;generalize hS3:S2.set S.length (.ins W.Web [("places",.int p),("ties",.tup ((Ed ps).map pairD))])=S3 at e2 K3
 have hq3:S3[S.length]?=some (.ins W.Web [("places",.int p),("ties",.tup ((Ed ps).map pairD))]):=by rw [<-hS3];exact A6 hlt2
 obtain ⟨S4,c4,K4⟩:=eS W hp (ts:=Ed ps) (λt ht=>by
  obtain ⟨x,hx,rfl⟩:=Zv ht
  exact (hf.1 x hx).in) (by rw [(Nb ps).length_eq,AI];exact hl) S3
 have e3:=SR (C:=W.Web) (f:="near_sets") (mo:=AG 0) (mv:=B7 2 (Gg W) (AR (AG 1) (AR (Oc W.Web "ties" (AG 0)) BH))) (e:=[some (.ref S.length),some (.int p),some d]) (S:=S3)
  ((NH (Cg (S1:=S3) rfl (Cg (bd rfl hq3 (ja _ _)) rfl)) rfl).trans c4) rfl (K4.at hq3) (by simp)
 have hlt4:S.length < S4.length:=(AH.mp (K4.at hq3)).1;rw [put3] at e3;refine ⟨_,eV ha rfl (Z8 (e:=[some (.ref S.length),some (.int p),some d]) ?_),(K3.trans K4).set (AT _) _,A6 hlt4⟩;unfold QY;refine On (CV (e:=[some (.ref S.length),some (.int p),some d]) (e1:=[some (.ref S.length),some (.int p),some d]) (S1:=S++[.ins W.Web []]) (On (Gs t0) rfl)) ?_;rw [CV e1,CV e2];exact e3
theorem hW {pa:Option Int} {pl:Option (List (Int×Int))} (ha:VE A a (rV D.int) pa) (hb:VE A b (rO (oL (eP D.int D.int))) pl):VE A (Rg W.Web 3 (KF W) (AR a (AR b BH))) (rN (Eu W)) (pa.bind λx=>pl.bind λl=>Za x l):=λv hv S0 e F S hs=>by
 obtain ⟨x,h1,hv⟩:=Ax hv;obtain ⟨l,h2,h3⟩:=Ax hv;obtain ⟨d1,S1,q1,k1,rfl⟩:=ha x h1 S0 e F S hs;obtain ⟨d2,S2,q2,k2,n,rfl,hn⟩:=hb l h2 S0 e _ S1 (hs.grow k1);unfold Za at h3;split at h3
 ·rename_i hc
  cases h3;obtain ⟨c1,c2,c3,c4⟩:=hc;have hx:((x.toNat:Nat):Int)=x:=CT (by omega);obtain ⟨S3,h5,h6,h7⟩:=g8 W (p:=x.toNat) (d:=.ref n) (S:=S2) (ps:=l) (by omega) (by omega) (λS' k=>Ej (k.at hn)) c4 (by rw [hx];exact c3) (ml:=AR a (AR b BH)) (e:=e) (S0:=S) (by rw [hx];exact Cg q1 (Cg q2 rfl));exact ⟨_,S3,h5,(k1.trans k2).trans h6,_,rfl,(k1.trans k2).1,h7⟩
 ·cases h3
end
end M
namespace M
open PySem L2 L4
def K2 (h s:Nat) (S S':Sto):Prop:=S.length<=S'.length/\∀j,j < S.length->j≠h->j≠s->S'[j]?=S[j]?
theorem K2.trans {h s:Nat} {S S1 S2:Sto} (a:K2 h s S S1) (b:K2 h s S1 S2):K2 h s S S2:=⟨Am a.1 b.1,λj q q1 q2=>(b.2 j (Ag q a.1) q1 q2).trans (a.2 j q q1 q2)⟩
theorem K2.of {h s:Nat} {S S1:Sto} (a:Keeps S S1):K2 h s S S1:=⟨a.1,λj q _ _=>a.2 j q⟩
theorem K2.seth {h s:Nat} {S S1:Sto} (a:K2 h s S S1) (o:Ob):K2 h s S (S1.set h o):=⟨by rw [Kp];exact a.1,λj q q1 q2=>by rw [At (Bo q1)];exact a.2 j q q1 q2⟩
theorem K2.sets {h s:Nat} {S S1:Sto} (a:K2 h s S S1) (o:Ob):K2 h s S (S1.set s o):=⟨by rw [Kp];exact a.1,λj q q1 q2=>by rw [At (Bo q2)];exact a.2 j q q1 q2⟩
theorem K2.at {h s j:Nat} {S S1:Sto} {o:Ob} (a:K2 h s S S1) (hj:S[j]?=some o) (h1:j≠h) (h2:j≠s):S1[j]?=some o:=by rw [a.2 j (Bl hj) h1 h2];exact hj
def Tk (takes:List (List Int)) (g:Int):List Int:=(atI takes g).getD []
theorem kC {κv:Type} {enc:κv->D} {l:List (Int×κv)} {S:Sto} {n:Nat} (hn:S[n]?=some (oDK enc l)) (hl:l.length < 1000000) (k:Int) (v:κv):Uv (.ref n) (.int k) (enc v) S=some (S.set n (oDK enc (CW l k v))):=by
 unfold Uv;dsimp only;rw [hn];show (if (l.map _).length < sizeLine then some (S.set n (.dK (CW (l.map λx=>(FV x.1,enc x.2)) (FV k) (enc v)))) else none)=_;rw [if_pos (by rw [AI];exact az hl),US Xd];rfl
theorem O8 {κv:Type} {enc:κv->D} {l:List (Int×κv)} {mo mi mv:ME} {e:Lo} {S:Sto} {n:Nat} {k:Int} {v:κv} (hv:mv e S=.ok (enc v) S) (ho:mo e S=.ok (.ref n) S) (hi:mi e S=.ok (.int k) S) (hn:S[n]?=some (oDK enc l)) (hl:l.length < 1000000):D2 mo mi mv e S=.ok (.nx e) (S.set n (oDK enc (CW l k v))):=by
 unfold D2;rw [hv];dsimp only [Res.lift];rw [ho];dsimp only;rw [hi];dsimp only;rw [kC hn hl]
theorem Jy {κ α:Type} [DecidableEq κ] {l l':List (κ×α)} {k:κ} {v:α} (h:Kx l k v=some l'):l.length < 1000000/\l'=CW l k v:=by
 unfold Kx at h;split at h
 ·rename_i c;cases h;exact ⟨c,rfl⟩
 ·cases h
theorem YG {S:Sto} {tN hN sN:Nat} {takes:List (List Int)} {bits g:Int} {H:HL} {Q:QL} (ht:S[tN]?=some (oL (eT D.int) takes)) (hh:S[hN]?=some (oDK D.int H)) (hs:S[sN]?=some (oDK D.bl Q)) (hne:hN≠sN) :
  ∃F,Vs [] [.z (oL (eT D.int) takes),.v (D.int bits),.w 2 (oDK D.int H),.v (D.int g),.w 4 (oDK D.bl Q),.u,.u] [some (.ref tN),some (.int bits),some (.ref hN),some (.int g),some (.ref sN),none,none] F S:=by
 have t1:tN≠hN:=λc=>by rw [c,hh] at ht;cases ht
 have t2:tN≠sN:=λc=>by rw [c,hs] at ht;cases ht
 refine ⟨λn=>if n=hN then .ow 2 else if n=sN then .ow 4 else match S[n]? with | some o=>.fz o | none=>.no,⟨DI _,λj h=>(nomatch h)⟩,λn o q=>?_,λn i q=>?_,λn hn=>?_,λi a ha=>?_⟩
 ·split at q
  ·cases q
  ·split at q
   ·cases q
   ·cases w:S[n]? with
    | none=>rw [w] at q;cases q
    | some o'=>rw [w] at q;cases q;rfl
 ·refine ⟨DI _,?_⟩
  split at q
  ·rename_i c;rw [c];exact Bl hh
  ·split at q
   ·rename_i c;rw [c];exact Bl hs
   ·cases w:S[n]? with
    | none=>rw [w] at q;cases q
    | some o'=>rw [w] at q;cases q
 ·show (if n=hN then Cel.ow 2 else if n=sN then .ow 4 else match S[n]? with | some o=>.fz o | none=>.no)=_
  rw [if_neg λc=>absurd (Bl hh) (by rw [<-c];omega),if_neg λc=>absurd (Bl hs) (by rw [<-c];omega),Cb hn]
 ·match i,ha with
  | 0,ha=>cases ha;exact ⟨_,rfl,tN,rfl,by show (if tN=hN then Cel.ow 2 else if tN=sN then .ow 4 else match S[tN]? with | some o=>.fz o | none=>.no)=_;rw [if_neg t1,if_neg t2,ht]⟩
  | 1,ha=>cases ha;exact ⟨_,rfl,rfl⟩
  | 2,ha=>cases ha;exact ⟨_,rfl,hN,rfl,if_pos rfl,hh⟩
  | 3,ha=>cases ha;exact ⟨_,rfl,rfl⟩
  | 4,ha=>cases ha;exact ⟨_,rfl,sN,rfl,by show (if sN=hN then Cel.ow 2 else if sN=sN then .ow 4 else match S[sN]? with | some o=>.fz o | none=>.no)=_;rw [if_neg (Bo hne),if_pos rfl],hs⟩
  | 5,ha=>cases ha;exact ⟨_,rfl,trivial⟩
  | 6,ha=>cases ha;exact ⟨_,rfl,trivial⟩
  | i+7,ha=>cases ha
abbrev gU:ME:=Da (Di 1 (Dg (m2 ixA (AG 0) (AG 3))) (tgN 0) (Nr (HU (m2 TX (m2 UG (AG 2) (AG 0)) (mC (.int 1)))) (mB (m2 (inA true) (AG 0) (AG 5)))) (AG 0))
theorem cq {S:Sto} {tN hN sN:Nat} {takes:List (List Int)} {bits g:Int} {H:HL} {Q:QL} (ht:S[tN]?=some (oL (eT D.int) takes)) (hh:S[hN]?=some (oDK D.int H)) (hs:S[sN]?=some (oDK D.bl Q)) (hne:hN≠sN) (hg:0<=g/\g < takes.length) (hT:∀t∈takes,t.length<=1000/\∀x∈t,0<=x) :
  ∃n S',gU [some (.ref tN),some (.int bits),some (.ref hN),some (.int g),some (.ref sN),none,none] S=.ok (.ref n) S'/\Keeps S S'/\S.length<=n/\S'[n]?=some (oL D.int ((Tk takes g).filter λx=>hb bits x&&!(A9 Q x).isSome)):=by
 obtain ⟨F,V⟩:=YG (bits:=bits) (g:=g) ht hh hs hne;obtain ⟨t,e1,-⟩:=Wf (l:=takes) hg.1 hg.2;have tm:=hT t (Xw e1)
 have key:=CC (Co (enc:=D.int) (eb:=D.int) (A:=[.z (oL (eT D.int) takes),.v (D.int bits),.w 2 (oDK D.int H),.v (D.int g),.w 4 (oDK D.bl Q),.u,.u]) (VI.k (Js (Kr (Cf (v:=takes) (i:=0) rfl) (AN (v:=g) (i:=3) rfl))))
  (λx=>Vj (XC (XA (hX (AN (v:=bits) (i:=2) rfl) (AN (v:=x) (i:=0) rfl)) (DB (v:=1) rfl))) (GC (Zn (AN (v:=x) (i:=0) rfl) (Jt (v:=Q) (i:=5) rfl)))) (λx=>AN (v:=x) (i:=0) rfl))
 simp only [AF] at key;rw [e1] at key;simp only [AF] at key
 have ec:EO t (λx=>((dQ bits x).bind λx_1=>some (DA x_1 1)).bind (λx=>some (x != 0)) |>.bind λb=>if b=true then some (!(A9 Q x).isSome) else some false) (λx=>some x)=some (t.filter λx=>hb bits x&&!(A9 Q x).isSome):=HA (by omega) λx hx=>by
  rw [show dQ bits x=some (bits / 2 ^ x.toNat) from if_pos (tm.2 x hx)];show (if (DA (bits / 2 ^ x.toNat) 1 != 0)=true then _ else _)=_;show (if hb bits x=true then _ else _)=_
  cases hb bits x <;> rfl
 obtain ⟨d,S',h1,h2,n,rfl,h3,h4⟩:=key _ ec [] _ F S V;refine ⟨n,S',h1,h2,h3,?_⟩;unfold Tk;rw [e1];exact h4
end M
namespace M
open PySem L2 L4
theorem fN {w:List Int} {p:Int->Bool} {i:Nat} {x:Int} (h:∀j,j < i->∀y,w[j]?=some y->p y=false) (hx:w[i]?=some x) (hp:p x=true):w.find? p=some x:=by
 rw [List.find?_eq_some_iff_getElem];obtain ⟨hi,e⟩:=AH.mp hx;refine ⟨hp,i,hi,e,λj hj=>?_⟩;rw [h j hj _ (BJ (by omega))];rfl
theorem fM {w:List Int} {p:Int->Bool} (h:∀j,j < w.length->∀y,w[j]?=some y->p y=false):w.find? p=none:=by
 rw [Ij];intro x hx hp;obtain ⟨i,hi,e⟩:=Bc hx;rw [h i hi x (by rw [BJ hi,e])] at hp;cases hp
abbrev e7 (tN:Nat) (bits:Int) (hN:Nat) (g:Int) (sN:Nat) (z5 z6:Option D):Lo:=[some (.ref tN),some (.int bits),some (.ref hN),some (.int g),some (.ref sN),z5,z6]
abbrev bS1:MS:=sIf (mB (m2 (inA true) (AG 6) (AG 2))) (BN (D2 (AG 2) (AG 6) (AG 3)) (Ct (mC (.bl true)))) sNx
abbrev bS2 (fr:List D->Sto->Res D):MS:=sIf (mB (m2 (inA true) (AG 6) (AG 4))) (BN (D2 (AG 4) (AG 6) (mC (.bl true)))
  (sIf (HU (B7 5 fr (AR (AG 0) (AR (AG 1) (AR (AG 2) (AR (m2 ixA (AG 2) (AG 6)) (AR (AG 4) BH))))))) (BN (D2 (AG 2) (AG 6) (AG 3)) (Ct (mC (.bl true)))) sNx)) sNx
theorem gZ {κv:Type} {enc:κv->D} {l:List (Int×κv)} {S:Sto} {n:Nat} (hn:S[n]?=some (oDK enc l)) (x:Int):inA true (.int x) (.ref n) S=.ok (.bl (!(A9 l x).isSome)) S:=by
 rw [TD (ie hn) (br hn x)];simp
theorem mW {κv:Type} {enc:κv->D} {l:List (Int×κv)} {S:Sto} {n:Nat} {x:Int} {v:κv} (hn:S[n]?=some (oDK enc l)) (hv:A9 l x=some v):ixA (.ref n) (.int x) S=.ok (enc v) S:=bp (ie hn) (by rw [br hn x,hv];rfl)
theorem YT (W:Wd) {takes:List (List Int)} {bits:Int} (hT:∀t∈takes,t.length<=1000/\∀x∈t,0<=x):∀(n:Nat) (H:HL) (g:Int) (Q:QL) (z:Bool×HL×QL),HF (Tk takes) bits n H g Q=some z->0<=g/\g < takes.length->(∀x a,A9 H x=some a->0<=a/\a < takes.length)->(∀x a,A9 z.2.1 x=some a->0<=a/\a < takes.length) /\
  ∀(S:Sto) (tN hN sN:Nat),S[tN]?=some (oL (eT D.int) takes)->S[hN]?=some (oDK D.int H)->S[sN]?=some (oDK D.bl Q)->hN≠sN->∃S',Fb W n [.ref tN,.int bits,.ref hN,.int g,.ref sN] S=.ok (.bl z.1) S'/\S'[hN]?=some (oDK D.int z.2.1)/\S'[sN]?=some (oDK D.bl z.2.2)/\K2 hN sN S S':=by
 intro n
 induction n with
 | zero=>intro H g Q z hz;cases hz
 | succ n ih=>
  intro H g Q z hz hg hG;unfold HF at hz
  have hput:∀(H:HL) (x:Int),(∀x a,A9 H x=some a->0<=a/\a < takes.length)->∀y a,A9 (CW H x g) y=some a->0<=a/\a < takes.length:=λH x hG y a e=>by
   rw [DO] at e;split at e
   ·cases e;exact hg
   ·exact hG y a e
  have lp:∀(r:List Int) (Hc:HL) (Qc:QL),(∀x a,A9 Hc x=some a->0<=a/\a < takes.length)->L3 (HF (Tk takes) bits n) g r Hc Qc=some z->∀x a,A9 z.2.1 x=some a->0<=a/\a < takes.length:=by
   intro r
   induction r with
   | nil=>intro Hc Qc hc e;cases e;exact hc
   | cons x r ih2=>
    intro Hc Qc hc e;unfold L3 at e;split at e
    ·exact ih2 Hc Qc hc e
    ·obtain ⟨Q1,-,e⟩:=Ax e
     obtain ⟨g2,e2,e⟩:=Ax e;obtain ⟨z2,e3,e⟩:=Ax e;have:=(ih Hc g2 Q1 z2 e3 (hc x g2 e2) hc).1;split at e
     ·obtain ⟨H',e4,e5⟩:=Ax e
      cases e5;rw [(Jy e4).2];exact hput _ x this
     ·exact ih2 _ _ this e
  refine ⟨?_,λS tN hN sN ht hh hs hne=>?_⟩
  ·split at hz
   ·obtain ⟨H',e4,e5⟩:=Ax hz
    cases e5;rw [(Jy e4).2];exact hput _ _ hG
   ·exact lp _ _ _ hG hz
  ·have t1:tN≠hN:=λc=>by rw [c,hh] at ht;cases ht
   have t2:tN≠sN:=λc=>by rw [c,hs] at ht;cases ht
   obtain ⟨wN,S1,w1,w2,w3,w4⟩:=cq (bits:=bits) ht hh hs hne hg hT;generalize (Tk takes g).filter (λx=>hb bits x&&!(A9 Q x).isSome)=w at hz w4
   have wh:wN≠hN:=λc=>absurd (Bl hh) (by omega)
   have ws:wN≠sN:=λc=>absurd (Bl hs) (by omega)
   have s5:CP 5 gU (Hb 7 [.ref tN,.int bits,.ref hN,.int g,.ref sN]) S=.ok (.nx (e7 tN bits hN g sN (some (.ref wN)) none)) S1:=JE (i:=5) w1;have hh1:=w2.at hh;have hs1:=w2.at hs;have ht1:=w2.at ht;have k1:K2 hN sN S S1:=K2.of w2
   have it:∀z6 S',S'[wN]?=some (oL D.int w)->Dg (AG 5) (e7 tN bits hN g sN (some (.ref wN)) z6) S'=.ok (GJ (.ref wN)) S':=λz6 S' h=>LC (n:=wN) rfl h
   obtain ⟨f,S2,q1,q2⟩:=Ny (v:=GJ (.ref wN)) (g:=tgN 6) (b:=bS1) (xs:=w.map D.int) (e:=e7 tN bits hN g sN (some (.ref wN)) none) (S:=S1)
    (λi e S'=>(∃z6,e=e7 tN bits hN g sN (some (.ref wN)) z6)/\S'=S1/\∀j,j < i->∀y,w[j]?=some y->(!(A9 H y).isSome)=false)
    (λf S'=>((∃z6,f=.nx (e7 tN bits hN g sN (some (.ref wN)) z6))/\S'=S1/\w.find? (λx=>!(A9 H x).isSome)=none)∨∃x,w.find? (λx=>!(A9 H x).isSome)=some x/\f=.rt (.bl true)/\S'=S1.set hN (oDK D.int (CW H x g)))
    ⟨⟨none,rfl⟩,rfl,λj hj=>absurd hj (Nat.not_lt_zero j)⟩ (by rintro i e S' ⟨_,rfl,_⟩;exact Ej w4)
    (by
     rintro i d e S' hd ⟨⟨z6,rfl⟩,rfl,hb'⟩;rw [As] at hd
     cases hx:w[i]? with
     | none=>rw [hx] at hd;cases hd
     | some x=>
      rw [hx] at hd;cases hd;refine ⟨e7 tN bits hN g sN (some (.ref wN)) (some (.int x)),S',rfl,?_⟩;have tst:mB (m2 (inA true) (AG 6) (AG 2)) (e7 tN bits hN g sN (some (.ref wN)) (some (.int x))) S'=.ok (!(A9 H x).isSome) S':=RF (Dj rfl rfl (gZ hh1 x))
      cases c:(A9 H x).isSome with
      | true=>
       rw [c] at tst;refine ⟨_,S',(Gs tst).trans rfl,⟨_,rfl⟩,rfl,λj hj y hy=>?_⟩
       by_cases q:j=i
       ·subst q;rw [hx] at hy;cases hy;rw [c];rfl
       ·exact hb' j (by omega) y hy
      | false=>
       rw [c] at tst;have hf:w.find? (λx=>!(A9 H x).isSome)=some x:=fN hb' hx (by rw [c];rfl);rw [hf] at hz;obtain ⟨H',e4,e5⟩:=Ax hz;obtain ⟨hl,-⟩:=Jy e4;have dp:=O8 (mo:=AG 2) (mi:=AG 6) (mv:=AG 3) (e:=e7 tN bits hN g sN (some (.ref wN)) (some (.int x))) (k:=x) (v:=g) rfl rfl rfl hh1 hl
       exact ⟨.rt (.bl true),_,(Gs tst).trans ((if_pos rfl).trans ((CV dp).trans rfl)),.inr ⟨x,hf,rfl,rfl⟩⟩)
    (by
     rintro e S' ⟨⟨z6,rfl⟩,rfl,hb'⟩;rw [AI] at hb'
     exact .inl ⟨⟨z6,rfl⟩,rfl,fM hb'⟩)
   have run:∀ {S':Sto} {d:D},U1 W (Fb W n) (Hb 7 [.ref tN,.int bits,.ref hN,.int g,.ref sN]) S=.ok (.rt d) S'->Fb W (n+1) [.ref tN,.int bits,.ref hN,.int g,.ref sN] S=.ok d S':=λh=>Nj h
   rcases q2 with ⟨⟨z6,rfl⟩,rfl,hf⟩ | ⟨x,hf,rfl,rfl⟩
   ·rw [hf] at hz
    dsimp only at hz
    obtain ⟨f,S3,p1,p2⟩:=Ny (v:=GJ (.ref wN)) (g:=tgN 6) (b:=bS2 (Fb W n)) (xs:=w.map D.int) (e:=e7 tN bits hN g sN (some (.ref wN)) z6) (S:=S2)
     (λi e S'=>(∃z6,e=e7 tN bits hN g sN (some (.ref wN)) z6)/\S'[wN]?=some (oL D.int w)/\K2 hN sN S S'/\∃Hc Qc,S'[hN]?=some (oDK D.int Hc)/\S'[sN]?=some (oDK D.bl Qc)/\(∀x a,A9 Hc x=some a->0<=a/\a < takes.length)/\L3 (HF (Tk takes) bits n) g (w.drop i) Hc Qc=some z)
     (λf S'=>K2 hN sN S S'/\S'[hN]?=some (oDK D.int z.2.1)/\S'[sN]?=some (oDK D.bl z.2.2)/\((f=.rt (.bl true)/\z.1=true)∨((∃z6,f=.nx (e7 tN bits hN g sN (some (.ref wN)) z6))/\z.1=false)))
     ⟨⟨z6,rfl⟩,w4,k1,H,Q,hh1,hs1,hG,hz⟩ (by rintro i e S' ⟨_,h,_⟩;exact Ej h)
     (by
      rintro i d e S' hd ⟨⟨z6,rfl⟩,a1,a2,Hc,Qc,a3,a4,a5,a6⟩;rw [As] at hd
      cases hx:w[i]? with
      | none=>rw [hx] at hd;cases hd
      | some x=>
       rw [hx] at hd;cases hd;obtain ⟨hi,ex⟩:=AH.mp hx;rw [Be hi,ex] at a6;unfold L3 at a6;refine ⟨e7 tN bits hN g sN (some (.ref wN)) (some (.int x)),S',rfl,?_⟩;have tst:mB (m2 (inA true) (AG 6) (AG 4)) (e7 tN bits hN g sN (some (.ref wN)) (some (.int x))) S'=.ok (!(A9 Qc x).isSome) S':=RF (Dj rfl rfl (gZ a4 x))
       cases c:(A9 Qc x).isSome with
       | true=>
        rw [c] at tst;rw [if_pos c] at a6;exact ⟨_,S',(Gs tst).trans rfl,⟨_,rfl⟩,a1,a2,Hc,Qc,a3,a4,a5,a6⟩
       | false=>
        rw [c] at tst;rw [if_neg (by rw [c];exact AQ)] at a6;obtain ⟨Q1,b1,a7⟩:=Ax a6;obtain ⟨g2,b2,a8⟩:=Ax a7;obtain ⟨z2,b3,a9⟩:=Ax a8;obtain ⟨hl,rfl⟩:=Jy b1
        clear a6 a7 a8
        have dp:=O8 (enc:=D.bl) (mo:=AG 4) (mi:=AG 6) (mv:=mC (.bl true)) (e:=e7 tN bits hN g sN (some (.ref wN)) (some (.int x))) (k:=x) (v:=true) rfl rfl rfl a4 hl;have hsl:=Bl a4
        have c3:(S'.set sN (oDK D.bl (CW Qc x true)))[hN]?=some (oDK D.int Hc):=by rw [At (Bo hne)];exact a3
        have c4:(S'.set sN (oDK D.bl (CW Qc x true)))[sN]?=some (oDK D.bl (CW Qc x true)):=A6 hsl
        have c5:(S'.set sN (oDK D.bl (CW Qc x true)))[tN]?=some (oL (eT D.int) takes):=by rw [At (Bo t2)];exact a2.at ht t1 t2
        have c1:(S'.set sN (oDK D.bl (CW Qc x true)))[wN]?=some (oL D.int w):=by rw [At (Bo ws)];exact a1
        have c2:=a2.sets (oDK D.bl (CW Qc x true));generalize S'.set sN (oDK D.bl (CW Qc x true))=S4 at dp c1 c2 c3 c4 c5;obtain ⟨r1,r2⟩:=ih Hc g2 (CW Qc x true) z2 b3 (a5 x g2 b2) a5;obtain ⟨S5,r3,r4,r5,r6⟩:=r2 S4 tN hN sN c5 c3 c4 hne;have arg:AR (AG 0) (AR (AG 1) (AR (AG 2) (AR (m2 ixA (AG 2) (AG 6)) (AR (AG 4) BH)))) (e7 tN bits hN g sN (some (.ref wN)) (some (.int x))) S4=.ok [.ref tN,.int bits,.ref hN,.int g2,.ref sN] S4:=Cg rfl (Cg rfl (Cg rfl (Cg (Dj (x:=.ref hN) (y:=.int x) rfl rfl (mW c3 b2)) (Cg rfl rfl))))
        have cal:HU (B7 5 (Fb W n) (AR (AG 0) (AR (AG 1) (AR (AG 2) (AR (m2 ixA (AG 2) (AG 6)) (AR (AG 4) BH)))))) (e7 tN bits hN g sN (some (.ref wN)) (some (.int x))) S4=.ok z2.1 S5:=by
         unfold HU;rw [(NH (n:=5) arg rfl).trans r3];rfl
        have d1:=r6.at c1 wh ws;have d2:=c2.trans r6
        cases hb2:z2.1 with
        | true=>
         rw [hb2] at cal;rw [if_pos hb2] at a9;obtain ⟨H',e4,e5⟩:=Ax a9;obtain ⟨hl2,rfl⟩:=Jy e4;cases e5;have dp2:=O8 (mo:=AG 2) (mi:=AG 6) (mv:=AG 3) (e:=e7 tN bits hN g sN (some (.ref wN)) (some (.int x))) (k:=x) (v:=g) rfl rfl rfl r4 hl2;refine ⟨.rt (.bl true),_,(Gs tst).trans ((if_pos rfl).trans ((CV dp).trans ((Gs cal).trans ((if_pos rfl).trans ((CV dp2).trans rfl))))),d2.seth _,A6 (Bl r4),?_,.inl ⟨rfl,rfl⟩⟩;rw [At hne];exact r5
        | false=>
         rw [hb2] at cal;rw [if_neg (by rw [hb2];exact AQ)] at a9
         exact ⟨_,S5,(Gs tst).trans ((if_pos rfl).trans ((CV dp).trans ((Gs cal).trans rfl))),⟨_,rfl⟩,d1,d2,z2.2.1,z2.2.2,r4,r5,r1,a9⟩)
     (by
      rintro e S' ⟨⟨z6,rfl⟩,a1,a2,Hc,Qc,a3,a4,a5,a6⟩;rw [AI,Kl (AT _)] at a6;unfold L3 at a6;cases a6
      exact ⟨a2,a3,a4,.inr ⟨⟨z6,rfl⟩,rfl⟩⟩)
    obtain ⟨p3,p4,p5,p6⟩:=p2;have l1:=(LF (g:=tgN 6) (b:=bS1) (it none S2 w4)).trans q1;have l2:=(LF (g:=tgN 6) (b:=bS2 (Fb W n)) (it z6 S2 w4)).trans p1
    rcases p6 with ⟨rfl,p6⟩ | ⟨⟨z7,rfl⟩,p6⟩
    ·rw [p6]
     exact ⟨S3,run ((CV s5).trans ((CV l1).trans (Pn l2))),p4,p5,p3⟩
    ·rw [p6]
     exact ⟨S3,run ((CV s5).trans ((CV l1).trans ((CV l2).trans rfl))),p4,p5,p3⟩
   ·rw [hf] at hz
    obtain ⟨H',e4,e5⟩:=Ax hz;obtain ⟨hl,rfl⟩:=Jy e4;cases e5;have l1:=(LF (g:=tgN 6) (b:=bS1) (it none S1 w4)).trans q1;refine ⟨_,run ((CV s5).trans (Pn l1)),A6 (Bl hh1),?_,k1.seth _⟩;rw [At hne];exact hs1
end M
namespace M
open PySem L2 L4
abbrev e5 (tN:Nat) (gs:List Int) (bits:Int) (hN:Nat) (z:Option D):Lo:=[some (.ref tN),some (eT D.int gs),some (.int bits),some (.ref hN),z]
abbrev jY:MT:=HU (m2 TX (m2 UG (AG 2) (AG 4)) (mC (.int 1)))
theorem lP {m:ME} {e:Lo} {S S1:Sto} {b:Bool} (h:m e S=.ok (.bl b) S1):HU m e S=.ok b S1:=by
 unfold HU;rw [h];rfl
theorem lO {m:ME} {e:Lo} {S S1:Sto} {i:Int} (h:m e S=.ok (.int i) S1):HU m e S=.ok (i != 0) S1:=by
 unfold HU;rw [h];rfl
theorem cC {tN hN:Nat} {gs:List Int} {bits g:Int} {S:Sto} (h:0<=g):jY (e5 tN gs bits hN (some (.int g))) S=.ok (hb bits g) S:=by
 have h1:m2 UG (AG 2) (AG 4) (e5 tN gs bits hN (some (.int g))) S=.ok (.int (bits / 2 ^ g.toNat)) S:=Dj rfl rfl (if_pos h);exact lO (Dj (f:=TX) (mb:=mC (.int 1)) (y:=.int 1) h1 rfl rfl)
abbrev bF1:MS:=sIf jY (D2 (AG 3) (AG 4) (AG 4)) sNx
abbrev mP (W:Wd) (n:Nat):ME:=B7 5 (Fb W n) (AR (AG 0) (AR (AG 2) (AR (AG 3) (AR (AG 4) (AR Nq BH)))))
abbrev bF2 (W:Wd) (n:Nat):MS:=sIf (Nr (MU jY) (MU (HU (mP W n)))) (Ct (mC (.bl false))) sNx
theorem fL (W:Wd) {takes:List (List Int)} {gs:List Int} {bits:Int} {b:Bool} (hT:∀t∈takes,t.length<=1000/\∀x∈t,0<=x) (hg:∀g∈gs,0<=g/\g < takes.length) (hb':QJ (Tk takes) bits 9 gs=some b) {S:Sto} {tN:Nat} (ht:S[tN]?=some (oL (eT D.int) takes)) :
  ∃S',QN W [.ref tN,eT D.int gs,.int bits] S=.ok (.bl b) S'/\Keeps S S':=by
 unfold QJ at hb';obtain ⟨Hf,hs,hr⟩:=Ax hb';have s3:CP 3 Nq (Hb 5 [.ref tN,eT D.int gs,.int bits]) S=.ok (.nx (e5 tN gs bits S.length none)) (S++[.dK []]):=rfl;have h0:(S++[Ob.dK []])[S.length]?=some (oDK D.int []):=FQ _ _;have k0:=Keeps.app S [.dK []];have tl:=Bl ht;generalize S++[Ob.dK []]=S0 at s3 h0 k0
 obtain ⟨f,S1,q1,⟨z1,rfl⟩,q2,q3,q4⟩:=Ny (v:=Gr (gs.map D.int)) (g:=tgN 4) (b:=bF1) (xs:=gs.map D.int) (e:=e5 tN gs bits S.length none) (S:=S0)
  (λi e S'=>(∃z,e=e5 tN gs bits S.length z)/\Keeps S S'/\∃Hc,S'[S.length]?=some (oDK D.int Hc)/\(∀x a,A9 Hc x=some a->0<=a/\a < takes.length)/\Pk bits (gs.drop i) Hc=some Hf)
  (λf S'=>(∃z,f=.nx (e5 tN gs bits S.length z))/\Keeps S S'/\S'[S.length]?=some (oDK D.int Hf)/\∀x a,A9 Hf x=some a->0<=a/\a < takes.length)
  ⟨⟨none,rfl⟩,k0,[],h0,λx a e=>(nomatch e),hs⟩ (λ_ _ _ _=>rfl)
  (by
   rintro i d e S' hd ⟨⟨z,rfl⟩,a1,Hc,a2,a3,a4⟩;rw [As] at hd
   cases hx:gs[i]? with
   | none=>rw [hx] at hd;cases hd
   | some g=>
    rw [hx] at hd;cases hd;have hgg:=hg g (CJ hx);obtain ⟨hi,ex⟩:=AH.mp hx;rw [Be hi,ex] at a4;unfold Pk at a4;refine ⟨e5 tN gs bits S.length (some (.int g)),S',rfl,?_⟩;have tst:=cC (tN:=tN) (hN:=S.length) (gs:=gs) (bits:=bits) (S:=S') hgg.1
    cases c:hb bits g with
    | true=>
     rw [c] at tst;rw [if_pos c] at a4;obtain ⟨H',e1,e2⟩:=Ax a4;obtain ⟨hl,rfl⟩:=Jy e1;have dp:=O8 (mo:=AG 3) (mi:=AG 4) (mv:=AG 4) (e:=e5 tN gs bits S.length (some (.int g))) (k:=g) (v:=g) rfl rfl rfl a2 hl;refine ⟨_,_,(Gs tst).trans ((if_pos rfl).trans dp),⟨_,rfl⟩,a1.set (AT _) _,_,A6 (Bl a2),λx a e=>?_,e2⟩;rw [DO] at e;split at e
     ·cases e;exact hgg
     ·exact a3 x a e
    | false=>
     rw [c] at tst;rw [if_neg (by rw [c];exact AQ)] at a4
     exact ⟨_,S',(Gs tst).trans rfl,⟨_,rfl⟩,a1,Hc,a2,a3,a4⟩)
  (by
   rintro e S' ⟨⟨z,rfl⟩,a1,Hc,a2,a3,a4⟩;rw [AI,Kl (AT _)] at a4;cases a4
   exact ⟨⟨z,rfl⟩,a1,a2,a3⟩)
 obtain ⟨f,S2,p1,p2,p3⟩:=Ny (v:=Gr (gs.map D.int)) (g:=tgN 4) (b:=bF2 W 9) (xs:=gs.map D.int) (e:=e5 tN gs bits S.length z1) (S:=S1)
  (λi e S'=>(∃z,e=e5 tN gs bits S.length z)/\Keeps S S'/\∃Hc,S'[S.length]?=some (oDK D.int Hc)/\(∀x a,A9 Hc x=some a->0<=a/\a < takes.length)/\Pq (Tk takes) bits 9 (gs.drop i) Hc=some b)
  (λf S'=>Keeps S S'/\((f=.rt (.bl false)/\b=false)∨((∃z,f=.nx (e5 tN gs bits S.length z))/\b=true)))
  ⟨⟨z1,rfl⟩,q2,Hf,q3,q4,hr⟩ (λ_ _ _ _=>rfl)
  (by
   rintro i d e S' hd ⟨⟨z,rfl⟩,a1,Hc,a2,a3,a4⟩;rw [As] at hd
   cases hx:gs[i]? with
   | none=>rw [hx] at hd;cases hd
   | some g=>
    rw [hx] at hd;cases hd;have hgg:=hg g (CJ hx);obtain ⟨hi,ex⟩:=AH.mp hx;rw [Be hi,ex] at a4;unfold Pq at a4;refine ⟨e5 tN gs bits S.length (some (.int g)),S',rfl,?_⟩;have tst:=cC (tN:=tN) (hN:=S.length) (gs:=gs) (bits:=bits) (S:=S') hgg.1
    cases c:hb bits g with
    | true=>
     rw [c] at tst;rw [if_pos c] at a4;exact ⟨_,S',(Gs (Xz (MP tst))).trans rfl,⟨_,rfl⟩,a1,Hc,a2,a3,a4⟩
    | false=>
     rw [c] at tst;rw [if_neg (by rw [c];exact AQ)] at a4;obtain ⟨w,e1,e2⟩:=Ax a4
     clear a4
     have hl:=Bl a2;have b0:(S'++[Ob.dK []])[S'.length]?=some (oDK D.bl []):=FQ _ _;have kk:=Keeps.app S' [.dK []];have arg:AR (AG 0) (AR (AG 2) (AR (AG 3) (AR (AG 4) (AR Nq BH)))) (e5 tN gs bits S.length (some (.int g))) S'=.ok [.ref tN,.int bits,.ref S.length,.int g,.ref S'.length] (S'++[.dK []]):=rfl;generalize S'++[Ob.dK []]=S4 at b0 kk arg;obtain ⟨r1,r2⟩:=YT W (bits:=bits) hT 9 Hc g [] w e1 hgg a3;obtain ⟨S5,r3,r4,r5,r6⟩:=r2 S4 tN S.length S'.length (kk.at (a1.at ht)) (kk.at a2) b0 (by omega);have cal:HU (mP W 9) (e5 tN gs bits S.length (some (.int g))) S'=.ok w.1 S5:=lP ((NH (n:=5) arg rfl).trans r3)
     have kS:Keeps S S5:=⟨Am (Am a1.1 kk.1) r6.1,λj hj=>by
      have h4:j < S4.length:=Ag hj (Am a1.1 kk.1)
      rw [r6.2 j h4 (by omega) (by have:=a1.1;omega),kk.2 j (Ag hj a1.1),a1.2 j hj]⟩
     cases hw:w.1 with
     | true=>
      rw [hw] at cal;rw [if_pos hw] at e2;exact ⟨_,S5,(Gs ((TW (MP tst)).trans (MP cal))).trans rfl,⟨_,rfl⟩,kS,w.2.1,r4,r1,e2⟩
     | false=>
      rw [hw] at cal;rw [if_neg (by rw [hw];exact AQ)] at e2;cases e2
      exact ⟨.rt (.bl false),S5,(Gs ((TW (MP tst)).trans (MP cal))).trans rfl,kS,.inl ⟨rfl,rfl⟩⟩)
  (by
   rintro e S' ⟨⟨z,rfl⟩,a1,Hc,a2,a3,a4⟩;rw [AI,Kl (AT _)] at a4;cases a4
   exact ⟨a1,.inr ⟨⟨z,rfl⟩,rfl⟩⟩)
 have it:∀z S',Dg (AG 1) (e5 tN gs bits S.length z) S'=.ok (Gr (gs.map D.int)) S':=λz S'=>QF (xs:=gs.map D.int) rfl
 have l1:=(LF (g:=tgN 4) (b:=bF1) (it none S0)).trans q1;have l2:=(LF (g:=tgN 4) (b:=bF2 W 9) (it z1 S1)).trans p1;refine ⟨S2,Nj (n:=5) (mb:=Wc W) ?_,p2⟩;unfold Wc
 rcases p3 with ⟨rfl,rfl⟩ | ⟨⟨z,rfl⟩,rfl⟩
 ·exact (CV s3).trans ((CV l1).trans (Pn l2))
 ·exact (CV s3).trans ((CV l1).trans ((CV l2).trans rfl))
open Classical in
def MF (takes:List (List Int)) (gs:List Int) (bits:Int):Option Bool:=if (∀t∈takes,t.length<=1000/\∀x∈t,0<=x)/\∀g∈gs,0<=g/\g < takes.length then QJ (Tk takes) bits 9 gs else none
theorem Zs (W:Wd) (takes:List (List Int)) (gs:List Int) (bits:Int):VF (QN W) [.z (oL (eT D.int) takes),.v (eT D.int gs),.v (D.int bits)] (rV D.bl) (MF takes gs bits):=λv hv S ds ha=>by
 unfold MF at hv;split at hv
 ·rename_i hc
  match ds,ha with
  | [d1,d2,d3],⟨⟨n,h1,h2⟩,h3,h4,_⟩=>
   cases h1;cases h3;cases h4;obtain ⟨S',h5,h6⟩:=fL W hc.1 hc.2 hv h2;exact ⟨_,S',h5,h6,rfl⟩
 ·cases hv
end M
namespace M
open PySem L2 L4
def GV (Aw:(List Int)) (cO:Int):Option (Fw Int Unit):=
 BL (((some cO).bind λx1=>((some Aw).bind λx3=>some (x3.length:Int)).bind λx2=>some (decide (x1 < x2))).bind λx7=>if x7=true then ((some Aw).bind λl4=>(some cO).bind λx5=>atI l4 x5).bind λx6=>some (.rt x6) else some (.nx ())) λ_=>(some (0:Int)).bind λx10=>some (.rt x10)
def BW (Aw:(List Int)) (cO:Int):Option Int:=He (GV Aw cO)
theorem EB (W:Wd) (Aw:(List Int)) (cO:Int):VF (DC W) [.v (eF Aw),.v (D.int cO)] (rV D.int) (BW Aw cO):=by
 refine FY (n:=2) (b:=IY W) (p:=GV Aw cO) (B:=λ_=>[]) ?_;show VS [.v (eF Aw),.v (D.int cO)] _ _ _ _;unfold IY GV;exact (A7 (Fo (B:=(λ(_:Unit)=>[.v (eF Aw),.v (D.int cO)])) (GC (lM (AN rfl) (W4 (AN rfl)))) (D9 (Zk (AN rfl) (AN rfl))) (Fn (.same (.same .nil)))) (λ_=>(D9 (DB rfl))))
def Jx (A0:Int):Option (Fw (List (Int×Int)) Unit):=
 BL (((some []).bind FP).bind λx2=>some (.nx x2)) λv1=>BL (((some A0).bind SZ).bind λl20=>Ev l20 v1 λ(s3:(List (Int×Int))) x4=>HS (λs18=>s18) ((((some x4).bind λx6=>(some (1:Int)).bind λx7=>some (x6+x7)).bind λx8=>(some A0).bind λx9=>V2 x8 x9).bind λl17=>Ev l17 s3 λ(s10:(List (Int×Int))) x11=>HS (λv12=>v12) (((some x4).bind λx15=>(some x11).bind λx16=>some (x15,x16)).bind λx13=>(TV s10 x13).bind λl14=>some (.nx l14)))) λs21=>some (.rt s21)
def GY (A0:Int):Option (List (Int×Int)):=He (Jx A0)
theorem Mt (W:Wd) (A0:Int):VF (IC W) [.v (D.int A0)] (rN (oL (eP D.int D.int))) (GY A0):=by
 refine FY (n:=4) (b:=KL W) (p:=Jx A0) (B:=λ_=>[]) ?_;show VS [.v (D.int A0),.u,.u,.u] _ _ _ _;unfold KL Jx;exact (A7 (Jq (CC (DN DS))) (λv1=>(A7 (Em (s0:=v1) (B:=(λ(s22:(List (Int×Int)))=>[.v (D.int A0),.w 1 ((oL (eP D.int D.int)) s22),.u,.u])) (IG (AN rfl)) ET (.same (.same (.same (.same .nil)))) (λs3 x4=>(EA (Em (s0:=s3) (B:=(λ(s19:(List (Int×Int)))=>[.v (D.int A0),.w 1 ((oL (eP D.int D.int)) s19),.v (D.int x4),.u])) (LY (JC (AN rfl) (DB rfl)) (AN rfl)) ET (.same (.same (.same (.same .nil)))) (λs10 x11=>(EA (Zc rfl (Hs (AN rfl) (AN rfl)) rfl) (λv12=>(.same (.same (.same (.drop .nil)))))))) (λs18=>(.same (.same (.drop (.same .nil)))))))) (λs21=>(cw rfl)))))
def GU (A0:Int) (EZ:Int):Option (Fw (List (Int×Int)) Unit):=
 BL (((some EZ).bind λx1=>(some (1:Int)).bind λx2=>some (decide (x1=x2))).bind λx14=>if x14=true then ((((some A0).bind λx4=>(some (1:Int)).bind λx5=>some (x4 - x5)).bind SZ).bind λl12=>EO l12 (λx6=>some true) (λx6=>(some x6).bind λx10=>((some x6).bind λx8=>(some (1:Int)).bind λx9=>some (x8+x9)).bind λx11=>some (x10,x11))).bind λx13=>some (.rt x13) else some (.nx ())) λ_=>BL (((some EZ).bind λx17=>(some (2:Int)).bind λx18=>some (decide (x17=x18))).bind λx39=>if x39=true then (((((some A0).bind λx20=>(some (1:Int)).bind λx21=>some (x20 - x21)).bind SZ).bind λl28=>EO l28 (λx22=>some true) (λx22=>(some x22).bind λx26=>((some x22).bind λx24=>(some (1:Int)).bind λx25=>some (x24+x25)).bind λx27=>some (x26,x27))).bind λx36=>((((some (0:Int)).bind λx32=>((some A0).bind λx30=>(some (1:Int)).bind λx31=>some (x30 - x31)).bind λx33=>some (x32,x33)).bind λx34=>(some []).bind λl35=>some (x34 :: l35)).bind FP).bind λx37=>Lu x36 x37).bind λx38=>some (.rt x38) else some (.nx ())) λ_=>BL (((some EZ).bind λx42=>(some (3:Int)).bind λx43=>some (decide (x42=x43))).bind λx48=>if x48=true then (((some A0).bind λx44=>(some ()).bind λx45=>some (x44,x45)).bind λz46=>GY z46.1).bind λx47=>some (.rt x47) else some (.nx ())) λ_=>BL (((some EZ).bind λx51=>(some (4:Int)).bind λx52=>some (decide (x51=x52))).bind λx60=>if x60=true then (((some (1:Int)).bind λx53=>(some A0).bind λx54=>V2 x53 x54).bind λl58=>EO l58 (λx55=>some true) (λx55=>(some (0:Int)).bind λx56=>(some x55).bind λx57=>some (x56,x57))).bind λx59=>some (.rt x59) else some (.nx ())) λ_=>((some []).bind FP).bind λx63=>some (.rt x63)
def Dv (A0:Int) (EZ:Int):Option (List (Int×Int)):=He (GU A0 EZ)
theorem Mu (W:Wd) (A0:Int) (EZ:Int):VF (Gi W) [.v (D.int A0),.v (D.int EZ)] (rN (oL (eP D.int D.int))) (Dv A0 EZ):=by
 refine FY (n:=2) (b:=Gk W) (p:=GU A0 EZ) (B:=λ_=>[]) ?_;show VS [.v (D.int A0),.v (D.int EZ)] _ _ _ _;unfold Gk GU;exact (A7 (Fo (B:=(λ(_:Unit)=>[.v (D.int A0),.v (D.int EZ)])) (GC (Mq DG MQ (AN rfl) (DB rfl))) (Ff (CC (Co (VI.k (IG (L9 (AN rfl) (DB rfl)))) (λx6=>HE) (λx6=>(Hs (AN rfl) (JC (AN rfl) (DB rfl))))))) (Fn (.same (.same .nil)))) (λ_=>(A7 (Fo (B:=(λ(_:Unit)=>[.v (D.int A0),.v (D.int EZ)])) (GC (Mq DG MQ (AN rfl) (DB rfl))) (Ff (W8 (HP (CC (Co (VI.k (IG (L9 (AN rfl) (DB rfl)))) (λx22=>HE) (λx22=>(Hs (AN rfl) (JC (AN rfl) (DB rfl))))))) (HP (CC (DN (EU (Hs (DB rfl) (L9 (AN rfl) (DB rfl))) DS)))))) (Fn (.same (.same .nil)))) (λ_=>(A7 (Fo (B:=(λ(_:Unit)=>[.v (D.int A0),.v (D.int EZ)])) (GC (Mq DG MQ (AN rfl) (DB rfl))) (Ff (BX (Cd (AN rfl) CA) (λz46=>Mt W z46.1) (λ_=>rfl) Kv)) (Fn (.same (.same .nil)))) (λ_=>(A7 (Fo (B:=(λ(_:Unit)=>[.v (D.int A0),.v (D.int EZ)])) (GC (Mq DG MQ (AN rfl) (DB rfl))) (Ff (CC (Co (VI.k (LY (DB rfl) (AN rfl))) (λx55=>HE) (λx55=>(Hs (DB rfl) (AN rfl)))))) (Fn (.same (.same .nil)))) (λ_=>(Ff (CC (DN DS)))))))))))
def Io (Aw:(List Int)) (HK:Int) (A0:Int):Option (Fw (List (Int×Int)) Unit):=
 BL ((((some A0).bind λx2=>(some ()).bind λx3=>some (x2,x3)).bind λz4=>GY z4.1).bind λx5=>some (.nx x5)) λv1=>BL ((some []).bind λx7=>some (.nx x7)) λv6=>BL ((((some A0).bind λx15=>((((((some Aw).bind λx8=>((some (0:Int)).bind λx9=>(some ()).bind λx10=>some (x9,x10)).bind λx11=>some (x8,x11)).bind λz12=>BW z12.1 z12.2.1).bind λx13=>some (x13 / 7)).bind λx14=>some (x14 % 6)).bind λx16=>(some ()).bind λx17=>some (x16,x17)).bind λx18=>some (x15,x18)).bind λz19=>Dv z19.1 z19.2.1).bind λl26=>Ev l26 v6 λ(s20:(List ((Int×Int)×Bool))) x21=>HS (λv22=>v22) ((some true).bind λx23=>(some x21).bind λx24=>(Kx s20 x24 x23).bind λl25=>some (.nx l25))) λs27=>BL (((some HK).bind λx32=>(((some Aw).bind λx29=>some (x29.length:Int)).bind λx30=>(some (63:Int)).bind λx31=>some (if x31 < x30 then x31 else x30)).bind λx33=>V2 x32 x33).bind λl55=>Ev l55 s27 λ(s34:(List ((Int×Int)×Bool))) x35=>BL (((some v1).bind λl42=>(((some Aw).bind λl37=>(some x35).bind λx38=>atI l37 x38).bind λx40=>((some v1).bind λx39=>some (x39.length:Int)).bind λx41=>Sn x40 x41).bind λx43=>atI l42 x43).bind λx44=>some (.nx x44)) λv36=>HS (λv51=>v51) ((((some v36).bind λx45=>(some s34).bind λx46=>some (!(A9 x46 x45).isSome)).bind λx50=>if x50=true then some true else ((some s34).bind λl47=>(some v36).bind λx48=>A9 l47 x48).bind λx49=>some (!x49)).bind λx52=>(some v36).bind λx53=>(Kx s34 x53 x52).bind λl54=>some (.nx l54))) λs56=>((some v1).bind λl64=>EO l64 (λx58=>((some x58).bind λx59=>(some s56).bind λx60=>some ((A9 x60 x59).isSome)).bind λx63=>if x63=true then (some s56).bind λl61=>(some x58).bind λx62=>A9 l61 x62 else some false) (λx58=>some x58)).bind λx65=>some (.rt x65)
def HQ (Aw:(List Int)) (HK:Int) (A0:Int):Option (List (Int×Int)):=He (Io Aw HK A0)
theorem T7 (W:Wd) (Aw:(List Int)) (HK:Int) (A0:Int):VF (LH W) [.v (eF Aw),.v (D.int HK),.v (D.int A0)] (rN (oL (eP D.int D.int))) (HQ Aw HK A0):=by
 refine FY (n:=7) (b:=LQ W) (p:=Io Aw HK A0) (B:=λ_=>[]) ?_;show VS [.v (eF Aw),.v (D.int HK),.v (D.int A0),.u,.u,.u,.u] _ _ _ _;unfold LQ Io;exact (A7 (E9 (BX (Cd (AN rfl) CA) (λz4=>Mt W z4.1) (λ_=>rfl) Kv)) (λv1=>(A7 (Jq Zo) (λv6=>(A7 (Em (s0:=v6) (B:=(λ(s28:(List ((Int×Int)×Bool)))=>[.v (eF Aw),.v (D.int HK),.v (D.int A0),.y ((oL (eP D.int D.int)) v1),.w 4 ((oDP D.bl) s28),.u,.u])) (PZ (BX (Cd (AN rfl) (Cd (Ou rfl (Mp rfl (BX (Cd (AN rfl) (Cd (DB rfl) CA)) (λz12=>EB W z12.1 z12.2.1) (λ_=>rfl) EM))) CA)) (λz19=>Mu W z19.1 z19.2.1) (λ_=>rfl) Kv)) ET (.same (.same (.same (.same (.same (.same (.same .nil))))))) (λs20 x21=>(EA (Tw rfl (AN rfl) (DB rfl) rfl) (λv22=>(.same (.same (.same (.same (.same (.drop (.same .nil))))))))))) (λs27=>(A7 (Em (s0:=s27) (B:=(λ(s57:(List ((Int×Int)×Bool)))=>[.v (eF Aw),.v (D.int HK),.v (D.int A0),.y ((oL (eP D.int D.int)) v1),.w 4 ((oDP D.bl) s57),.u,.u])) (LY (AN rfl) (W3 (W4 (AN rfl)) (DB rfl))) ET (.same (.same (.same (.same (.same (.same (.same .nil))))))) (λs34 x35=>(A7 (E2 (Kr (C5 rfl) (Pa (Zk (AN rfl) (AN rfl)) (Mo (C5 rfl))))) (λv36=>(EA (Tw rfl (AN rfl) (hZ (Zm (AN rfl) (Jt rfl)) (W2 (T2 (Jt rfl) (AN rfl)))) rfl) (λv51=>(.same (.same (.same (.same (.same (.drop (.drop .nil))))))))))))) (λs56=>(Ff (CC (Co (VI.k (Jr rfl)) (λx58=>(Vj (GC (dD (AN rfl) (Jt rfl))) (SG (T2 (Jt rfl) (AN rfl))))) (λx58=>(AN rfl)))))))))))))
def HG (Aw:(List Int)) (Bh:(List (Int×Int))):Option (Fw (List (Int×Int)) Unit):=
 BL (((((((some Aw).bind λx3=>((some (0:Int)).bind λx4=>(some ()).bind λx5=>some (x4,x5)).bind λx6=>some (x3,x6)).bind λz7=>BW z7.1 z7.2.1).bind λx8=>some (x8 / 42)).bind λx9=>some (x9 % 2)).bind λx1=>(some (0:Int)).bind λx2=>some (decide (x1=x2))).bind λx11=>if x11=true then (some Bh).bind λx10=>some (.rt x10) else some (.nx ())) λ_=>(((some Bh).bind λx14=>some x14.reverse).bind λl20=>EO l20 (λx15=>some true) (λx15=>((some x15).bind λx16=>some x16.2).bind λx18=>((some x15).bind λx17=>some x17.1).bind λx19=>some (x18,x19))).bind λx21=>some (.rt x21)
def HH (Aw:(List Int)) (Bh:(List (Int×Int))):Option (List (Int×Int)):=He (HG Aw Bh)
theorem Qr (W:Wd) (Aw:(List Int)) (Bh:(List (Int×Int))):VF (JG W) [.v (eF Aw),.z ((oL (eP D.int D.int)) Bh)] (rN (oL (eP D.int D.int))) (HH Aw Bh):=by
 refine FY (n:=2) (b:=JH W) (p:=HG Aw Bh) (B:=λ_=>[]) ?_;show VS [.v (eF Aw),.z ((oL (eP D.int D.int)) Bh)] _ _ _ _;unfold JH HG;exact (A7 (Fo (B:=(λ(_:Unit)=>[.v (eF Aw),.z ((oL (eP D.int D.int)) Bh)])) (GC (Mq DG MQ (Ou rfl (Mp rfl (BX (Cd (AN rfl) (Cd (DB rfl) CA)) (λz7=>EB W z7.1 z7.2.1) (λ_=>rfl) EM))) (DB rfl))) (Ff (CC (c7 (SC (Cf rfl))))) (Fn (.same (.same .nil)))) (λ_=>(Ff (CC (Co (hV (Cf rfl)) (λx15=>HE) (λx15=>(Hs (Ve (AN rfl)) (Vi (AN rfl)))))))))
def Ip (Bh:(List (Int×Int))) (BR:Int):Option (Fw (List Int) Unit):=
 BL (((some []).bind FP).bind λx2=>some (.nx x2)) λv1=>BL ((some Bh).bind λl19=>Ev l19 v1 λ(s3:(List Int)) x4=>HS (λs17=>s17) (((some BR).bind λx5=>(some x4).bind λx6=>some (decide (x5∈[x6.1,x6.2]))).bind λx16=>if x16=true then HS (λv7=>v7) (((((some x4).bind λx10=>some x10.1).bind λx12=>((some x4).bind λx11=>some x11.2).bind λx13=>some (x12+x13)).bind λx14=>(some BR).bind λx15=>some (x14 - x15)).bind λx8=>(TV s3 x8).bind λl9=>some (.nx l9)) else some (.nx s3))) λs20=>((some s20).bind λx22=>some (Cp x22)).bind λx23=>some (.rt x23)
def Ir (Bh:(List (Int×Int))) (BR:Int):Option (List Int):=He (Ip Bh BR)
theorem T9 (W:Wd) (Bh:(List (Int×Int))) (BR:Int):VF (LJ W) [.z ((oL (eP D.int D.int)) Bh),.v (D.int BR)] (rN (oL D.int)) (Ir Bh BR):=by
 refine FY (n:=4) (b:=LS W) (p:=Ip Bh BR) (B:=λ_=>[]) ?_;show VS [.z ((oL (eP D.int D.int)) Bh),.v (D.int BR),.u,.u] _ _ _ _;unfold LS Ip;exact (A7 (Jq (CC (DN DS))) (λv1=>(A7 (Em (s0:=v1) (B:=(λ(s21:(List Int))=>[.z ((oL (eP D.int D.int)) Bh),.v (D.int BR),.w 2 ((oL D.int) s21),.u])) (Zf rfl) ET (.same (.same (.same (.same .nil)))) (λs3 x4=>(EA (Fo (B:=(λ(s18:(List Int))=>[.z ((oL (eP D.int D.int)) Bh),.v (D.int BR),.w 2 ((oL D.int) s18),.v ((eP D.int D.int) x4)])) (GC (iE DG (AN rfl) (AN rfl))) (EA (Zc rfl (L9 (JC (Vi (AN rfl)) (Ve (AN rfl))) (AN rfl)) rfl) (λv7=>(.same (.same (.same (.same .nil)))))) (Fn (.same (.same (.same (.same .nil)))))) (λs17=>(.same (.same (.same (.drop .nil)))))))) (λs20=>(Ff (Zh (Jt rfl)))))))
def Kw (A0:Int) (CF:Int):Option (Fw (List (List Int)) Unit):=
 BL (((((some []).bind FP).bind λx2=>(some []).bind λl3=>some (x2 :: l3)).bind FP).bind λx4=>some (.nx x4)) λv1=>BL (((some CF).bind SZ).bind λl48=>Ev l48 v1 λ(s5:(List (List Int))) x6=>BL (((some []).bind FP).bind λx8=>some (.nx x8)) λv7=>BL ((some s5).bind λl44=>Ev l44 v7 λ(s9:(List (List Int))) x10=>BL ((some (0:Int)).bind λx12=>some (.nx x12)) λv11=>BL (((some x10).bind λx13=>((some []).bind FP).bind λx14=>some (!decide (x13=x14))).bind λx23=>if x23=true then HS (λv15=>v15) ((((some x10).bind λl17=>((some (1:Int)).bind λx16=>some (-x16)).bind λx18=>atI l17 x18).bind λx20=>(some (1:Int)).bind λx21=>some (x20+x21)).bind λx22=>some (.nx x22)) else some (.nx v11)) λs24=>HS (λv26=>v26) ((((some s24).bind λx36=>((((some A0).bind λx29=>(some CF).bind λx30=>some (x29 - x30)).bind λx31=>(some x6).bind λx32=>some (x31+x32)).bind λx34=>(some (1:Int)).bind λx35=>some (x34+x35)).bind λx37=>V2 x36 x37).bind λl43=>EO l43 (λx38=>some true) (λx38=>(some x10).bind λx41=>(((some x38).bind λx39=>(some []).bind λl40=>some (x39 :: l40)).bind FP).bind λx42=>Lu x41 x42)).bind λx27=>(Lu s9 x27).bind λl28=>some (.nx l28))) λs45=>HS (λ_=>s45) (some (.nx ()))) λs49=>some (.rt s49)
def HR (A0:Int) (CF:Int):Option (List (List Int)):=He (Kw A0 CF)
theorem T8 (W:Wd) (A0:Int) (CF:Int):VF (LI W) [.v (D.int A0),.v (D.int CF)] (rN (oL (eT D.int))) (HR A0 CF):=by
 refine FY (n:=7) (b:=LR W) (p:=Kw A0 CF) (B:=λ_=>[]) ?_;show VS [.v (D.int A0),.v (D.int CF),.u,.u,.u,.u,.u] _ _ _ _;unfold LR Kw;exact (A7 (E9 (CC (DN (EU (Kq DS) DS)))) (λv1=>(A7 (Em (s0:=v1) (B:=(λ(s50:(List (List Int)))=>[.v (D.int A0),.v (D.int CF),.y ((oL (eT D.int)) s50),.u,.u,.u,.u])) (IG (AN rfl)) ET (.same (.same (.same (.same (.same (.same (.same .nil))))))) (λs5 x6=>(A7 (Jq (CC (DN DS))) (λv7=>(A7 (Em (s0:=v7) (B:=(λ(s46:(List (List Int)))=>[.v (D.int A0),.v (D.int CF),.y ((oL (eT D.int)) s5),.v (D.int x6),.w 4 ((oL (eT D.int)) s46),.u,.u])) (Jr rfl) ET (.same (.same (.same (.same (.same (.same (.same .nil))))))) (λs9 x10=>(A7 (E2 (DB rfl)) (λv11=>(A7 (Fo (B:=(λ(s25:Int)=>[.v (D.int A0),.v (D.int CF),.y ((oL (eT D.int)) s5),.v (D.int x6),.w 4 ((oL (eT D.int)) s9),.v ((eT D.int) x10),.v (D.int s25)])) (GC (gF (TC DG) jV (AN rfl) (Kq DS))) (EA (E2 (JC (Zj (AN rfl) (iA (DB rfl))) (DB rfl))) (λv15=>(.same (.same (.same (.same (.same (.same (.same .nil))))))))) (Fn (.same (.same (.same (.same (.same (.same (.same .nil))))))))) (λs24=>(EA (Vc rfl (CC (Co (VI.k (LY (AN rfl) (JC (JC (L9 (AN rfl) (AN rfl)) (AN rfl)) (DB rfl)))) (λx38=>HE) (λx38=>(Ov (AN rfl) (Kq (EU (AN rfl) DS)))))) rfl) (λv26=>(.same (.same (.same (.same (.same (.drop (.drop .nil))))))))))))))) (λs45=>(EA (Vb 4 rfl rfl (NV rfl)) (λ_=>(.same (.same (.same (.drop (.drop (.same (.same .nil))))))))))))))) (λs49=>(Wz rfl)))))
end M
namespace M
open PySem L2 L4
def Fg (HJ:(List Int)):Option (Fw Bool Unit):=
 BL ((((some HJ).bind λx1=>some true).bind λx2=>some (!x2)).bind λx4=>if x4=true then (some false).bind λx3=>some (.rt x3) else some (.nx ())) λ_=>(((some HJ).bind λl12=>EO l12 (λx7=>some true) (λx7=>((some x7).bind λx8=>some true).bind λx11=>if x11=true then ((some x7).bind λx9=>some false).bind λx10=>some (!x10) else some false)).bind λx13=>some (x13.all id)).bind λx14=>some (.rt x14)
def Fh (HJ:(List Int)):Option Bool:=He (Fg HJ)
theorem OU (W:Wd) (HJ:(List Int)):VF (Hg W) [.v ((eT D.int) HJ)] (rV D.bl) (Fh HJ):=by
 refine FY (n:=1) (b:=Hh W) (p:=Fg HJ) (B:=λ_=>[]) ?_;show VS [.v ((eT D.int) HJ)] _ _ _ _;unfold Hh Fg;exact (A7 (Fo (B:=(λ(_:Unit)=>[.v ((eT D.int) HJ)])) (Pb (GC (Zl (T:="tuple") (AN rfl) (λ_ _=>rfl) (by decide +kernel)))) (D9 (DB rfl)) (Fn (.same .nil))) (λ_=>(D9 (iJ (SC (HP (CC (Co (VI.k (Js (AN rfl))) (λx7=>HE) (λx7=>(XB (Zl (T:="int") (AN rfl) (λ_ _=>rfl) (by decide +kernel)) (W2 (Zl (T:="int") (AN rfl) (λ_ _=>rfl) (by decide +kernel)))))))))))))
def Es (BG:(Nat×List (Int×Int))) (BR:Int):Option (Fw Unit Unit):=
 (((some (0:Int)).bind λx2=>(some BR).bind λx3=>if decide (x2<=x3)=true then ((some BG).bind λx1=>some (x1.1:Int)).bind λx4=>some (decide (x3 < x4)) else some false).bind λx5=>some (!x5)).bind λx6=>if x6=true then none else some (.nx ())
def GX (BG:(Nat×List (Int×Int))) (BR:Int):Option Unit:=aW (Es BG BR)
theorem Mr (W:Wd) (BG:(Nat×List (Int×Int))) (BR:Int):VF (Gf W) [.z ((Eu W) BG),.v (D.int BR)] (rV eU) (GX BG BR):=by
 refine Zg (n:=2) (b:=Gj W) (p:=Es BG BR) (B:=λ_=>[.z ((Eu W) BG),.v (D.int BR)]) ?_;show VS [.z ((Eu W) BG),.v (D.int BR)] _ _ _ _;unfold Gj Es;exact (Fo (B:=(λ(_:Unit)=>[.z ((Eu W) BG),.v (D.int BR)])) (Pb (GC (T3 gd gc (DB rfl) (AN rfl) (NW (Cf rfl))))) Zb (Fn (.same (.same .nil))))
def Sa (BG:(Nat×List (Int×Int))) (BR:Int):Option (Fw (List Int) Unit):=
 BL ((((some BG).bind λx1=>((some BR).bind λx2=>(some ()).bind λx3=>some (x2,x3)).bind λx4=>some (x1,x4)).bind λz5=>GX z5.1 z5.2.1).bind λ_=>some (.nx ())) λ_=>(((some BG).bind λx6=>some (No x6.1 x6.2)).bind λl7=>(some BR).bind λx8=>atI l7 x8).bind λx9=>some (.rt x9)
def Pt (BG:(Nat×List (Int×Int))) (BR:Int):Option (List Int):=He (Sa BG BR)
theorem Zr (W:Wd) (BG:(Nat×List (Int×Int))) (BR:Int):VF (TB W) [.z ((Eu W) BG),.v (D.int BR)] (rV (eT D.int)) (Pt BG BR):=by
 refine FY (n:=2) (b:=Wb W) (p:=Sa BG BR) (B:=λ_=>[]) ?_;show VS [.z ((Eu W) BG),.v (D.int BR)] _ _ _ _;unfold Wb Sa;exact (A7 (W0 (BX (Ha (Cf rfl) (Cd (AN rfl) CA)) (λz5=>Mr W z5.1 z5.2.1) (λ_=>rfl) EM)) (λ_=>(D9 (Zj (dA (Cf rfl)) (AN rfl)))))
def Jw (BG:(Nat×List (Int×Int))):Option (Fw (List (List Int)) Unit):=
 ((((some BG).bind λx1=>some (x1.1:Int)).bind SZ).bind λl13=>EO l13 (λx2=>some true) (λx2=>((((some x2).bind λx3=>(some []).bind λl4=>some (x3 :: l4)).bind FP).bind λx10=>(((some BG).bind λx5=>((some x2).bind λx6=>(some ()).bind λx7=>some (x6,x7)).bind λx8=>some (x5,x8)).bind λz9=>Pt z9.1 z9.2.1).bind λx11=>Lu x10 x11).bind λx12=>some (Cp x12))).bind λx14=>some (.rt x14)
def IP (BG:(Nat×List (Int×Int))):Option (List (List Int)):=He (Jw BG)
theorem Pf (W:Wd) (BG:(Nat×List (Int×Int))):VF (J8 W) [.z ((Eu W) BG)] (rN (oL (eT D.int))) (IP BG):=by
 refine FY (n:=1) (b:=MZ W) (p:=Jw BG) (B:=λ_=>[]) ?_;show VS [.z ((Eu W) BG)] _ _ _ _;unfold MZ Jw;exact (Ff (CC (Co (VI.k (IG (NW (Cf rfl)))) (λx2=>HE) (λx2=>(LZ (HP (La (Ov (Kq (EU (AN rfl) DS)) (BX (Ha (Cf rfl) (Cd (AN rfl) CA)) (λz9=>Zr W z9.1 z9.2.1) (λ_=>rfl) EM)))))))))
def Ld (KO:(List Int)):Option (Fw Int Unit):=
 BL ((some (0:Int)).bind λx2=>some (.nx x2)) λv1=>BL ((some KO).bind λl9=>Ev l9 v1 λ(s3:Int) x4=>HS (λv7=>v7) (((some (1:Int)).bind λx5=>(some x4).bind λx6=>YS x5 x6).bind λx8=>some (.nx (Lz s3 x8)))) λs10=>(some s10).bind λx12=>some (.rt x12)
def JZ (KO:(List Int)):Option Int:=He (Ld KO)
theorem RO (W:Wd) (KO:(List Int)):VF (Li W) [.v ((eT D.int) KO)] (rV D.int) (JZ KO):=by
 refine FY (n:=3) (b:=N6 W) (p:=Ld KO) (B:=λ_=>[]) ?_;show VS [.v ((eT D.int) KO),.u,.u] _ _ _ _;unfold N6 Ld;exact (A7 (E2 (DB rfl)) (λv1=>(A7 (Em (s0:=v1) (B:=(λ(s11:Int)=>[.v ((eT D.int) KO),.v (D.int s11),.u])) (Js (AN rfl)) ET (.same (.same (.same .nil))) (λs3 x4=>(EA (g9 rfl (Vf (DB rfl) (AN rfl))) (λv7=>(.same (.same (.drop .nil))))))) (λs10=>(D9 (AN rfl))))))
def Lc (Bj:(List (List Int))) (JI:(List Int)) (Dp:(List Int)) (Ba:Int):Option (Fw Bool Unit):=
 BL ((((some Ba).bind λx1=>(some JI).bind λx2=>some (!decide (x1∈x2))).bind λx11=>if x11=true then (((some Dp).bind λl8=>EO l8 (λx3=>some true) (λx3=>(some Ba).bind λx4=>((some Bj).bind λl6=>(some x3).bind λx7=>atI l6 x7).bind λx5=>some (decide (x4∈x5)))).bind λx9=>some (x9.any id)).bind λx10=>some (!x10) else some false).bind λx13=>if x13=true then (some false).bind λx12=>some (.rt x12) else some (.nx ())) λ_=>BL ((((some (1:Int)).bind λx18=>((some Bj).bind λx17=>some (x17.length:Int)).bind λx19=>YS x18 x19).bind λx21=>(some (1:Int)).bind λx22=>some (x21 - x22)).bind λx23=>some (.nx x23)) λv16=>(((some Bj).bind λx29=>((some Dp).bind λx30=>(((some v16).bind λx27=>(((some JI).bind λx24=>(some ()).bind λx25=>some (x24,x25)).bind λz26=>JZ z26.1).bind λx28=>some (CU x27 x28)).bind λx31=>(some ()).bind λx32=>some (x31,x32)).bind λx33=>some (x30,x33)).bind λx34=>some (x29,x34)).bind λz35=>MF z35.1 z35.2.1 z35.2.2.1).bind λx36=>some (.rt x36)
def Lf (Bj:(List (List Int))) (JI:(List Int)) (Dp:(List Int)) (Ba:Int):Option Bool:=He (Lc Bj JI Dp Ba)
theorem YH (W:Wd) (Bj:(List (List Int))) (JI:(List Int)) (Dp:(List Int)) (Ba:Int):VF (N0 W) [.z ((oL (eT D.int)) Bj),.v ((eT D.int) JI),.v ((eT D.int) Dp),.v (D.int Ba)] (rV D.bl) (Lf Bj JI Dp Ba):=by
 refine FY (n:=5) (b:=N5 W) (p:=Lc Bj JI Dp Ba) (B:=λ_=>[]) ?_;show VS [.z ((oL (eT D.int)) Bj),.v ((eT D.int) JI),.v ((eT D.int) Dp),.v (D.int Ba),.u] _ _ _ _;unfold N5 Lc;exact (A7 (Fo (B:=(λ(_:Unit)=>[.z ((oL (eT D.int)) Bj),.v ((eT D.int) JI),.v ((eT D.int) Dp),.v (D.int Ba),.u])) (Vj (GC (Ot DG (AN rfl) (AN rfl))) (Pb (GC (iI (SC (HP (CC (Co (VI.k (Js (AN rfl))) (λx3=>HE) (λx3=>(SF DG (AN rfl) (Kr (Cf rfl) (AN rfl)))))))))))) (D9 (DB rfl)) (Fn (.same (.same (.same (.same (.same .nil))))))) (λ_=>(A7 (E2 (L9 (Vf (DB rfl) (Mo (Cf rfl))) (DB rfl))) (λv16=>(D9 (BX (Ha (Cf rfl) (Cd (AN rfl) (Cd (W9 (AN rfl) (BX (Cd (AN rfl) CA) (λz26=>RO W z26.1) (λ_=>rfl) EM)) CA))) (λz35=>Zs W z35.1 z35.2.1 z35.2.2.1) (λ_=>rfl) EM))))))
def FH (BG:(Nat×List (Int×Int))) (AV:(List Int)) (Ba:Int):Option (Fw (List (List Int)) Unit):=
 BL ((((some BG).bind λx2=>(some ()).bind λx3=>some (x2,x3)).bind λz4=>IP z4.1).bind λx5=>some (.nx x5)) λv1=>BL (((((some []).bind FP).bind λx7=>(some []).bind λl8=>some (x7 :: l8)).bind FP).bind λx9=>some (.nx x9)) λv6=>BL (((some AV).bind λx10=>some (IW x10)).bind λl53=>Ev l53 v6 λ(s11:(List (List Int))) x12=>BL (((some AV).bind λl15=>((some x12.1).bind λx14=>some (some x14)).bind λx16=>(some none).bind λx17=>some (ID l15 x16 x17)).bind λx18=>some (.nx x18)) λv13=>BL (((some []).bind FP).bind λx20=>some (.nx x20)) λv19=>BL ((some s11).bind λl49=>Ev l49 v19 λ(s21:(List (List Int))) x22=>BL ((((some v1).bind λl24=>(some x12.2).bind λx25=>atI l24 x25).bind λl33=>EO l33 (λx26=>(some x26).bind λx27=>(some x22).bind λx28=>some (!decide (x27∈x28))) (λx26=>(some x22).bind λx31=>(((some x26).bind λx29=>(some []).bind λl30=>some (x29 :: l30)).bind FP).bind λx32=>Lu x31 x32)).bind λx34=>some (.nx x34)) λv23=>HS (λv35=>v35) (((some v23).bind λl48=>EO l48 (λx38=>((some v1).bind λx39=>((some x38).bind λx40=>((some v13).bind λx41=>((some Ba).bind λx42=>(some ()).bind λx43=>some (x42,x43)).bind λx44=>some (x41,x44)).bind λx45=>some (x40,x45)).bind λx46=>some (x39,x46)).bind λz47=>Lf z47.1 z47.2.1 z47.2.2.1 z47.2.2.2.1) (λx38=>some x38)).bind λx36=>(Lu s21 x36).bind λl37=>some (.nx l37))) λs50=>HS (λ_=>s50) (some (.nx ()))) λs54=>some (.rt s54)
def EF (BG:(Nat×List (Int×Int))) (AV:(List Int)) (Ba:Int):Option (List (List Int)):=He (FH BG AV Ba)
theorem NZ (W:Wd) (BG:(Nat×List (Int×Int))) (AV:(List Int)) (Ba:Int):VF (G9 W) [.z ((Eu W) BG),.v ((eT D.int) AV),.v (D.int Ba)] (rN (oL (eT D.int))) (EF BG AV Ba):=by
 refine FY (n:=11) (b:=HC W) (p:=FH BG AV Ba) (B:=λ_=>[]) ?_;show VS [.z ((Eu W) BG),.v ((eT D.int) AV),.v (D.int Ba),.u,.u,.u,.u,.u,.u,.u,.u] _ _ _ _;unfold HC FH;exact (A7 (E9 (BX (Ha (Cf rfl) CA) (λz4=>Pf W z4.1) (λ_=>rfl) Kv)) (λv1=>(A7 (E9 (CC (DN (EU (Kq DS) DS)))) (λv6=>(A7 (Em (s0:=v6) (B:=(λ(s55:(List (List Int)))=>[.z ((Eu W) BG),.v ((eT D.int) AV),.v (D.int Ba),.y ((oL (eT D.int)) v1),.y ((oL (eT D.int)) s55),.u,.u,.u,.u,.u,.u])) (T1 (AN rfl)) SB (.same (.same (.same (.same (.same (.same (.same (.same (.same (.same (.same .nil))))))))))) (λs11 x12=>(A7 (E2 (W6 (AN rfl) (Oq (AN rfl)) Os)) (λv13=>(A7 (Jq (CC (DN DS))) (λv19=>(A7 (Em (s0:=v19) (B:=(λ(s51:(List (List Int)))=>[.z ((Eu W) BG),.v ((eT D.int) AV),.v (D.int Ba),.y ((oL (eT D.int)) v1),.y ((oL (eT D.int)) s11),.v (D.int x12.1),.v (D.int x12.2),.v ((eT D.int) v13),.w 8 ((oL (eT D.int)) s51),.u,.u])) (Jr rfl) ET (.same (.same (.same (.same (.same (.same (.same (.same (.same (.same (.same .nil))))))))))) (λs21 x22=>(A7 (E9 (CC (Co (VI.k (Js (Kr (C5 rfl) (AN rfl)))) (λx26=>(GC (Ot DG (AN rfl) (AN rfl)))) (λx26=>(Ov (AN rfl) (Kq (EU (AN rfl) DS))))))) (λv23=>(EA (Vc rfl (CC (Co (VI.k (Jr rfl)) (λx38=>(SG (BX (Ha (C5 rfl) (Cd (AN rfl) (Cd (AN rfl) (Cd (AN rfl) CA)))) (λz47=>YH W z47.1 z47.2.1 z47.2.2.1 z47.2.2.2.1) (λ_=>rfl) EM))) (λx38=>(AN rfl)))) rfl) (λv35=>(.same (.same (.same (.same (.same (.same (.same (.same (.same (.drop (.drop .nil))))))))))))))))) (λs50=>(EA (Vb 8 rfl rfl (NV rfl)) (λ_=>(.same (.same (.same (.same (.same (.drop (.drop (.drop (.drop (.same (.same .nil))))))))))))))))))))) (λs54=>(Wz rfl)))))))
def Im (AV:(List Int)) (DH:Int) (BR:Int):Option (Fw (List Int) Unit):=
 ((some AV).bind λl5=>EO l5 (λx1=>some true) (λx1=>((some x1).bind λx2=>(some DH).bind λx3=>some (decide (x2=x3))).bind λx4=>if x4=true then some BR else some x1)).bind λx6=>some (.rt x6)
def Iq (AV:(List Int)) (DH:Int) (BR:Int):Option (List Int):=He (Im AV DH BR)
theorem T6 (W:Wd) (AV:(List Int)) (DH:Int) (BR:Int):VF (LG W) [.v ((eT D.int) AV),.v (D.int DH),.v (D.int BR)] (rV (eT D.int)) (Iq AV DH BR):=by
 refine FY (n:=3) (b:=LO W) (p:=Im AV DH BR) (B:=λ_=>[]) ?_;show VS [.v ((eT D.int) AV),.v (D.int DH),.v (D.int BR)] _ _ _ _;unfold LO Im;exact (D9 (LZ (HP (CC (Co (VI.k (Js (AN rfl))) (λx1=>HE) (λx1=>(iC (GC (Mq DG MQ (AN rfl) (AN rfl))) (AN rfl) (AN rfl) EM)))))))
def FG (BG:(Nat×List (Int×Int))) (AV:(List Int)) (Ba:Int):Option (Fw Unit Unit):=
 ((((some (0:Int)).bind λx2=>(some Ba).bind λx3=>if decide (x2<=x3)=true then ((some BG).bind λx1=>some (x1.1:Int)).bind λx4=>some (decide (x3 < x4)) else some false).bind λx5=>some (!x5)).bind λx8=>if x8=true then some true else (some Ba).bind λx6=>(some AV).bind λx7=>some (decide (x6∈x7))).bind λx9=>if x9=true then none else some (.nx ())
def FJ (BG:(Nat×List (Int×Int))) (AV:(List Int)) (Ba:Int):Option Unit:=aW (FG BG AV Ba)
theorem NY (W:Wd) (BG:(Nat×List (Int×Int))) (AV:(List Int)) (Ba:Int):VF (G8 W) [.z ((Eu W) BG),.v ((eT D.int) AV),.v (D.int Ba)] (rV eU) (FJ BG AV Ba):=by
 refine Zg (n:=3) (b:=HB W) (p:=FG BG AV Ba) (B:=λ_=>[.z ((Eu W) BG),.v ((eT D.int) AV),.v (D.int Ba)]) ?_;show VS [.z ((Eu W) BG),.v ((eT D.int) AV),.v (D.int Ba)] _ _ _ _;unfold HB FG;exact (Fo (B:=(λ(_:Unit)=>[.z ((Eu W) BG),.v ((eT D.int) AV),.v (D.int Ba)])) (Zq (Pb (GC (T3 gd gc (DB rfl) (AN rfl) (NW (Cf rfl))))) (GC (SF DG (AN rfl) (AN rfl)))) Zb (Fn (.same (.same (.same .nil)))))
def JY (BG:(Nat×List (Int×Int))) (AV:(List Int)) (Ba:Int) (KP:Str):Option (Fw (List (List Int)) Unit):=
 BL ((((some BG).bind λx1=>((some AV).bind λx2=>((some Ba).bind λx3=>(some ()).bind λx4=>some (x3,x4)).bind λx5=>some (x2,x5)).bind λx6=>some (x1,x6)).bind λz7=>FJ z7.1 z7.2.1 z7.2.2.1).bind λ_=>some (.nx ())) λ_=>BL (((some KP).bind λx8=>(some ("one" : Str)).bind λx9=>some (decide (x8=x9))).bind λx31=>if x31=true then BL (((some AV).bind λl19=>EO l19 (λx11=>(some x11).bind λx12=>(((some BG).bind λx14=>((some Ba).bind λx15=>(some ()).bind λx16=>some (x15,x16)).bind λx17=>some (x14,x17)).bind λz18=>Pt z18.1 z18.2.1).bind λx13=>some (decide (x12∈x13))) (λx11=>some x11)).bind λx20=>some (.nx x20)) λv10=>(((some v10).bind λl29=>EO l29 (λx21=>some true) (λx21=>((some AV).bind λx22=>((some x21).bind λx23=>((some Ba).bind λx24=>(some ()).bind λx25=>some (x24,x25)).bind λx26=>some (x23,x26)).bind λx27=>some (x22,x27)).bind λz28=>Iq z28.1 z28.2.1 z28.2.2.1)).bind SN).bind λx30=>some (.rt x30) else some (.nx ())) λ_=>(((some BG).bind λx34=>((some AV).bind λx35=>((some Ba).bind λx36=>(some ()).bind λx37=>some (x36,x37)).bind λx38=>some (x35,x38)).bind λx39=>some (x34,x39)).bind λz40=>EF z40.1 z40.2.1 z40.2.2.1).bind λx41=>some (.rt x41)
def G5 (BG:(Nat×List (Int×Int))) (AV:(List Int)) (Ba:Int) (KP:Str):Option (List (List Int)):=He (JY BG AV Ba KP)
theorem YI (W:Wd) (BG:(Nat×List (Int×Int))) (AV:(List Int)) (Ba:Int) (KP:Str):VF (N1 W) [.z ((Eu W) BG),.v ((eT D.int) AV),.v (D.int Ba),.v (D.str KP)] (rN (oL (eT D.int))) (G5 BG AV Ba KP):=by
 refine FY (n:=5) (b:=N7 W) (p:=JY BG AV Ba KP) (B:=λ_=>[]) ?_;show VS [.z ((Eu W) BG),.v ((eT D.int) AV),.v (D.int Ba),.v (D.str KP),.u] _ _ _ _;unfold N7 JY;exact (A7 (W0 (BX (Ha (Cf rfl) (Cd (AN rfl) (Cd (AN rfl) CA))) (λz7=>NY W z7.1 z7.2.1 z7.2.2.1) (λ_=>rfl) EM)) (λ_=>(A7 (Fo (B:=(λ(_:Unit)=>[.z ((Eu W) BG),.v ((eT D.int) AV),.v (D.int Ba),.v (D.str KP),.u])) (GC (Mq fQ jW (AN rfl) (DB rfl))) (A7 (E9 (CC (Co (VI.k (Js (AN rfl))) (λx11=>(GC (SF DG (AN rfl) (BX (Ha (Cf rfl) (Cd (AN rfl) CA)) (λz18=>Zr W z18.1 z18.2.1) (λ_=>rfl) EM)))) (λx11=>(AN rfl))))) (λv10=>(Ff (Zi (HP (CC (Co (VI.k (Jr rfl)) (λx21=>HE) (λx21=>(BX (Cd (AN rfl) (Cd (AN rfl) (Cd (AN rfl) CA))) (λz28=>T6 W z28.1 z28.2.1 z28.2.2.1) (λ_=>rfl) EM))))))))) (Fn (.same (.same (.same (.same (.same .nil))))))) (λ_=>(Ff (BX (Ha (Cf rfl) (Cd (AN rfl) (Cd (AN rfl) CA))) (λz40=>NZ W z40.1 z40.2.1 z40.2.2.1) (λ_=>rfl) Kv))))))
def Hx (Bh:(List (Int×Int))) (AV:(List Int)) (Bx:(List Int)):Option (Fw (Option (List Int)) Unit):=
 BL (((((some []).bind FP).bind λx2=>(some []).bind λl3=>some (x2 :: l3)).bind FP).bind λx4=>some (.nx x4)) λv1=>BL ((some AV).bind λl41=>Ev l41 v1 λ(s5:(List (List Int))) x6=>BL ((((((some x6).bind λx8=>(some []).bind λl9=>some (x8 :: l9)).bind FP).bind λx15=>(((some Bh).bind λx10=>((some x6).bind λx11=>(some ()).bind λx12=>some (x11,x12)).bind λx13=>some (x10,x13)).bind λz14=>Ir z14.1 z14.2.1).bind λx16=>Lu x15 x16).bind λl20=>EO l20 (λx17=>(some x17).bind λx18=>(some Bx).bind λx19=>some (decide (x18∈x19))) (λx17=>some x17)).bind λx21=>some (.nx x21)) λv7=>BL (((some []).bind FP).bind λx23=>some (.nx x23)) λv22=>BL ((some s5).bind λl37=>Ev l37 v22 λ(s24:(List (List Int))) x25=>HS (λv26=>v26) (((some v7).bind λl36=>EO l36 (λx29=>(some x29).bind λx30=>(some x25).bind λx31=>some (!decide (x30∈x31))) (λx29=>(some x25).bind λx34=>(((some x29).bind λx32=>(some []).bind λl33=>some (x32 :: l33)).bind FP).bind λx35=>Lu x34 x35)).bind λx27=>(Lu s24 x27).bind λl28=>some (.nx l28))) λs38=>HS (λ_=>s38) (some (.nx ()))) λs42=>BL (((some s42).bind λx44=>((some []).bind FP).bind λx45=>some (decide (x44=x45))).bind λx48=>if x48=true then (some none).bind λx47=>some (.rt x47) else some (.nx ())) λ_=>(((some s42).bind U0).bind λx51=>some (some x51)).bind λx52=>some (.rt x52)
def IB (Bh:(List (Int×Int))) (AV:(List Int)) (Bx:(List Int)):Option (Option (List Int)):=He (Hx Bh AV Bx)
theorem SK (W:Wd) (Bh:(List (Int×Int))) (AV:(List Int)) (Bx:(List Int)):VF (KD W) [.z ((oL (eP D.int D.int)) Bh),.v ((eT D.int) AV),.v ((eT D.int) Bx)] (rV (eO (eT D.int))) (IB Bh AV Bx):=by
 refine FY (n:=8) (b:=KN W) (p:=Hx Bh AV Bx) (B:=λ_=>[]) ?_;show VS [.z ((oL (eP D.int D.int)) Bh),.v ((eT D.int) AV),.v ((eT D.int) Bx),.u,.u,.u,.u,.u] _ _ _ _;unfold KN Hx;exact (A7 (E9 (CC (DN (EU (Kq DS) DS)))) (λv1=>(A7 (Em (s0:=v1) (B:=(λ(s43:(List (List Int)))=>[.z ((oL (eP D.int D.int)) Bh),.v ((eT D.int) AV),.v ((eT D.int) Bx),.y ((oL (eT D.int)) s43),.u,.u,.u,.u])) (Js (AN rfl)) ET (.same (.same (.same (.same (.same (.same (.same (.same .nil)))))))) (λs5 x6=>(A7 (E9 (CC (Co (VI.k (PZ (W8 (HP (CC (DN (EU (AN rfl) DS)))) (HP (BX (Ha (Cf rfl) (Cd (AN rfl) CA)) (λz14=>T9 W z14.1 z14.2.1) (λ_=>rfl) Kv))))) (λx17=>(GC (SF DG (AN rfl) (AN rfl)))) (λx17=>(AN rfl))))) (λv7=>(A7 (Jq (CC (DN DS))) (λv22=>(A7 (Em (s0:=v22) (B:=(λ(s39:(List (List Int)))=>[.z ((oL (eP D.int D.int)) Bh),.v ((eT D.int) AV),.v ((eT D.int) Bx),.y ((oL (eT D.int)) s5),.v (D.int x6),.y ((oL D.int) v7),.w 6 ((oL (eT D.int)) s39),.u])) (Jr rfl) ET (.same (.same (.same (.same (.same (.same (.same (.same .nil)))))))) (λs24 x25=>(EA (Vc rfl (CC (Co (VI.k (Jr rfl)) (λx29=>(GC (Ot DG (AN rfl) (AN rfl)))) (λx29=>(Ov (AN rfl) (Kq (EU (AN rfl) DS)))))) rfl) (λv26=>(.same (.same (.same (.same (.same (.same (.same (.drop .nil)))))))))))) (λs38=>(EA (Vb 6 rfl rfl (NV rfl)) (λ_=>(.same (.same (.same (.same (.drop (.drop (.drop (.same .nil)))))))))))))))))) (λs42=>(A7 (Fo (B:=(λ(_:Unit)=>[.z ((oL (eP D.int D.int)) Bh),.v ((eT D.int) AV),.v ((eT D.int) Bx),.y ((oL (eT D.int)) s42),.u,.u,.u,.u])) (GC (iH (TC DG) (C5 rfl) (HP (CC (DN DS))))) (D9 dB) (Fn (.same (.same (.same (.same (.same (.same (.same (.same .nil)))))))))) (λ_=>(D9 (W1 (dC (C5 rfl))))))))))
def Hu (Bj:(List (List Int))) (DH:Int) (Dp:(List Int)) (CL:(List Int)):Option (Fw (Option (Int×(List Int))) Unit):=
 BL (((some Bj).bind λl1=>(some DH).bind λx2=>atI l1 x2).bind λl40=>Ev l40 () λ(_:Unit) x4=>BL (((some (1:Int)).bind λx6=>(some x4).bind λx7=>YS x6 x7).bind λx8=>some (.nx x8)) λv5=>BL (((some CL).bind λl16=>EO l16 (λx10=>((some x10).bind λx11=>(some v5).bind λx12=>some (DA x11 x12)).bind λx13=>some (x13 != 0)) (λx10=>(some x10).bind λx14=>(some v5).bind λx15=>some (CU x14 x15))).bind λx17=>some (.nx x17)) λv9=>HS (λ_=>()) ((some (Ur v9)).bind λl37=>Ev l37 () λ(_:Unit) x20=>HS (λ_=>()) ((((some Bj).bind λx21=>((some Dp).bind λx22=>((some x20.2).bind λx23=>(some ()).bind λx24=>some (x23,x24)).bind λx25=>some (x22,x25)).bind λx26=>some (x21,x26)).bind λz27=>MF z27.1 z27.2.1 z27.2.2.1).bind λx34=>if x34=true then (some x4).bind λx32=>((some v9).bind λl29=>((some x20.1).bind λx28=>some (some x28)).bind λx30=>(some none).bind λx31=>some (ID l29 x30 x31)).bind λx33=>some (.rt (some (x32,x33))) else some (.nx ())))) λ_=>some (.rt none)
def Hz (Bj:(List (List Int))) (DH:Int) (Dp:(List Int)) (CL:(List Int)):Option (Option (Int×(List Int))):=He (Hu Bj DH Dp CL)
theorem SH (W:Wd) (Bj:(List (List Int))) (DH:Int) (Dp:(List Int)) (CL:(List Int)):VF (KA W) [.z ((oL (eT D.int)) Bj),.v (D.int DH),.v ((eT D.int) Dp),.z ((oL D.int) CL)] (rOP D.int (oL D.int)) (Hz Bj DH Dp CL):=by
 refine FY (n:=9) (b:=KI W) (p:=Hu Bj DH Dp CL) (B:=λ_=>[]) ?_;show VS [.z ((oL (eT D.int)) Bj),.v (D.int DH),.v ((eT D.int) Dp),.z ((oL D.int) CL),.u,.u,.u,.u,.u] _ _ _ _;unfold KI Hu;exact (A7 (Em (s0:=()) (B:=(λ(_:Unit)=>[.z ((oL (eT D.int)) Bj),.v (D.int DH),.v ((eT D.int) Dp),.z ((oL D.int) CL),.u,.u,.u,.u,.u])) (Js (Kr (Cf rfl) (AN rfl))) ET (.same (.same (.same (.same (.same (.same (.same (.same (.same .nil))))))))) (λ_ x4=>(A7 (E2 (Vf (DB rfl) (AN rfl))) (λv5=>(A7 (E9 (CC (Co (VI.k (Zf rfl)) (λx10=>(XC (XA (AN rfl) (AN rfl)))) (λx10=>(W9 (AN rfl) (AN rfl)))))) (λv9=>(EA (Em (s0:=()) (B:=(λ(_:Unit)=>[.z ((oL (eT D.int)) Bj),.v (D.int DH),.v ((eT D.int) Dp),.z ((oL D.int) CL),.v (D.int x4),.v (D.int v5),.y ((oL D.int) v9),.u,.u])) (SE rfl) SB (.same (.same (.same (.same (.same (.same (.same (.same (.same .nil))))))))) (λ_ x20=>(EA (Fo (B:=(λ(_:Unit)=>[.z ((oL (eT D.int)) Bj),.v (D.int DH),.v ((eT D.int) Dp),.z ((oL D.int) CL),.v (D.int x4),.v (D.int v5),.y ((oL D.int) v9),.v (D.int x20.1),.v (D.int x20.2)])) (SG (BX (Ha (Cf rfl) (Cd (AN rfl) (Cd (AN rfl) CA))) (λz27=>Zs W z27.1 z27.2.1 z27.2.2.1) (λ_=>rfl) EM)) (cx (AN rfl) (W7 (C5 rfl) (Oq (AN rfl)) Os)) (Fn (.same (.same (.same (.same (.same (.same (.same (.same (.same .nil))))))))))) (λ_=>(.same (.same (.same (.same (.same (.same (.same (.drop (.drop .nil))))))))))))) (λ_=>(.same (.same (.same (.same (.drop (.drop (.drop (.same (.same .nil))))))))))))))))) (λ_=>cy))
def Hv (Bj:(List (List Int))) (CF:(List Int)) (CL:(List Int)):Option (Fw (Option (List Int)) Unit):=
 BL (((some []).bind FP).bind λx2=>some (.nx x2)) λv1=>BL (some (.nx ())) λ_=>BL (((some CF).bind λx4=>some (IW x4)).bind λl24=>Ev l24 (v1,CL) λ(s5:(List Int)×(List Int)) x6=>HS (λv23=>(v23.1,v23.2)) ((((some Bj).bind λx11=>((some x6.2).bind λx12=>(((some CF).bind λl8=>((some x6.1).bind λx7=>some (some x7)).bind λx9=>(some none).bind λx10=>some (ID l8 x9 x10)).bind λx13=>((some s5.2).bind λx14=>(some ()).bind λx15=>some (x14,x15)).bind λx16=>some (x13,x16)).bind λx17=>some (x12,x17)).bind λx18=>some (x11,x18)).bind λz19=>Hz z19.1 z19.2.1 z19.2.2.1 z19.2.2.2.1).bind λx20=>match x20 with | none=>some (.rt none) | some x21=>(TV s5.1 x21.1).bind λl22=>some (.nx (l22,x21.2)))) λs25=>((some s25.1).bind λx27=>some (some x27)).bind λx28=>some (.rt x28)
def IA (Bj:(List (List Int))) (CF:(List Int)) (CL:(List Int)):Option (Option (List Int)):=He (Hv Bj CF CL)
theorem SI (W:Wd) (Bj:(List (List Int))) (CF:(List Int)) (CL:(List Int)):VF (KB W) [.z ((oL (eT D.int)) Bj),.v ((eT D.int) CF),.z ((oL D.int) CL)] (rV (eO (eT D.int))) (IA Bj CF CL):=by
 refine FY (n:=8) (b:=KJ W) (p:=Hv Bj CF CL) (B:=λ_=>[]) ?_;show VS [.z ((oL (eT D.int)) Bj),.v ((eT D.int) CF),.z ((oL D.int) CL),.u,.u,.u,.u,.u] _ _ _ _;unfold KJ Hv;exact (A7 (Jq (CC (DN DS))) (λv1=>(A7 (Zd rfl) (λ_=>(A7 (Em (s0:=(v1,CL)) (B:=(λ(s26:(List Int)×(List Int))=>[.z ((oL (eT D.int)) Bj),.v ((eT D.int) CF),.z ((oL D.int) CL),.w 3 ((oL D.int) s26.1),.z ((oL D.int) s26.2),.u,.u,.u])) (T1 (AN rfl)) SB (.same (.same (.same (.same (.same (.same (.same (.same .nil)))))))) (λs5 x6=>(EA (cu (i:=3) (j:=4) (k:=7) rfl rfl (by decide) (by decide) (by decide) (BX (Ha (Cf rfl) (Cd (AN rfl) (Cd (W6 (AN rfl) (Oq (AN rfl)) Os) (Ha (Cf rfl) CA)))) (λz19=>SH W z19.1 z19.2.1 z19.2.2.1 z19.2.2.2.1) (λ_=>rfl) im) rfl) (λv23=>(.same (.same (.same (.same (.same (.drop (.drop (.same .nil)))))))))))) (λs25=>(D9 (W1 (LZ (Jt rfl))))))))))
def Ox (BG:(Nat×List (Int×Int))) (AV:(List Int)) (Bx:(List Int)):Option (Fw (Option (List Int)) Unit):=
 (((((some BG).bind λx1=>(some ()).bind λx2=>some (x1,x2)).bind λz3=>IP z3.1).bind λx9=>((some AV).bind λx10=>((((((some Bx).bind λx4=>(some ()).bind λx5=>some (x4,x5)).bind λz6=>JZ z6.1).bind λx7=>(some []).bind λl8=>some (x7 :: l8)).bind FP).bind λx11=>(some ()).bind λx12=>some (x11,x12)).bind λx13=>some (x10,x13)).bind λx14=>some (x9,x14)).bind λz15=>IA z15.1 z15.2.1 z15.2.2.1).bind λx16=>some (.rt x16)
def Hy (BG:(Nat×List (Int×Int))) (AV:(List Int)) (Bx:(List Int)):Option (Option (List Int)):=He (Ox BG AV Bx)
theorem Ms (W:Wd) (BG:(Nat×List (Int×Int))) (AV:(List Int)) (Bx:(List Int)):VF (J9 W) [.z ((Eu W) BG),.v ((eT D.int) AV),.v ((eT D.int) Bx)] (rV (eO (eT D.int))) (Hy BG AV Bx):=by
 refine FY (n:=3) (b:=TR W) (p:=Ox BG AV Bx) (B:=λ_=>[]) ?_;show VS [.z ((Eu W) BG),.v ((eT D.int) AV),.v ((eT D.int) Bx)] _ _ _ _;unfold TR Ox;exact (D9 (BX (Ha (HP (BX (Ha (Cf rfl) CA) (λz3=>Pf W z3.1) (λ_=>rfl) Kv)) (Cd (AN rfl) (Ha (HP (CC (DN (EU (BX (Cd (AN rfl) CA) (λz6=>RO W z6.1) (λ_=>rfl) EM) DS)))) CA))) (λz15=>SI W z15.1 z15.2.1 z15.2.2.1) (λ_=>rfl) EM))
end M
namespace M
open PySem L2
end M
namespace M
open PySem L2
theorem ah {x:Int×Int} (h:x.1 < x.2):nrm x=x:=by
 unfold nrm;rw [if_neg (by lia),if_pos (by omega)]
theorem ai (x:Int×Int):nrm (x.2,x.1)=nrm x:=by
 unfold nrm;dsimp only
 congr 1
 ·split <;> split <;> lia
 ·split <;> split <;> lia
theorem Z3 {l l':List (List Int)} (h:l.Perm l'):Il l=Il l':=RS ((Fm l).trans (h.trans (Fm l').symm)) (Pl l) (Pl l')
theorem dG {ps qs:List (Int×Int)} (h:(ps.map nrm).Perm (qs.map nrm)):Ed ps=Ed qs:=by
 unfold Ed Ju;have:=h.map SY;rw [BU,BU] at this;rw [show (λx=>SY (nrm x))=SY∘nrm from rfl,Z3 this]
theorem E5.of {p:Int} {ps qs:List (Int×Int)} (h:(ps.map nrm).Perm (qs.map nrm)) (f:E5 p qs):E5 p ps:=by
 refine ⟨λx hx=>?_,h.nodup_iff.mpr f.2⟩;obtain ⟨y,hy,e⟩:=A4.mp (h.mem_iff.mp (YA hx));have:=f.1 y hy;unfold Fit at this ⊢;rw [<-e];exact this
theorem Z2 {l l':List Int} (h:l.Perm l'):Cp l=Cp l':=
 (((EV l).trans h).trans (EV l').symm).eq_of_pairwise (λa b _ _ h1 h2=>gC h1 h2) (Mw l) (Mw l')
def nr (ts:List (Int×Int)) (x:Nat):List Int:=Cp (Cq ts x)
theorem Pz {ts:List (Int×Int)} {x:Nat} {z:Int}:z∈nr ts x↔((x:Int),z)∈ts∨(z,(x:Int))∈ts:=by
 unfold nr;rw [(EV _).mem_iff];unfold Cq;rw [KS]
 constructor
 ·rintro ⟨t,ht,h⟩
  rcases Az.mp h with h | h
  ·split at h
   ·rename_i e
    rw [Ae.mp h,<-e];exact .inl ht
   ·cases h
  ·split at h
   ·rename_i e
    rw [Ae.mp h,<-e];exact .inr ht
   ·cases h
 ·rintro (h | h)
  ·exact ⟨_,h,Bz _ (by simp)⟩
  ·exact ⟨_,h,BA _ (by simp)⟩
end M
namespace M
open PySem L2 L4
theorem N4 (ns:List Int) (k:Nat):BW ns (k:Int)=some (ns.getD k 0):=by
 unfold BW GV;simp only [AF]
 by_cases c:k < ns.length
 ·rw [decide_eq_true (show (k:Int) < (ns.length:Int) by omega),if_pos rfl,QZ (x:=ns[k]) (by omega) (by rw [CD];exact BJ c)]
  simp only [AF,cD,XQ];rw [FM,BJ c];rfl
 ·rw [decide_eq_false (show ¬(k:Int) < (ns.length:Int) by omega),if_neg AQ]
  simp only [BQ,XQ];rw [FM,Cb (by omega)];rfl
def prs (o:Nat):List (Int×Int):=(GY o).getD []
theorem RZ:∀o:Nat,o < 8->GY o=some (prs o)/\(∀x∈prs o,0<=x.1/\x.1 < x.2/\x.2 < o)/\(prs o).Nodup/\(prs o).length<=21/\(2<=o->prs o≠[])/\∀y:Nat,y < 7->((prs o).filter λx=>decide ((y:Int)∈[x.1,x.2])).length<=6:=by decide +kernel
theorem Yz:∀o:Nat,o < 8->∀s:Nat,s < 6->∃fs,Dv o s=some fs/\fs.length<=21:=by
 have h:∀o:Nat,o < 8->∀s:Nat,s < 6->(match Dv o s with | some fs=>decide (fs.length<=21) | none=>false)=true:=by decide +kernel
 intro o ho s hs;have:=h o ho s hs
 cases q:Dv o s with
 | none=>rw [q] at this;cases this
 | some fs=>rw [q] at this;exact ⟨fs,rfl,of_decide_eq_true this⟩
theorem OH {κ β:Type} [DecidableEq κ] (kvs:List (κ×β)) (k:κ) (v:β):(CW kvs k v).length<=kvs.length+1:=by
 unfold CW;split
 ·rw [AI];omega
 ·rw [AU];simp
theorem iP (ns:List Int) (hns:ns.length<=63) (f:Nat) (hf:f<=1000) {o:Nat} (h2:2<=o) (ho:o < 8):∃P,HQ ns f o=some ((prs o).filter P):=by
 obtain ⟨e1,-,-,hl,hne,-⟩:=RZ o ho;obtain ⟨fs,e2,hfs⟩:=Yz o ho (ns.getD 0 0 / 7 % 6).toNat (by omega);rw [CT (by omega)] at e2;unfold HQ Io;simp only [AF];rw [e1,show BW ns 0=some (ns.getD 0 0) from N4 ns 0];simp only [AF,BQ];rw [e2];simp only [AF]
 obtain ⟨s1,e3,l1⟩:=S8 (ρ:=List (Int×Int)) (l:=fs) (s0:=([]:List ((Int×Int)×Bool))) (q:=λs20 x21=>HS (λv22=>v22) ((Kx s20 x21 true).bind λl25=>some (.nx l25))) (λpre s=>s.length<=pre.length) (AT _) (by
  intro pre x s hx hp hs;have:=hp.length_le;rw [AU,Au] at this;refine ⟨CW s x true,?_,?_⟩
  ·rw [show Kx s x true=some (CW s x true) from if_pos (by omega)]
   rfl
  ·rw [AU,Au]
   exact Am (OH _ _ _) (by omega))
 rw [e3];simp only [BQ];rw [da (by omega) (by omega) (by split <;> omega) (by split <;> omega)];simp only [AF]
 have hpl:0 < ((prs o).length:Int):=by have:=Fe.mpr (hne h2);omega
 obtain ⟨s2,e4,-⟩:=S8 (ρ:=List (Int×Int)) (l:=Ht (f:Int) ((if (63:Int) < (ns.length:Int) then (63:Int) else (ns.length:Int)) - (f:Int)).toNat) (s0:=s1) (q:=λs34 x35=>BL (((atI ns x35).bind λx40=>Sn x40 ((prs o).length:Int)).bind (λx43=>atI (prs o) x43) |>.bind λx44=>some (.nx x44)) λv36=>HS (λv51=>v51) ((if (!(A9 s34 v36).isSome)=true then some true else (A9 s34 v36).bind λx49=>some (!x49)).bind λx52=>(Kx s34 v36 x52).bind λl54=>some (.nx l54))) (λpre s=>s.length<=21+pre.length) (Am l1 hfs) (by
  intro pre x s hx hp hs;have hpl2:=hp.length_le;rw [AU,Au,Ee] at hpl2;obtain ⟨hx1,hx2⟩:=Ga.mp hx;obtain ⟨y,ey,-⟩:=Wf (l:=ns) (i:=x) (by omega) (by split at hx2 <;> omega);rw [ey];simp only [AF];rw [M6 hpl];simp only [AF];obtain ⟨t,et,-⟩:=O9 (l:=prs o) y (hne h2);rw [et];simp only [AF,BQ]
  have hb:∃b,(if (!(A9 s t).isSome)=true then some true else (A9 s t).bind λx49=>some (!x49))=some b:=by
   cases A9 s t with
   | none=>exact ⟨true,rfl⟩
   | some b=>exact ⟨!b,rfl⟩
  obtain ⟨b,hb⟩:=hb;rw [hb];simp only [AF];refine ⟨CW s t b,?_,?_⟩
  ·rw [show Kx s t b=some (CW s t b) from if_pos (by split at hpl2 <;> omega)]
   rfl
  ·rw [AU,Au]
   exact Am (OH _ _ _) (by omega))
 refine ⟨λx=>match A9 s2 x with | some b=>b | none=>false,?_⟩;have e4':=e4;simp only [Option.bind_assoc,AF] at e4' ⊢;rw [e4'];simp only [BQ]
 rw [HA (P:=λx=>match A9 s2 x with | some b=>b | none=>false) (by omega) (by
  intro x _
  cases A9 s2 x with
  | none=>rfl
  | some b=>rfl)]
 rfl
end M
namespace M
open PySem L2 L4
structure JK (o:Nat) (ts:List (Int×Int)):Prop where
 rg:∀x∈ts,0<=x.1/\x.1 < x.2/\x.2 < o
 nd:ts.Nodup
 ln:ts.length<=21
 dg:∀y:Nat,y < 7->(ts.filter λx=>decide ((y:Int)∈[x.1,x.2])).length<=6
theorem dI {o:Nat} (ho:o < 8) (P:Int×Int->Bool):JK o ((prs o).filter P):=by
 obtain ⟨-,h1,h2,h3,-,h4⟩:=RZ o ho;refine ⟨λx hx=>h1 x (A5.mp hx).1,h2.filter _,Am (Ca _ _) h3,λy hy=>?_⟩;refine Am ?_ (h4 y hy);exact (nc _ List.filter_sublist).length_le
theorem bR (ns:List Int) {ts:List (Int×Int)} (hl:ts.length<=1000):∃hs,HH ns ts=some hs/\(hs=ts∨hs=ts.reverse.map λx=>(x.2,x.1)):=by
 unfold HH HG;simp only [AF];rw [show BW ns 0=some (ns.getD 0 0) from N4 ns 0];simp only [AF]
 by_cases c:ns.getD 0 0 / 42 % 2=0
 ·rw [decide_eq_true c,if_pos rfl]
  exact ⟨ts,rfl,.inl rfl⟩
 ·rw [decide_eq_false c,if_neg AQ]
  simp only [BQ];rw [IL (f:=λx:Int×Int=>(x.2,x.1)) (by rw [YB];omega) λx _=>rfl];exact ⟨_,rfl,.inr rfl⟩
theorem JK.nrm {o:Nat} {ts:List (Int×Int)} (h:JK o ts):ts.map nrm=ts:=by
 conv=>rhs;rw [<-Wt ts]
 exact EJ λx hx=>ah (h.rg x hx).2.1
theorem JK.fit {o:Nat} {ts:List (Int×Int)} (h:JK o ts):E5 o ts:=by
 refine ⟨λx hx=>?_,by rw [h.nrm];exact h.nd⟩;have:=h.rg x hx;unfold Fit;rw [ah this.2.1];omega
theorem JK.mem {o:Nat} {ts:List (Int×Int)} (h:JK o ts) {t:Int×Int}:t∈Ed ts↔t∈ts:=by
 rw [(Nb ts).mem_iff,h.nrm]
theorem JK.web {o:Nat} {ts hs:List (Int×Int)} (h:JK o ts) (h1:1<=o) (ho:o<=60) (e:hs=ts∨hs=ts.reverse.map λx=>(x.2,x.1)):Za (o:Int) hs=some (o,Ed ts):=by
 have pm:(hs.map M.nrm).Perm (ts.map M.nrm):=by
  rcases e with rfl | rfl
  ·exact List.Perm.refl _
  ·rw [BU,show (M.nrm∘λx:Int×Int=>(x.2,x.1))=M.nrm from funext λx=>ai x,cM]
   exact List.reverse_perm _
 have hl:hs.length=ts.length:=by have:=pm.length_eq;rwa [AI,AI] at this
 unfold Za;rw [if_pos ⟨by omega,by omega,E5.of pm h.fit,by rw [hl];have:=h.ln;omega⟩,dG pm,CD]
theorem am {o:Nat} {us:List (Int×Int)} {g:Int} (h0:0<=g) (h1:g < o):atI (No o us) g=some (nr us g.toNat):=by
 refine QZ h0 ?_;unfold No;rw [As,DV (by omega)];rfl
theorem ap {o:Nat} {us:List (Int×Int)} {g:Int} (h0:0<=g) (h1:g < o):Pt (o,us) g=some (nr us g.toNat):=by
 unfold Pt Sa GX Es;simp only [AF];rw [decide_eq_true h0,if_pos rfl,decide_eq_true h1];simp only [AF];show He (BL (((aW (some (Fw.nx ()))).bind λ_=>some (.nx ()))) λ_=>_)=_;simp only [eG,AF,BQ];rw [am h0 h1];rfl
def lnr (ts:List (Int×Int)) (y:Int):List Int:=(ts.filter λx=>decide (y∈[x.1,x.2])).map λx=>x.1+x.2 - y
theorem ed {ts:List (Int×Int)} (hl:ts.length<=1000) (y:Int):Ir ts y=some (Cp (lnr ts y)):=by
 unfold Ir Ip;simp only [AF,fO (show ([]:List Int).length<=1000000 by decide),BQ]
 obtain ⟨s,e,rfl⟩:=S8 (ρ:=List Int) (l:=ts) (s0:=([]:List Int)) (q:=λs3 x4=>HS (λs17=>s17) (if decide (y∈[x4.1,x4.2])=true then HS (λv7=>v7) ((TV s3 (x4.1+x4.2 - y)).bind λl9=>some (.nx l9)) else some (.nx s3))) (λpre s=>s=lnr pre y) rfl (by
  rintro pre x s hx hp rfl;have hpl:=hp.length_le;rw [AU,Au] at hpl
  have hle:(lnr pre y).length<=pre.length:=by unfold lnr;rw [AI];exact Ca _ _
  have es:lnr (pre++[x]) y=if decide (y∈[x.1,x.2])=true then lnr pre y++[x.1+x.2 - y] else lnr pre y:=by
   unfold lnr;rw [Uq];split
   ·rw [C2];rfl
   ·rfl
  rw [es]
  cases c:decide (y∈[x.1,x.2]) with
  | true=>
   rw [if_pos rfl,if_pos rfl,Xy (by omega)];exact ⟨_,rfl,rfl⟩
  | false=>exact ⟨_,rfl,rfl⟩)
 rw [e];rfl
theorem O2 {ts:List (Int×Int)} {y z:Int}:z∈lnr ts y↔(y,z)∈ts∨(z,y)∈ts:=by
 unfold lnr;rw [A4]
 constructor
 ·rintro ⟨x,hx,rfl⟩
  obtain ⟨h1,h2⟩:=A5.mp hx;have h2:=of_decide_eq_true h2
  rcases A2.mp h2 with h | h
  ·left
   rw [show (y,x.1+x.2 - y)=x from RH h (by show x.1+x.2 - y=x.2;omega)];exact h1
  ·right
   have h:=Ae.mp h;rw [show (x.1+x.2 - y,y)=x from RH (by show x.1+x.2 - y=x.1;omega) h];exact h1
 ·rintro (h | h)
  ·exact ⟨_,A5.mpr ⟨h,decide_eq_true (by simp)⟩,by show y+z - y=z;omega⟩
  ·exact ⟨_,A5.mpr ⟨h,decide_eq_true (by simp)⟩,by show z+y - y=z;omega⟩
theorem FA {l:List Int} {x:Int}:x∈Cp l↔x∈l:=(EV l).mem_iff
theorem JK.near {o:Nat} {ts:List (Int×Int)} (h:JK o ts) {g:Int} (h0:0<=g) (z:Int):z∈nr (Ed ts) g.toNat↔z∈Cp (lnr ts g):=by
 rw [Pz,FA,O2,h.mem,h.mem,CT h0]
end M
namespace M
open PySem L2 L4
theorem aY:∀n:Nat,n < 128->∀x:Nat,x < 7->Lz (n:Int) (1 * 2 ^ x)=((n ||| 2 ^ x:Nat):Int)/\(n ||| 2 ^ x) < 128/\∀y:Nat,y < 7->(n ||| 2 ^ x).testBit y=(n.testBit y||decide (x=y)):=by decide +kernel
theorem YE:∀o:Nat,o < 8->∀n:Nat,n < 128->∀x:Nat,x < o->hb (CU (1 * 2 ^ o - 1) (n:Int)) (x:Int) = !n.testBit x:=by decide +kernel
theorem Nd:∀x:Nat,x < 8->YS 1 (x:Int)=some (1 * 2 ^ x):=by decide +kernel
theorem cB {l:List Int} (h:∀x∈l,0<=x/\x < 7):Ok (JZ l) λr=>∃n:Nat,r=n/\n < 128/\∀y:Nat,y < 7->(n.testBit y=true↔(y:Int)∈l):=by
 unfold JZ Ld;simp only [AF,BQ];refine OkF.out (OkF.seq (OkF.for (λpre (s:Int)=>∃n:Nat,s=n/\n < 128/\∀y:Nat,y < 7->(n.testBit y=true↔(y:Int)∈pre)) ⟨0,rfl,by decide,λy _=>by simp⟩ ?_) ?_)
 ·rintro pre x s hx hp ⟨n,rfl,hn,hb'⟩
  obtain ⟨x0,x7⟩:=h x hx
  obtain ⟨k,rfl⟩:∃k:Nat,x=k:=⟨x.toNat,by omega⟩
  rw [Nd k (by omega)];obtain ⟨o1,o2,o3⟩:=aY n hn k (by omega);refine .nx ⟨n ||| 2 ^ k,o1,o2,λy hy=>?_⟩;rw [o3 y hy,cc,hb' y hy,Az,Ae,decide_eq_true_eq];refine ⟨λq=>q.elim .inl λq=>.inr (by rw [q]),λq=>q.elim .inl λq=>.inr (by omega)⟩
 ·rintro s ⟨n,rfl,h1,h2⟩
  exact .rt ⟨n,rfl,h1,h2⟩
def Tg (us:List (Int×Int)) (g:Int):List Int:=Cp ([g]++nr us g.toNat)
def tkl (o:Nat) (us:List (Int×Int)):List (List Int):=(Ht 0 o).map (Tg us)
theorem XD {o:Nat} {us:List (Int×Int)} {g:Int} (h0:0<=g) (h1:g < o):atI (tkl o us) g=some (Tg us g):=by
 refine QZ h0 ?_;unfold tkl Ht;rw [As,As,DV (by omega)];show some (Tg us (0+(g.toNat:Int)))=_;rw [show (0:Int)+(g.toNat:Int)=g by omega]
theorem RP {o:Nat} {us:List (Int×Int)} {g:Int} (h0:0<=g) (h1:g < o):Tk (tkl o us) g=Tg us g:=by
 unfold Tk;rw [XD h0 h1];rfl
structure Kf (o:Nat) (us:List (Int×Int)):Prop where
 sm:o < 8
 len:∀g:Int,0<=g->g < o->(nr us g.toNat).length<=6
 rg:∀g:Int,0<=g->g < o->∀x∈nr us g.toNat,0<=x/\x < o/\x≠g
 nd:∀g:Int,0<=g->g < o->(nr us g.toNat).Nodup
section
variable {o:Nat} {us:List (Int×Int)}
theorem KQ {g x:Int}:x∈Tg us g↔x=g∨x∈nr us g.toNat:=by
 unfold Tg;rw [FA];simp
theorem Kf.tg (h:Kf o us) {g:Int} (h0:0<=g) (h1:g < o):(Tg us g).length<=7/\(∀x∈Tg us g,0<=x/\x < o)/\(Tg us g).Pairwise (· < ·):=by
 refine ⟨?_,λx hx=>?_,?_⟩
 ·unfold Tg
  rw [(EV _).length_eq,AU,Au];have:=h.len g h0 h1;omega
 ·rcases KQ.mp hx with rfl | hx
  ·exact ⟨h0,h1⟩
  ·exact ⟨(h.rg g h0 h1 x hx).1,(h.rg g h0 h1 x hx).2.1⟩
 ·have nd:(Tg us g).Nodup:=by
   unfold Tg;rw [(EV _).nodup_iff];show (g :: nr us g.toNat).Nodup;rw [Br];exact ⟨λz=>(h.rg g h0 h1 g z).2.2 rfl,h.nd g h0 h1⟩
  have:=(Mw ([g]++nr us g.toNat))
  exact (lF this nd).imp λ⟨a,b⟩=>by omega
theorem XE (h:Kf o us):IP (o,us)=some (tkl o us):=by
 unfold IP Jw;simp only [AF];rw [XJ (by omega) (by have:=h.sm;omega),CD];simp only [AF]
 rw [IL (f:=Tg us) (by rw [Ee];have:=h.sm;omega) λx hx=>by
  obtain ⟨x0,x1⟩:=Ga.mp hx;rw [ap x0 (by omega),be];simp only [AF];rw [Lj (by have:=h.len x x0 (by omega);rw [Au];omega)]
  rfl]
 rfl
def Ext (us:List (Int×Int)) (told rest:List Int) (c:Int) (l:List Int):Prop:=l.length=rest.length/\(told++l).Nodup/\(∀y∈rest.zip l,y.2∈Tg us y.1)/\c∈told++l
theorem JS (f:Int->Int):∀l:List Int,l.zip (l.map f)=l.map λg=>(g,f g)
 | []=>rfl
 | x :: l=>by rw [A1,C8,JS f l];rfl
theorem Wx {a b:List Int} {x y z:Int} (hn:b.Nodup) (h1:(x,z)∈a.zip b) (h2:(y,z)∈a.zip b):x=y:=by
 obtain ⟨i,hi,e1⟩:=Bc h1;obtain ⟨j,hj,e2⟩:=Bc h2;rw [D0] at hi hj;rw [Dd] at e1 e2;have f1:=(N9 e1);have f2:=(N9 e2);have:i=j:=(Om hn).mp (f1.2.trans f2.2.symm);subst this;exact f1.1.symm.trans f2.1
theorem dU (h:Kf o us) {told rest:List Int} {c:Int} {bits:Int} (hr:∀g∈rest,0<=g/\g < o) (hnd:rest.Nodup) (htn:told.Nodup) (hc:0<=c/\c < o) (hbt:∀x:Int,0<=x->x < o->(hb bits x=true↔x∉told)) :
  (Sdr (Tk (tkl o us)) bits rest/\(c∈told∨∃g∈rest,c∈Tg us g))↔∃l,Ext us told rest c l:=by
 have hw:∀g∈rest,∀x,x∈w0 (Tk (tkl o us)) bits g↔x∈Tg us g/\x∉told:=λg hg x=>by
  unfold w0;rw [A5,RP (hr g hg).1 (hr g hg).2];refine ⟨λ⟨a,b⟩=>⟨a,?_⟩,λ⟨a,b⟩=>⟨a,?_⟩⟩
  ·have:=(h.tg (hr g hg).1 (hr g hg).2).2.1 x a
   exact (hbt x this.1 this.2).mp b
  ·have:=(h.tg (hr g hg).1 (hr g hg).2).2.1 x a
   exact (hbt x this.1 this.2).mpr b
 have mk:∀f:Int->Int,(∀g∈rest,f g∈Tg us g/\f g∉told)->(∀a∈rest,∀b∈rest,f a=f b->a=b)->c∈told++rest.map f->∃l,Ext us told rest c l:=λf f1 f2 f3=>by
  refine ⟨rest.map f,AI _,?_,λy hy=>?_,f3⟩
  ·unfold GF
   rw [A8];refine ⟨htn,?_,λa ha b hb' e=>?_⟩
   ·rw [Bf]
    exact hnd.imp_of_mem λ{a b} ha hb' ne e=>ne (f2 a ha b hb' e)
   ·obtain ⟨g,hg,rfl⟩:=A4.mp hb'
    exact (f1 g hg).2 (e▸ha)
  ·rw [JS] at hy
   obtain ⟨g,hg,rfl⟩:=A4.mp hy;exact (f1 g hg).1
 constructor
 ·rintro ⟨⟨f,f1,f2⟩,hcc⟩
  have f1':∀g∈rest,f g∈Tg us g/\f g∉told:=λg hg=>(hw g hg _).mp (f1 g hg)
  by_cases d:c∈told++rest.map f
  ·exact mk f f1' f2 d
  ·have d1:c∉told:=λz=>d (Bz _ z)
   have d2:∀a∈rest,f a≠c:=λa ha z=>d (BA _ (A4.mpr ⟨a,ha,z⟩))
   rcases hcc with hcc | ⟨g,hg,hcg⟩
   ·exact absurd hcc d1
   ·refine mk (λa=>if a=g then c else f a) (λa ha=>?_) (λa ha b hb' e=>?_) (BA _ (A4.mpr ⟨g,hg,if_pos rfl⟩))
    ·by_cases q:a=g
     ·rw [if_pos q,q];exact ⟨hcg,d1⟩
     ·rw [if_neg q];exact f1' a ha
    ·by_cases q:a=g
     ·by_cases q2:b=g
      ·rw [q,q2]
      ·rw [if_pos q,if_neg q2] at e;exact absurd e.symm (d2 b hb')
     ·by_cases q2:b=g
      ·rw [if_neg q,if_pos q2] at e;exact absurd e (d2 a ha)
      ·rw [if_neg q,if_neg q2] at e;exact f2 a ha b hb' e
 ·rintro ⟨l,l1,l2,l3,l4⟩
  have ln:l.Nodup:=(D4.mp l2).2.1
  have dis:∀x∈l,x∉told:=λx hx z=>(D4.mp l2).2.2 x z x hx rfl
  have ex:∀a:Int,∃z:Int,a∈rest->(a,z)∈rest.zip l:=λa=>by
   by_cases q:a∈rest
   ·obtain ⟨i,hi,e⟩:=Bc q
    refine ⟨l[i]'(by omega),λ_=>?_⟩
    have:(rest.zip l)[i]'(by rw [D0];omega)=(a,l[i]'(by omega)):=by rw [Dd,e]
    rw [<-this];exact Cj _
   ·exact ⟨0,λz=>absurd z q⟩
  have hs:=λa=>Cz (ex a)
  refine ⟨⟨λa=>CH (ex a),λg hg=>(hw g hg _).mpr ⟨l3 _ (hs g hg),dis _ (Eo (hs g hg)).2⟩,λa ha b hb' e=>?_⟩,?_⟩
  ·have e:CH (ex a)=CH (ex b):=e
   have h1:=hs a ha;rw [e] at h1;exact Wx ln h1 (hs b hb')
  ·rcases Az.mp l4 with q | q
   ·exact .inl q
   ·obtain ⟨i,hi,e⟩:=Bc q
    have m:(rest[i]'(by omega),c)∈rest.zip l:=by
     have:(rest.zip l)[i]'(by rw [D0];omega)=(rest[i]'(by omega),c):=by rw [Dd,e]
     rw [<-this];exact Cj _
    exact .inr ⟨rest[i]'(by omega),Cj _,l3 _ m⟩
theorem nH (h:Kf o us) {told rest:List Int} {c:Int} (ht:∀x∈told,0<=x/\x < o) (hr:∀g∈rest,0<=g/\g < o) (hnd:rest.Nodup) (htn:told.Nodup) (hc:0<=c/\c < o) (hrl:rest.length<=100):Ok (Lf (tkl o us) told rest c) λb=>b=true↔∃l,Ext us told rest c l:=by
 have sm:=h.sm;unfold Lf Lc;simp only [AF];rw [IL (f:=λg=>decide (c∈Tg us g)) (by omega) λg hg=>by rw [XD (hr g hg).1 (hr g hg).2];rfl];simp only [AF]
 obtain ⟨r,e1,n,rfl,n1,n2⟩:=cB (l:=told) λx hx=>⟨(ht x hx).1,by have:=(ht x hx).2;omega⟩
 have hlen:((tkl o us).length:Int)=o:=by unfold tkl;rw [AI,Ee]
 rw [hlen,Nd o sm,e1];simp only [AF,BQ]
 have hbt:∀x:Int,0<=x->x < o->(hb (CU (1 * 2 ^ o - 1) (n:Int)) x=true↔x∉told):=λx x0 x1=>by
  obtain ⟨k,rfl⟩:∃k:Nat,x=k:=⟨x.toNat,by omega⟩
  rw [YE o sm n n1 k (by omega)];have:=n2 k (by omega)
  cases q:n.testBit k with
  | true=>simp [this.mp q]
  | false=>simp;exact λz=>by rw [this.mpr z] at q;cases q
 have key:=dU h hr hnd htn hc hbt
 have hT:(∀t∈tkl o us,t.length<=1000/\∀x∈t,0<=x)/\∀g∈rest,0<=g/\g < ((tkl o us).length:Int):=by
  refine ⟨λt htm=>?_,λg hg=>by rw [hlen];exact hr g hg⟩;obtain ⟨g,hg,rfl⟩:=A4.mp htm;obtain ⟨g0,g1⟩:=Ga.mp hg;have:=h.tg g0 (by omega);exact ⟨by omega,λx hx=>(this.2.1 x hx).1⟩
 have fs:=Rp (T:=Tk (tkl o us)) (bits:=CU (1 * 2 ^ o - 1) (n:Int)) (U:=Ht 0 o) (Gd:=λg=>0<=g/\g < o) (n:=9) (gs:=rest) (λg hg x hx=>by
  rw [RP hg.1 hg.2] at hx;have:=(h.tg hg.1 hg.2).2.1 x hx
  exact Ga.mpr ⟨this.1,by omega⟩) (by rw [Ee];omega) (by rw [Ee];omega) (λg hg=>⟨hr g hg,by rw [RP (hr g hg).1 (hr g hg).2];exact KQ.mpr (.inl rfl)⟩) hnd
 have pf:MF (tkl o us) rest (CU (1 * 2 ^ o - 1) (n:Int))=QJ (Tk (tkl o us)) (CU (1 * 2 ^ o - 1) (n:Int)) 9 rest:=if_pos hT;rw [pf];obtain ⟨b,e2,hb2⟩:=fs;rw [e2];simp only [AF]
 have hany:((rest.map λg=>decide (c∈Tg us g)).any id)=true↔∃g∈rest,c∈Tg us g:=by
  rw [VD,HV];exact ⟨λ⟨g,hg,e⟩=>⟨g,hg,of_decide_eq_true e⟩,λ⟨g,hg,e⟩=>⟨g,hg,decide_eq_true e⟩⟩
 by_cases d1:c∈told
 ·rw [decide_eq_true d1]
  exact ⟨b,rfl,(hb2.trans ⟨λq=>⟨q,.inl d1⟩,λq=>q.1⟩).trans key⟩
 ·rw [decide_eq_false d1]
  cases q:(rest.map λg=>decide (c∈Tg us g)).any id with
  | true=>exact ⟨b,rfl,(hb2.trans ⟨λz=>⟨z,.inr (hany.mp q)⟩,λz=>z.1⟩).trans key⟩
  | false=>
   refine ⟨false,rfl,⟨λz=>(by cases z),λz=>?_⟩⟩
   rcases (key.mpr z).2 with z | z
   ·exact absurd z d1
   ·rw [hany.mpr z] at q;cases q
end
end M
namespace M
open PySem L2 L4
open Srt (ltL)
theorem NA:∀a:List Int,ltL a a=false
 | []=>rfl
 | x :: a=>by unfold ltL;rw [if_pos rfl];exact NA a
theorem K7:∀ {a b:List Int} (p q:Int),a.length=b.length->(ltL a b=true∨(a=b/\p < q))->ltL (a++[p]) (b++[q])=true
 | [],[],p,q,_,h=>by
  rcases h with h | ⟨_,h⟩
  ·cases h
  ·show (if p=q then ltL [] [] else decide (p < q))=true
   rw [if_neg (by omega),decide_eq_true h]
 | x :: a,y :: b,p,q,hl,h=>by
  show (if x=y then ltL (a++[p]) (b++[q]) else decide (x < y))=true
  by_cases c:x=y
  ·rw [if_pos c]
   refine K7 p q (by simpa using hl) ?_
   rcases h with h | ⟨h,h2⟩
   ·have h:(if x=y then ltL a b else decide (x < y))=true:=h
    rw [if_pos c] at h;exact .inl h
   ·exact .inr ⟨(PM h).2,h2⟩
  ·rw [if_neg c]
   rcases h with h | ⟨h,h2⟩
   ·have h:(if x=y then ltL a b else decide (x < y))=true:=h
    rw [if_neg c] at h;exact h
   ·exact absurd (PM h).1 c
 | [],_ :: _,_,_,hl,_=>by simp at hl
 | _ :: _,[],_,_,hl,_=>by simp at hl
section
variable {o:Nat} {us:List (Int×Int)}
def Lv (us:List (Int×Int)) (gs:List Int) (c:Int) (r:List Int):Prop:=r.length=gs.length/\r.Nodup/\(∀y∈gs.zip r,y.2∈Tg us y.1)/\c∈r
def Xk (us:List (Int×Int)) (gs:List Int) (c:Int) (r:List Int):Bool:=@decide (∃l,Lv us gs c (r++l)) (Qd _)
theorem Nx {gs r:List Int} {c:Int}:Xk us gs c r=true↔∃l,Lv us gs c (r++l):=by
 unfold Xk;exact @decide_eq_true_iff _ (Qd _)
def nxt (us:List (Int×Int)) (gs:List Int) (c:Int) (g:Int) (t:List Int):List (List Int):=(((Tg us g).filter λp=>!decide (p∈t)).map λp=>t++[p]).filter (Xk us gs c)
theorem Sk (h:Kf o us) {gs:List Int} {c g:Int} (h0:0<=g) (h1:g < o) (t:List Int):(nxt us gs c g t).length<=7:=by
 unfold nxt;refine Am (Ca _ _) ?_;rw [AI];exact Am (Ca _ _) (h.tg h0 h1).1
theorem Oz {gs:List Int} {c g:Int} {t r:List Int}:r∈nxt us gs c g t↔∃p,r=t++[p]/\p∈Tg us g/\p∉t/\∃l,Lv us gs c (r++l):=by
 unfold nxt;rw [A5,A4]
 constructor
 ·rintro ⟨⟨p,hp,rfl⟩,hd⟩
  obtain ⟨p1,p2⟩:=A5.mp hp;exact ⟨p,rfl,p1,by simpa using p2,Nx.mp hd⟩
 ·rintro ⟨p,rfl,p1,p2,l⟩
  exact ⟨⟨p,A5.mpr ⟨p1,by simpa using p2⟩,rfl⟩,Nx.mpr l⟩
structure Bg (us:List (Int×Int)) (gs:List Int) (c:Int) (k:Nat) (B:List (List Int)):Prop where
 mem:∀t,t∈B↔t.length=k/\(k=0∨∃l,Lv us gs c (t++l))
 up:B.Pairwise λa b=>ltL a b=true
 ln:B.length<=7 ^ k
theorem cg {gs t l:List Int} {i:Nat} {g p:Int} (hg:gs[i]?=some g) (ht:t.length=i):(g,p)∈gs.zip (t++[p]++l):=by
 have h1:(gs.zip (t++[p]++l))[i]?=some (g,p):=by
  rw [R6];refine ⟨hg,?_⟩;rw [Ak (by rw [AU,Au];omega),BB (by omega),ht,VX];rfl
 exact CJ h1
theorem Bg.step (h:Kf o us) {gs:List Int} {c:Int} {k:Nat} {B:List (List Int)} {g:Int} (hB:Bg us gs c k B) (hg:gs[k]?=some g) (h0:0<=g) (h1:g < o):Bg us gs c (k+1) (B.flatMap (nxt us gs c g)):=by
 refine ⟨λr=>?_,?_,?_⟩
 ·rw [KS]
  constructor
  ·rintro ⟨t,ht,hr⟩
   obtain ⟨p,rfl,p1,p2,l,hl⟩:=Oz.mp hr;exact ⟨by rw [AU,((hB.mem t).mp ht).1];rfl,.inr ⟨l,hl⟩⟩
  ·rintro ⟨hr,q⟩
   obtain ⟨l,hl⟩:∃l,Lv us gs c (r++l):=q.elim (λz=>(by cases z)) id
   have hne:r≠[]:=λz=>by rw [z] at hr;cases hr
   refine ⟨r.dropLast,(hB.mem _).mpr ⟨by rw [Lx,hr];rfl,.inr ⟨[r.getLast hne]++l,?_⟩⟩,Oz.mpr ⟨r.getLast hne,(DQ hne).symm,?_,?_,l,hl⟩⟩
   ·rw [<-BM,DQ hne];exact hl
   ·have:=cg (l:=l) (p:=r.getLast hne) (t:=r.dropLast) hg (by rw [Lx,hr];rfl)
    rw [DQ hne] at this;exact hl.2.2.1 _ this
   ·have nd:=hl.2.1
    rw [<-DQ hne,BM] at nd;intro z;exact (D4.mp nd).2.2 _ z _ (by simp) rfl
 ·have key:∀L:List (List Int),L.Pairwise (λa b=>ltL a b=true)->(∀t∈L,t.length=k)->(L.flatMap (nxt us gs c g)).Pairwise λa b=>ltL a b=true:=by
   intro L
   induction L with
   | nil=>intro _ _;exact RM
   | cons t L ih=>
    intro hp hl;rw [DM,A8];refine ⟨?_,ih (Ih.mp hp).2 λs hs=>hl s (Ah _ hs),λa ha b hb'=>?_⟩
    ·unfold nxt
     refine lE _ ?_;rw [Bf]
     refine ((h.tg h0 h1).2.2.filter _).imp λ{a b} hab=>K7 a b rfl (.inr ⟨rfl,hab⟩)
    ·obtain ⟨p,rfl,_⟩:=Oz.mp ha
     obtain ⟨s,hs,hb2⟩:=KS.mp hb';obtain ⟨q,rfl,_⟩:=Oz.mp hb2;exact K7 p q (by rw [hl t A3,hl s (Ah _ hs)]) (.inl ((Ih.mp hp).1 s hs))
  exact key B hB.up λt ht=>((hB.mem t).mp ht).1
 ·have key:∀L:List (List Int),(L.flatMap (nxt us gs c g)).length<=7 * L.length:=by
   intro L
   induction L with
   | nil=>simp
   | cons t L ih=>
    rw [DM,AU,Ao];have:=Sk h (gs:=gs) (c:=c) h0 h1 t;omega
  have:=key B;have:=hB.ln;rw [lA];omega
theorem Rr {gs:List Int} {pre:List (Int×Int)} {x:Int×Int} (h:pre++[x] <+: IW gs):∃g,gs[pre.length]?=some g/\x=(((pre.length+1:Nat):Int),g):=by
 obtain ⟨r,hr⟩:=h;have h1:=congrArg (λz=>z[pre.length]?) hr;simp only [BM,BB (AT _),VX] at h1;rw [show ([x]++r)[0]?=some x from rfl] at h1;unfold IW at h1;rw [As,Ly] at h1
 cases q:gs[pre.length]? with
 | none=>rw [q] at h1;cases h1
 | some g=>rw [q] at h1;simp at h1;exact ⟨g,rfl,by rw [h1];simp⟩
theorem G0 {gs a b:List Int} (h:a.length<=gs.length) (y:Int×Int):y∈gs.zip (a++b)↔y∈gs.zip a∨y∈(gs.drop a.length).zip b:=by
 have h1:gs.zip (a++b)=(gs.take a.length).zip a++(gs.drop a.length).zip b:=by
  conv=>lhs;rw [<-C4 a.length gs]
  exact Ko (by rw [C9];omega)
 have h2:gs.zip a=(gs.take a.length).zip a:=by
  have:gs.zip (a++[])=(gs.take a.length).zip a++(gs.drop a.length).zip []:=by
   conv=>lhs;rw [<-C4 a.length gs]
   exact Ko (by rw [C9];omega)
  rw [BK,Eh,BK] at this;exact this
 rw [h1,h2,Az]
theorem ba {gs t l:List Int} {c:Int} (ht:t.length<=gs.length) (hz:∀y∈gs.zip t,y.2∈Tg us y.1):Ext us t (gs.drop t.length) c l↔Lv us gs c (t++l):=by
 unfold Ext Lv;rw [AU,EK];refine ⟨λ⟨a,b,d,e⟩=>⟨by omega,b,λy hy=>?_,e⟩,λ⟨a,b,d,e⟩=>⟨by omega,b,λy hy=>d y ((G0 ht y).mpr (.inr hy)),e⟩⟩
 rcases (G0 ht y).mp hy with q | q
 ·exact hz y q
 ·exact d y q
theorem Lv.rg (h:Kf o us) {gs r:List Int} {c:Int} (hg:∀g∈gs,0<=g/\g < o) (hr:Lv us gs c r):∀x∈r,0<=x/\x < o:=λx hx=>by
 obtain ⟨i,hi,rfl⟩:=Bc hx
 have hi':i < gs.length:=by rw [<-hr.1];exact hi
 have m:(gs[i],r[i])∈gs.zip r:=by
  have:(gs.zip r)[i]'(by rw [D0];omega)=(gs[i],r[i]):=Dd;rw [<-this];exact Cj _
 have:=hg gs[i] (Cj _);exact (h.tg this.1 this.2).2.1 _ (hr.2.2.1 _ m)
theorem nI (h:Kf o us) {gs:List Int} {c:Int} (hg:∀g∈gs,0<=g/\g < o) (hnd:gs.Nodup) (hl:gs.length<=6) (hc:0<=c/\c < o) (h0:gs≠[]):Ok (EF (o,us) gs c) λB=>(∀r,r∈B↔Lv us gs c r)/\(B.Pairwise λa b=>ltL a b=true)/\B.length<=7 ^ gs.length:=by
 unfold EF FH;simp only [AF];rw [XE h];simp only [AF,BQ,j8,be];refine OkF.out (OkF.seq (OkF.for (λpre s=>Bg us gs c pre.length s) ⟨λt=>?_,by simp,AT _⟩ ?_) ?_)
 ·rw [Ae]
  exact ⟨λe=>⟨by rw [e];rfl,.inl rfl⟩,λe=>B0 e.1⟩
 ·intro pre x s hx hp hB
  obtain ⟨g,eg,rfl⟩:=Rr hp;have hgm:=hg g (CJ eg);have hkl:pre.length < gs.length:=(AH.mp eg).1;rw [Ux gs (by omega),XD hgm.1 hgm.2];simp only [AF];have h7:(7:Nat) ^ pre.length<=16807:=Am (X8 (by decide) (show pre.length<=5 by omega)) (by decide);have hBl:=hB.ln;refine OkF.seq (N:=λs'=>s'=s.flatMap (nxt us gs c g)) (OkF.for (λp2 s2=>s2=p2.flatMap (nxt us gs c g)) rfl ?_) ?_
  ·rintro p2 t s2 ht hp2 rfl
   have hp2l:=hp2.length_le;rw [AU,Au] at hp2l;obtain ⟨tl,tf⟩:=(hB.mem t).mp ht
   have tv:t.Nodup/\(∀y∈gs.zip t,y.2∈Tg us y.1)/\∀x∈t,0<=x/\x < o:=by
    rcases tf with tf | ⟨l,hl'⟩
    ·rw [tf] at tl
     have:=B0 tl;subst this;exact ⟨FL,by simp,λx hx=>(nomatch hx)⟩
    ·exact ⟨(D4.mp hl'.2.1).1,λy hy=>hl'.2.2.1 y ((G0 (by omega) y).mpr (.inl hy)),λx hx=>hl'.rg h hg x (Bz _ hx)⟩
   have t7:=h.tg hgm.1 hgm.2;rw [LM (P:=λp=>!decide (p∈t)) (f:=λp=>t++[p]) (by omega) (λ_ _=>rfl) λp _ _=>Lj (by rw [Au];omega)];simp only [AF,BQ]
   rw [HA (P:=Xk us gs c) (by rw [AI];exact Am (Ca _ _) (by have:=t7.1;omega)) λr hr=>by
    obtain ⟨p,hp',rfl⟩:=A4.mp hr;obtain ⟨p1,p2'⟩:=A5.mp hp'
    have p2:p∉t:=by simpa using p2'
    have lt1:(t++[p]).length=pre.length+1:=by rw [AU,tl];rfl
    have hz:∀y∈gs.zip (t++[p]),y.2∈Tg us y.1:=λy hy=>by
     rcases (G0 (by omega) y).mp hy with q | q
     ·exact tv.2.1 y q
     ·rw [tl,Be hkl] at q
      rw [C8,Eh,Ae] at q;rw [q,show gs[pre.length]=g from by rw [BJ hkl] at eg;exact Ck eg];exact p1
    obtain ⟨b,e1,hb'⟩:=nH h (told:=t++[p]) (rest:=gs.drop (pre.length+1)) (c:=c) (λx hx=>by
     rcases Az.mp hx with q | q
     ·exact tv.2.2 x q
     ·rw [Ae.mp q];exact t7.2.1 p p1) (λx hx=>hg x (Hk hx)) (hnd.sublist (OC _ _)) (by
     unfold GF;rw [A8]
     exact ⟨tv.1,by simp,λa ha b hb2 e=>p2 (by rw [Ae.mp hb2] at e;rw [<-e];exact ha)⟩) hc (by rw [EK];omega)
    rw [e1]
    have this:∀l,Ext us (t++[p]) (gs.drop (pre.length+1)) c l↔Lv us gs c (t++[p]++l):=λl=>by
     have:=ba (us:=us) (c:=c) (t:=t++[p]) (gs:=gs) (l:=l) (by omega) hz;rw [lt1] at this;exact this
    congr 1
    rw [cf,hb',Nx]
    exact ⟨λ⟨l,q⟩=>⟨l,(this l).mp q⟩,λ⟨l,q⟩=>⟨l,(this l).mpr q⟩⟩]
   simp only [AF]
   have key:∀L:List (List Int),(L.flatMap (nxt us gs c g)).length<=7 * L.length:=by
    intro L
    induction L with
    | nil=>simp
    | cons t L ih=>
     rw [DM,AU,Ao];have:=Sk h (gs:=gs) (c:=c) hgm.1 hgm.2 t;omega
   have k1:=key p2;have k2:=Sk h (gs:=gs) (c:=c) hgm.1 hgm.2 t;unfold nxt at k2;rw [Lj (by omega)];refine .nx ?_;show p2.flatMap (nxt us gs c g)++_=(p2++[t]).flatMap (nxt us gs c g);rw [Mg,DM,cN,BK];rfl
  ·rintro s' rfl
   refine .nx ?_;show Bg us gs c (pre++[_]).length _;rw [AU,Au];exact hB.step h eg hgm.1 hgm.2
 ·intro s hB
  have hlen:(IW gs).length=gs.length:=by unfold IW;rw [AI,ZL]
  rw [hlen] at hB;refine .rt ⟨λr=>?_,hB.up,hB.ln⟩;rw [hB.mem r]
  constructor
  ·rintro ⟨h1,h2⟩
   rcases h2 with h2 | ⟨l,h2⟩
   ·exact absurd (B0 h2) h0
   ·have:l=[]:=B0 (by have:=h2.1;rw [AU] at this;omega)
    rw [this,BK] at h2;exact h2
  ·intro h1
   exact ⟨h1.1,.inr ⟨[],by rw [BK];exact h1⟩⟩
end
end M
namespace M
open PySem L2 L4
open Srt (ltL)
theorem P2 {us:List (Int×Int)} {x:Nat} {z:Int}:z∈Cq us x↔((x:Int),z)∈us∨(z,(x:Int))∈us:=by
 rw [<-Pz];exact FA.symm
theorem Rc {x:Nat}:∀ {us:List (Int×Int)},us.Nodup->(∀t∈us,t.1 < t.2)->(Cq us x).Nodup
 | [],_,_=>FL
 | t :: us,h,h1=>by
  have ih:=Rc (x:=x) (Br.mp h).2 λs hs=>h1 s (Ah _ hs)
  have nt:=(Br.mp h).1;have lt:=h1 t A3
  have e:Cq (t :: us) x=((if t.1=(x:Int) then [t.2] else [])++(if t.2=(x:Int) then [t.1] else []))++Cq us x:=by
   unfold Cq;rw [DM]
  rw [e]
  have lt':∀a b:Int,(a,b)∈us->a < b:=λa b hm=>h1 _ (Ah _ hm)
  by_cases c1:t.1=(x:Int)
  ·rw [if_pos c1,if_neg (by omega),BK]
   show (t.2 :: Cq us x).Nodup;rw [Br];refine ⟨λz=>?_,ih⟩
   rcases P2.mp z with z | z
   ·rw [<-c1] at z;exact nt z
   ·have:=lt' _ _ z;omega
  ·rw [if_neg c1,Qb]
   by_cases c2:t.2=(x:Int)
   ·rw [if_pos c2]
    show (t.1 :: Cq us x).Nodup;rw [Br];refine ⟨λz=>?_,ih⟩
    rcases P2.mp z with z | z
    ·have:=lt' _ _ z;omega
    ·rw [<-c2] at z;exact nt z
   ·rw [if_neg c2];exact ih
section
variable {o:Nat} {ts:List (Int×Int)}
theorem JK.ties (h:JK o ts) (ho:o < 8):Kf o (Ed ts):=by
 have rg:∀g:Int,0<=g->g < o->∀x∈nr (Ed ts) g.toNat,0<=x/\x < o/\x≠g:=λg h0 h1 x hx=>by
  rw [Pz,h.mem,h.mem,CT h0] at hx
  rcases hx with hx | hx
  ·have:0<=g/\g < x/\x < o:=h.rg _ hx;omega
  ·have:0<=x/\x < g/\g < o:=h.rg _ hx;omega
 have nd:∀g:Int,0<=g->g < o->(nr (Ed ts) g.toNat).Nodup:=λg _ _=>by
  refine (EV _).nodup_iff.mpr (Rc ?_ λt ht=>?_)
  ·rw [(Nb ts).nodup_iff,h.nrm];exact h.nd
  ·exact (h.rg t (h.mem.mp ht)).2.1
 refine ⟨ho,λg h0 h1=>?_,rg,nd⟩;have n2:(g :: nr (Ed ts) g.toNat).Nodup:=Br.mpr ⟨λz=>(rg g h0 h1 g z).2.2 rfl,nd g h0 h1⟩
 have:=K0 (k:=Ht 0 o) n2 λx hx=>by
  rw [Ga]
  rcases A2.mp hx with rfl | hx
  ·omega
  ·have:=rg g h0 h1 x hx;omega
 rw [Ee,Ao] at this;omega
theorem jd (h:JK o ts) (y:Int):(lnr ts y).Nodup:=by
 unfold lnr GF;rw [Bf]
 refine (h.nd.filter _).imp_of_mem λ{a b} ha hb' ne e=>ne ?_
 obtain ⟨a1,a2⟩:=A5.mp ha;obtain ⟨b1,b2⟩:=A5.mp hb';have a2:=of_decide_eq_true a2;have b2:=of_decide_eq_true b2;have ra:=h.rg a a1;have rb:=h.rg b b1;simp only [A2,FT,or_false] at a2 b2
 refine RH ?_ ?_ <;> omega
theorem iV (h:JK o ts) (g:Int):([g]++Cp (lnr ts g)).Nodup:=by
 show (g :: Cp (lnr ts g)).Nodup;rw [Br,(EV _).nodup_iff,FA,O2];refine ⟨λz=>?_,jd h g⟩
 rcases z with z | z <;> (have:=h.rg _ z;omega)
theorem dN (h:JK o ts) {g x:Int} (h0:0<=g):x∈[g]++Cp (lnr ts g)↔x∈Tg (Ed ts) g:=by
 rw [KQ,h.near h0];simp
theorem Vx {r:List Int} {n:Nat} (h:r.length=n+1):∃t p,r=t++[p]/\t.length=n:=by
 have hne:r≠[]:=λz=>by rw [z] at h;cases h
 exact ⟨r.dropLast,r.getLast hne,(DQ hne).symm,by rw [Lx,h];rfl⟩
theorem P0 {t:List Int} {p:Int}:(t++[p]).Nodup↔t.Nodup/\p∉t:=by
 unfold GF;rw [A8]
 constructor
 ·rintro ⟨a,-,c⟩
  exact ⟨a,λz=>c p z p (by simp) rfl⟩
 ·rintro ⟨a,b⟩
  exact ⟨a,by simp,λx hx y hy e=>b (by rw [Ae.mp hy] at e;rw [<-e];exact hx)⟩
def lnx (v:List Int) (r:List Int):List (List Int):=(v.filter λp=>!decide (p∈r)).map λp=>r++[p]
theorem XY {v r t:List Int}:t∈lnx v r↔∃p,t=r++[p]/\p∈v/\p∉r:=by
 unfold lnx;rw [A4]
 constructor
 ·rintro ⟨p,hp,rfl⟩
  obtain ⟨p1,p2⟩:=A5.mp hp;exact ⟨p,rfl,p1,by simpa using p2⟩
 ·rintro ⟨p,rfl,p1,p2⟩
  exact ⟨p,A5.mpr ⟨p1,by simpa using p2⟩,rfl⟩
theorem XZ {v r:List Int}:(lnx v r).length<=v.length:=by
 unfold lnx;rw [AI];exact Ca _ _
theorem P5 {v:List Int} (hv:v.length<=7):∀L:List (List Int),(L.flatMap (lnx v)).length<=7 * L.length
 | []=>by simp
 | t :: L=>by
  rw [DM,AU,Ao];have:=P5 hv L;have:=XZ (v:=v) (r:=t);omega
end
end M
namespace M
open PySem L2 L4
open Srt (ltL)
theorem Ss:∀x y:List Int,HT.lexLt x y=ltL x y
 | [],[]=>rfl
 | [],_ :: _=>rfl
 | _ :: _,[]=>rfl
 | x :: xs,y :: ys=>by rw [HT.P9,ltL,Ss xs ys]
section
variable {o:Nat} {us ts:List (Int×Int)} {gs oth:List Int}
def InP (us:List (Int×Int)) (gs oth r:List Int):Prop:=r.length=gs.length/\r.Nodup/\(∀y∈gs.zip r,y.2∈Tg us y.1)/\∀x∈r,x∈oth
def Lst (us:List (Int×Int)) (gs oth:List Int) (v:Option (List Int)):Prop:=match v with
 | none=>¬ ∃r,InP us gs oth r
 | some r=>InP us gs oth r/\∀r',InP us gs oth r'->ltL r' r=false
theorem Lst.one {v w:Option (List Int)} (hv:Lst us gs oth v) (hw:Lst us gs oth w):v=w:=by
 cases v with
 | none=>
  cases w with
  | none=>rfl
  | some r=>exact absurd ⟨r,hw.1⟩ hv
 | some r=>
  cases w with
  | none=>exact absurd ⟨r,hv.1⟩ hw
  | some r'=>exact congrArg some (Srt.Sq _ _ (hw.2 r hv.1) (hv.2 r' hw.1))
theorem kG {rs:List (List Int)} (h:rs≠[]):∃b,U0 rs=some b/\b∈rs/\∀r∈rs,ltL r b=false:=by
 have key:∀k,Ez (λi j=>HT.lexLt (rs.getD i []) (rs.getD j [])) k<=k/\∀i,i<=k->ltL (rs.getD i []) (rs.getD (Ez (λi j=>HT.lexLt (rs.getD i []) (rs.getD j [])) k) [])=false:=by
  intro k
  induction k with
  | zero=>
   refine ⟨AT _,λi hi=>?_⟩
   have:i=0:=by omega
   subst this;exact NA _
  | succ k ih=>
   obtain ⟨a,b⟩:=ih;unfold Ez;split
   ·rename_i c
    rw [Ss] at c;refine ⟨AT _,λi hi=>?_⟩
    by_cases e:i=k+1
    ·subst e
     exact NA _
    ·exact Srt.O1 _ _ _ (Srt.K8 _ _ c) (b i (by omega))
   ·rename_i c
    refine ⟨by omega,λi hi=>?_⟩
    by_cases e:i=k+1
    ·subst e
     rw [Ss] at c;simpa using c
    ·exact b i (by omega)
 obtain ⟨a,b⟩:=key (rs.length - 1);have hl:0 < rs.length:=Fe.mpr h;unfold U0;generalize Ez (λi j=>HT.lexLt (rs.getD i []) (rs.getD j [])) (rs.length - 1)=n at a b
 have hn:n < rs.length:=by omega
 refine ⟨rs[n],BJ hn,Cj hn,λr hr=>?_⟩;obtain ⟨i,hi,rfl⟩:=Bc hr;have:=b i (by omega);rw [FM,FM,BJ hi,BJ hn] at this;exact this
structure RwO (us:List (Int×Int)) (oth gs:List Int) (s:List (List Int)):Prop where
 mem:∀r,r∈s↔InP us gs oth r
 ln:s.length<=7 ^ gs.length
theorem RwO.step {v:List Int} {g:Int} {s:List (List Int)} (h:RwO us oth gs s) (hv:∀x,x∈v↔x∈Tg us g/\x∈oth) (hl:v.length<=7):RwO us oth (gs++[g]) (s.flatMap (lnx v)):=by
 refine ⟨λr=>?_,?_⟩
 ·rw [KS]
  constructor
  ·rintro ⟨t,ht,hr⟩
   obtain ⟨p,rfl,p1,p2⟩:=XY.mp hr;obtain ⟨a,b,c,d⟩:=(h.mem t).mp ht;refine ⟨by rw [AU,AU,a];rfl,P0.mpr ⟨b,p2⟩,λy hy=>?_,λx hx=>?_⟩
   ·rw [Ko a.symm] at hy
    rcases Az.mp hy with hy | hy
    ·exact c y hy
    ·rw [C8,Eh,Ae] at hy
     rw [hy];exact ((hv p).mp p1).1
   ·rcases Az.mp hx with hx | hx
    ·exact d x hx
    ·rw [Ae.mp hx]
     exact ((hv p).mp p1).2
  ·rintro ⟨a,b,c,d⟩
   rw [AU,Au] at a;obtain ⟨t,p,rfl,ht⟩:=Vx a;obtain ⟨b1,b2⟩:=P0.mp b;rw [Ko ht.symm] at c;refine ⟨t,(h.mem t).mpr ⟨ht,b1,λy hy=>c y (Bz _ hy),λx hx=>d x (Bz _ hx)⟩,XY.mpr ⟨p,rfl,(hv p).mpr ⟨c (g,p) (BA _ (by simp)),d p (by simp)⟩,b2⟩⟩
 ·have:=P5 hl s
  have:=h.ln;rw [AU,Au,lA];omega
theorem bA (h:JK o ts) (ho:o < 8) (hg:∀g∈gs,0<=g/\g < o) (hl:gs.length<=6):Ok (IB ts gs oth) (Lst (Ed ts) gs oth):=by
 unfold IB Hx;simp only [BQ,j8,be,AF];refine OkF.out (OkF.seq (OkF.for (λpre s=>RwO (Ed ts) oth pre s) ⟨λr=>?_,AT _⟩ ?_) ?_)
 ·rw [Ae]
  exact ⟨λe=>by rw [e];exact ⟨rfl,FL,by simp,λx hx=>(nomatch hx)⟩,λe=>B0 e.1⟩
 ·intro pre g s hgm hp hs
  have hpl:=hp.length_le;rw [AU,Au] at hpl;have hg':=hg g hgm;rw [ed (by have:=h.ln;omega)];simp only [AF,be]
  have hvm:=λx=>dN h (g:=g) (x:=x) hg'.1
  have hvn:=iV h g
  have hv:([g]++Cp (lnr ts g)).length<=7:=by
   have:=K0 (k:=Ht 0 o) hvn λx hx=>by
    have:=((h.ties ho).tg hg'.1 hg'.2).2.1 x ((hvm x).mp hx);rw [Ga];omega
   rw [Ee] at this;omega
  rw [Lj (l:=[g]) (k:=Cp (lnr ts g)) (by rw [<-AU];omega)];generalize [g]++Cp (lnr ts g)=v0 at hv hvm hvn;simp only [AF];rw [HA (P:=λx=>decide (x∈oth)) (by omega) λ_ _=>rfl];simp only [AF,BQ]
  have hvm':∀x,x∈v0.filter (λx=>decide (x∈oth))↔x∈Tg (Ed ts) g/\x∈oth:=λx=>by rw [A5,hvm,decide_eq_true_eq]
  have hv':(v0.filter λx=>decide (x∈oth)).length<=7:=Am (Ca _ _) hv;generalize v0.filter (λx=>decide (x∈oth))=v at hv' hvm';have h7:(7:Nat) ^ pre.length<=16807:=Am (X8 (by decide) (show pre.length<=5 by omega)) (by decide);have hsl:=hs.ln;refine OkF.seq (N:=λs'=>s'=s.flatMap (lnx v)) (OkF.for (λp2 s2=>s2=p2.flatMap (lnx v)) rfl ?_) ?_
  ·rintro p2 r s2 hr hp2 rfl
   have hp2l:=hp2.length_le;rw [AU,Au] at hp2l;have hrl:=((hs.mem r).mp hr).1;rw [LM (P:=λp=>!decide (p∈r)) (f:=λp=>r++[p]) (by omega) (λ_ _=>rfl) λp _ _=>Lj (by rw [Au];omega)];simp only [AF];have k1:=P5 hv' p2;have k2:=XZ (v:=v) (r:=r);unfold lnx at k2;rw [Lj (by omega)];refine .nx ?_;show p2.flatMap (lnx v)++_=(p2++[r]).flatMap (lnx v);rw [Mg,DM,cN,BK];rfl
  ·rintro s2 rfl
   exact .nx (hs.step hvm' hv')
 ·intro s hs
  by_cases c:s=[]
  ·rw [decide_eq_true c,if_pos rfl]
   refine .rt λ⟨r,hr⟩=>?_
   have:=(hs.mem r).mpr hr;rw [c] at this;cases this
  ·rw [decide_eq_false c,if_neg AQ]
   obtain ⟨b,e,b1,b2⟩:=kG c;simp only [BQ];rw [e];exact .rt ⟨(hs.mem b).mp b1,λr' hr'=>b2 r' ((hs.mem r').mpr hr')⟩
end
end M
namespace M
open PySem L2 L4
open Srt (ltL)
theorem ff:∀n:Nat,n < 128->∀x:Nat,x < 7->(DA (n:Int) (1 * 2 ^ x) != 0)=n.testBit x:=by decide +kernel
theorem R9:∀n:Nat,n < 128->∀x:Nat,x < 7->CU (n:Int) (1 * 2 ^ x)=((n ^^^ 2 ^ x:Nat):Int)/\(n ^^^ 2 ^ x) < 128/\∀y:Nat,y < 7->(n ^^^ 2 ^ x).testBit y=(n.testBit y != decide (x=y)):=by decide +kernel
theorem jn:∀n:Nat,n < 128->∀x:Nat,x < 7->hb (n:Int) (x:Int)=n.testBit x:=by decide +kernel
abbrev bit (n:Nat) (x:Int):Prop:=n.testBit x.toNat=true
def InS (us:List (Int×Int)) (gs:List Int) (P:Int->Prop) (r:List Int):Prop:=r.length=gs.length/\r.Nodup/\(∀y∈gs.zip r,y.2∈Tg us y.1)/\∀x∈r,P x
def Pre (us:List (Int×Int)) (gs:List Int) (P:Int->Prop) (t:List Int):Prop:=t.Nodup/\(∀y∈gs.zip t,y.2∈Tg us y.1)/\∀x∈t,P x
section
variable {o:Nat} {us:List (Int×Int)} {gs rest:List Int} {P Q:Int->Prop} {g:Int} {n:Nat}
theorem InS.rg (h:Kf o us) {r:List Int} (hg:∀g∈gs,0<=g/\g < o) (hr:InS us gs P r):∀x∈r,0<=x/\x < o:=λx hx=>by
 obtain ⟨i,hi,rfl⟩:=Bc hx;have hl:=hr.1
 have m:(gs[i]'(by omega),r[i])∈gs.zip r:=by
  have:(gs.zip r)[i]'(by rw [D0];omega)=(gs[i]'(by omega),r[i]):=Dd;rw [<-this];exact Cj _
 have g':=hg _ (Cj (show i < gs.length by omega));exact (h.tg g'.1 g'.2).2.1 _ (hr.2.2.1 _ m)
theorem InS.imp {r:List Int} (hr:InS us gs P r) (i:∀x∈r,P x->Q x):InS us gs Q r:=⟨hr.1,hr.2.1,hr.2.2.1,λx hx=>i x hx (hr.2.2.2 x hx)⟩
theorem InS.cut {t l:List Int} (ht:t.length<=gs.length):InS us gs P (t++l)↔Pre us gs P t/\InS us (gs.drop t.length) (λx=>P x/\x∉t) l:=by
 unfold InS Pre;rw [D4,AU,EK]
 constructor
 ·rintro ⟨a,⟨b1,b2,b3⟩,c,d⟩
  exact ⟨⟨b1,λy hy=>c y ((G0 ht y).mpr (.inl hy)),λx hx=>d x (Bz _ hx)⟩,by omega,b2,λy hy=>c y ((G0 ht y).mpr (.inr hy)),λx hx=>⟨d x (BA _ hx),λz=>b3 x z x hx rfl⟩⟩
 ·rintro ⟨⟨a1,a2,a3⟩,b,c,d,e⟩
  refine ⟨by omega,⟨a1,c,λx hx y hy q=>(e y hy).2 (q▸hx)⟩,λy hy=>?_,λx hx=>?_⟩
  ·rcases (G0 ht y).mp hy with q | q
   ·exact a2 y q
   ·exact d y q
  ·rcases Az.mp hx with q | q
   ·exact a3 x q
   ·exact (e x q).1
theorem Wy (hn:n < 128) {x y:Int} (hx:0<=x/\x < 7) (hy:0<=y/\y < 7):bit (n ^^^ 2 ^ x.toNat) y↔n.testBit y.toNat≠decide (x=y):=by
 unfold bit;rw [(R9 n hn x.toNat (by omega)).2.2 y.toNat (by omega)]
 have:(x.toNat=y.toNat)↔x=y:=by omega
 simp only [bne_iff_ne,this]
theorem InS.cons (h:Kf o us) (hn:n < 128) (hg:0<=g/\g < o) (hr:∀g∈rest,0<=g/\g < o) {x:Int} {l:List Int}:InS us (g :: rest) (bit n) (x :: l)↔x∈Tg us g/\bit n x/\InS us rest (bit (n ^^^ 2 ^ x.toNat)) l:=by
 have sm:=h.sm;have key:=InS.cut (us:=us) (gs:=g :: rest) (P:=bit n) (t:=[x]) (l:=l) (by simp);rw [Dl] at key;rw [key];have hd:(g :: rest).drop [x].length=rest:=rfl;rw [hd]
 constructor
 ·rintro ⟨⟨-,a,b⟩,c⟩
  have xt:=a (g,x) (by simp);have xr:=(h.tg hg.1 hg.2).2.1 x xt;have rg:=c.rg h hr;refine ⟨xt,b x (by simp),c.imp λy hy ⟨p1,p2⟩=>?_⟩;have yr:=rg y hy;rw [Wy hn (by omega) (by omega),p1,decide_eq_false (λe=>p2 (by rw [e];simp))]
  decide
 ·rintro ⟨a,b,c⟩
  have xr:=(h.tg hg.1 hg.2).2.1 x a;have rg:=c.rg h hr;refine ⟨⟨by simp,λy hy=>?_,λy hy=>by rw [Ae.mp hy];exact b⟩,c.imp λy hy q=>?_⟩
  ·rw [C8,Eh,Ae] at hy
   rw [hy];exact a
  ·have yr:=rg y hy
   rw [Wy hn (by omega) (by omega)] at q
   by_cases e:x=y
   ·subst e
    rw [b] at q;simp at q
   ·rw [decide_eq_false e] at q
    exact ⟨by simpa using q,λz=>e (Ae.mp z).symm⟩
theorem ii (h:Kf o us) (hn:n < 128) (hr:∀g∈rest,0<=g/\g < o) (hnd:rest.Nodup):Sdr (Tk (tkl o us)) (n:Int) rest↔∃r,InS us rest (bit n) r:=by
 have sm:=h.sm
 have hw:∀g∈rest,∀x,x∈w0 (Tk (tkl o us)) (n:Int) g↔x∈Tg us g/\bit n x:=λg hg x=>by
  unfold w0;rw [A5,RP (hr g hg).1 (hr g hg).2]
  refine and_congr_right λa=>?_
  have:=(h.tg (hr g hg).1 (hr g hg).2).2.1 x a
  obtain ⟨k,rfl⟩:∃k:Nat,x=k:=⟨x.toNat,by omega⟩
  unfold bit;rw [jn n hn k (by omega),CD]
 constructor
 ·rintro ⟨f,f1,f2⟩
  refine ⟨rest.map f,AI _,?_,λy hy=>?_,λx hx=>?_⟩
  ·unfold GF
   rw [Bf]
   exact hnd.imp_of_mem λ{a b} ha hb' ne e=>ne (f2 a ha b hb' e)
  ·rw [JS] at hy
   obtain ⟨g,hg,rfl⟩:=A4.mp hy;exact ((hw g hg _).mp (f1 g hg)).1
  ·obtain ⟨g,hg,rfl⟩:=A4.mp hx
   exact ((hw g hg _).mp (f1 g hg)).2
 ·rintro ⟨l,l1,ln,l3,l4⟩
  have ex:∀a:Int,∃z:Int,a∈rest->(a,z)∈rest.zip l:=λa=>by
   by_cases q:a∈rest
   ·obtain ⟨i,hi,e⟩:=Bc q
    refine ⟨l[i]'(by omega),λ_=>?_⟩
    have:(rest.zip l)[i]'(by rw [D0];omega)=(a,l[i]'(by omega)):=by rw [Dd,e]
    rw [<-this];exact Cj _
   ·exact ⟨0,λz=>absurd z q⟩
  have hs:=λa=>Cz (ex a)
  refine ⟨λa=>CH (ex a),λg hg=>(hw g hg _).mpr ⟨l3 _ (hs g hg),l4 _ (Eo (hs g hg)).2⟩,λa ha b hb' e=>?_⟩;have e:CH (ex a)=CH (ex b):=e;have h1:=hs a ha;rw [e] at h1;exact Wx ln h1 (hs b hb')
theorem j6 (h:Kf o us) (hn:n < 128) (hr:∀g∈rest,0<=g/\g < o) (hnd:rest.Nodup):Ok (MF (tkl o us) rest (n:Int)) λb=>b=true↔∃r,InS us rest (bit n) r:=by
 have sm:=h.sm
 have hlen:((tkl o us).length:Int)=o:=by unfold tkl;rw [AI,Ee]
 have hT:(∀t∈tkl o us,t.length<=1000/\∀x∈t,0<=x)/\∀g∈rest,0<=g/\g < ((tkl o us).length:Int):=by
  refine ⟨λt htm=>?_,λg hg=>by rw [hlen];exact hr g hg⟩;obtain ⟨g,hg,rfl⟩:=A4.mp htm;obtain ⟨g0,g1⟩:=Ga.mp hg;have:=h.tg g0 (by omega);exact ⟨by omega,λx hx=>(this.2.1 x hx).1⟩
 have fs:=Rp (T:=Tk (tkl o us)) (bits:=(n:Int)) (U:=Ht 0 o) (Gd:=λg=>0<=g/\g < o) (n:=9) (gs:=rest) (λg hg x hx=>by
  rw [RP hg.1 hg.2] at hx;have:=(h.tg hg.1 hg.2).2.1 x hx
  exact Ga.mpr ⟨this.1,by omega⟩) (by rw [Ee];omega) (by rw [Ee];omega) (λg hg=>⟨hr g hg,by rw [RP (hr g hg).1 (hr g hg).2];exact KQ.mpr (.inl rfl)⟩) hnd
 have pf:MF (tkl o us) rest (n:Int)=QJ (Tk (tkl o us)) (n:Int) 9 rest:=if_pos hT;rw [pf]
 exact fs.imp λb hb=>hb.trans (ii h hn hr hnd)
def nJ (us:List (Int×Int)) (g:Int) (rest:List Int) (n:Nat) (v:Option (Int×List Int)):Prop:=match v with
 | none=>∀x∈Tg us g,bit n x->¬ ∃r,InS us rest (bit (n ^^^ 2 ^ x.toNat)) r
 | some z=>z.1∈Tg us g/\bit n z.1/\(∃r,InS us rest (bit (n ^^^ 2 ^ z.1.toNat)) r)/\z.2=[((n ^^^ 2 ^ z.1.toNat:Nat):Int)]/\∀x∈Tg us g,x < z.1->bit n x->¬ ∃r,InS us rest (bit (n ^^^ 2 ^ x.toNat)) r
theorem iW (h:Kf o us) (hg:0<=g/\g < o) (hr:∀g∈rest,0<=g/\g < o) (hnd:rest.Nodup) (hn:n < 128):Ok (Hz (tkl o us) g rest [(n:Int)]) (nJ us g rest n):=by
 have sm:=h.sm;have tg:=h.tg hg.1 hg.2;unfold Hz Hu;simp only [AF];rw [XD hg.1 hg.2];simp only [AF];refine OkF.out (OkF.seq (OkF.for (λpre _=>∀x∈pre,bit n x->¬ ∃r,InS us rest (bit (n ^^^ 2 ^ x.toNat)) r) (λx hx=>(nomatch hx)) ?_) λ_ hs=>.rt hs);intro pre x u hx hp hI;have xr:=tg.2.1 x hx
 have less:∀y∈Tg us g,y < x->y∈pre:=λy hy lt=>by
  obtain ⟨t,ht⟩:=hp;have up:=tg.2.2;rw [<-ht] at up hy;rw [BM] at up hy
  rcases Az.mp hy with q | q
  ·exact q
  ·have u2:=(A8.mp up).2.1
   rw [Dl] at u2 q
   rcases A2.mp q with q | q
   ·omega
   ·have:=(Ih.mp u2).1 y q
    omega
 obtain ⟨k,rfl⟩:∃k:Nat,x=k:=⟨x.toNat,by omega⟩
 have hk:k < 7:=by omega
 have xo:=R9 n hn k hk;rw [Nd k (by omega)];simp only [AF,BQ];rw [LM (l:=[(n:Int)]) (P:=λl=>DA l (1 * 2 ^ k) != 0) (f:=λl=>CU l (1 * 2 ^ k)) (by simp) (λ_ _=>rfl) λ_ _ _=>rfl];simp only [AF,BQ]
 have hf:[(n:Int)].filter (λl=>DA l (1 * 2 ^ k) != 0)=if n.testBit k=true then [(n:Int)] else []:=by
  rw [List.filter_cons,ff n hn k hk];rfl
 rw [hf]
 by_cases c:n.testBit k=true
 ·rw [if_pos c,A1,Kk,xo.1]
  obtain ⟨b,e2,hb2⟩:=j6 h (n:=n ^^^ 2 ^ k) xo.2.1 hr hnd;have ez:Ur [((n ^^^ 2 ^ k:Nat):Int)]=[((0:Int),((n ^^^ 2 ^ k:Nat):Int))]:=rfl;rw [ez];refine OkF.map (N:=λ_=>¬ ∃r,InS us rest (bit (n ^^^ 2 ^ k)) r) ?_ ?_
  ·unfold Ev
   dsimp only;rw [e2];simp only [AF]
   cases b with
   | true=>
    rw [if_pos rfl];refine .rt ⟨hx,c,hb2.mp rfl,rfl,λy hy lt=>hI y (less y hy lt)⟩
   | false=>
    rw [if_neg AQ]
    refine .nx λq=>?_
    cases hb2.mpr q
  ·intro _ q y hy
   rcases Az.mp hy with z | z
   ·exact hI y z
   ·rw [Ae.mp z]
    exact λ_=>q
 ·rw [if_neg c]
  refine .nx λy hy=>?_
  rcases Az.mp hy with z | z
  ·exact hI y z
  ·rw [Ae.mp z]
   exact λq=>absurd q c
end
end M
namespace M
open PySem L2 L4
open Srt (ltL)
section
variable {o:Nat} {us:List (Int×Int)} {gs oth:List Int} {n:Nat}
structure Sof (us:List (Int×Int)) (gs:List Int) (n i:Nat) (told:List Int) (m:Nat):Prop where
 ln:told.length=i
 pre:Pre us gs (bit n) told
 sm:m < 128
 bits:∀z:Nat,z < 7->(m.testBit z=true↔n.testBit z=true/\(z:Int)∉told)
 on:0 < i->∃l,InS us (gs.drop i) (bit m) l
 le:∀r',InS us gs (bit n) r'->r'.take i=told∨ltL told (r'.take i)=true
theorem Vt {r:List Int} {i:Nat} (h:i < r.length):∃y l,r=r.take i++y :: l/\r.take (i+1)=r.take i++[y]:=by
 refine ⟨r[i],r.drop (i+1),?_,?_⟩
 ·rw [<-Be h,C4]
 ·rw [List.take_succ,BJ h]
  rfl
theorem Sof.rest (h:Kf o us) (hg:∀g∈gs,0<=g/\g < o) {i m:Nat} {told l:List Int} (hs:Sof us gs n i told m) (hi:i<=gs.length):InS us gs (bit n) (told++l)↔InS us (gs.drop i) (bit m) l:=by
 have sm:=h.sm;have key:=InS.cut (us:=us) (gs:=gs) (P:=bit n) (t:=told) (l:=l) (by rw [hs.ln];exact hi);rw [hs.ln] at key
 have hd:∀g∈gs.drop i,0<=g/\g < o:=λg hgm=>hg g (Hk hgm)
 have eq:∀x:Int,0<=x/\x < o->(bit m x↔bit n x/\x∉told):=λx hx=>by
  have:=hs.bits x.toNat (by omega);rw [CT hx.1] at this;exact this
 rw [key];exact ⟨λ⟨_,b⟩=>b.imp λx hx q=>(eq x (b.rg h hd x hx)).mpr q,λb=>⟨hs.pre,b.imp λx hx q=>(eq x (b.rg h hd x hx)).mp q⟩⟩
theorem jj (h:Kf o us) (hg:∀g∈gs,0<=g/\g < o) (hnd:gs.Nodup) (hl:gs.length<=6) (hn:n < 128):Ok (IA (tkl o us) gs [(n:Int)]) λv=>match v with
  | none=>¬ ∃r,InS us gs (bit n) r
  | some r=>InS us gs (bit n) r/\∀r',InS us gs (bit n) r'->ltL r' r=false:=by
 have sm:=h.sm;unfold IA Hv;simp only [BQ,j8,AF];refine OkF.out (OkF.seq (OkF.for (λpre s=>∃m:Nat,s.2=[(m:Int)]/\Sof us gs n pre.length s.1 m) ⟨n,rfl,rfl,⟨FL,by simp,λx hx=>(nomatch hx)⟩,hn,by simp,λz=>absurd z (by simp),λr' _=>.inl (by simp)⟩ ?_) ?_)
 ·rintro pre x ⟨told,lefts⟩ hx hp ⟨m,rfl,hs⟩
  obtain ⟨g,eg,rfl⟩:=Rr hp;have hgm:=hg g (CJ eg);have hkl:pre.length < gs.length:=(AH.mp eg).1;have eg':gs[pre.length]=g:=(AH.mp eg).2
  have hdr:gs.drop pre.length=g :: gs.drop (pre.length+1):=by rw [Be hkl,eg']
  have hd:∀g∈gs.drop (pre.length+1),0<=g/\g < o:=λg hgm=>hg g (Hk hgm)
  rw [Ux gs (by omega)];dsimp only;obtain ⟨v,e1,hv⟩:=iW h hgm hd (hnd.sublist (OC _ _)) hs.sm (n:=m);rw [e1];simp only [AF]
  have con:∀ {x:Int} {l:List Int},InS us (gs.drop pre.length) (bit m) (x :: l)↔x∈Tg us g/\bit m x/\InS us (gs.drop (pre.length+1)) (bit (m ^^^ 2 ^ x.toNat)) l:=λ{x l}=>by rw [hdr];exact InS.cons h hs.sm hgm hd
  cases v with
  | none=>
   refine .rt λ⟨r,hr⟩=>?_
   have cmp:∃l,InS us (gs.drop pre.length) (bit m) l:=by
    by_cases c:0 < pre.length
    ·exact hs.on c
    ·have e0:told=[]:=B0 (by rw [hs.ln];omega)
     have:=(hs.rest h hg (l:=r) (by omega)).mp (by rw [e0,Qb];exact hr);exact ⟨r,this⟩
   obtain ⟨l,hl'⟩:=cmp
   cases l with
   | nil=>
    have:=hl'.1;rw [hdr] at this;cases this
   | cons x l=>
    obtain ⟨a,b,c⟩:=con.mp hl';exact hv x a b ⟨l,c⟩
  | some z=>
   obtain ⟨x,l⟩:=z;obtain ⟨a,b,⟨q,c⟩,d,e⟩:=hv;dsimp only at a b c d e ⊢;have xr:=(h.tg hgm.1 hgm.2).2.1 x a;have xo:=R9 m hs.sm x.toNat (by omega)
   have bx:n.testBit x.toNat=true/\x∉told:=by
    have:=(hs.bits x.toNat (by omega)).mp b;rwa [CT xr.1] at this
   have hin:InS us (gs.drop pre.length) (bit m) (x :: q):=con.mpr ⟨a,b,c⟩;have hful:=(hs.rest h hg (l:=x :: q) (by omega)).mpr hin
   have hpre:Pre us gs (bit n) (told++[x]):=by
    rw [show told++x :: q=(told++[x])++q by simp] at hful;exact ((InS.cut (by rw [AU,hs.ln];simp;omega)).mp hful).1
   rw [Xy (by rw [hs.ln];omega)]
   refine OkF.map (N:=λs=>∃m:Nat,s.2=[(m:Int)]/\Sof us gs n (pre.length+1) s.1 m) (.nx ⟨m ^^^ 2 ^ x.toNat,d,by rw [AU,hs.ln];rfl,hpre,xo.2.1,λz hz=>?_,λ_=>⟨q,c⟩,λr' hr'=>?_⟩) λs hs'=>by
    rw [AU,Au];exact hs'
   ·rw [xo.2.2 z hz,Az,Ae]
    have:=hs.bits z hz
    by_cases e':x.toNat=z
    ·rw [decide_eq_true e']
     have ex:(z:Int)=x:=by omega
     subst e';rw [b];simp [ex]
    ·rw [decide_eq_false e']
     have ex:¬(z:Int)=x:=by omega
     rw [show (m.testBit z != false)=m.testBit z by cases m.testBit z <;> rfl];simp only [ex,or_false];exact this
   ·have rl:=hr'.1
    obtain ⟨y,l',e2,e3⟩:=Vt (r:=r') (i:=pre.length) (by omega);rw [e3]
    rcases hs.le r' hr' with q1 | q1
    ·rw [q1] at e2 ⊢
     rw [e2] at hr';have:=(hs.rest h hg (by omega)).mp hr';obtain ⟨a',b',c'⟩:=con.mp this
     by_cases ey:y=x
     ·left;rw [ey]
     ·right
      have ny:¬y < x:=λlt=>e y a' lt b' ⟨l',c'⟩
      exact K7 x y rfl (.inr ⟨rfl,by omega⟩)
    ·right
     exact K7 x y (by rw [hs.ln,C9];omega) (.inl q1)
 ·rintro ⟨told,lefts⟩ ⟨m,_,hs⟩
  have el:(IW gs).length=gs.length:=by unfold IW;rw [AI,ZL]
  rw [el] at hs;refine .rt ⟨?_,λr' hr'=>?_⟩
  ·exact ⟨hs.ln,hs.pre.1,hs.pre.2.1,hs.pre.2.2⟩
  ·have rl:=hr'.1
   have:=hs.le r' hr';rw [Cv (by omega)] at this
   rcases this with q | q
   ·rw [q];exact NA _
   ·exact Srt.K8 _ _ q
theorem NB (h:Kf o us) (hg:∀g∈gs,0<=g/\g < o) (hnd:gs.Nodup) (hl:gs.length<=6) (ho:∀x∈oth,0<=x/\x < o):Ok (Hy (o,us) gs oth) (Lst us gs oth):=by
 have sm:=h.sm
 obtain ⟨r,e1,n,rfl,n1,n2⟩:=cB (l:=oth) λx hx=>⟨(ho x hx).1,by have:=(ho x hx).2;omega⟩
 have eq:∀r,InS us gs (bit n) r↔InP us gs oth r:=λr=>by
  have key:∀x:Int,0<=x/\x < o->(bit n x↔x∈oth):=λx hx=>by
   have:=n2 x.toNat (by omega);rw [CT hx.1] at this;exact this
  constructor
  ·intro q
   have:=q.imp λx hx b=>(key x (q.rg h hg x hx)).mp b
   exact this
  ·intro q
   have q:InS us gs (λx=>x∈oth) r:=q
   exact q.imp λx hx b=>(key x (q.rg h hg x hx)).mpr b
 unfold Hy Ox;simp only [AF];rw [XE h,e1];simp only [AF,be];obtain ⟨v,e2,hv⟩:=jj h hg hnd hl n1;rw [e2];refine ⟨v,rfl,?_⟩
 cases v with
 | none=>exact λ⟨r,q⟩=>hv ⟨r,(eq r).mpr q⟩
 | some r=>exact ⟨(eq r).mp hv.1,λr' q=>hv.2 r' ((eq r').mpr q)⟩
end
end M
namespace M
open PySem L2 L4
def Hw (BG:(Nat×List (Int×Int))) (Bh:(List (Int×Int))) (AV:(List Int)) (Bx:(List Int)):Option (Fw Bool Unit):=
 BL ((((some BG).bind λx2=>((some AV).bind λx3=>((some Bx).bind λx4=>(some ()).bind λx5=>some (x4,x5)).bind λx6=>some (x3,x6)).bind λx7=>some (x2,x7)).bind λz8=>Hy z8.1 z8.2.1 z8.2.2.1).bind λx9=>some (.nx x9)) λv1=>BL ((((some Bh).bind λx11=>((some AV).bind λx12=>((some Bx).bind λx13=>(some ()).bind λx14=>some (x13,x14)).bind λx15=>some (x12,x15)).bind λx16=>some (x11,x16)).bind λz17=>IB z17.1 z17.2.1 z17.2.2.1).bind λx18=>some (.nx x18)) λv10=>BL (((some v10).bind λx19=>some x19.isNone).bind λx24=>if x24=true then ((some v1).bind λx21=>some x21.isNone).bind λx23=>some (.rt x23) else some (.nx ())) λ_=>(((some v1).bind λx27=>(some v10).bind λx28=>some (decide (x27=x28))).bind λx33=>if x33=true then (((some v1).bind λx29=>x29).bind λx30=>(some ()).bind λx31=>some (x30,x31)).bind λz32=>Fh z32.1 else some false).bind λx34=>some (.rt x34)
def GZ (BG:(Nat×List (Int×Int))) (Bh:(List (Int×Int))) (AV:(List Int)) (Bx:(List Int)):Option Bool:=He (Hw BG Bh AV Bx)
theorem SJ (W:Wd) (BG:(Nat×List (Int×Int))) (Bh:(List (Int×Int))) (AV:(List Int)) (Bx:(List Int)):VF (KC W) [.z ((Eu W) BG),.z ((oL (eP D.int D.int)) Bh),.v ((eT D.int) AV),.v ((eT D.int) Bx)] (rV D.bl) (GZ BG Bh AV Bx):=by
 refine FY (n:=6) (b:=KM W) (p:=Hw BG Bh AV Bx) (B:=λ_=>[]) ?_;show VS [.z ((Eu W) BG),.z ((oL (eP D.int D.int)) Bh),.v ((eT D.int) AV),.v ((eT D.int) Bx),.u,.u] _ _ _ _;unfold KM Hw;exact (A7 (E2 (BX (Ha (Cf rfl) (Cd (AN rfl) (Cd (AN rfl) CA))) (λz8=>Ms W z8.1 z8.2.1 z8.2.2.1) (λ_=>rfl) EM)) (λv1=>(A7 (E2 (BX (Ha (Cf rfl) (Cd (AN rfl) (Cd (AN rfl) CA))) (λz17=>SK W z17.1 z17.2.1 z17.2.2.1) (λ_=>rfl) EM)) (λv10=>(A7 (Fo (B:=(λ(_:Unit)=>[.z ((Eu W) BG),.z ((oL (eP D.int D.int)) Bh),.v ((eT D.int) AV),.v ((eT D.int) Bx),.v ((eO (eT D.int)) v1),.v ((eO (eT D.int)) v10)])) (GC (NX Nn (AN rfl))) (D9 (NX Nn (AN rfl))) (Fn (.same (.same (.same (.same (.same (.same .nil)))))))) (λ_=>(D9 (XB (Mq (fR DG) jX (AN rfl) (AN rfl)) (BX (Cd (Vh (AN rfl)) CA) (λz32=>OU W z32.1) (λ_=>rfl) EM)))))))))
def XO (Aw:(List Int)):Option (Fw Bool Unit):=
 BL ((((some Aw).bind λx2=>((some (0:Int)).bind λx3=>(some ()).bind λx4=>some (x3,x4)).bind λx5=>some (x2,x5)).bind λz6=>BW z6.1 z6.2.1).bind λx7=>some (.nx x7)) λv1=>BL ((((some (2:Int)).bind λx10=>((some v1).bind λx9=>some (x9 % 5)).bind λx11=>some (x10+x11)).bind λx17=>(((((some v1).bind λx14=>some (x14 / 84)).bind λx15=>some (x15 % 8)).bind λx12=>(some (1:Int)).bind λx13=>some (decide (x12=x13))).bind λx16=>some (if x16=true then 1 else 0)).bind λx18=>some (x17+x18)).bind λx19=>some (.nx x19)) λv8=>BL ((((some Aw).bind λx21=>((some (4:Int)).bind λx22=>((some v8).bind λx23=>(some ()).bind λx24=>some (x23,x24)).bind λx25=>some (x22,x25)).bind λx26=>some (x21,x26)).bind λz27=>HQ z27.1 z27.2.1 z27.2.2.1).bind λx28=>some (.nx x28)) λv20=>BL (((some v8).bind λx35=>(((some Aw).bind λx30=>((some v20).bind λx31=>(some ()).bind λx32=>some (x31,x32)).bind λx33=>some (x30,x33)).bind λz34=>HH z34.1 z34.2.1).bind λx36=>Za x35 x36).bind λx37=>some (.nx x37)) λv29=>BL (((some (1:Int)).bind λx51=>((((some Aw).bind λx39=>((some (1:Int)).bind λx40=>(some ()).bind λx41=>some (x40,x41)).bind λx42=>some (x39,x42)).bind λz43=>BW z43.1 z43.2.1).bind λx49=>((some (4:Int)).bind λx47=>((some v8).bind λx45=>(some (1:Int)).bind λx46=>some (x45 - x46)).bind λx48=>some (if x48 < x47 then x48 else x47)).bind λx50=>Sn x49 x50).bind λx52=>some (x51+x52)).bind λx53=>some (.nx x53)) λv38=>BL ((((some v8).bind λx55=>((some v38).bind λx56=>(some ()).bind λx57=>some (x56,x57)).bind λx58=>some (x55,x58)).bind λz59=>HR z59.1 z59.2.1).bind λx60=>some (.nx x60)) λv54=>BL ((((some Aw).bind λx62=>((some (2:Int)).bind λx63=>(some ()).bind λx64=>some (x63,x64)).bind λx65=>some (x62,x65)).bind λz66=>BW z66.1 z66.2.1).bind λx67=>some (.nx x67)) λv61=>BL (((some v54).bind λl72=>((some v61).bind λx70=>((some v54).bind λx69=>some (x69.length:Int)).bind λx71=>Sn x70 x71).bind λx73=>atI l72 x73).bind λx74=>some (.nx x74)) λv68=>BL (((some v54).bind λl80=>(((some v61).bind λx76=>some (x76 / 35)).bind λx78=>((some v54).bind λx77=>some (x77.length:Int)).bind λx79=>Sn x78 x79).bind λx81=>atI l80 x81).bind λx82=>some (.nx x82)) λv75=>BL (((((some v68).bind λx83=>(some v75).bind λx84=>some (x83,x84)).bind λx93=>(((some v75).bind λx85=>(some v68).bind λx86=>some (x85,x86)).bind λx91=>(((some v68).bind λx87=>(some v68).bind λx88=>some (x87,x88)).bind λx89=>(some []).bind λl90=>some (x89 :: l90)).bind λl92=>some (x91 :: l92)).bind λl94=>some (x93 :: l94)).bind FP).bind λl113=>Ev l113 () λ(_:Unit) x96=>HS (λ_=>()) (((((some v29).bind λx99=>((some v20).bind λx100=>(((some x96).bind λx97=>some x97.1).bind λx101=>(((some x96).bind λx98=>some x98.2).bind λx102=>(some ()).bind λx103=>some (x102,x103)).bind λx104=>some (x101,x104)).bind λx105=>some (x100,x105)).bind λx106=>some (x99,x106)).bind λz107=>GZ z107.1 z107.2.1 z107.2.2.1 z107.2.2.2.1).bind λx108=>some (!x108)).bind λx110=>if x110=true then (some false).bind λx109=>some (.rt x109) else some (.nx ()))) λ_=>BL ((((((some v29).bind λx120=>((some v68).bind λx121=>((some v75).bind λx122=>(some ()).bind λx123=>some (x122,x123)).bind λx124=>some (x121,x124)).bind λx125=>some (x120,x125)).bind λz126=>Hy z126.1 z126.2.1 z126.2.2.1).bind λx118=>some x118.isNone).bind λx116=>((((some v29).bind λx129=>((some v75).bind λx130=>((some v68).bind λx131=>(some ()).bind λx132=>some (x131,x132)).bind λx133=>some (x130,x133)).bind λx134=>some (x129,x134)).bind λz135=>Hy z135.1 z135.2.1 z135.2.2.1).bind λx127=>some x127.isNone).bind λx117=>some (!decide (x116=x117))).bind λx137=>if x137=true then (some false).bind λx136=>some (.rt x136) else some (.nx ())) λ_=>BL (((((some v29).bind λx142=>((some v68).bind λx143=>((some v68).bind λx144=>(some ()).bind λx145=>some (x144,x145)).bind λx146=>some (x143,x146)).bind λx147=>some (x142,x147)).bind λz148=>Hy z148.1 z148.2.1 z148.2.2.1).bind λx140=>some x140.isNone).bind λx150=>if x150=true then (some false).bind λx149=>some (.rt x149) else some (.nx ())) λ_=>BL ((((some v8).bind SZ).bind λl157=>EO l157 (λx154=>(some x154).bind λx155=>(some v68).bind λx156=>some (!decide (x155∈x156))) (λx154=>some x154)).bind λx158=>some (.nx x158)) λv153=>BL (((some v153).bind λl168=>((((some Aw).bind λx160=>((some (3:Int)).bind λx161=>(some ()).bind λx162=>some (x161,x162)).bind λx163=>some (x160,x163)).bind λz164=>BW z164.1 z164.2.1).bind λx166=>((some v153).bind λx165=>some (x165.length:Int)).bind λx167=>Sn x166 x167).bind λx169=>atI l168 x169).bind λx170=>some (.nx x170)) λv159=>BL ((((some ("one" : Str)).bind λx173=>((some ("all" : Str)).bind λx171=>(some []).bind λl172=>some (x171 :: l172)).bind λl174=>some (x173 :: l174)).bind FP).bind λl222=>Ev l222 () λ(_:Unit) x176=>HS (λ_=>()) (((((some v29).bind λx177=>((some v68).bind λx178=>((some v159).bind λx179=>((some x176).bind λx180=>(some ()).bind λx181=>some (x180,x181)).bind λx182=>some (x179,x182)).bind λx183=>some (x178,x183)).bind λx184=>some (x177,x184)).bind λz185=>G5 z185.1 z185.2.1 z185.2.2.1 z185.2.2.2.1).bind λl187=>(some none).bind λx188=>((some (30:Int)).bind λx186=>some (some x186)).bind λx189=>some (ID l187 x188 x189)).bind λl219=>Ev l219 () λ(_:Unit) x191=>BL ((((some v29).bind λx194=>((some v68).bind λx195=>(((some x191).bind λx193=>some (Cp x193)).bind λx196=>(some ()).bind λx197=>some (x196,x197)).bind λx198=>some (x195,x198)).bind λx199=>some (x194,x199)).bind λz200=>Hy z200.1 z200.2.1 z200.2.2.1).bind λx201=>some (.nx x201)) λv192=>HS (λ_=>()) ((((some v192).bind λx202=>some x202.isNone).bind λx214=>if x214=true then some true else (((some v192).bind λx207=>x207).bind λx204=>(some x191).bind λx205=>some (Srt.ltL x205 x204)).bind λx213=>if x213=true then some true else (((some v192).bind λx210=>x210).bind λx211=>some (Cp x211)).bind λx208=>((some x191).bind λx212=>some (Cp x212)).bind λx209=>some (!decide (x208=x209))).bind λx216=>if x216=true then (some false).bind λx215=>some (.rt x215) else some (.nx ())))) λ_=>(some true).bind λx225=>some (.rt x225)
def aV (Aw:(List Int)):Option Bool:=He (XO Aw)
theorem lN (W:Wd) (Aw:(List Int)):VF (Xl W) [.v (eF Aw)] (rV D.bl) (aV Aw):=by
 refine FY (n:=16) (b:=cF W) (p:=XO Aw) (B:=λ_=>[]) ?_;show VS [.v (eF Aw),.u,.u,.u,.u,.u,.u,.u,.u,.u,.u,.u,.u,.u,.u,.u] _ _ _ _;unfold cF XO;exact (A7 (E2 (BX (Cd (AN rfl) (Cd (DB rfl) CA)) (λz6=>EB W z6.1 z6.2.1) (λ_=>rfl) EM)) (λv1=>(A7 (E2 (JC (JC (DB rfl) (Ou rfl (AN rfl))) (iD (Mq DG MQ (Ou rfl (Mp rfl (AN rfl))) (DB rfl))))) (λv8=>(A7 (E9 (BX (Cd (AN rfl) (Cd (DB rfl) (Cd (AN rfl) CA))) (λz27=>T7 W z27.1 z27.2.1 z27.2.2.1) (λ_=>rfl) Kv)) (λv20=>(A7 (E9 (hW (AN rfl) (HP (BX (Cd (AN rfl) (Ha (C5 rfl) CA)) (λz34=>Qr W z34.1 z34.2.1) (λ_=>rfl) Kv)))) (λv29=>(A7 (E2 (JC (DB rfl) (Pa (BX (Cd (AN rfl) (Cd (DB rfl) CA)) (λz43=>EB W z43.1 z43.2.1) (λ_=>rfl) EM) (W3 (DB rfl) (L9 (AN rfl) (DB rfl)))))) (λv38=>(A7 (E9 (BX (Cd (AN rfl) (Cd (AN rfl) CA)) (λz59=>T8 W z59.1 z59.2.1) (λ_=>rfl) Kv)) (λv54=>(A7 (E2 (BX (Cd (AN rfl) (Cd (DB rfl) CA)) (λz66=>EB W z66.1 z66.2.1) (λ_=>rfl) EM)) (λv61=>(A7 (E2 (Kr (C5 rfl) (Pa (AN rfl) (Mo (C5 rfl))))) (λv68=>(A7 (E2 (Kr (C5 rfl) (Pa (Mp rfl (AN rfl)) (Mo (C5 rfl))))) (λv75=>(A7 (Em (s0:=()) (B:=(λ(_:Unit)=>[.v (eF Aw),.v (D.int v1),.v (D.int v8),.y ((oL (eP D.int D.int)) v20),.y ((Eu W) v29),.v (D.int v38),.y ((oL (eT D.int)) v54),.v (D.int v61),.v ((eT D.int) v68),.v ((eT D.int) v75),.u,.u,.u,.u,.u,.u])) (PZ (CC (DN (EU (Hs (AN rfl) (AN rfl)) (EU (Hs (AN rfl) (AN rfl)) (EU (Hs (AN rfl) (AN rfl)) DS)))))) ET (.same (.same (.same (.same (.same (.same (.same (.same (.same (.same (.same (.same (.same (.same (.same (.same .nil)))))))))))))))) (λ_ x96=>(EA (Fo (B:=(λ(_:Unit)=>[.v (eF Aw),.v (D.int v1),.v (D.int v8),.y ((oL (eP D.int D.int)) v20),.y ((Eu W) v29),.v (D.int v38),.y ((oL (eT D.int)) v54),.v (D.int v61),.v ((eT D.int) v68),.v ((eT D.int) v75),.v ((eP (eT D.int) (eT D.int)) x96),.u,.u,.u,.u,.u])) (Pb (SG (BX (Ha (C5 rfl) (Ha (C5 rfl) (Cd (Vi (AN rfl)) (Cd (Ve (AN rfl)) CA)))) (λz107=>SJ W z107.1 z107.2.1 z107.2.2.1 z107.2.2.2.1) (λ_=>rfl) EM))) (D9 (DB rfl)) (Fn (.same (.same (.same (.same (.same (.same (.same (.same (.same (.same (.same (.same (.same (.same (.same (.same .nil)))))))))))))))))) (λ_=>(.same (.same (.same (.same (.same (.same (.same (.same (.same (.same (.drop (.same (.same (.same (.same (.same .nil)))))))))))))))))))) (λ_=>(A7 (Fo (B:=(λ(_:Unit)=>[.v (eF Aw),.v (D.int v1),.v (D.int v8),.y ((oL (eP D.int D.int)) v20),.y ((Eu W) v29),.v (D.int v38),.y ((oL (eT D.int)) v54),.v (D.int v61),.v ((eT D.int) v68),.v ((eT D.int) v75),.u,.u,.u,.u,.u,.u])) (GC (gF j9 mJ (NX Nn (BX (Ha (C5 rfl) (Cd (AN rfl) (Cd (AN rfl) CA))) (λz126=>Ms W z126.1 z126.2.1 z126.2.2.1) (λ_=>rfl) EM)) (NX Nn (BX (Ha (C5 rfl) (Cd (AN rfl) (Cd (AN rfl) CA))) (λz135=>Ms W z135.1 z135.2.1 z135.2.2.1) (λ_=>rfl) EM)))) (D9 (DB rfl)) (Fn (.same (.same (.same (.same (.same (.same (.same (.same (.same (.same (.same (.same (.same (.same (.same (.same .nil)))))))))))))))))) (λ_=>(A7 (Fo (B:=(λ(_:Unit)=>[.v (eF Aw),.v (D.int v1),.v (D.int v8),.y ((oL (eP D.int D.int)) v20),.y ((Eu W) v29),.v (D.int v38),.y ((oL (eT D.int)) v54),.v (D.int v61),.v ((eT D.int) v68),.v ((eT D.int) v75),.u,.u,.u,.u,.u,.u])) (GC (NX Nn (BX (Ha (C5 rfl) (Cd (AN rfl) (Cd (AN rfl) CA))) (λz148=>Ms W z148.1 z148.2.1 z148.2.2.1) (λ_=>rfl) EM))) (D9 (DB rfl)) (Fn (.same (.same (.same (.same (.same (.same (.same (.same (.same (.same (.same (.same (.same (.same (.same (.same .nil)))))))))))))))))) (λ_=>(A7 (E9 (CC (Co (VI.k (IG (AN rfl))) (λx154=>(GC (Ot DG (AN rfl) (AN rfl)))) (λx154=>(AN rfl))))) (λv153=>(A7 (E2 (Kr (C5 rfl) (Pa (BX (Cd (AN rfl) (Cd (DB rfl) CA)) (λz164=>EB W z164.1 z164.2.1) (λ_=>rfl) EM) (Mo (C5 rfl))))) (λv159=>(A7 (Em (s0:=()) (B:=(λ(_:Unit)=>[.v (eF Aw),.v (D.int v1),.v (D.int v8),.y ((oL (eP D.int D.int)) v20),.y ((Eu W) v29),.v (D.int v38),.y ((oL (eT D.int)) v54),.v (D.int v61),.v ((eT D.int) v68),.v ((eT D.int) v75),.u,.y ((oL D.int) v153),.v (D.int v159),.u,.u,.u])) (PZ (CC (DN (EU (DB rfl) (EU (DB rfl) DS))))) ET (.same (.same (.same (.same (.same (.same (.same (.same (.same (.same (.same (.same (.same (.same (.same (.same .nil)))))))))))))))) (λ_ x176=>(EA (Em (s0:=()) (B:=(λ(_:Unit)=>[.v (eF Aw),.v (D.int v1),.v (D.int v8),.y ((oL (eP D.int D.int)) v20),.y ((Eu W) v29),.v (D.int v38),.y ((oL (eT D.int)) v54),.v (D.int v61),.v ((eT D.int) v68),.v ((eT D.int) v75),.u,.y ((oL D.int) v153),.v (D.int v159),.v (D.str x176),.u,.u])) (PZ (W7 (HP (BX (Ha (C5 rfl) (Cd (AN rfl) (Cd (AN rfl) (Cd (AN rfl) CA)))) (λz185=>YI W z185.1 z185.2.1 z185.2.2.1 z185.2.2.2.1) (λ_=>rfl) Kv)) Os (Oq (DB rfl)))) ET (.same (.same (.same (.same (.same (.same (.same (.same (.same (.same (.same (.same (.same (.same (.same (.same .nil)))))))))))))))) (λ_ x191=>(A7 (E2 (BX (Ha (C5 rfl) (Cd (AN rfl) (Cd (LZ (HP (La (AN rfl)))) CA))) (λz200=>Ms W z200.1 z200.2.1 z200.2.2.1) (λ_=>rfl) EM)) (λv192=>(EA (Fo (B:=(λ(_:Unit)=>[.v (eF Aw),.v (D.int v1),.v (D.int v8),.y ((oL (eP D.int D.int)) v20),.y ((Eu W) v29),.v (D.int v38),.y ((oL (eT D.int)) v54),.v (D.int v61),.v ((eT D.int) v68),.v ((eT D.int) v75),.u,.y ((oL D.int) v153),.v (D.int v159),.v (D.str x176),.v ((eT D.int) x191),.v ((eO (eT D.int)) v192)])) (Zq (GC (NX Nn (AN rfl))) (Zq (GC (iG (Vh (AN rfl)) (AN rfl))) (GC (iB DG (HP (La (Vh (AN rfl)))) (HP (La (AN rfl))))))) (D9 (DB rfl)) (Fn (.same (.same (.same (.same (.same (.same (.same (.same (.same (.same (.same (.same (.same (.same (.same (.same .nil)))))))))))))))))) (λ_=>(.same (.same (.same (.same (.same (.same (.same (.same (.same (.same (.same (.same (.same (.same (.drop (.drop .nil)))))))))))))))))))))) (λ_=>(.same (.same (.same (.same (.same (.same (.same (.same (.same (.same (.same (.same (.same (.drop (.same (.same .nil)))))))))))))))))))) (λ_=>(D9 (DB rfl))))))))))))))))))))))))))))))))
end M
namespace M
open PySem L2 L4
open Srt (ltL)
section
variable {o:Nat} {us:List (Int×Int)}
theorem UQ {gs:List Int} {c:Int} (h0:0<=c) (h1:c < o) (hc:c∉gs):FJ (o,us) gs c=some ():=by
 unfold FJ FG;simp only [AF];rw [decide_eq_true h0,if_pos rfl,decide_eq_true h1];simp only [AF];rw [decide_eq_false hc];rfl
theorem jG {gs:List Int} {c:Int} (h0:0<=c) (h1:c < o) (hc:c∉gs) {B:List (List Int)} (e:EF (o,us) gs c=some B):G5 (o,us) gs c "all" = some B:=by
 unfold G5 JY;simp only [AF];rw [UQ h0 h1 hc];simp only [AF,BQ];rw [decide_eq_false (show ¬(("all" : Str) = "one") by decide +kernel),if_neg AQ];simp only [BQ];rw [e];rfl
def Pj (gs:List Int) (c x:Int):List Int:=gs.map λy=>if y=x then c else y
theorem g7 {gs:List Int} (hl:gs.length<=1000000) (x c:Int):Iq gs x c=some (Pj gs c x):=by
 unfold Iq Im;simp only [AF]
 rw [IL (f:=λy=>if y=x then c else y) hl λy _=>by
  by_cases q:y=x
  ·rw [decide_eq_true q,if_pos rfl,if_pos q]
  ·rw [decide_eq_false q,if_neg AQ,if_neg q]]
 rfl
theorem YM {gs:List Int} {c x:Int} (hg:∀g∈gs,0<=g/\g < o) (hnd:gs.Nodup) (hc0:0<=c) (hc:c∉gs) (hx:x∈gs) (hn:x∈nr us c.toNat):Lv us gs c (Pj gs c x):=by
 unfold Pj;refine ⟨AI _,?_,λy hy=>?_,A4.mpr ⟨x,hx,if_pos rfl⟩⟩
 ·unfold GF
  rw [Bf]
  refine hnd.imp_of_mem λ{a b} ha hb' ne e=>ne ?_
  by_cases q:a=x
  ·by_cases q2:b=x
   ·rw [q,q2]
   ·rw [if_pos q,if_neg q2] at e;exact absurd (e▸hb') hc
  ·by_cases q2:b=x
   ·rw [if_neg q,if_pos q2] at e;exact absurd (e▸ha) hc
   ·rw [if_neg q,if_neg q2] at e;exact e
 ·rw [JS] at hy
  obtain ⟨g,hgm,rfl⟩:=A4.mp hy;show (if g=x then c else g)∈Tg us g
  by_cases q:g=x
  ·rw [if_pos q,q,KQ]
   right
   rw [Pz,CT (hg x hx).1];rw [Pz,CT hc0] at hn;exact hn.symm
  ·rw [if_neg q,KQ]
   exact .inl rfl
theorem mG {gs:List Int} {c:Int} (hg:∀g∈gs,0<=g/\g < o) (hnd:gs.Nodup) (hl:gs.length<=6) (hne:gs≠[]) (h0:0<=c) (h1:c < o) (hc:c∉gs):Ok (G5 (o,us) gs c "one") λR=>(∀r∈R,Lv us gs c r)/\R.length<=6:=by
 unfold G5 JY;simp only [AF];rw [UQ h0 h1 hc];simp only [AF,BQ];rw [if_pos (decide_eq_true trivial)];rw [HA (P:=λx=>decide (x∈nr us c.toNat)) (by omega) λx _=>by rw [ap h0 h1];rfl];simp only [AF,BQ];have hfl:(gs.filter λx=>decide (x∈nr us c.toNat)).length<=6:=Am (Ca _ _) hl;rw [IL (f:=Pj gs c) (by omega) λx _=>g7 (by omega) x c];simp only [AF]
 have hF:∀r∈(gs.filter λx=>decide (x∈nr us c.toNat)).map (Pj gs c),Lv us gs c r:=λr hr=>by
  obtain ⟨x,hx,rfl⟩:=A4.mp hr;obtain ⟨x1,x2⟩:=A5.mp hx;exact YM hg hnd h0 hc x1 (of_decide_eq_true x2)
 have hL:((gs.filter λx=>decide (x∈nr us c.toNat)).map (Pj gs c)).length<=6:=by rw [AI];exact hfl
 generalize (gs.filter λx=>decide (x∈nr us c.toNat)).map (Pj gs c)=f at hF hL
 rw [show SN f=some (Il f) from if_pos (FU.mpr λr hr=>by
  have:=(hF r hr).1
  cases r with
  | nil=>exact absurd (B0 this.symm) hne
  | cons a r=>rfl)]
 exact .pure ⟨λr hr=>hF r ((Fm f).mem_iff.mp hr),by rw [(Fm f).length_eq];exact hL⟩
theorem iO {l:List Int} (hl:l.length<=1000000):Fh l=some true:=by
 unfold Fh Fg;simp only [AF];rw [show (!true)=false from rfl,if_neg AQ];simp only [BQ,if_true,Bool.not_false];rw [IL (f:=λ_=>true) hl λ_ _=>rfl];simp only [AF];rw [show (l.map λ_=>true).all id=true from FU.mpr λx hx=>by obtain ⟨_,_,rfl⟩:=A4.mp hx;rfl];rfl
end
theorem YU:∀o:Nat,o < 8->∀g:Nat,g < 6->g<=o->1<=g->∃rs,HR o g=some rs/\rs≠[]/\∀r∈rs,r.length=g/\(∀x∈r,0<=x/\x < o)/\r.Pairwise (· < ·):=by
 have h:∀o:Nat,o < 8->∀g:Nat,g < 6->g<=o->1<=g->(match HR o g with | some rs=>decide (rs≠[])&&rs.all λr=>decide (r.length=g/\(∀x∈r,0<=x/\x < (o:Int))/\r.Pairwise (· < ·)) | none=>false)=true:=by decide +kernel
 intro o ho g hg hgo h1;have:=h o ho g hg hgo h1
 cases q:HR o g with
 | none=>rw [q] at this;cases this
 | some rs=>
  rw [q] at this;have:=EL _ _▸this;exact ⟨rs,rfl,of_decide_eq_true this.1,λr hr=>of_decide_eq_true (FU.mp this.2 r hr)⟩
end M
namespace M
open PySem L2 L4
open Srt (ltL)
section
variable {o:Nat} {ts:List (Int×Int)} {a b:List Int}
theorem kK (h:JK o ts) {g x:Int} (hg:0<=g) (hx:0<=x) (q:x∈Tg (Ed ts) g):g∈Tg (Ed ts) x:=by
 rw [KQ,h.near hg,FA,O2] at q;rw [KQ,h.near hx,FA,O2]
 rcases q with q | q | q
 ·exact .inl q.symm
 ·exact .inr (.inr q)
 ·exact .inr (.inl q)
theorem ZY {a b:List Int} {x y z:Int} (hn:a.Nodup) (h1:(z,x)∈a.zip b) (h2:(z,y)∈a.zip b):x=y:=by
 obtain ⟨i,hi,e1⟩:=Bc h1;obtain ⟨j,hj,e2⟩:=Bc h2;rw [D0] at hi hj;rw [Dd] at e1 e2;have f1:=(N9 e1);have f2:=(N9 e2);have:i=j:=(Om hn).mp (f1.1.trans f2.1.symm);subst this;exact f1.2.symm.trans f2.2
theorem cG {r b:List Int} (hn:r.Nodup) (hs:∀x∈r,x∈b) (hl:r.length=b.length):∀y∈b,y∈r:=λy hy=>by
 by_cases c:y∈r
 ·exact c
 ·exfalso
  have:=K0 (l:=y :: r) (k:=b) (Br.mpr ⟨c,hn⟩) λx hx=>by
   rcases A2.mp hx with q | q
   ·rw [q];exact hy
   ·exact hs x q
  rw [Ao] at this;omega
theorem cE (h:JK o ts) (ha:∀g∈a,0<=g/\g < o) (hb:∀g∈b,0<=g/\g < o) (na:a.Nodup) (nb:b.Nodup) (hl:a.length=b.length) (q:∃r,InP (Ed ts) a b r):∃r,InP (Ed ts) b a r:=by
 obtain ⟨r,r1,r2,r3,r4⟩:=q;have all:=cG r2 r4 (by omega)
 have ex:∀y:Int,∃g:Int,y∈b->(g,y)∈a.zip r:=λy=>by
  by_cases c:y∈b
  ·obtain ⟨i,hi,e⟩:=Bc (all y c)
   refine ⟨a[i]'(by omega),λ_=>?_⟩
   have:(a.zip r)[i]'(by rw [D0];omega)=(a[i]'(by omega),y):=by rw [Dd,e]
   rw [<-this];exact Cj _
  ·exact ⟨0,λz=>absurd z c⟩
 have hs:=λy=>Cz (ex y)
 refine ⟨b.map λy=>CH (ex y),AI _,?_,λy hy=>?_,λx hx=>?_⟩
 ·unfold GF
  rw [Bf]
  refine nb.imp_of_mem λ{x y} hx hy ne e=>ne ?_
  have h1:=hs x hx;rw [e] at h1;exact ZY na h1 (hs y hy)
 ·rw [JS] at hy
  obtain ⟨y',hy',rfl⟩:=A4.mp hy;have m:=hs y' hy';exact kK h (ha _ (Eo m).1).1 (hb y' hy').1 (r3 _ m)
 ·obtain ⟨y,hy,rfl⟩:=A4.mp hx
  exact (Eo (hs y hy)).1
theorem ig (hn:a.Nodup):InP (Ed ts) a a a:=⟨rfl,hn,λy hy=>by
 have e:=JS (λx=>x) a;rw [VC] at e;rw [e] at hy;obtain ⟨g,_,rfl⟩:=A4.mp hy
 exact KQ.mpr (.inl rfl),λx hx=>hx⟩
theorem P6 (h:JK o ts) (ho:o < 8) (ha:∀g∈a,0<=g/\g < o) (hb:∀g∈b,0<=g/\g < o) (na:a.Nodup) (hl:a.length<=6):GZ (o,Ed ts) ts a b=some true:=by
 obtain ⟨v,e1,hv⟩:=NB (h.ties ho) ha na hl hb;obtain ⟨w,e2,hw⟩:=bA h ho ha hl (oth:=b);have e:=hv.one hw;subst e;unfold GZ Hw;simp only [AF];rw [e1,e2];simp only [AF,BQ]
 cases v with
 | none=>rfl
 | some r=>
  have hr:=hv.1.1;simp only [Option.isNone_some,B4,if_false,BQ,decide_true,if_true,AF];rw [iO (by omega)];rfl
theorem fI (h:JK o ts) (ho:o < 8) {c:Int} {t:List Int} (ha:∀g∈a,0<=g/\g < o) (na:a.Nodup) (hl:a.length<=6) (ht:Lv (Ed ts) a c t):∃f,Hy (o,Ed ts) a (Cp t)=some (some f)/\ltL t f=false/\Cp f=Cp t:=by
 have hT:=h.ties ho;have rg:=ht.rg hT ha
 obtain ⟨v,e1,hv⟩:=NB hT ha na hl (oth:=Cp t) λx hx=>rg x (FA.mp hx)
 have hin:InP (Ed ts) a (Cp t) t:=⟨ht.1,ht.2.1,ht.2.2.1,λx hx=>FA.mpr hx⟩
 cases v with
 | none=>exact absurd ⟨t,hin⟩ hv
 | some f=>
  obtain ⟨⟨f1,f2,f3,f4⟩,f5⟩:=hv;refine ⟨f,e1,f5 t hin,Z2 ?_⟩
  have sub:∀x∈f,x∈t:=λx hx=>FA.mp (f4 x hx)
  have sup:=cG f2 sub (by rw [f1,ht.1])
  exact (List.perm_ext_iff_of_nodup f2 ht.2.1).mpr λx=>⟨sub x,sup x⟩
end
theorem mV (ns:List Int) (hns:ns.length<=63):aV ns=some true:=by
 refine Ok.is (v:=true) ?_;unfold aV XO;simp only [AF];rw [show BW ns 0=some (ns.getD 0 0) from N4 ns 0,show BW ns 1=some (ns.getD 1 0) from N4 ns 1,show BW ns 2=some (ns.getD 2 0) from N4 ns 2,show BW ns 3=some (ns.getD 3 0) from N4 ns 3];simp only [AF,BQ]
 have ho:∃o:Nat,2<=o/\o < 8/\(2+ns.getD 0 0 % 5+if decide (ns.getD 0 0 / 84 % 8=1)=true then 1 else 0)=(o:Int):=
  ⟨(2+ns.getD 0 0 % 5+if decide (ns.getD 0 0 / 84 % 8=1)=true then 1 else 0).toNat,by split <;> omega,by split <;> omega,by split <;> omega⟩
 obtain ⟨o,o2,o8,eo⟩:=ho;rw [eo];obtain ⟨P,e1⟩:=iP ns hns 4 (by decide) o2 o8;rw [show HQ ns 4 o=_ from e1];have ht:=dI o8 P;generalize (prs o).filter P=ts at ht;simp only [AF,BQ];obtain ⟨hs,e2,h2⟩:=bR ns (ts:=ts) (by have:=ht.ln;omega);rw [e2];simp only [AF]
 have hm:(0:Int) < (if (o:Int) - 1 < (4:Int) then (o:Int) - 1 else (4:Int)):=by split <;> omega
 rw [ht.web (by omega) (by omega) h2,M6 hm];simp only [AF,BQ]
 have hg:∃g:Nat,1<=g/\g < 6/\g < o/\1+ns.getD 1 0 % (if (o:Int) - 1 < (4:Int) then (o:Int) - 1 else (4:Int))=(g:Int):=by
  have h1:=gD (ns.getD 1 0) (show (if (o:Int) - 1 < (4:Int) then (o:Int) - 1 else (4:Int))≠0 by omega);have h2:=ZX (ns.getD 1 0) hm
  have h3:(if (o:Int) - 1 < (4:Int) then (o:Int) - 1 else (4:Int))<=4/\(if (o:Int) - 1 < (4:Int) then (o:Int) - 1 else (4:Int))<=o - 1:=by split <;> omega
  exact ⟨(1+ns.getD 1 0 % (if (o:Int) - 1 < (4:Int) then (o:Int) - 1 else (4:Int))).toNat,by omega,by omega,by omega,by omega⟩
 obtain ⟨g,g1,g6,go,eg⟩:=hg;rw [eg];obtain ⟨rs,e3,hr0,hr⟩:=YU o o8 g g6 (by omega) g1;rw [e3];simp only [AF,BQ]
 have hrp:(0:Int) < (rs.length:Int):=by have:=Fe.mpr hr0;omega
 rw [M6 hrp,M6 hrp];simp only [AF];obtain ⟨a,e4,has⟩:=O9 (l:=rs) (ns.getD 2 0) hr0;obtain ⟨b,e5,hbs⟩:=O9 (l:=rs) (ns.getD 2 0 / 35) hr0;rw [e4,e5];obtain ⟨a1,a2,a3⟩:=hr a has;obtain ⟨b1,b2,b3⟩:=hr b hbs
 have na:a.Nodup:=a3.imp λh=>by omega
 have nb:b.Nodup:=b3.imp λh=>by omega
 have a0:a≠[]:=λz=>by rw [z] at a1;simp at a1;omega
 simp only [AF,BQ,few3];have hT:=ht.ties o8;obtain ⟨v1,l1,w1⟩:=NB hT a2 na (by omega) b2;obtain ⟨v2,l2,w2⟩:=NB hT b2 nb (by omega) a2;obtain ⟨v3,l3,w3⟩:=NB hT a2 na (by omega) a2;rw [l1,l2,l3];simp only [AF];refine OkF.out (OkF.seq (N:=λ_=>True) (OkF.for (λ_ _=>True) trivial ?_) λ_ _=>?_)
 ·intro pre x _ hx _ _
  refine OkF.map (N:=λ_=>True) ?_ λ_ _=>trivial
  have hp:GZ (o,Ed ts) ts x.1 x.2=some true:=by
   simp only [A2,FT,or_false] at hx
   rcases hx with rfl | rfl | rfl
   ·exact P6 ht o8 a2 b2 na (by dsimp only;omega)
   ·exact P6 ht o8 b2 a2 nb (by dsimp only;omega)
   ·exact P6 ht o8 a2 a2 na (by dsimp only;omega)
  rw [hp];exact .nx trivial
 ·have en:v1.isNone=v2.isNone:=by
   cases v1 with
   | none=>
    cases v2 with
    | none=>rfl
    | some r=>exact absurd (cE ht b2 a2 nb na (by omega) ⟨r,w2.1⟩) w1
   | some r=>
    cases v2 with
    | none=>exact absurd (cE ht a2 b2 na nb (by omega) ⟨r,w1.1⟩) w2
    | some _=>rfl
  have e3':v3.isNone=false:=by
   cases v3 with
   | none=>exact absurd ⟨a,ig na⟩ w3
   | some _=>rfl
  rw [en,decide_eq_true rfl,e3'];simp only [Ti,B4,if_false,BQ];rw [XJ (by omega) (by omega),CD];simp only [AF];rw [HA (P:=λx=>!decide (x∈a)) (by rw [Ee];omega) λ_ _=>rfl];simp only [AF,BQ]
  have hf0:(Ht 0 o).filter (λx=>!decide (x∈a))≠[]:=λz=>by
   have:=K0 (l:=Ht 0 o) (k:=a) ((dZ 0 o).imp λh=>by omega) λx hx=>by
    by_cases c:x∈a
    ·exact c
    ·have:x∈(Ht 0 o).filter (λx=>!decide (x∈a)):=A5.mpr ⟨hx,by simp [c]⟩
     rw [z] at this;cases this
   rw [Ee] at this;omega
  have hfm:∀x∈(Ht 0 o).filter (λx=>!decide (x∈a)),0<=x/\x < o/\x∉a:=λx hx=>by
   obtain ⟨x1,x2⟩:=A5.mp hx;obtain ⟨x3,x4⟩:=Ga.mp x1;exact ⟨x3,by omega,by simpa using x2⟩
  generalize (Ht 0 o).filter (λx=>!decide (x∈a))=fr at hf0 hfm;rw [M6 (by have:=Fe.mpr hf0;omega)];simp only [AF];obtain ⟨c,e6,hc⟩:=O9 (l:=fr) (ns.getD 3 0) hf0;rw [e6];obtain ⟨c0,c1,c2⟩:=hfm c hc;simp only [AF,BQ,few2]
  have hans:∀k∈[("one" : Str), "all"],Ok (G5 (o,Ed ts) a c k) λR=>∀r∈R,Lv (Ed ts) a c r:=λk hk=>by
   simp only [A2,FT,or_false] at hk
   rcases hk with rfl | rfl
   ·exact (mG a2 na (by omega) a0 c0 c1 c2).imp λR hR=>hR.1
   ·obtain ⟨B,eB,hB,_⟩:=nI hT a2 na (by omega) ⟨c0,c1⟩ a0
    exact ⟨B,jG c0 c1 c2 eB,λr hr=>(hB r).mp hr⟩
  refine OkF.seq (N:=λ_=>True) (OkF.for (λ_ _=>True) trivial ?_) λ_ _=>.rt rfl
  intro pre k _ hk _ _
  refine OkF.map (N:=λ_=>True) ?_ λ_ _=>trivial
  obtain ⟨R,eR,hR⟩:=hans k hk;rw [eR];simp only [AF];refine OkF.for (λ_ _=>True) trivial ?_;intro pre2 t _ htm _ _;obtain ⟨f,ef,f1,f2⟩:=fI ht o8 a2 na (by omega) (hR t (fT htm));rw [ef];simp only [AF,BQ];rw [f1,f2,decide_eq_true rfl];exact .nx trivial
theorem good:∀(W:Wd),W.excs.Nodup->∀ns:List Int,ns.length<=63->∃S',Xl W [.fro (ns.map D.int)] []=.ok (.bl true) S':=λW _ ns h=>VF.law (by rw [<-mV ns h];exact lN W ns)
end M
def PySem.W.Fast.tw3350785048341380057:Nat:=0
def PySem.W.Fast.tw11696279158492411837:Nat:=0
def PySem.W.Fast.tw5818504366773587736:Nat:=0
def PySem.W.Fast.tw4524855999941402261:Nat:=0
def PySem.W.Fast.tw5898115862204635733:Nat:=0
def PySem.W.Fast.tw169413730119554144:Nat:=0
def PySem.W.Fast.tw531725604408323569:Nat:=0
def PySem.W.Fast.tw6803572326544061349:Nat:=0
def PySem.W.Fast.tw2931581341002989049:Nat:=0
def PySem.W.Fast.tw50208268284601128:Nat:=0
def PySem.W.Fast.tw17221260662904951001:Nat:=0
def PySem.W.Fast.tw10649857359473103335:Nat:=0
def PySem.W.Fast.tw7007370573785078431:Nat:=0
def PySem.W.Fast.tw6605193604577573849:Nat:=0
def PySem.W.Fast.tw16039216392428822829:Nat:=0
def PySem.W.Fast.tw13350677729849049061:Nat:=0
def PySem.W.Fast.tw14037786182462594670:Nat:=0
def PySem.W.Fast.tw5735150108592694753:Nat:=0
def PySem.W.Fast.tw13816427768485778710:Nat:=0
def PySem.W.Fast.tw3201878196478867776:Nat:=0
def PySem.W.Fast.tw10569928736161502257:Nat:=0
def PySem.W.Fast.tw1724474810529803176:Nat:=0
def PySem.W.Fast.tw1773321288452222903:Nat:=0
def PySem.W.Fast.tw16209032969276231648:Nat:=0
def PySem.W.Fast.tw947449546964120303:Nat:=0
def PySem.W.Fast.tw415512588686985164:Nat:=0
def PySem.W.Fast.tw14716403266230659538:Nat:=0
def PySem.W.Fast.tw6627109205070680634:Nat:=0
def PySem.W.Fast.tw129161219363160114:Nat:=0
def PySem.W.Fast.tw12475193335300494204:Nat:=0
def PySem.W.Fast.tw1041450474591595288:Nat:=0
def PySem.W.Fast.tw6435314883246487248:Nat:=0
def PySem.W.Fast.tw3342168973283524310:Nat:=0
def PySem.W.Fast.tw3006967711082631803:Nat:=0
def PySem.W.Fast.tw15455353538726247803:Nat:=0
def PySem.W.Fast.tw7778777770839357392:Nat:=0
def PySem.W.Fast.tw5361791043664118027:Nat:=0
def PySem.W.Fast.tw10436952556739994976:Nat:=0
def PySem.W.Fast.tw3961958901545528262:Nat:=0
def PySem.W.Fast.tw17549137927117833584:Nat:=0
def PySem.W.Fast.tw17700444067115772162:Nat:=0
namespace M
open PySem PySem.Spec PyProof.Rows L2 PySem.W
theorem kI {l:OpenLaw} {w:BE} {K:Frag} {h:Bu} {mg:Str->Option AD} {fa:AM} (X:K.In h) (G:h.Ns Af mg) (hfa:mg "law" = some (.ref fa))
  {f1 f2 f3 f4 f5 f6 f7 f8 f9 f10 f11 f12 f13 f14 f15 f16 f17 f18 f19 f20 f21 f22 f23 f24 f25 f26 f27 f28 cWeb:AM} {tk_MOST_PLACES:Tok}
  {od1 an1 od2 an2 od3 an3 od4 an4 od5 an5 od6 an6 od7 an7 od8 an8 od9 an9 od10 an10 od11 an11 od12 an12 od13 an13 od14 an14 od15 an15 od16 an16 od17 an17 od18 an18 od19 an19 od20 an20 od21 an21 od22 an22 od23 an23 od24 an24 od25 an25 od26 an26 od27 an27 od28 an28:Option AM} {sl1 sl2 sl3 sl4 sl5 sl6 sl7 sl8 sl9 sl10 sl11 sl12 sl13 sl14 sl15 sl16 sl17 sl18 sl19 sl20 sl21 sl22 sl23 sl24 sl25 sl26 sl27 sl28:Array (Option AD)} {oc1 kV1 dc1 pm1 cd1 ct1 oc2 kV2 dc2 pm2 cd2 ct2 oc3 kV3 dc3 pm3 cd3 ct3 oc4 kV4 dc4 pm4 cd4 ct4 oc5 kV5 dc5 pm5 cd5 ct5 oc6 kV6 dc6 pm6 cd6 ct6 oc7 kV7 dc7 pm7 cd7 ct7 oc8 kV8 dc8 pm8 cd8 ct8 oc9 kV9 dc9 pm9 cd9 ct9 oc10 kV10 dc10 pm10 cd10 ct10 oc11 kV11 dc11 pm11 cd11 ct11 oc12 kV12 dc12 pm12 cd12 ct12 oc13 kV13 dc13 pm13 cd13 ct13 oc14 kV14 dc14 pm14 cd14 ct14 oc15 kV15 dc15 pm15 cd15 ct15 oc16 kV16 dc16 pm16 cd16 ct16 oc17 kV17 dc17 pm17 cd17 ct17 oc18 kV18 dc18 pm18 cd18 ct18 oc19 kV19 dc19 pm19 cd19 ct19 oc20 kV20 dc20 pm20 cd20 ct20 oc21 kV21 dc21 pm21 cd21 ct21 oc22 kV22 dc22 pm22 cd22 ct22 oc23 kV23 dc23 pm23 cd23 ct23 oc24 kV24 dc24 pm24 cd24 ct24 oc25 kV25 dc25 pm25 cd25 ct25 oc26 kV26 dc26 pm26 cd26 ct26 oc27 kV27 dc27 pm27 cd27 ct27 oc28 kV28 dc28 pm28 cd28 ct28:AD}
  (a_Web:Eb K Af "Web" = some (some (.ref cWeb)))
  (a1:Eb K Af "checked_ties" = some (some (.ref f1)))
  (l1:K.lookup f1=some ⟨oc1,od1,.func (fnOf "checked_ties" "checked_ties" (Bt ED) (Bi ED) (Al ED) .none kV1 dc1 pm1 an1 cd1 ct1),sl1⟩)
  (k1c:codeIn K cd1 "checked_ties" = true)
  (k1:keepIn K (.ref f1)=true)
  (a2:Eb K Af "near_sets_of" = some (some (.ref f2)))
  (l2:K.lookup f2=some ⟨oc2,od2,.func (fnOf "near_sets_of" "near_sets_of" (Bt EC) (Bi EC) (Al EC) .none kV2 dc2 pm2 an2 cd2 ct2),sl2⟩)
  (k2c:codeIn K cd2 "near_sets_of" = true)
  (k2:keepIn K (.ref f2)=true)
  (a3:findIn K (.ref cWeb) "__init__" = some (some (.ref f3)))
  (i3:isFn K (.ref f3)=true)
  (l3:K.lookup f3=some ⟨oc3,od3,.func (fnOf "__init__" "Web.__init__" (Bt G3) (Bi G3) (Al G3) .none kV3 dc3 pm3 an3 cd3 ct3),sl3⟩)
  (k3c:codeIn K cd3 "Web.__init__" = true)
  (k3:keepIn K (.ref f3)=true)
  (a4:Eb K Af "refuse_no_place" = some (some (.ref f4)))
  (l4:K.lookup f4=some ⟨oc4,od4,.func (fnOf "refuse_no_place" "refuse_no_place" (Bt DE) (Bi DE) (Al DE) .none kV4 dc4 pm4 an4 cd4 ct4),sl4⟩)
  (k4c:codeIn K cd4 "refuse_no_place" = true)
  (k4:keepIn K (.ref f4)=true)
  (a5:Eb K Af "near" = some (some (.ref f5)))
  (l5:K.lookup f5=some ⟨oc5,od5,.func (fnOf "near" "near" (Bt Nh) (Bi Nh) (Al Nh) .none kV5 dc5 pm5 an5 cd5 ct5),sl5⟩)
  (k5c:codeIn K cd5 "near" = true)
  (k5:keepIn K (.ref f5)=true)
  (a6:Eb K Af "takes_of" = some (some (.ref f6)))
  (l6:K.lookup f6=some ⟨oc6,od6,.func (fnOf "takes_of" "takes_of" (Bt G2) (Bi G2) (Al G2) .none kV6 dc6 pm6 an6 cd6 ct6),sl6⟩)
  (k6c:codeIn K cd6 "takes_of" = true)
  (k6:keepIn K (.ref f6)=true)
  (a7:Eb K Af "bits_of" = some (some (.ref f7)))
  (l7:K.lookup f7=some ⟨oc7,od7,.func (fnOf "bits_of" "bits_of" (Bt II) (Bi II) (Al II) .none kV7 dc7 pm7 an7 cd7 ct7),sl7⟩)
  (k7c:codeIn K cd7 "bits_of" = true)
  (k7:keepIn K (.ref f7)=true)
  (a8:Eb K Af "settle" = some (some (.ref f8)))
  (l8:K.lookup f8=some ⟨oc8,od8,.func (fnOf "settle" "settle" (Bt JX) (Bi JX) (Al JX) .none kV8 dc8 pm8 an8 cd8 ct8),sl8⟩)
  (k8c:codeIn K cd8 "settle" = true)
  (k8:keepIn K (.ref f8)=true)
  (a9:Eb K Af "fits" = some (some (.ref f9)))
  (l9:K.lookup f9=some ⟨oc9,od9,.func (fnOf "fits" "fits" (Bt Ni) (Bi Ni) (Al Ni) .none kV9 dc9 pm9 an9 cd9 ct9),sl9⟩)
  (k9c:codeIn K cd9 "fits" = true)
  (k9:keepIn K (.ref f9)=true)
  (a10:Eb K Af "first_step" = some (some (.ref f10)))
  (l10:K.lookup f10=some ⟨oc10,od10,.func (fnOf "first_step" "first_step" (Bt FB) (Bi FB) (Al FB) .none kV10 dc10 pm10 an10 cd10 ct10),sl10⟩)
  (k10c:codeIn K cd10 "first_step" = true)
  (k10:keepIn K (.ref f10)=true)
  (a11:Eb K Af "first_into" = some (some (.ref f11)))
  (l11:K.lookup f11=some ⟨oc11,od11,.func (fnOf "first_into" "first_into" (Bt FC) (Bi FC) (Al FC) .none kV11 dc11 pm11 an11 cd11 ct11),sl11⟩)
  (k11c:codeIn K cd11 "first_into" = true)
  (k11:keepIn K (.ref f11)=true)
  (a12:Eb K Af "refuse_no_call" = some (some (.ref f12)))
  (l12:K.lookup f12=some ⟨oc12,od12,.func (fnOf "refuse_no_call" "refuse_no_call" (Bt DY) (Bi DY) (Al DY) .none kV12 dc12 pm12 an12 cd12 ct12),sl12⟩)
  (k12c:codeIn K cd12 "refuse_no_call" = true)
  (k12:keepIn K (.ref f12)=true)
  (a13:Eb K Af "can_end" = some (some (.ref f13)))
  (l13:K.lookup f13=some ⟨oc13,od13,.func (fnOf "can_end" "can_end" (Bt IH) (Bi IH) (Al IH) .none kV13 dc13 pm13 an13 cd13 ct13),sl13⟩)
  (k13c:codeIn K cd13 "can_end" = true)
  (k13:keepIn K (.ref f13)=true)
  (a14:Eb K Af "answers_of_all" = some (some (.ref f14)))
  (l14:K.lookup f14=some ⟨oc14,od14,.func (fnOf "answers_of_all" "answers_of_all" (Bt DZ) (Bi DZ) (Al DZ) .none kV14 dc14 pm14 an14 cd14 ct14),sl14⟩)
  (k14c:codeIn K cd14 "answers_of_all" = true)
  (k14:keepIn K (.ref f14)=true)
  (a15:Eb K Af "with_step" = some (some (.ref f15)))
  (l15:K.lookup f15=some ⟨oc15,od15,.func (fnOf "with_step" "with_step" (Bt Fp) (Bi Fp) (Al Fp) .none kV15 dc15 pm15 an15 cd15 ct15),sl15⟩)
  (k15c:codeIn K cd15 "with_step" = true)
  (k15:keepIn K (.ref f15)=true)
  (a16:Eb K Af "answers" = some (some (.ref f16)))
  (l16:K.lookup f16=some ⟨oc16,od16,.func (fnOf "answers" "answers" (Bt IJ) (Bi IJ) (Al IJ) .none kV16 dc16 pm16 an16 cd16 ct16),sl16⟩)
  (k16c:codeIn K cd16 "answers" = true)
  (k16:keepIn K (.ref f16)=true)
  (a17:Eb K Af "leads" = some (some (.ref f17)))
  (l17:K.lookup f17=some ⟨oc17,od17,.func (fnOf "leads" "leads" (Bt Lb) (Bi Lb) (Al Lb) .none kV17 dc17 pm17 an17 cd17 ct17),sl17⟩)
  (k17c:codeIn K cd17 "leads" = true)
  (k17:keepIn K (.ref f17)=true)
  (a18:Eb K Af "_law_cell_at" = some (some (.ref f18)))
  (l18:K.lookup f18=some ⟨oc18,od18,.func (fnOf "_law_cell_at" "_law_cell_at" (Bt EE) (Bi EE) (Al EE) .none kV18 dc18 pm18 an18 cd18 ct18),sl18⟩)
  (k18c:codeIn K cd18 "_law_cell_at" = true)
  (k18:keepIn K (.ref f18)=true)
  (a19:Eb K Af "_law_pairs" = some (some (.ref f19)))
  (l19:K.lookup f19=some ⟨oc19,od19,.func (fnOf "_law_pairs" "_law_pairs" (Bt FD) (Bi FD) (Al FD) .none kV19 dc19 pm19 an19 cd19 ct19),sl19⟩)
  (k19c:codeIn K cd19 "_law_pairs" = true)
  (k19:keepIn K (.ref f19)=true)
  (a20:Eb K Af "_law_first_ties" = some (some (.ref f20)))
  (l20:K.lookup f20=some ⟨oc20,od20,.func (fnOf "_law_first_ties" "_law_first_ties" (Bt DF) (Bi DF) (Al DF) .none kV20 dc20 pm20 an20 cd20 ct20),sl20⟩)
  (k20c:codeIn K cd20 "_law_first_ties" = true)
  (k20:keepIn K (.ref f20)=true)
  (a21:Eb K Af "_law_ties" = some (some (.ref f21)))
  (l21:K.lookup f21=some ⟨oc21,od21,.func (fnOf "_law_ties" "_law_ties" (Bt Fq) (Bi Fq) (Al Fq) .none kV21 dc21 pm21 an21 cd21 ct21),sl21⟩)
  (k21c:codeIn K cd21 "_law_ties" = true)
  (k21:keepIn K (.ref f21)=true)
  (a22:Eb K Af "_law_handed" = some (some (.ref f22)))
  (l22:K.lookup f22=some ⟨oc22,od22,.func (fnOf "_law_handed" "_law_handed" (Bt Ek) (Bi Ek) (Al Ek) .none kV22 dc22 pm22 an22 cd22 ct22),sl22⟩)
  (k22c:codeIn K cd22 "_law_handed" = true)
  (k22:keepIn K (.ref f22)=true)
  (a23:Eb K Af "_law_near" = some (some (.ref f23)))
  (l23:K.lookup f23=some ⟨oc23,od23,.func (fnOf "_law_near" "_law_near" (Bt Ft) (Bi Ft) (Al Ft) .none kV23 dc23 pm23 an23 cd23 ct23),sl23⟩)
  (k23c:codeIn K cd23 "_law_near" = true)
  (k23:keepIn K (.ref f23)=true)
  (a24:Eb K Af "_law_sets" = some (some (.ref f24)))
  (l24:K.lookup f24=some ⟨oc24,od24,.func (fnOf "_law_sets" "_law_sets" (Bt Fs) (Bi Fs) (Al Fs) .none kV24 dc24 pm24 an24 cd24 ct24),sl24⟩)
  (k24c:codeIn K cd24 "_law_sets" = true)
  (k24:keepIn K (.ref f24)=true)
  (a25:Eb K Af "_law_set_told" = some (some (.ref f25)))
  (l25:K.lookup f25=some ⟨oc25,od25,.func (fnOf "_law_set_told" "_law_set_told" (Bt Dt) (Bi Dt) (Al Dt) .none kV25 dc25 pm25 an25 cd25 ct25),sl25⟩)
  (k25c:codeIn K cd25 "_law_set_told" = true)
  (k25:keepIn K (.ref f25)=true)
  (a26:Eb K Af "_law_first" = some (some (.ref f26)))
  (l26:K.lookup f26=some ⟨oc26,od26,.func (fnOf "_law_first" "_law_first" (Bt FF) (Bi FF) (Al FF) .none kV26 dc26 pm26 an26 cd26 ct26),sl26⟩)
  (k26c:codeIn K cd26 "_law_first" = true)
  (k26:keepIn K (.ref f26)=true)
  (a27:Eb K Af "_law_leads" = some (some (.ref f27)))
  (l27:K.lookup f27=some ⟨oc27,od27,.func (fnOf "_law_leads" "_law_leads" (Bt FE) (Bi FE) (Al FE) .none kV27 dc27 pm27 an27 cd27 ct27),sl27⟩)
  (k27c:codeIn K cd27 "_law_leads" = true)
  (k27:keepIn K (.ref f27)=true)
  (a28:Eb K Af "law" = some (some (.ref f28)))
  (l28:K.lookup f28=some ⟨oc28,od28,.func (fnOf "law" "law" (Bt RT) (Bi RT) (Al RT) .none kV28 dc28 pm28 an28 cd28 ct28),sl28⟩)
  (k28c:codeIn K cd28 "law" = true)
  (k28:keepIn K (.ref f28)=true)
  (pg_Web:plainGet K cWeb Str.empty=true)
  (hd_Web:hasDictIn K cWeb=true)
  (po_Web:plainOver K cWeb=true)
  (sa_Web:findIn K (.ref cWeb) "__setattr__" = some (some (.builtin "object.__setattr__")))
  (mk_Web:makesIn K cWeb=true)
  (kc_Web:keepIn K (.ref cWeb)=true)
  (n_Web_places:findIn K (.ref cWeb) "places" = some none)
  (n_Web_ties:findIn K (.ref cWeb) "ties" = some none)
  (n_Web_near_sets:findIn K (.ref cWeb) "near_sets" = some none)
  (z_all:Eb K Af "all" = some none)
  (z_any:Eb K Af "any" = some none)
  (z_bool:Eb K Af "bool" = some none)
  (z_enumerate:Eb K Af "enumerate" = some none)
  (z_int:Eb K Af "int" = some none)
  (z_isinstance:Eb K Af "isinstance" = some none)
  (z_len:Eb K Af "len" = some none)
  (z_list:Eb K Af "list" = some none)
  (z_max:Eb K Af "max" = some none)
  (z_min:Eb K Af "min" = some none)
  (z_range:Eb K Af "range" = some none)
  (z_reversed:Eb K Af "reversed" = some none)
  (z_sorted:Eb K Af "sorted" = some none)
  (z_tuple:Eb K Af "tuple" = some none)
  (g_MOST_PLACES:Eb K Af "MOST_PLACES" = some (some (.int 60 tk_MOST_PLACES)))
  : ∃(W:Wd) (T:Txt K mg W),fa=T.d_law.f/\W.excs.Nodup/\∀(s:AE) (v:AD),VM s T.d_law.fd ⟨[v],[]⟩ [("script",v)]:=by
 have F1:=C0 (st:=ED) l1 k1c k1
 have b1:=F1.binds (ps:=["places", "ties"]) λ_ _ _ _ _ _ us hl=>by obtain ⟨a,b,rfl⟩:=RA hl;rfl
 have F2:=C0 (st:=EC) l2 k2c k2
 have b2:=F2.binds (ps:=["places", "ties"]) λ_ _ _ _ _ _ us hl=>by obtain ⟨a,b,rfl⟩:=RA hl;rfl
 have F3:=C0 (st:=G3) l3 k3c k3
 have b3:=F3.binds (ps:=["self", "places", "ties"]) λ_ _ _ _ _ _ us hl=>by obtain ⟨a,b,c,rfl⟩:=Q9 hl;rfl
 have F4:=C0 (st:=DE) l4 k4c k4
 have b4:=F4.binds (ps:=["web", "place"]) λ_ _ _ _ _ _ us hl=>by obtain ⟨a,b,rfl⟩:=RA hl;rfl
 have F5:=C0 (st:=Nh) l5 k5c k5
 have b5:=F5.binds (ps:=["web", "place"]) λ_ _ _ _ _ _ us hl=>by obtain ⟨a,b,rfl⟩:=RA hl;rfl
 have F6:=C0 (st:=G2) l6 k6c k6
 have b6:=F6.binds (ps:=["web"]) λ_ _ _ _ _ _ us hl=>by obtain ⟨a,rfl⟩:=WH hl;rfl
 have F7:=C0 (st:=II) l7 k7c k7
 have b7:=F7.binds (ps:=["some"]) λ_ _ _ _ _ _ us hl=>by obtain ⟨a,rfl⟩:=WH hl;rfl
 have F8:=C0 (st:=JX) l8 k8c k8
 have b8:=F8.binds (ps:=["takes", "bits", "holders", "guard", "seen"]) λ_ _ _ _ _ _ us hl=>by obtain ⟨a,b,c,d,e,rfl⟩:=len5 hl;rfl
 have F9:=C0 (st:=Ni) l9 k9c k9
 have b9:=F9.binds (ps:=["takes", "guards", "bits"]) λ_ _ _ _ _ _ us hl=>by obtain ⟨a,b,c,rfl⟩:=Q9 hl;rfl
 have F10:=C0 (st:=FB) l10 k10c k10
 have b10:=F10.binds (ps:=["takes", "guard", "rest", "wanted"]) λ_ _ _ _ _ _ us hl=>by obtain ⟨a,b,c,d,rfl⟩:=bC hl;rfl
 have F11:=C0 (st:=FC) l11 k11c k11
 have b11:=F11.binds (ps:=["takes", "guards", "wanted"]) λ_ _ _ _ _ _ us hl=>by obtain ⟨a,b,c,rfl⟩:=Q9 hl;rfl
 have F12:=C0 (st:=DY) l12 k12c k12
 have b12:=F12.binds (ps:=["web", "standing", "call"]) λ_ _ _ _ _ _ us hl=>by obtain ⟨a,b,c,rfl⟩:=Q9 hl;rfl
 have F13:=C0 (st:=IH) l13 k13c k13
 have b13:=F13.binds (ps:=["takes", "told", "rest", "call"]) λ_ _ _ _ _ _ us hl=>by obtain ⟨a,b,c,d,rfl⟩:=bC hl;rfl
 have F14:=C0 (st:=DZ) l14 k14c k14
 have b14:=F14.binds (ps:=["web", "standing", "call"]) λ_ _ _ _ _ _ us hl=>by obtain ⟨a,b,c,rfl⟩:=Q9 hl;rfl
 have F15:=C0 (st:=Fp) l15 k15c k15
 have b15:=F15.binds (ps:=["standing", "guard", "place"]) λ_ _ _ _ _ _ us hl=>by obtain ⟨a,b,c,rfl⟩:=Q9 hl;rfl
 have F16:=C0 (st:=IJ) l16 k16c k16
 have b16:=F16.binds (ps:=["web", "standing", "call", "kind"]) λ_ _ _ _ _ _ us hl=>by obtain ⟨a,b,c,d,rfl⟩:=bC hl;rfl
 have F17:=C0 (st:=Lb) l17 k17c k17
 have b17:=F17.binds (ps:=["web", "standing", "other"]) λ_ _ _ _ _ _ us hl=>by obtain ⟨a,b,c,rfl⟩:=Q9 hl;rfl
 have F18:=C0 (st:=EE) l18 k18c k18
 have b18:=F18.binds (ps:=["script", "k"]) λ_ _ _ _ _ _ us hl=>by obtain ⟨a,b,rfl⟩:=RA hl;rfl
 have F19:=C0 (st:=FD) l19 k19c k19
 have b19:=F19.binds (ps:=["places"]) λ_ _ _ _ _ _ us hl=>by obtain ⟨a,rfl⟩:=WH hl;rfl
 have F20:=C0 (st:=DF) l20 k20c k20
 have b20:=F20.binds (ps:=["places", "style"]) λ_ _ _ _ _ _ us hl=>by obtain ⟨a,b,rfl⟩:=RA hl;rfl
 have F21:=C0 (st:=Fq) l21 k21c k21
 have b21:=F21.binds (ps:=["script", "first", "places"]) λ_ _ _ _ _ _ us hl=>by obtain ⟨a,b,c,rfl⟩:=Q9 hl;rfl
 have F22:=C0 (st:=Ek) l22 k22c k22
 have b22:=F22.binds (ps:=["script", "ties"]) λ_ _ _ _ _ _ us hl=>by obtain ⟨a,b,rfl⟩:=RA hl;rfl
 have F23:=C0 (st:=Ft) l23 k23c k23
 have b23:=F23.binds (ps:=["ties", "place"]) λ_ _ _ _ _ _ us hl=>by obtain ⟨a,b,rfl⟩:=RA hl;rfl
 have F24:=C0 (st:=Fs) l24 k24c k24
 have b24:=F24.binds (ps:=["places", "guards"]) λ_ _ _ _ _ _ us hl=>by obtain ⟨a,b,rfl⟩:=RA hl;rfl
 have F25:=C0 (st:=Dt) l25 k25c k25
 have b25:=F25.binds (ps:=["found"]) λ_ _ _ _ _ _ us hl=>by obtain ⟨a,rfl⟩:=WH hl;rfl
 have F26:=C0 (st:=FF) l26 k26c k26
 have b26:=F26.binds (ps:=["ties", "standing", "other"]) λ_ _ _ _ _ _ us hl=>by obtain ⟨a,b,c,rfl⟩:=Q9 hl;rfl
 have F27:=C0 (st:=FE) l27 k27c k27
 have b27:=F27.binds (ps:=["web", "ties", "standing", "other"]) λ_ _ _ _ _ _ us hl=>by obtain ⟨a,b,c,d,rfl⟩:=bC hl;rfl
 have F28:=C0 (st:=RT) l28 k28c k28
 have b28:=F28.binds (ps:=["script"]) λ_ _ _ _ _ _ us hl=>by obtain ⟨a,rfl⟩:=WH hl;rfl
 let W:Wd:=⟨cWeb⟩
 let T:Txt K mg W:={
  d_checked_ties:=⟨f1,_,F1,b1,Ea X G a1⟩
  d_near_sets_of:=⟨f2,_,F2,b2,Ea X G a2⟩
  d_Web_init:=⟨f3,_,F3,b3⟩
  d_refuse_no_place:=⟨f4,_,F4,b4,Ea X G a4⟩
  d_near:=⟨f5,_,F5,b5,Ea X G a5⟩
  d_takes_of:=⟨f6,_,F6,b6,Ea X G a6⟩
  d_bits_of:=⟨f7,_,F7,b7,Ea X G a7⟩
  d_settle:=⟨f8,_,F8,b8,Ea X G a8⟩
  d_fits:=⟨f9,_,F9,b9,Ea X G a9⟩
  d_first_step:=⟨f10,_,F10,b10,Ea X G a10⟩
  d_first_into:=⟨f11,_,F11,b11,Ea X G a11⟩
  d_refuse_no_call:=⟨f12,_,F12,b12,Ea X G a12⟩
  d_can_end:=⟨f13,_,F13,b13,Ea X G a13⟩
  d_answers_of_all:=⟨f14,_,F14,b14,Ea X G a14⟩
  d_with_step:=⟨f15,_,F15,b15,Ea X G a15⟩
  d_answers:=⟨f16,_,F16,b16,Ea X G a16⟩
  d_leads:=⟨f17,_,F17,b17,Ea X G a17⟩
  d__law_cell_at:=⟨f18,_,F18,b18,Ea X G a18⟩
  d__law_pairs:=⟨f19,_,F19,b19,Ea X G a19⟩
  d__law_first_ties:=⟨f20,_,F20,b20,Ea X G a20⟩
  d__law_ties:=⟨f21,_,F21,b21,Ea X G a21⟩
  d__law_handed:=⟨f22,_,F22,b22,Ea X G a22⟩
  d__law_near:=⟨f23,_,F23,b23,Ea X G a23⟩
  d__law_sets:=⟨f24,_,F24,b24,Ea X G a24⟩
  d__law_set_told:=⟨f25,_,F25,b25,Ea X G a25⟩
  d__law_first:=⟨f26,_,F26,b26,Ea X G a26⟩
  d__law_leads:=⟨f27,_,F27,b27,Ea X G a27⟩
  d_law:=⟨f28,_,F28,b28,Ea X G a28⟩
  c_Web:=⟨⟨pg_Web,hd_Web,po_Web,sa_Web⟩,⟨mk_Web,a3,i3,kc_Web⟩,Ea X G a_Web⟩
  n_Web_places:=n_Web_places
  n_Web_ties:=n_Web_ties
  n_Web_near_sets:=n_Web_near_sets
  b_all:=Dc X G z_all
  b_any:=Dc X G z_any
  b_bool:=Dc X G z_bool
  b_enumerate:=Dc X G z_enumerate
  b_int:=Dc X G z_int
  b_isinstance:=Dc X G z_isinstance
  b_len:=Dc X G z_len
  b_list:=Dc X G z_list
  b_max:=Dc X G z_max
  b_min:=Dc X G z_min
  b_range:=Dc X G z_range
  b_reversed:=Dc X G z_reversed
  b_sorted:=Dc X G z_sorted
  b_tuple:=Dc X G z_tuple
  g_MOST_PLACES:=⟨tk_MOST_PLACES,Ea X G g_MOST_PLACES⟩ }
 refine ⟨W,T,?_,FL,λs v=>.of_eq rfl⟩;have e:=hfa.symm.trans (Ea X G a28);cases e;rfl
theorem walk {l:OpenLaw} {q:Ap} {loose:List Str} {XP:(Str->Option AD)->Bu->Prop} {YP:BE->Bu->Prop} {d:DefRec} {K:Params->Frag} (hn:l.most=some 63) (hdf:d.params.defaults=[])
  (hY:∀(w:BE) (h:Bu),YP w h->(K w.params).In h)
  (F:∀(w:BE) (mg:Str->Option AD) (fa:AM) (h:Bu),(K w.params).In h->h.Ns Af mg->mg d.name=some (.ref fa) ->
   ∃(W:Wd) (T:Txt (K w.params) mg W),fa=T.d_law.f/\W.excs.Nodup/\∀(s:AE) (v:AD),VM s T.d_law.fd ⟨[v],[]⟩ [("script",v)])
  (good:∀(W:Wd),W.excs.Nodup->∀ns:List Int,ns.length<=63->∃S',Xl W [.fro (ns.map D.int)] []=.ok (.bl true) S') :
  WalkO q loose XP YP l.row.toRowW d [] (λf vs=>X6 f vs):=
 L2.cr (n:=63) (k:=16) (x:="script") (CX:=λw=>CXG l.prog w) (sp:=λw=>Z0 (K w.params)) hn (by decide) hdf ⟨rfl,by decide,by decide⟩ hY
  (λw mg fa h KX G hmg=>by
   obtain ⟨W,T,e,nd,hb⟩:=F w mg fa h KX G hmg;subst e
   exact ⟨T.d_law.fd,hb,λbase _ _=>bF (jS T) (good W nd)⟩)
  (λ_ _ a ns hl hO hS=>⟨a,ns,rfl,j4 hO hS,hl,λ_=>rfl⟩) (λw H s e s' z=>kE z)
end M
open PySem PySem.W PyProof.Rows
set_option maxRecDepth 100000 in
set_option maxHeartbeats 0 in
theorem PySem.Challenge.cw_guardround_k17_whole_where_standings_lea_holds : PySem.Challenge.rw_guardround_k17_whole_where_standings_lea.Holds := by
 w_on;o_law;k_head;(case hw=>w_witness2)
 k_fill
 refine M.walk (l:=Fd) rfl rfl (λw h Y=>kIn_of Y) ?F M.good
 case F=>
  intro w mg fa h KX G hmg;refine' M.kI (l:=Fd) (w:=w) KX G hmg ?a_Web ?a1 ?l1 ?k1c ?k1 ?a2 ?l2 ?k2c ?k2 ?a3 ?i3 ?l3 ?k3c ?k3 ?a4 ?l4 ?k4c ?k4 ?a5 ?l5 ?k5c ?k5 ?a6 ?l6 ?k6c ?k6 ?a7 ?l7 ?k7c ?k7 ?a8 ?l8 ?k8c ?k8 ?a9 ?l9 ?k9c ?k9 ?a10 ?l10 ?k10c ?k10 ?a11 ?l11 ?k11c ?k11 ?a12 ?l12 ?k12c ?k12 ?a13 ?l13 ?k13c ?k13 ?a14 ?l14 ?k14c ?k14 ?a15 ?l15 ?k15c ?k15 ?a16 ?l16 ?k16c ?k16 ?a17 ?l17 ?k17c ?k17 ?a18 ?l18 ?k18c ?k18 ?a19 ?l19 ?k19c ?k19 ?a20 ?l20 ?k20c ?k20 ?a21 ?l21 ?k21c ?k21 ?a22 ?l22 ?k22c ?k22 ?a23 ?l23 ?k23c ?k23 ?a24 ?l24 ?k24c ?k24 ?a25 ?l25 ?k25c ?k25 ?a26 ?l26 ?k26c ?k26 ?a27 ?l27 ?k27c ?k27 ?a28 ?l28 ?k28c ?k28 ?pg_Web ?hd_Web ?po_Web ?sa_Web ?mk_Web ?kc_Web ?n_Web_places ?n_Web_ties ?n_Web_near_sets ?z_all ?z_any ?z_bool ?z_enumerate ?z_int ?z_isinstance ?z_len ?z_list ?z_max ?z_min ?z_range ?z_reversed ?z_sorted ?z_tuple ?g_MOST_PLACES
  (case a_Web | a1 | l1 | k1c | k1 | a2 | l2 | k2c | k2 | a3 | i3 | l3 | k3c | k3 | a4 | l4 | k4c | k4 | a5 | l5 | k5c | k5 | a6 | l6 | k6c | k6 | a7 | l7 | k7c | k7 | a8 | l8 | k8c | k8 | a9 | l9 | k9c | k9 | a10 | l10 | k10c | k10 | a11 | l11 | k11c | k11 | a12 | l12 | k12c | k12 | a13 | l13 | k13c | k13 | a14 | l14 | k14c | k14 | a15 | l15 | k15c | k15 | a16 | l16 | k16c | k16 | a17 | l17 | k17c | k17 | a18 | l18 | k18c | k18 | a19 | l19 | k19c | k19 | a20 | l20 | k20c | k20 | a21 | l21 | k21c | k21 | a22 | l22 | k22c | k22 | a23 | l23 | k23c | k23 | a24 | l24 | k24c | k24 | a25 | l25 | k25c | k25 | a26 | l26 | k26c | k26 | a27 | l27 | k27c | k27 | a28 | l28 | k28c | k28 | pg_Web | hd_Web | po_Web | sa_Web | mk_Web | kc_Web | n_Web_places | n_Web_ties | n_Web_near_sets | z_all | z_any | z_bool | z_enumerate | z_int | z_isinstance | z_len | z_list | z_max | z_min | z_range | z_reversed | z_sorted | z_tuple | g_MOST_PLACES=>k_is)
#print axioms PySem.Challenge.cw_guardround_k17_whole_where_standings_lea_holds
