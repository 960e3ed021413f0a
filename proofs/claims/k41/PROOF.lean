import PyProof.Rows.All
import Wide.All
import OpenK.AllK
import Wide.FinOn
import Lean
import PyProof.EqAt
import PyProof.EqKinds
import PyProof.TupleCall
import PyProof.ExcBaseAll.ValueError
import PyProof.NsDelKeeps
import PyProof.NeKinds
import PyProof.Rows.SortShell
import PyProof.Rows.FStr
import PyProof.FString
import PyProof.ExcAttrAll.ValueError
import PyProof.ExcArgsOwn
import PyProof.Rows.SortRuns
import PyProof.TupleIter
import PyProof.Dict
import KE.KDictSum
import PyProof.Rows.SetFrom
import PyProof.SetRoads
import PyProof.Rows.Range3
import PyProof.WalksMore
import PyProof.TupleOfSeq
import PyProof.EnumMake
import PyProof.SliceList
import PyProof.MinMaxWalk
import PyProof.Rows.EnumRows
import PyProof.WalkInts
import PyProof.Rows.SeqCalls
import KE.KRevIter
import PyProof.CollectIter
import PyProof.TupleOfGen
import PyProof.Rows.FactsT2
import PyProof.ListRange
import PyProof.Rows.CallKwBuiltin
import PyProof.ZipIter
import PyProof.Rows.ZipGen
import PyProof.Rows.RuleM_int
import PyProof.Rows.AssignMoreSeq
import KE.KIntText
import PyProof.Rows.StrKeys3
import PyProof.StrBlock
import PyProof.StrCalls2
import PyProof.StrWalks
import PySem.Challenge.RW_guardround_k41_the_most_pairs
set_option Elab.async false
set_option linter.all false
set_option maxRecDepth 100000
set_option maxHeartbeats 8000000
theorem qX{c:Prop}{h:Decidable c}(hc:c){α:Sort u}{t e:α}:ite c t e=t:=if_pos hc
theorem qY{c:Prop}{h:Decidable c}(hc:Not c){α:Sort u}{t e:α}:ite c t e=e:=if_neg hc
theorem wX{p:Prop}[i:Decidable p](h:p):decide p=true:=decide_eq_true h
theorem wY{p:Prop}[i:Decidable p](h:Not p):decide p=false:=decide_eq_false h
theorem zX{a b:Prop}(h:a)(n:Not a):b:=absurd h n
noncomputable section
open Array renaming getD_eq_getD_getElem?->Eg,getElem?_eq_getElem->P8,getElem?_toList->Ea,length_toList->BX,mem_extract_iff_getElem->Nu,mem_of_getElem?->Ch,mem_toList_iff->BR,perm_iff_toList_perm->Et,toList->fA,toList_append->BF,toList_map->JG,toList_modify->U7,toList_push->Ii,toList_reverse->Es,toList_setIfInBounds->Ph
open Array.Perm renaming refl->MU
open Bool renaming and_eq_true->Ji,and_false->d8,and_true->e8,false_eq_true->CU,false_ne_true->AX,false_or->eu,not_true->Lb,true_and->et
open Classical renaming axiomOfChoice->PQ
open Eq renaming trans->DD
open False renaming elim->De
open ForInStep renaming yield->Gt
open Int renaming emod_lt_of_pos->Mc,emod_nonneg->Pe,emod_two_eq->d7,fdiv_eq_ediv_of_nonneg->Qq,le_antisymm->Pd,le_refl->lJ,lt_of_le_of_lt->X6,lt_of_lt_of_le->X5,natCast_add->dz,natCast_nonneg->X4,toNat_natCast->B9,toNat_of_nonneg->BZ,zero_add->Nd
open List renaming Nodup->MR,all_cons->Rv,all_eq_true->G5,all_map->Te,any_cons->G9,any_eq_true->FE,any_toArray->Jh,append_assoc->BG,append_nil->BQ,dropLast_eq_take->Tt,drop_drop->P6,drop_eq_getElem_cons->FF,drop_eq_nil_of_le->Td,eq_replicate_iff->Ts,ext_getElem?->Cz,extract->NF,filterMap_cons->LW,filterMap_cons_none->Fb,filterMap_cons_some->Fa,filter_eq_self->WQ,filter_map->aT,filter_sublist->LV,find?_cons->BP,find?_eq_none->IG,find?_isSome->X3,flatMap_append->WP,flatten_append->WO,forIn_cons->aS,forIn_nil->dy,getElem?_append_left->Ab,getElem?_append_right->BE,getElem?_drop->Fi,getElem?_eq_getElem->BM,getElem?_eq_none->BO,getElem?_eq_none_iff->Bj,getElem?_eq_some_iff->AD,getElem?_map->AO,getElem?_range->Bh,getElem?_replicate->Cy,getElem?_set->Ek,getElem?_set_ne->AT,getElem?_set_self->Al,getElem?_take_of_lt->Ru,getElem?_zipIdx->U3,getElem_of_mem->LU,length->Fk,length_append->Ah,length_cons->A8,length_drop->G4,length_erase_of_mem->Rt,length_filter_le->KQ,length_flatMap->WN,length_map->AE,length_nil->HX,length_pos_of_mem->Tc,length_replicate->KP,length_reverse->WM,length_set->C0,length_singleton->Ck,length_take->Dy,lookup->HH,lookup_cons->CW,map->Kj,mapM_toArray->X2,map_append->A2,map_congr_left->B2,map_cons->Az,map_id->Ki,map_id'->jJ,map_map->At,map_nil->Hy,map_reverse->aI,mem_append->Ai,mem_append_left->A4,mem_append_right->A5,mem_cons->Ay,mem_cons_of_mem->Ag,mem_cons_self->A1,mem_filter->CP,mem_filterMap->Xu,mem_flatMap->aH,mem_flatten->Nr,mem_iff_getElem->U2,mem_map->Af,mem_map_of_mem->WL,mem_of_find?_eq_some->Qo,mem_of_getElem?->BD,mem_of_mem_take->U1,mem_range->Dx,mem_reverse->aG,mem_singleton->AQ,mergeSort_perm->WK,nodup_append->CI,nodup_cons->CO,nodup_nil->E4,nodup_range->aF,not_mem_nil->CD,of_mem_zip->PN,pairwise_append->BV,pairwise_cons->Xt,pairwise_iff_getElem->Qn,pairwise_map->Bt,pairwise_mergeSort->R3,pairwise_reverse->KO,pairwise_singleton->Jg,perm_append_comm->Tr,range->BN,range_succ->Ju,replicate->BU,reverse_cons->Im,set_set->jI,singleton_append->Gs,size_toArray->AY,sum_replicate_nat->Tb,take_add_one->NE,take_append_drop->Ef,take_length->DK,take_of_length_le->EB,take_sublist->X1,zipIdx_nil->aR
open List.Pairwise renaming imp_of_mem->HK,nil->P7
open List.Perm renaming append_left->JF,append_right->Pc,flatMap_right->PP,of_eq->U4
open List.Sublist renaming refl->lH
open Nat renaming add_le_add_left->Dw,add_zero->Tq,le_of_eq->jT,le_of_lt->Nc,le_of_not_lt->OD,le_refl->AN,le_succ->HJ,le_trans->A0,lt_irrefl->Ee,lt_of_le_of_lt->A6,lt_of_lt_of_le->AZ,lt_succ_of_lt->GM,lt_succ_self->DM,lt_trans->jS,min_le_right->aQ,ne_of_gt->Nb,ne_of_lt->Am,not_lt->G8,not_lt_zero->Hd,succ_ne_self->aP,zero_add->GK,zero_le->Cg
open Nat.succ renaming inj->LS
open Ne renaming symm->Bx
open Option renaming bind_some->As,getD_some->Xs,isSome_iff_exists->Ig,isSome_map->F0,map->jG
open Option.some renaming inj->B6
open Or renaming inl->PM,inr->ND
open Prod renaming ext->dw
open PyProof.Rows renaming AllBare->Ip,IntsAre->lG,Keyed->Ao,SetOf_congr->lF,SortKind->FS,SortSt->BK,Subscript_->ej,arrOf->AR,boot_all->lE,boot_bool->lD,boot_int->lC,boot_isinstance->lB,boot_list->IE,boot_max->lA,boot_min->kz,boot_set->kx,boot_sorted->ku,boot_sum->kt,boot_tuple->Hx,bubble->ei,callWith_builtin1->Kh,callWith_type1->CL,codeAny_set_update_loopS->kr,elem'_eq->aO,envOfC->Kv,failedOf->IA,firstMet->Dv,firstMet_succ->kn,firstOfTuple'->WH,general'->Tj,listUpdate_at->WG,ltAt'->i9,mirror->JD,mirror_perm->Rs,pairsOf->Jr,pendingOf->AV,reverseSlice'->Nq,reverseSlice'_eq->KZ,seqEpoch_at->aN,seqObj->IP,setObjOf_fresh->km,sortedHeap->ee,step_dedup->kl,subscriptTail->WE,subscriptTail_builtinR->Xw,tuples'->i6,wpS_bind->AL,wpS_forRange->Bz,wpS_get->G6,wpS_modify->DE,wpS_mono->C1,wpS_pure->AM
open PyProof.Rows.IntsAre renaming int_at->Xr
open PyProof.Rows.IsTup renaming new->lI
open PyProof.Rows.SortSt renaming mk'->Gg
open PySem renaming Addr->AK,Around->BB,BindsTo->Tg,CmpOp->Nt,DictEntry->He,FuncData->DN,GenState->Pf,Heap->Bw,IsEnum->Qp,Keyword->Io,NameKind->Pb,Paired->E6,PassesOwn->Qm,Program->Ak,Result->em,Scope->IB,Shared->AG,Stmt->Cc,Value->AC,Within->R0,World->A9,again->jB,assign->OA,assignEach->Ej,atKey->Tn,attributeBase->CV,backTo->DQ,backToKw->Tl,behindInMarks->CG,binaryOp->Ca,bindC->Xp,bindL->Xo,bootBuiltins->Ei,builtinsNs->eh,cLine->Ed,call->WI,call_meets->N9,callerA->PV,cellsFrom->jP,codeAny->Kw,codeAny_mono->Ik,compareOp->Bd,concat_meets->X0,eval->Br,evalArgs_none->Uw,firstArgMember->Ma,foldedSetIterable->FD,getItem->Xz,holding->jA,intKind->Xy,isTrue->Ti,keywordEach->MZ,lastMarks->Xn,letOwnedTupleGo->LR,mainGlobals->Ae,mem_of_lookup->Du,model->Ac,noFill_tuple_add->Qj,preSum->ef,pyIter->Th,pyNext->Qi,rawInt->MY,relabel->Ij,scanBound->Qh,seq_tuple_add->WF,sizeLine_eq->Rr,sliceBounds->aM,slot_list_getitem->i8,spliced->Xx,standAt->i7,starEach->AS,subscripted->Rq,swapsWith->Fh,sysModules->Cu,truthy->eZ,tupleKind->Qg,tupleKind_room_in1->JC,valueAt->PU,wpAny->Aq,wpAny_Call_Name_kw->DY,wpAny_Call_method0_late->Xm,wpAny_Dict_empty->jO,wpAny_Name->eY,wpAny_assign_Name->i5,wpAny_attempt->Np,wpAny_bind->AH,wpAny_call->eX,wpAny_callSpecial?_slot->EN,wpAny_call_entry->EM,wpAny_comprehension_free->WD,wpAny_dictEntries->PR,wpAny_dictEpoch->Ry,wpAny_eqBool_int->jN,wpAny_execs_cons->jM,wpAny_execs_nil->LQ,wpAny_field->MX,wpAny_fieldsOf->MW,wpAny_holding->WC,wpAny_isInstance->jL,wpAny_isOneOf_keyiter->LX,wpAny_isTrue_Compare1->aD,wpAny_loadPart'->GF,wpAny_mono->GJ,wpAny_newObj_type->FC,wpAny_passesOwn->Er,wpAny_pure->AW,wpAny_pyIter_enum->Jq,wpAny_pyIter_keyiter->aL,wpAny_pyIter_list->i4,wpAny_pyIter_tuple->Eh,wpAny_rule->eW,wpAny_setField->MV,wpAny_truthy_bool->CA,wpAny_typeNameOfWhole_keyiter->Ec,wpAny_typeNameOf_keyiter->GB
open PySem.Around renaming under->Rx
open PySem.Builtin renaming bitAnd->Fm
open PySem.Builtin.Dict renaming dictSlotNone->lL,showsAll->OE
open PySem.Builtin.Dict_items renaming ownsTuple->Js
open PySem.Builtin.Frozenset renaming updateFrom->aV
open PySem.Builtin.List renaming listItems->IH,listTooLong->DP
open PySem.Builtin.Range renaming rangeSize->jV
open PySem.Builtin.SmallTypes renaming nextOf->D4
open PySem.Calls renaming Name_function_global->Pg,callWith_builtin->GC,evalArgs_plain->Tv,spliced_cons->IC,spliced_nil->Ih
open PySem.Challenge renaming pw_guardround_k41_the_most_pairs->en,rw_guardround_k41_the_most_pairs->Gr
open PySem.Code renaming frames->jU,isFrame->Tf
open PySem.Data renaming cell->aK,fields->U6
open PySem.F renaming args_dict_keyiterator_next_1->Ka,args_list_extend_2->X7,args_tuple_add_2->IQ,args_tuple_iterator_next_1->Qr,called_set->FT,entry_dict_keyiterator_next->Kg,entry_list_extend->aJ,entry_tuple_add->Il,entry_tuple_iterator_next->Rw,plainAttrs_dict->P5,plainAttrs_list->Dk,slot_dict_iter->Ql,slot_dict_keyiterator_next->CN,slot_dict_update->Pa,slot_dict_values->PZ,slot_enumerate_next->Xv,slot_list_extend->PY,slot_list_extend->aU,slot_tuple_add->JE,slot_tuple_iterator_next->FG,type_list_extend->PX
open PySem.Heap renaming ExtBut->U5,SameBut->EC,get?_push_of_some->AJ,get?_push_size->Aj,get?_update_ne->WR,get?_update_self->Tu,lt_size->Ad,size_push->DO
open PySem.Heap.IsSliceOf renaming new->jK
open PySem.Heap.SameBut renaming refl->lK,update->GN
open PySem.NameKind renaming free->IF
open PySem.Obj renaming cls_mapFields->aE,data_mapFields->IR,isFreed_of_fields->U0,mapFields->jH,mapSeq->G7
open PySem.Paired renaming length->Db,snoc->Ta
open PySem.SeqAt.RcAt renaming tuples->jQ
open PySem.Str renaming ofString->Jt
open PySem.Value renaming bool->LY,bytes->jF,float->To,int->NY,isInt->jE,isStrOf->dv,none->Cb,ref->A7,str->NX,type->D7
open PySem.W renaming Frag->AA,callWith_K->Tp,cellsFrom_some->Qk,codeIn->OC,emptyDict->CZ,findIn->Dj,fnOf->HI,handedIn->WJ,hasDictIn->La,instObj->DR,kdu_collect->TZ,keepIn->Fj,kia_one->CK,kitOne->DG,kitx_dict->Uz,kitx_list->Uy,lookIn->OB,makesIn->Xq,methodObj->LZ,mg_none_of->DF,mg_of->EQ,nsIn->EO,plainGet->Mb,plainOver->Ux,takerIn->Na
open PySem.W.Looks renaming here->jR
open PySem.W.WData renaming int->kh
open PySem.W.WShape renaming has->jD
open PySem.Walks renaming tuple->jC
open PySem.Within renaming cons->kj
open Sum renaming inl->B8,inr->NZ
open Sum.inl renaming inj->Rz
open True renaming intro->Co
namespace L2
open PySem PySem.Spec PyProof.Rows
abbrev Key:=Sum Int Str
def QN:Key->AC->Bool
 | .inl k,v=>jE k v
 | .inr x,v=>dv x v
def keyH (w:A9):Key->Int
 | .inl k=>hashInt k
 | .inr x=>hashStr w x
theorem Cp:∀ {k:Key} {v:AC},QN k v=true->(∃i t,k=B8 i/\v=NY i t)∨(∃x t,k=NZ x/\v=NX x t)
 | .inl i,v,h=>by
  obtain ⟨t,e⟩:=AC.isInt_shape (k:=i) (v:=v) h;exact .inl ⟨i,t,rfl,e⟩
 | .inr x,v,h=>by
  obtain ⟨t,e⟩:=AC.isStrOf_shape (x:=x) (v:=v) h;exact .inr ⟨x,t,rfl,e⟩
theorem XD (i:Int) (t:Tok):QN (.inl i) (.int i t)=true:=by simp [QN,jE]
theorem XC (x:Str) (t:Tok):QN (.inr x) (.str x t)=true:=by simp [QN,dv]
theorem iG (a b:Int):decide ((B8 a:Key)=B8 b)=(a==b):=by
 by_cases e:a=b
 ·subst e;simp
 ·have h:¬(B8 a:Key)=B8 b:=λq=>e (Rz q)
  rw [wY h];exact (beq_eq_false_iff_ne.mpr e).symm
theorem iD (a b:Str):decide ((NZ a:Key)=NZ b)=decide (a=b):=by
 by_cases e:a=b
 ·subst e;simp
 ·have h:¬(NZ a:Key)=NZ b:=λq=>e (NZ.inj q)
  rw [wY h,wY e]
theorem iF (a:Int) (b:Str):decide ((B8 a:Key)=NZ b)=false:=wY (λq=>nomatch q)
theorem iE (a:Str) (b:Int):decide ((NZ a:Key)=B8 b)=false:=wY (λq=>nomatch q)
def Cn (prog:Ak) (w:A9):PySem.KeyKind prog w Key where
 is:=QN
 hash:=keyH w
 inj:=λv a b ha hb=>by
  rcases Cp ha with ⟨i,t,rfl,rfl⟩ | ⟨x,t,rfl,rfl⟩
  ·rcases Cp hb with ⟨j,u,rfl,e⟩ | ⟨y,u,rfl,e⟩
   ·injection e with e1 _;rw [e1]
   ·exact nomatch e
  ·rcases Cp hb with ⟨j,u,rfl,e⟩ | ⟨y,u,rfl,e⟩
   ·exact nomatch e
   ·injection e with e1 _;rw [e1]
 byValue:=λk v h=>by
  rcases Cp h with ⟨i,t,rfl,rfl⟩ | ⟨x,t,rfl,rfl⟩ <;> rfl
 pyHash:=λhv h=>by
  rcases Cp hv with ⟨i,t,rfl,rfl⟩ | ⟨x,t,rfl,rfl⟩
  ·exact wpAny_pyHash_int h
  ·exact wpAny_pyHash_str h
 eqBool:=λhu hv h=>by
  rcases Cp hu with ⟨i,t,rfl,rfl⟩ | ⟨x,t,rfl,rfl⟩
  ·rcases Cp hv with ⟨j,u,rfl,rfl⟩ | ⟨y,u,rfl,rfl⟩
   ·rw [iG] at h;exact jN h
   ·rw [iF] at h;exact SeqAt.EqAt.int_str i t y u _ _ _ _ h
  ·rcases Cp hv with ⟨j,u,rfl,rfl⟩ | ⟨y,u,rfl,rfl⟩
   ·rw [iE] at h;exact SeqAt.EqAt.str_int x t j u _ _ _ _ h
   ·rw [iD] at h;exact wpAny_eqBool_str h
 «strs»:=λk x t v h=>by
  rcases Cp h with ⟨i,u,rfl,e⟩ | ⟨y,u,rfl,e⟩
  ·exact nomatch e
  ·injection e with e1 _
   subst e1
   cases v <;> rfl
theorem Ss (prog:Ak) (w:A9) (i:Int) (t:Tok):(Cn prog w).is (.inl i) (.int i t)=true:=XD i t
theorem Sr (prog:Ak) (w:A9) (x:Str) (t:Tok):(Cn prog w).is (.inr x) (.str x t)=true:=XC x t
inductive V where
 | non | bl (b:Bool) | int (i:Int) | str (x:Str) | byt (b:Array UInt8) | flt (b:UInt64) | ref (a:AK) | ty (n:String)
 deriving DecidableEq
def RelV:V->AC->Prop
 | .non,u=>u=Cb
 | .bl b,u=>u=LY b
 | .int i,u=>∃t,u=NY i t
 | .str x,u=>∃t,u=NX x t
 | .byt b,u=>∃t,u=jF b t
 | .flt b,u=>∃t,u=To b t
 | .ref a,u=>u=A7 a
 | .ty n,u=>u=D7 n
abbrev Bi:List V->List AC->Prop:=E6 RelV
theorem Bi.length {xs:List V} {us:List AC} (r:Bi xs us):xs.length=us.length:=Db r
theorem Bi.get:∀ {xs:List V} {us:List AC} {i:Nat} {x:V},Bi xs us->xs[i]?=some x->∃u,us[i]?=some u/\RelV x u
 | _,_,_,_,.nil,e=>by simp at e
 | _,_,0,_,.cons r _,e=>by simp at e;subst e;exact ⟨_,rfl,r⟩
 | _,_,i+1,x,.cons _ t,e=>by
  obtain ⟨u,h1,h2⟩:=Bi.get (i:=i) (x:=x) t (by simpa using e);exact ⟨u,by simpa using h1,h2⟩
theorem Bi.append:∀ {xs ys:List V} {us ws:List AC},Bi xs us->Bi ys ws->Bi (xs++ys) (us++ws)
 | _,_,_,_,.nil,s=>s
 | _,_,_,_,.cons r t,s=>.cons r (Bi.append t s)
def NC:Option V->Option AC->Prop
 | some v,some u=>RelV v u
 | none,none=>True
 | _,_=>False
def KV {κ:Type}:List (κ×V)->List (κ×AC)->Prop:=E6 λ(p:κ×V) (q:κ×AC)=>p.1=q.1/\RelV p.2 q.2
def kV:Key->V
 | .inl i=>.int i
 | .inr x=>.str x
inductive HO where
 | lst (xs:List V)
 | tup (xs:List V)
 | dK (kvs:List (Key×V)) | dT (kvs:List (List Key×V))
 | set (S:Int->Bool) (n:Nat)
 | ins (C dx:AK) (fs:List (Str×V))
 | own (x:AK)
 | xd (fs:List (Str×V))
 | met (f x:AK)
 | rng (lo hi:Int)
 | frz (o:Obj) (u:HO)
 | tbl (ps:Array AC)
 | ext (φ:Bw->Prop)
abbrev Hp:=AK->Option HO
def upd (H:Hp) (a:AK) (o:HO):Hp:=λb=>if b=a then some o else H b
theorem Bg {H:Hp} {a:AK} {o:HO}:upd H a o a=some o:=by unfold upd;rw [qX rfl]
theorem BW {H:Hp} {a b:AK} {o:HO} (h:b≠a):upd H a o b=H b:=by unfold upd;rw [qY h]
theorem kC {H:Hp} {a b:AK} {o u:HO} (h:H a=some o) (h':H b=some u) (d:o≠u):a≠b:=by
 intro e;subst e;rw [h] at h';exact d (B6 h')
theorem CF {H:Hp} {a b:AK} {o:HO} (h:H a=some o) (h':H b=none):a≠b:=by
 intro e;subst e;rw [h] at h';cases h'
section
variable (P:Ak) (w:A9)
def CM (H:Hp) (h:Bw) (a:AK):HO->Prop
 | .lst xs=>xs.length<=sizeLine/\∃(its:List AC) (n:Nat),Bi xs its/\h.get? a=some { cls:=.type "list",data:=.seq its.toArray n }
 | .tup xs=>(xs.length<=sizeLine/\∃o,h.get? a=some o/\o.dict=none)/\∃its:List AC,Bi xs its/\IsTup h a its.toArray
 | .dK kvs=>kvs.length<=sizeLine/\(a==Cu)=false/\∃vs,KV kvs vs/\h.DictOf (Cn P w) a vs
 | .dT kvs=>kvs.length<=sizeLine/\(a==Cu)=false/\∃xs:List (List Key×AK×AC),
   E6 (λ(p:List Key×V) (q:List Key×AK×AC)=>p.1=q.1/\H q.2.1=some (.tup (p.1.map kV))/\RelV p.2 q.2.2) kvs xs /\
   ∃o es ep,h.get? a=some o/\o.ExactDict/\o.data=.dict es ep/\es.toList=xs.map (entryOfKey (Qg (Cn P w)))/\(xs.map (·.1)).Nodup
 | .set S n=>h.SetOf (Xy P w) a S n
 | .ins C dx fs=>H dx=some (.own a)/\fs.length<=1000/\dx≠a/\h.get? a=some (DR C dx) /\
   ∃mA,h.Ns1 dx mA/\(∀f,NC (fs.lookup f) (mA f))/\R0 mA (fs.map (·.1))
 | .own _=>∃o,h.get? a=some o
 | .xd fs=>∃mA,h.Ns1 a mA/\∀f,NC (fs.lookup f) (mA f)
 | .rng lo hi=>∃t u v,h.get? a=some { cls:=.type "range",data:=.fields #[.int lo t,.int hi u,.int 1 v] }
 | .frz o u=>h.get? a=some o/\CM H h a u
 | .tbl ps=>h.get? a=some { cls:=.none,data:=.fields ps }
 | .met f x=>h.get? a=some (LZ (.ref f) (.ref x))
 | .ext φ=>φ h/\(∃o,h.get? a=some o)/\∀h1 h2:Bw,φ h1->(∀o,h1.get? a=some o->h2.get? a=some o)->φ h2
def HOk (H:Hp) (h:Bw):Prop:=∀a o,H a=some o->CM P w H h a o
end
section
variable {P:Ak} {w:A9} {H H':Hp} {h h':Bw} {a:AK} {o:HO}
theorem CM.lt (x:CM P w H h a o):a < h.objs.size:=by
 cases o with
 | lst xs=>obtain ⟨_,_,_,_,e⟩:=x;exact Ad e
 | tup xs=>obtain ⟨_,_,_,p⟩:=x;exact p.lt
 | dK kvs=>obtain ⟨_,_,_,_,o,_,_,e,_⟩:=x;exact Ad e
 | dT kvs=>obtain ⟨_,_,_,_,o,_,_,e,_⟩:=x;exact Ad e
 | set S n=>obtain ⟨o,_,_,_,e,_⟩:=x;exact Ad e
 | ins C dx fs=>obtain ⟨_,_,_,e,_⟩:=x;exact Ad e
 | own y=>obtain ⟨_,e⟩:=x;exact Ad e
 | xd fs=>obtain ⟨_,⟨_,_,_,e,_⟩,_⟩:=x;exact Ad e
 | rng lo hi=>obtain ⟨_,_,_,e⟩:=x;exact Ad e
 | frz ob u=>obtain ⟨e,_⟩:=x;exact Ad e
 | tbl ps=>exact Ad (show h.get? a=some _ from x)
 | met f y=>exact Ad (show h.get? a=some _ from x)
 | ext φ=>obtain ⟨_,⟨_,e⟩,_⟩:=x;exact Ad e
theorem E6.mapP {α β:Type} {F G:α->β->Prop}:∀ {l₁:List α} {l₂:List β},E6 F l₁ l₂->(∀a b,F a b->G a b)->E6 G l₁ l₂
 | _,_,.nil,_=>.nil
 | _,_,.cons r t,f=>.cons (f _ _ r) (E6.mapP t f)
theorem CM.stay (x:CM P w H h a o) (k:∀b u,(b=a∨H b=some (.own a))->h.get? b=some u->h'.get? b=some u)
  (ho:∀b,H b=some (.own a)->H' b=some (.own a)) (ht:∀b xs,H b=some (.tup xs)->H' b=some (.tup xs)):CM P w H' h' a o:=by
 induction o with
 | lst xs=>obtain ⟨z,its,n,r,e⟩:=x;exact ⟨z,its,n,r,k _ _ (.inl rfl) e⟩
 | tup xs=>obtain ⟨⟨z,o2,e2,c2⟩,its,r,ob,e,c⟩:=x;exact ⟨⟨z,o2,k _ _ (.inl rfl) e2,c2⟩,its,r,ob,k _ _ (.inl rfl) e,c⟩
 | dK kvs=>obtain ⟨z,y,vs,r,ob,es,ep,e,c⟩:=x;exact ⟨z,y,vs,r,ob,es,ep,k _ _ (.inl rfl) e,c⟩
 | dT kvs=>
  obtain ⟨z,y,xs,r,ob,es,ep,e,c⟩:=x;exact ⟨z,y,xs,E6.mapP r λp q z=>⟨z.1,ht _ _ z.2.1,z.2.2⟩,ob,es,ep,k _ _ (.inl rfl) e,c⟩
 | set S n=>obtain ⟨ob,es,ep,t,e,c⟩:=x;exact ⟨ob,es,ep,t,k _ _ (.inl rfl) e,c⟩
 | ins C dx fs=>
  obtain ⟨d,z,ne,e,mA,⟨od,es,ep,e2,c⟩,r⟩:=x;exact ⟨ho _ d,z,ne,k _ _ (.inl rfl) e,mA,⟨od,es,ep,k _ _ (.inr d) e2,c⟩,r⟩
 | own y=>obtain ⟨ob,e⟩:=x;exact ⟨ob,k _ _ (.inl rfl) e⟩
 | xd fs=>obtain ⟨mA,⟨od,es,ep,e,c⟩,r⟩:=x;exact ⟨mA,⟨od,es,ep,k _ _ (.inl rfl) e,c⟩,r⟩
 | rng lo hi=>obtain ⟨t,u,v,e⟩:=x;exact ⟨t,u,v,k _ _ (.inl rfl) e⟩
 | frz ob u ih=>obtain ⟨e,q⟩:=x;exact ⟨k _ _ (.inl rfl) e,ih q⟩
 | tbl ps=>
  have e:h.get? a=some { cls:=.none,data:=.fields ps }:=x;show h'.get? a=some { cls:=.none,data:=.fields ps };exact k a _ (.inl rfl) e
 | met f y=>
  have e:h.get? a=some (LZ (.ref f) (.ref y)):=x;show h'.get? a=some (LZ (.ref f) (.ref y));exact k a _ (.inl rfl) e
 | ext φ=>obtain ⟨p,⟨o,e⟩,st⟩:=x;exact ⟨st _ _ p λo q=>k _ _ (.inl rfl) q,⟨o,k _ _ (.inl rfl) e⟩,st⟩
theorem HOk.lt (x:HOk P w H h) (e:H a=some o):a < h.objs.size:=(x a o e).lt
theorem HOk.fresh (x:HOk P w H h) (e:h.objs.size<=a):H a=none:=by
 cases q:H a with
 | none=>rfl
 | some u=>exact zX (AZ (x.lt q) e) (Ee _)
theorem HOk.kept (x:HOk P w H h) (k:∀b u,h.get? b=some u->h'.get? b=some u):HOk P w H h':=λa o e=>
 (x a o e).stay (λb u _ q=>k b u q) (λ_ q=>q) λ_ _ q=>q
theorem HOk.laid (x:HOk P w H h) (k:∀b u,h.get? b=some u->h'.get? b=some u) (hp:h.objs.size<=a) (new:CM P w (upd H a o) h' a o):HOk P w (upd H a o) h':=λb u e=>by
 have hn:=x.fresh hp
 by_cases hb:b=a
 ·subst hb;rw [Bg] at e;cases e;exact new
 ·rw [BW hb] at e
  exact (x b u e).stay (λc v _ q=>k c v q) (λc q=>by rw [BW (CF q hn)];exact q) λc xs q=>by rw [BW (CF q hn)];exact q
end
def Rd (H:Hp) (a:AK) (u:HO):Prop:=H a=some u∨∃o,H a=some (.frz o u)
theorem Rd.ok {P:Ak} {w:A9} {H:Hp} {h:Bw} {a:AK} {u:HO} (r:Rd H a u) (x:HOk P w H h):CM P w H h a u:=by
 rcases r with r | ⟨o,r⟩
 ·exact x a u r
 ·obtain ⟨_,q⟩:=x a _ r
  exact q
def Mut:Option HO->Prop
 | some (.lst _)=>True
 | some (.dK _)=>True
 | some (.dT _)=>True
 | some (.set _ _)=>True
 | some (.ins _ _ _)=>True
 | some (.ext _)=>True
 | _=>False
section
variable {P:Ak} {w:A9} {H:Hp} {h h':Bw} {x e:AK} {o':HO}
theorem HOk.write (ok:HOk P w H h) (mu:Mut (H x)) (he:e=x∨H e=some (.own x)) (k:∀b u,b≠e->h.get? b=some u->h'.get? b=some u) (heo:∃u,h'.get? e=some u)
  (new:CM P w (upd H x o') h' x o'):HOk P w (upd H x o') h':=λb u q=>by
 have nown:∀c y,H c=some (.own y)->c≠x:=λc y r z=>by subst z;rw [r] at mu;exact mu
 have ntup:∀c xs,H c=some (.tup xs)->c≠x:=λc xs r z=>by subst z;rw [r] at mu;exact mu
 by_cases hb:b=x
 ·subst hb;rw [Bg] at q;cases q;exact new
 ·rw [BW hb] at q
  by_cases hbe:b=e
  ·have q':H b=some (.own x):=by
    rcases he with z | z
    ·exact zX (hbe.trans z) hb
    ·rw [hbe];exact z
   rw [q] at q';cases q';obtain ⟨v,hv⟩:=heo;exact ⟨v,by rw [hbe];exact hv⟩
  ·refine (ok b u q).stay (λc v hc r=>k c v ?_ r) (λc r=>by rw [BW (nown c b r)];exact r) λc xs r=>by rw [BW (ntup c xs r)];exact r
   rcases hc with rfl | hc
   ·exact hbe
   ·rintro rfl
    rcases he with z | z
    ·exact nown c b hc z
    ·rw [hc] at z;cases z;exact hb rfl
end
structure Un (fs ex:List AK) (H H':Hp) (h h':Bw):Prop where
 keep:∀b o,h.get? b=some o->H b=none->b∉fs->b∉ex->h'.get? b=some o
 slot:∀b o,h.get? b=some o->H b=none->b∈fs->b∉ex->∃sl,h'.get? b=some { o with slots:=sl }
 free:∀b o,h.get? b=some o->H b=none->b∉ex->H' b=none
 there:∀b o,h.get? b=some o->b∉ex->∃o',h'.get? b=some o'
 tups:∀b xs,H b=some (.tup xs)->H' b=some (.tup xs)
 frzs:∀b o u,H b=some (.frz o u)->H' b=some (.frz o u)
 tbls:∀b ps,H b=some (.tbl ps)->∃more,H' b=some (.tbl (ps++more))
section
variable {fs fs' ex ex':List AK} {H H1 H2:Hp} {h h1 h2 h':Bw} {a x e:AK} {o:HO}
theorem Un.any (u:Un fs ex H H1 h h1) {b:AK} {ob:Obj} (q:h.get? b=some ob) (n:H b=none) (hx:b∉ex):∃sl,h1.get? b=some { ob with slots:=sl }:=by
 by_cases hb:b∈fs
 ·exact u.slot b ob q n hb hx
 ·exact ⟨ob.slots,u.keep b ob q n hb hx⟩
theorem Un.kept (k:∀b u,h.get? b=some u->h'.get? b=some u):Un fs ex H H h h':=
 ⟨λb ob q _ _ _=>k b ob q,λb ob q _ _ _=>⟨ob.slots,k b ob q⟩,λ_ _ _ n _=>n,λb ob q _=>⟨ob,k b ob q⟩,λ_ _ q=>q,λ_ _ _ q=>q,λ_ ps q=>⟨#[],by rw [q];simp⟩⟩
theorem Un.refl:Un fs ex H H h h:=Un.kept λ_ _ q=>q
theorem Un.laid (k:∀b u,h.get? b=some u->h'.get? b=some u) (hp:h.objs.size<=a) (hn:H a=none):Un fs ex H (upd H a o) h h' where
 keep:=λb u q _ _ _=>k b u q
 slot:=λb u q _ _ _=>⟨u.slots,k b u q⟩
 free:=λb u q n _=>by rw [BW (Am (AZ (Ad q) hp))];exact n
 there:=λb u q _=>⟨u,k b u q⟩
 tups:=λb xs q=>by rw [BW (CF q hn)];exact q
 frzs:=λb u xs q=>by rw [BW (CF q hn)];exact q
 tbls:=λb ps q=>⟨#[],by rw [BW (CF q hn),q];simp⟩
theorem Un.write (mu:Mut (H x)) (he:e=x∨H e=some (.own x)) (k:∀b u,b≠e->h.get? b=some u->h'.get? b=some u) (heo:∃u,h'.get? e=some u):Un fs ex H (upd H x o) h h':=by
 have hx:∀b,H b=none->b≠x:=λb n z=>by subst z;rw [n] at mu;exact mu
 have hb:∀b,H b=none->b≠e:=λb n z=>by
  subst z
  rcases he with r | r
  ·exact hx b n r
  ·rw [n] at r;cases r
 have hm:∀b u,H b=some u->¬Mut (some u)->b≠x:=λb u q nm z=>by subst z;rw [q] at mu;exact nm mu
 refine ⟨λb u q n _ _=>k b u (hb b n) q,λb u q n _ _=>⟨u.slots,k b u (hb b n) q⟩,λb u q n _=>by rw [BW (hx b n)];exact n,λb u q _=>?_,
  λb xs q=>by rw [BW (hm b _ q λz=>z)];exact q,λb u xs q=>by rw [BW (hm b _ q λz=>z)];exact q,λb ps q=>⟨#[],by rw [BW (hm b _ q λz=>z),q];simp⟩⟩
 by_cases hbe:b=e
 ·subst hbe;exact heo
 ·exact ⟨u,k b u hbe q⟩
end
def trk (h:Bw) (H:Hp):List AK:=(BN h.objs.size).filter λa=>(H a).isSome
def RN (h:Bw) (H:Hp):Bw:=PySem.W.hideAll h (trk h H)
theorem XN (h:Bw) (H:Hp):(RN h H).objs.size=h.objs.size:=PySem.W.hideAll_size _ _
theorem Zg {h:Bw} {H:Hp} {b:AK} {o:Obj} (e:h.get? b=some o) (n:H b=none):(RN h H).get? b=some o:=
 PySem.W.hideAll_get _ e λhm=>by
  have q:(H b).isSome=true:=(CP.mp hm).2;rw [n] at q;simp at q
theorem cQ {h:Bw} {H:Hp} {b:AK} {o:Obj} (e:(RN h H).get? b=some o):h.get? b=some o/\H b=none:=by
 have e':h.get? b=some o:=PySem.W.of_hideAll (trk h H) e;refine ⟨e',?_⟩
 cases q:H b with
 | none=>rfl
 | some x=>
  have hm:b∈trk h H:=CP.mpr ⟨Dx.mpr (Ad e'),by simp [q]⟩;have z:(RN h H).get? b=none:=PySem.W.hideAll_none (trk h H) hm;rw [z] at e;cases e
structure Mod (K:AA) (mg:Str->Option AC) (base:Bw):Prop where
 kin:K.In base
 glob:base.Ns Ae mg
 blt:∃mb,base.Ns eh mb/\∀x:Str,x≠"__name__"->mb x=Ei x
 nolimit:base.NoLimit
structure Cx where
 prog:Ak
 w:A9
 K:AA
 mg:Str->Option AC
 base:Bw
 A:BB
 N:List Str
 s₀:AG
 H₀:Hp
 env:Env
 outer:List Env
 stack:List Env
 ex:List AK
 fn:Str->Bool
 calm:Bool
 pn:List (AK×Obj)
 xe:AC->AG->Prop
def frs (l:List Env):List AK:=l.filterMap (·.frame)
abbrev Cx.fs (X:Cx):List AK:=frs X.outer
def Vis (sc:IB) (x:Str):Prop:=sc.names.lookup x=some .local∨sc.names.lookup x=some .cell∨sc.names.lookup x=some .free
def Loc (sc:IB) (x:Str):Prop:=sc.names.lookup x=some .local∨sc.names.lookup x=some .cell
def Look (env:Env) (h:Bw) (m:Str->Option AC) (x:Str) (u:AC):Prop:=
 (env.kindOf x=some .local/\m x=some u)∨((env.kindOf x=some .cell∨env.kindOf x=some .free)/\∃c,env.cells.lookup x=some c/\h.IsCell c (some u))
structure Cx.Ok (X:Cx):Prop where
 mod:Mod X.K X.mg X.base
 kind:X.env.scope.kind=.function
 glob:X.env.globals=Ae
 blt:X.env.builtins=eh
 above:X.s₀.heap.objs.size<=X.env.locals
 inj:∀x y c,X.env.cells.lookup x=some c->X.env.cells.lookup y=some c->x=y
 has:∀x,(X.env.kindOf x=some .cell∨X.env.kindOf x=some .free)->∃c,X.env.cells.lookup x=some c
 cab:∀x c,X.fn x=true->X.env.cells.lookup x=some c->X.s₀.heap.objs.size<=c
 hd:X.calm=true->X.A.handled=none
 frames:X.A.frames=some X.stack
 stk:X.stack=X.outer∨(X.stack=X.env :: X.outer/\X.env.frame=some X.env.locals)
 exf:∀b∈X.ex,b≠X.env.locals/\∀x c,X.env.cells.lookup x=some c->c≠b
 bs:∀b o,X.base.get? b=some o->X.s₀.heap.get? b=some o/\X.H₀ b=none
 bsz:X.base.objs.size<=X.s₀.heap.objs.size
 noex:∀b o,X.base.get? b=some o->b∉X.ex
 exfs:∀b∈X.ex,b∉X.fs
 funs:X.s₀.heap.FunFrames X.base X.outer
 frf:∀b∈X.fs,X.H₀ b=none
structure Inv (X:Cx) (pins:List (AK×Obj)) (σ:List (Option V)) (H:Hp) (s:AG):Prop where
 ok:X.Ok
 os:s.os=X.s₀.os
 bare:Ip s.gens
 base:Un X.fs X.ex X.H₀ H X.s₀.heap s.heap
 loc:∃m,s.heap.Ns X.env.locals m/\∀(i:Nat) (x:Str) (v:V),X.N[i]?=some x->σ[i]?=some (some v)->Vis X.env.scope x->∃u,RelV v u/\Look X.env s.heap m x u
 cell:∀x c,X.env.cells.lookup x=some c->∃v,s.heap.IsCell c v
 free:H X.env.locals=none
 freeC:∀x c,X.env.cells.lookup x=some c->H c=none
 pin:∀p∈X.pn++pins,s.heap.get? p.1=some p.2/\H p.1=none/\p.1≠X.env.locals/\p.1∉X.fs/\∀v,p.2.data≠.cell v
 hok:HOk X.prog X.w H s.heap
 len:σ.length=X.N.length
section
variable {X:Cx} {pins:List (AK×Obj)} {σ:List (Option V)} {H H':Hp} {s:AG} {h':Bw}
theorem Cx.Ok.nofr (ok:X.Ok) {b:AK} {o:Obj} (e:X.base.get? b=some o):b∉X.fs:=λhb=>by
 have:=(ok.funs.mem hb).1;rw [e] at this;cases this
theorem Inv.bs (I:Inv X pins σ H s):∀b o,X.base.get? b=some o->s.heap.get? b=some o/\H b=none:=λb o e=>
 ⟨I.base.keep b o (I.ok.bs b o e).1 (I.ok.bs b o e).2 (I.ok.nofr e) (I.ok.noex b o e),I.base.free b o (I.ok.bs b o e).1 (I.ok.bs b o e).2 (I.ok.noex b o e)⟩
theorem Inv.bk (I:Inv X pins σ H s):∀b o,X.base.get? b=some o->s.heap.get? b=some o:=λb o e=>(I.bs b o e).1
theorem Inv.mod (I:Inv X pins σ H s):Mod X.K X.mg X.base:=I.ok.mod
theorem Inv.kIn (I:Inv X pins σ H s):X.K.In s.heap:=I.ok.mod.kin.keeps I.bk
theorem Inv.lt (I:Inv X pins σ H s):X.env.locals < s.heap.objs.size:=let ⟨_,hn,_⟩:=I.loc;hn.lt
theorem Inv.sz (I:Inv X pins σ H s):X.s₀.heap.objs.size<=s.heap.objs.size:=A0 I.ok.above (Nc I.lt)
theorem Inv.nofs (I:Inv X pins σ H s) {a:AK} (h:s.heap.objs.size<=a):a∉X.fs:=λhb=>by
 obtain ⟨_,o,ho,_⟩:=I.ok.funs.mem hb;exact zX (AZ (Ad ho) (A0 I.sz h)) (Ee _)
theorem Inv.cne (I:Inv X pins σ H s):∀x c,X.env.cells.lookup x=some c->c≠X.env.locals:=λx c e z=>by
 obtain ⟨v,o,ho,hd⟩:=I.cell x c e;obtain ⟨m,⟨o',es,ep,ho',hd',_⟩,_⟩:=I.loc;rw [z,ho'] at ho;cases ho;rw [hd'] at hd;cases hd
theorem Inv.funs (I:Inv X pins σ H s):s.heap.FunFrames X.base X.outer:=by
 have all:∀(l:List Env),(∀b∈frs l,b∈X.fs)->X.s₀.heap.FunFrames X.base l->s.heap.FunFrames X.base l:=by
  intro l
  induction l with
  | nil=>intro _ _;trivial
  | cons env r ih=>
   intro hs hl;obtain ⟨hk,⟨L,o,hf,hn,ho,hd⟩,hr⟩:=hl;have hL:L∈X.fs:=hs L (by unfold frs;rw [LW,hf];exact A1)
   obtain ⟨sl,e⟩:=I.base.slot L o ho (I.ok.frf L hL) hL λz=>I.ok.exfs L z hL
   exact ⟨hk,⟨L,_,hf,hn,e,hd⟩,ih (λb hb=>hs b (by unfold frs;rw [LW,hf];exact Ag _ hb)) hr⟩
 exact all X.outer (λ_ hb=>hb) I.ok.funs
theorem Inv.stack (I:Inv X pins σ H s):s.heap.FunFrames X.base X.stack:=by
 rcases I.ok.stk with e | ⟨e,hf⟩
 ·rw [e];exact I.funs
 ·rw [e]
  obtain ⟨m,hn,_⟩:=I.loc;refine .cons (by rw [I.ok.kind];decide) hf hn ?_ I.funs;exact Bw.get?_none_of_le (A0 I.ok.bsz I.ok.above)
theorem Inv.stkSub (I:Inv X pins σ H s):∀b∈frs X.stack,b∈X.env.locals :: X.fs:=λb hb=>by
 rcases I.ok.stk with e | ⟨e,hf⟩
 ·rw [e] at hb;exact Ag _ hb
 ·rw [e] at hb
  unfold frs at hb;rw [LW,hf] at hb;exact hb
theorem Inv.stkFree (I:Inv X pins σ H s):∀b∈frs X.stack,H b=none:=λb hb=>by
 rcases Ay.mp (I.stkSub b hb) with e | hb
 ·rw [e];exact I.free
 ·obtain ⟨_,o,ho,_⟩:=I.ok.funs.mem hb
  exact I.base.free b o ho (I.ok.frf b hb) λz=>I.ok.exfs b z hb
theorem Inv.step {g':Array Pf} {t':Nat} {d':Drawn} {ch:List AK} (I:Inv X pins σ H s)
  (hch:∀b∈ch,(b∈X.ex∨X.s₀.heap.objs.size<=b)/\b≠X.env.locals/\(∀x c,X.env.cells.lookup x=some c->c≠b)/\∀p∈X.pn++pins,p.1≠b)
  (keep:∀b o,b≠X.env.locals->b∉X.fs->b∉ch->s.heap.get? b=some o->H b=none->h'.get? b=some o)
  (slot:∀b o,b≠X.env.locals->b∈X.fs->b∉ch->s.heap.get? b=some o->H b=none->∃sl,h'.get? b=some { o with slots:=sl }) (free:∀b o,b∉ch->s.heap.get? b=some o->H b=none->H' b=none)
  (there:∀b o,b∉ch->s.heap.get? b=some o->∃o',h'.get? b=some o')
  (tups:∀b xs,H b=some (.tup xs)->H' b=some (.tup xs)) (frzs:∀b o u,H b=some (.frz o u)->H' b=some (.frz o u)) (tbls:∀b ps,H b=some (.tbl ps)->∃more,H' b=some (.tbl (ps++more)))
  (ns:∀m,s.heap.Ns X.env.locals m->h'.Ns X.env.locals m) (hok:HOk X.prog X.w H' h') (hg:Ip g') :
  Inv X pins σ H' { s with heap:=h',gens:=g',drawn:=d',toks:=t' }:=by
 have neL:∀b o,X.s₀.heap.get? b=some o->b≠X.env.locals:=λb o e=>Am (AZ (Ad e) I.ok.above)
 have neC:∀b o,X.s₀.heap.get? b=some o->b∉X.ex->b∉ch:=λb o e hx hb=>by
  rcases (hch b hb).1 with z | z
  ·exact hx z
  ·exact zX (AZ (Ad e) z) (Ee _)
 have cellK:∀x c,X.env.cells.lookup x=some c->∀v,s.heap.IsCell c v->h'.IsCell c v:=λx c e v ⟨o,ho,hd⟩=>by
  have nch:c∉ch:=λz=>(hch c z).2.2.1 x c e rfl
  by_cases hc:c∈X.fs
  ·obtain ⟨sl,q⟩:=slot c o (I.cne x c e) hc nch ho (I.freeC x c e)
   exact ⟨_,q,hd⟩
  ·exact ⟨o,keep c o (I.cne x c e) hc nch ho (I.freeC x c e),hd⟩
 refine ⟨I.ok,I.os,hg,⟨λb o e n hb hx=>?_,λb o e n hb hx=>?_,λb o e n hx=>?_,λb o e hx=>?_,λb xs e=>tups b xs (I.base.tups b xs e),λb o xs e=>frzs b o xs (I.base.frzs b o xs e),λb ps e=>?_⟩,?_,λx c e=>?_,?_,λx c e=>?_,λp hp=>?_,hok,I.len⟩
 ·exact keep b o (neL b o e) hb (neC b o e hx) (I.base.keep b o e n hb hx) (I.base.free b o e n hx)
 ·obtain ⟨sl,e1⟩:=I.base.slot b o e n hb hx
  obtain ⟨sl',e2⟩:=slot b _ (neL b o e) hb (neC b o e hx) e1 (I.base.free b o e n hx);exact ⟨sl',e2⟩
 ·obtain ⟨o',e1⟩:=I.base.there b o e hx
  exact free b o' (neC b o e hx) e1 (I.base.free b o e n hx)
 ·obtain ⟨o',e1⟩:=I.base.there b o e hx
  exact there b o' (neC b o e hx) e1
 ·obtain ⟨m1,e1⟩:=I.base.tbls b ps e
  obtain ⟨m2,e2⟩:=tbls b _ e1;exact ⟨m1++m2,by rw [e2,Array.append_assoc]⟩
 ·obtain ⟨m,hn,hl⟩:=I.loc
  refine ⟨m,ns m hn,λi x v e1 e2 e3=>?_⟩;obtain ⟨u,r,l⟩:=hl i x v e1 e2 e3;refine ⟨u,r,?_⟩
  rcases l with l | ⟨k,c,e,z⟩
  ·exact .inl l
  ·exact .inr ⟨k,c,e,cellK x c e _ z⟩
 ·obtain ⟨v,z⟩:=I.cell x c e
  exact ⟨v,cellK x c e v z⟩
 ·obtain ⟨m,⟨o,_,_,ho,_⟩,_⟩:=I.loc
  exact free _ o (λz=>(hch _ z).2.1 rfl) ho I.free
 ·obtain ⟨v,o,ho,hd⟩:=I.cell x c e
  exact free c o (λz=>(hch c z).2.2.1 x c e rfl) ho (I.freeC x c e)
 ·obtain ⟨e,n,ne,nf,d⟩:=I.pin p hp
  have nch:p.1∉ch:=λz=>(hch p.1 z).2.2.2 p hp rfl
  exact ⟨keep p.1 p.2 ne nf nch e n,free p.1 p.2 nch e n,ne,nf,d⟩
theorem Inv.un {t':Nat} (I:Inv X pins σ H s) (u:Un X.fs [] H H' s.heap h') (hok:HOk X.prog X.w H' h'):Inv X pins σ H' { s with heap:=h',toks:=t' }:=by
 obtain ⟨m,⟨o,es,ep,ho,r⟩,_⟩:=id I.loc;obtain ⟨sl,hL⟩:=u.any ho I.free (by simp)
 exact I.step (g':=s.gens) (d':=s.drawn) (ch:=[]) (λ_ z=>nomatch z) (λb o _ hb _ e n=>u.keep b o e n hb (by simp)) (λb o _ hb _ e n=>u.slot b o e n hb (by simp)) (λb o _ e n=>u.free b o e n (by simp)) (λb o _ e=>u.there b o e (by simp)) u.tups u.frzs u.tbls (λm' hm=>by
  obtain ⟨o',es',ep',ho',r'⟩:=hm;rw [ho] at ho';cases ho'
  exact ⟨_,es',ep',hL,r'⟩) hok I.bare
theorem Inv.call {g':Array Pf} {t':Nat} {d':Drawn} {ch:List AK} (I:Inv X pins σ H s) (u:Un (frs X.stack) ch H H' s.heap h') (hok:HOk X.prog X.w H' h') (hg:Ip g')
  (hch:∀b∈ch,(b∈X.ex∨X.s₀.heap.objs.size<=b)/\b≠X.env.locals/\(∀x c,X.env.cells.lookup x=some c->c≠b)/\∀p∈X.pn++pins,p.1≠b) :
  Inv X pins σ H' { s with heap:=h',gens:=g',drawn:=d',toks:=t' }:=by
 obtain ⟨m,⟨o,es,ep,ho,r⟩,_⟩:=id I.loc
 obtain ⟨sl,hL⟩:=u.any ho I.free λz=>(hch _ z).2.1 rfl
 exact I.step (ch:=ch) hch (λb o hL hb hc e n=>u.keep b o e n (λz=>(Ay.mp (I.stkSub b z)).elim hL hb) hc) (λb o _ _ hc e n=>u.any e n hc) (λb o hc e n=>u.free b o e n hc) (λb o hc e=>u.there b o e hc) u.tups u.frzs u.tbls (λm' hm=>by
  obtain ⟨o',es',ep',ho',r'⟩:=hm;rw [ho] at ho';cases ho'
  exact ⟨_,es',ep',hL,r'⟩) hok hg
theorem Inv.turned {t':Nat} {it:AK} (I:Inv X pins σ H s) (k:∀b o,b≠it->s.heap.get? b=some o->h'.get? b=some o) (hn:H it=none) (hL:it≠X.env.locals)
  (h1:it∈X.ex∨X.s₀.heap.objs.size<=it) (h2:∀x c,X.env.cells.lookup x=some c->c≠it) (h3:∀p∈X.pn++pins,p.1≠it):Inv X pins σ H { s with heap:=h',toks:=t' }:=by
 have nit:∀b u,H b=some u->b≠it:=λb u e z=>by rw [z,hn] at e;cases e
 refine I.step (g':=s.gens) (d':=s.drawn) (ch:=[it]) (λb hb=>?_) (λb o _ _ hc e _=>k b o (λz=>hc (by simp [z])) e) (λb o _ _ hc e _=>⟨o.slots,k b o (λz=>hc (by simp [z])) e⟩) (λ_ _ _ _ n=>n)
  (λb o hc e=>⟨o,k b o (λz=>hc (by simp [z])) e⟩) (λ_ _ e=>e) (λ_ _ _ e=>e) (λb ps e=>⟨#[],by rw [e];simp⟩) (λm hm=>?_) (λb u e=>?_) I.bare
 ·have e:b=it:=by simpa using hb
  subst e;exact ⟨h1,hL,h2,h3⟩
 ·obtain ⟨o,es,ep,ho,r⟩:=hm
  exact ⟨o,es,ep,k _ o (Bx hL) ho,r⟩
 ·refine (I.hok b u e).stay (λc v hc q=>k c v ?_ q) (λ_ q=>q) λ_ _ q=>q
  rcases hc with z | z
  ·rw [z];exact nit b u e
  ·exact nit c _ z
theorem Inv.tok (I:Inv X pins σ H s) (t:Nat):Inv X pins σ H { s with toks:=t }:=I.un (h':=s.heap) (t':=t) Un.refl I.hok
theorem Inv.kept {t':Nat} (I:Inv X pins σ H s) (k:∀b u,s.heap.get? b=some u->h'.get? b=some u):Inv X pins σ H { s with heap:=h',toks:=t' }:=I.un (Un.kept k) (I.hok.kept k)
theorem Inv.laid {a:AK} {o:HO} {t':Nat} (I:Inv X pins σ H s) (k:∀b u,s.heap.get? b=some u->h'.get? b=some u) (hp:s.heap.objs.size<=a) (new:CM X.prog X.w (upd H a o) h' a o) :
  Inv X pins σ (upd H a o) { s with heap:=h',toks:=t' }:=I.un (Un.laid k hp (I.hok.fresh hp)) (I.hok.laid k hp new)
theorem Inv.write {x e:AK} {o:HO} {t':Nat} (I:Inv X pins σ H s) (mu:Mut (H x)) (he:e=x∨H e=some (.own x)) (k:∀b u,b≠e->s.heap.get? b=some u->h'.get? b=some u) (heo:∃u,h'.get? e=some u)
  (new:CM X.prog X.w (upd H x o) h' x o):Inv X pins σ (upd H x o) { s with heap:=h',toks:=t' }:=I.un (Un.write mu he k heo) (I.hok.write mu he k heo new)
theorem Inv.pins_of {pins':List (AK×Obj)} (I:Inv X pins σ H s) (h:∀p∈pins',s.heap.get? p.1=some p.2/\H p.1=none/\p.1≠X.env.locals/\p.1∉X.fs/\∀v,p.2.data≠.cell v):Inv X pins' σ H s:=
 ⟨I.ok,I.os,I.bare,I.base,I.loc,I.cell,I.free,I.freeC,λp hp=>(Ai.mp hp).elim (λz=>I.pin p (A4 _ z)) (h p),I.hok,I.len⟩
theorem So {N:List Str} (hN:N.Nodup) {i j:Nat} {x:Str} (a:N[i]?=some x) (b:N[j]?=some x):i=j:=by
 obtain ⟨h1,e1⟩:=AD.mp a;obtain ⟨h2,e2⟩:=AD.mp b;exact (List.getElem_inj hN).mp (e1.trans e2.symm)
theorem QE {M:Model} {A:BB} {E:AC->AG->Prop} {i:Nat} {x:Str} {v:V} {u:AC} {Q:Unit->AG->Prop} (I:Inv X pins σ H s) (hN:X.N.Nodup) (hi:X.N[i]?=some x) (hx:Loc X.env.scope x) (r:RelV v u)
  (h:∀s',Inv X pins (σ.set i (some v)) H s'->(∃a,EC a s.heap s'.heap/\(a=X.env.locals∨X.env.cells.lookup x=some a))->Q () s') (hf:X.fn x=true∨X.env.scope.names.lookup x=some .local:=by first | exact .inl rfl | exact .inr rfl | assumption):Aq M A (storeName X.env x u) Q E s:=by
 obtain ⟨m,hn,hl⟩:=id I.loc
 have hcls:(X.env.scope.kind==.class||(X.env.scope.kind==.module&&X.env.locals != X.env.globals))=false:=by rw [I.ok.kind];rfl
 have hiσ:i < σ.length:=by rw [I.len];exact (AD.mp hi).1
 have cne:=I.cne
 have tracked:∀ {a:AK} {h':Bw},(∃o,s.heap.get? a=some o/\H a=none)->EC a s.heap h'->HOk X.prog X.w H h':=λ{a h'} ha hs b ob e=>by
  obtain ⟨_,_,hfree⟩:=ha
  refine (I.hok b ob e).stay (λc w' hc q=>(hs.2 c ?_).trans q) (λ_ q=>q) λ_ _ q=>q
  rintro rfl
  rcases hc with rfl | hc
  ·rw [hfree] at e;cases e
  ·rw [hfree] at hc;cases hc
 rcases hx with hk | hk
 ·refine wpAny_storeName_local hk hn (λh' hn' hs=>?_) hcls
  obtain ⟨oL,_,_,hoL,_⟩:=id hn;refine h _ ⟨I.ok,I.os,I.bare,⟨λb o e n hb hx=>?_,λb o e n hb hx=>?_,I.base.free,λb o e hx=>?_,I.base.tups,I.base.frzs,I.base.tbls⟩,⟨_,hn',λj y v' e1 e2 e3=>?_⟩,λy c e=>?_,I.free,I.freeC,λp hp=>?_,tracked ⟨oL,hoL,I.free⟩ hs,by simpa using I.len⟩ ⟨_,hs,.inl rfl⟩
  ·exact (hs.2 b (Am (AZ (Ad e) I.ok.above))).trans (I.base.keep b o e n hb hx)
  ·obtain ⟨sl,e1⟩:=I.base.slot b o e n hb hx
   exact ⟨sl,(hs.2 b (Am (AZ (Ad e) I.ok.above))).trans e1⟩
  ·obtain ⟨o',e1⟩:=I.base.there b o e hx
   exact ⟨o',(hs.2 b (Am (AZ (Ad e) I.ok.above))).trans e1⟩
  ·by_cases hj:j=i
   ·subst hj
    rw [hi] at e1;cases e1;rw [Al hiσ] at e2;cases e2;exact ⟨u,r,.inl ⟨hk,by simp⟩⟩
   ·rw [AT (Bx hj)] at e2
    obtain ⟨u',r',q⟩:=hl j y v' e1 e2 e3;refine ⟨u',r',?_⟩
    rcases q with ⟨k,e⟩ | ⟨k,c,e,z⟩
    ·refine .inl ⟨k,?_⟩
     have:y≠x:=λe=>hj (So hN e1 (e▸hi))
     simp [this,e]
    ·exact .inr ⟨k,c,e,z.sameBut hs (cne y c e)⟩
  ·obtain ⟨w',z⟩:=I.cell y c e
   exact ⟨w',z.sameBut hs (cne y c e)⟩
  ·obtain ⟨e,n,ne,nf,d⟩:=I.pin p hp
   exact ⟨(hs.2 p.1 ne).trans e,n,ne,nf,d⟩
 ·have hfn:X.fn x=true:=by
   rcases hf with z | z
   ·exact z
   ·rw [z] at hk;cases hk
  obtain ⟨c,hc⟩:=I.ok.has x (.inl hk);obtain ⟨w',z⟩:=I.cell x c hc;refine wpAny_storeName_cell I.ok.kind hk hc z (λh' hc' hs=>?_);obtain ⟨oc,hoc,hocd⟩:=id z;refine h { s with heap:=h' } ⟨I.ok,I.os,I.bare,⟨λb o e n hb hx=>?_,λb o e n hb hx=>?_,I.base.free,λb o e hx=>?_,I.base.tups,I.base.frzs,I.base.tbls⟩,⟨m,hn.sameBut hs (Bx (cne x c hc)),λj y v' e1 e2 e3=>?_⟩,λy c' e=>?_,I.free,I.freeC,λp hp=>?_,tracked ⟨oc,hoc,I.freeC x c hc⟩ hs,by simpa using I.len⟩ ⟨c,hs,.inr hc⟩
  ·exact (hs.2 b (Am (AZ (Ad e) (I.ok.cab x c hfn hc)))).trans (I.base.keep b o e n hb hx)
  ·obtain ⟨sl,e1⟩:=I.base.slot b o e n hb hx
   exact ⟨sl,(hs.2 b (Am (AZ (Ad e) (I.ok.cab x c hfn hc)))).trans e1⟩
  ·obtain ⟨o',e1⟩:=I.base.there b o e hx
   exact ⟨o',(hs.2 b (Am (AZ (Ad e) (I.ok.cab x c hfn hc)))).trans e1⟩
  ·by_cases hj:j=i
   ·subst hj
    rw [hi] at e1;cases e1;rw [Al hiσ] at e2;cases e2;exact ⟨u,r,.inr ⟨.inl hk,c,hc,hc'⟩⟩
   ·rw [AT (Bx hj)] at e2
    obtain ⟨u',r',q⟩:=hl j y v' e1 e2 e3;refine ⟨u',r',?_⟩
    rcases q with q | ⟨k,c',e,z'⟩
    ·exact .inl q
    ·refine .inr ⟨k,c',e,z'.sameBut hs ?_⟩
     rintro rfl;exact hj (So hN e1 (I.ok.inj _ _ _ e hc▸hi))
  ·by_cases hcc:c'=c
   ·subst hcc;exact ⟨_,hc'⟩
   ·obtain ⟨w2,z2⟩:=I.cell y c' e
    exact ⟨w2,z2.sameBut hs hcc⟩
  ·obtain ⟨e,n,ne,nf,d⟩:=I.pin p hp
   refine ⟨(hs.2 p.1 ?_).trans e,n,ne,nf,d⟩;intro q;rw [q,hoc] at e;have q':oc=p.2:=B6 e;exact d w' (by rw [<-q'];exact hocd)
theorem SL {M:Model} {A:BB} {E:AC->AG->Prop} {i:Nat} {x:Str} {v:V} {u:AC} {Q:Unit->AG->Prop} (I:Inv X pins σ H s) (hN:X.N.Nodup) (hi:X.N[i]?=some x) (hx:Loc X.env.scope x) (r:RelV v u)
  (h:∀s',Inv X pins (σ.set i (some v)) H s'->Q () s') (hf:X.fn x=true∨X.env.scope.names.lookup x=some .local:=by first | exact .inl rfl | exact .inr rfl | assumption):Aq M A (storeName X.env x u) Q E s:=
 QE I hN hi hx r (λs' I' _=>h s' I') hf
theorem Inv.call' {s':AG} {ch:List AK} (I:Inv X pins σ H s) (ho:s'.os=s.os) (u:Un (frs X.stack) ch H H' s.heap s'.heap) (hok:HOk X.prog X.w H' s'.heap) (hg:Ip s'.gens)
  (hch:∀b∈ch,(b∈X.ex∨X.s₀.heap.objs.size<=b)/\b≠X.env.locals/\(∀x c,X.env.cells.lookup x=some c->c≠b)/\∀p∈X.pn++pins,p.1≠b):Inv X pins σ H' s':=by
 obtain ⟨h',g',d',t',o'⟩:=s';have e:o'=s.os:=ho;subst e;exact I.call (g':=g') (t':=t') (d':=d') u hok hg hch
end
abbrev XK:=AC->Option AK->Hp->Prop
abbrev St:=List (Option V)
abbrev VK:=V->Hp->Prop
abbrev TE:=St->Hp->VK->Prop
abbrev TT:=St->Hp->(Bool->Hp->Prop)->Prop
abbrev TA:=St->Hp->(List V->Hp->Prop)->Prop
structure Uv where
 nx:St->Hp->Prop
 rt:VK
 bk:St->Hp->Prop:=λ_ _=>False
 ct:St->Hp->Prop:=λ_ _=>False
abbrev TS:=Uv->St->Hp->Prop
def EP (X:Cx) (pins:List (AK×Obj)) (σ:St) (Q:VK) (u:AC) (s':AG):Prop:=∃v H',Inv X pins σ H' s'/\RelV v u/\Q v H'
def TP (X:Cx) (pins:List (AK×Obj)) (σ:St) (Q:Bool->Hp->Prop) (b:Bool) (s':AG):Prop:=∃H',Inv X pins σ H' s'/\Q b H'
def AP (X:Cx) (pins:List (AK×Obj)) (σ:St) (Q:List V->Hp->Prop) (us:List AC) (s':AG):Prop:=∃vs H',Inv X pins σ H' s'/\Bi vs us/\Q vs H'
def SP (X:Cx) (pins:List (AK×Obj)) (D:Uv) (f:Flow) (s':AG):Prop:=
 match f with
 | .next=>∃σ' H',Inv X pins σ' H' s'/\D.nx σ' H'
 | .brk=>∃σ' H',Inv X pins σ' H' s'/\D.bk σ' H'
 | .cont=>∃σ' H',Inv X pins σ' H' s'/\D.ct σ' H'
 | .ret u=>∃v σ' H',Inv X pins σ' H' s'/\RelV v u/\D.rt v H'
def PE (X:Cx) (e:Expr) (t:TE):Prop:=
 ∀(pins:List (AK×Obj)) (s:AG) (σ:St) (H:Hp) (Q:VK),Inv X pins σ H s->t σ H Q->Aq (Ac X.prog X.w) X.A (Br e X.env) (EP X pins σ Q) X.xe s
def PT (X:Cx) (e:Expr) (t:TT):Prop:=
 ∀(pins:List (AK×Obj)) (s:AG) (σ:St) (H:Hp) (Q:Bool->Hp->Prop),Inv X pins σ H s->t σ H Q->Aq (Ac X.prog X.w) X.A (Ti e X.env (Br e X.env)) (TP X pins σ Q) X.xe s
def PW (X:Cx) (e:Expr) (t:TT):Prop:=
 ∀(whole:Sem AC) (pins:List (AK×Obj)) (s:AG) (σ:St) (H:Hp) (Q:Bool->Hp->Prop),Inv X pins σ H s->t σ H Q->Aq (Ac X.prog X.w) X.A (Ti e X.env whole) (TP X pins σ Q) X.xe s
theorem PW.pt {X:Cx} {e:Expr} {t:TT} (h:PW X e t):PT X e t:=h _
def PA (X:Cx) (es:List Expr) (t:TA):Prop:=
 ∀(pos:Pos) (pins:List (AK×Obj)) (s:AG) (σ:St) (H:Hp) (Q:List V->Hp->Prop),Inv X pins σ H s->t σ H Q->Aq (Ac X.prog X.w) X.A (Xx (DQ pos (AS es X.env))) (AP X pins σ Q) X.xe s
def PS (X:Cx) (st:Cc) (t:TS):Prop:=
 ∀(pins:List (AK×Obj)) (s:AG) (σ:St) (H:Hp) (D:Uv),Inv X pins σ H s->t D σ H->Aq (Ac X.prog X.w) X.A (exec st X.env) (SP X pins D) X.xe s
def PSs (X:Cx) (st:List Cc) (t:TS):Prop:=
 ∀(pins:List (AK×Obj)) (s:AG) (σ:St) (H:Hp) (D:Uv),Inv X pins σ H s->t D σ H->Aq (Ac X.prog X.w) X.A (execs st X.env) (SP X pins D) X.xe s
theorem thn {α:Type} {t:Sem α} {Q Q':α->AG->Prop} {M:Model} {A:BB} {E:AC->AG->Prop} {s:AG} (h:Aq M A t Q E s) (hQ:∀a s,Q a s->Q' a s):Aq M A t Q' E s:=GJ h hQ λ_ _ x=>x
section
variable {X:Cx}
def fY (i:Nat):TE:=λσ H Q=>∃v,σ[i]?=some (some v)/\Q v H
def tC (v:V):TE:=λ_ H Q=>Q v H
theorem gP {i:Nat} {x:Str} {pos:Pos} (hN:X.N[i]?=some x) (hv:Vis X.env.scope x) (hd:(x==("__debug__" : Str))=false:=by decide) (hcd:(x==("__classdict__" : Str))=false:=by decide):PE X (.Name x pos) (fY i):=by
 intro pins s σ H Q I h;obtain ⟨v,e,h⟩:=h;obtain ⟨m,hn,hl⟩:=I.loc;obtain ⟨u,r,l⟩:=hl i x v hN e hv;have fin:EP X pins σ Q u s:=⟨v,H,I,r,h⟩
 rcases l with ⟨hk,hm⟩ | ⟨hk,c,hc,hcell⟩
 ·exact eY (wpAny_loadName_local I.ok.kind hk hn hm fin) hd
 ·rcases hk with hk | hk
  ·exact eY (wpAny_loadName_cell I.ok.kind hk hc hcell fin) hd
  ·exact eY (wpAny_loadName_free I.ok.kind hk hc hcell fin hcd) hd
theorem gZ {i j pos}:PE X (.Constant (.int i) j pos) (tC (.int i)):=λ_ _ _ H _ I h=>wpAny_Constant_int ⟨.int i,H,I.tok _,⟨_,rfl⟩,h⟩
theorem jz {b j pos}:PE X (.Constant (.bool b) j pos) (tC (.bl b)):=λ_ _ _ H _ I h=>Constant_bool ⟨.bl b,H,I,rfl,h⟩
theorem gX {j pos}:PE X (.Constant .none j pos) (tC .non):=λ_ _ _ H _ I h=>Constant_none ⟨.non,H,I,rfl,h⟩
def Gl (X:Cx) (x:Str):Prop:=X.env.kindOf x=some .globalImplicit
theorem RI {E:AC->AG->Prop} {pins:List (AK×Obj)} {s:AG} {σ:St} {H:Hp} {x:Str} {u:AC} {pos:Pos} {Q:AC->AG->Prop} (I:Inv X pins σ H s) (hg:Gl X x) (hm:X.mg x=some u) (h:Q u s)
  (hd:(x==("__debug__" : Str))=false:=by decide):Aq (Ac X.prog X.w) X.A (Br (.Name x pos) X.env) Q E s:=
 Pg I.ok.kind hg (Calls.loadGlobal_global (by rw [I.ok.glob];exact I.mod.glob.keeps I.bk) hm h) hd
theorem JR {E:AC->AG->Prop} {pins:List (AK×Obj)} {s:AG} {σ:St} {H:Hp} {x:Str} {u:AC} {pos:Pos} {Q:AC->AG->Prop} (I:Inv X pins σ H s) (hg:Gl X x) (hm:X.mg x=none) (hv:Ei x=some u) (h:Q u s)
  (hn:x≠"__name__":=by decide) (hd:(x==("__debug__" : Str))=false:=by decide):Aq (Ac X.prog X.w) X.A (Br (.Name x pos) X.env) Q E s:=by
 obtain ⟨mb,h1,h2⟩:=I.mod.blt;exact Pg I.ok.kind hg (Calls.loadGlobal_builtin (by rw [I.ok.glob];exact I.mod.glob.keeps I.bk) hm (by rw [I.ok.blt];exact h1.keeps I.bk) ((h2 x hn).trans hv) h) hd
theorem cD {x:Str} {v:V} {u:AC} {pos:Pos} (hg:Gl X x) (hm:X.mg x=some u) (r:RelV v u) (hd:(x==("__debug__" : Str))=false:=by decide):PE X (.Name x pos) (tC v):=
 λ_ _ _ H _ I h=>RI I hg hm ⟨v,H,I,r,h⟩ hd
theorem Lu {x:Str} {v:V} {u:AC} {pos:Pos} (hg:Gl X x) (hm:X.mg x=none) (hv:Ei x=some u) (r:RelV v u) (hn:x≠"__name__":=by decide) (hd:(x==("__debug__" : Str))=false:=by decide):PE X (.Name x pos) (tC v):=
 λ_ _ _ H _ I h=>JR I hg hm hv ⟨v,H,I,r,h⟩ hn hd
variable {a b:Expr} {ta tb:TE} {pos:Pos}
def PC (X:Cx) (op:Nt) (a b:Expr) (t:TE):Prop:=
 ∀(pins:List (AK×Obj)) (s:AG) (σ:St) (H:Hp) (Q:VK),Inv X pins σ H s->t σ H Q ->
  Aq (Ac X.prog X.w) X.A (Br a X.env) (λv s₁=>Aq (Ac X.prog X.w) X.A (Br b X.env) (λu s₂=>Aq (Ac X.prog X.w) X.A (Bd op v u) (EP X pins σ Q) X.xe s₂) X.xe s₁) X.xe s
def tB (t:TE):TT:=λσ H Q=>t σ H λx H1=>∃c,x=.bl c/\Q c H1
theorem ge {op:Nt} {t:TE} (h:PC X op a b t) (h1:CG op b=false:=by first | exact nobehind _ (by decide) (by decide) | rfl):PE X (.Compare a [op] [b] pos) t:=λpins s σ H Q I hw=>wpAny_Compare1 (h pins s σ H Q I hw) h1
theorem Ym {op:Nt} {t:TE} (h:PC X op a b t) (h1:CG op b=false:=by first | exact nobehind _ (by decide) (by decide) | rfl):PT X (.Compare a [op] [b] pos) (tB t):=by
 intro pins s σ H Q I hw;refine aD (thn (h pins s σ H _ I hw) λv s1 h1=>thn h1 λu s2 h2=>thn h2 λc s3 ⟨x,H1,I1,r1,q1⟩=>?_) h1;obtain ⟨d,rfl,q⟩:=q1;cases r1;exact CA ⟨H1,I1,q⟩
theorem fy {e:Expr} {t:TE} (h:PE X e t) (he:∀whole,Ti e X.env whole=(do let v <-whole;i7 e.pos;jA [v] (eZ v)):=by intro _;rfl):PT X e (tB t):=by
 intro pins s σ H Q I hw;refine isTrue_plain (thn (h pins s σ H _ I hw) λv s1 ⟨x,H1,I1,r1,q1⟩=>?_) (he _);obtain ⟨d,rfl,q⟩:=q1;cases r1;exact CA ⟨H1,I1,q⟩
variable {tA tB':TT} {rest:List Expr}
def jm (t u:TT):TT:=λσ H Q=>t σ H λc H1=>if c=true then u σ H1 Q else Q false H1
def tOr (t u:TT):TT:=λσ H Q=>t σ H λc H1=>if c=true then Q true H1 else u σ H1 Q
def tNot (t:TT):TT:=λσ H Q=>t σ H λc H1=>Q (!c) H1
theorem bg (ha:PT X a tA):PW X (.BoolOp .And [a] pos) tA:=by
 intro wh pins s σ H Q I h;refine isTrue_and (thn (ha pins s σ H Q I h) λc s1 e=>?_)
 cases c with
 | true=>exact isTrue_and_nil e
 | false=>exact e
theorem fw (ha:PT X a tA):PW X (.BoolOp .Or [a] pos) tA:=by
 intro wh pins s σ H Q I h;refine isTrue_or (thn (ha pins s σ H Q I h) λc s1 e=>?_)
 cases c with
 | false=>exact isTrue_or_nil e
 | true=>exact e
theorem fx (ha:PT X a tA) (hb:PW X (.BoolOp .And (b :: rest) pos) tB'):PW X (.BoolOp .And (a :: b :: rest) pos) (jm tA tB'):=by
 intro wh pins s σ H Q I h;refine isTrue_and (thn (ha pins s σ H _ I h) λc s1 ⟨H1,I1,q1⟩=>?_)
 cases c with
 | true=>exact hb wh pins s1 σ H1 Q I1 q1
 | false=>exact ⟨H1,I1,q1⟩
theorem jv (ha:PT X a tA) (hb:PW X (.BoolOp .Or (b :: rest) pos) tB'):PW X (.BoolOp .Or (a :: b :: rest) pos) (tOr tA tB'):=by
 intro wh pins s σ H Q I h;refine isTrue_or (thn (ha pins s σ H _ I h) λc s1 ⟨H1,I1,q1⟩=>?_)
 cases c with
 | true=>exact ⟨H1,I1,q1⟩
 | false=>exact hb wh pins s1 σ H1 Q I1 q1
theorem gB (ha:PT X a tA):PT X (.UnaryOp .Not a pos) (tNot tA):=by
 intro pins s σ H Q I h;exact isTrue_not (ha pins s σ H (λc H1=>Q (!c) H1) I h)
def jl (ta tb:TE):TE:=λσ H Q=>ta σ H λx H1=>∃c,x=.bl c/\if c=true then tb σ H1 Q else Q (.bl false) H1
def ja (ta:TE):TE:=λσ H Q=>ta σ H λx H1=>∃c,x=.bl c/\Q (.bl (!c)) H1
theorem gU {op} {t:TE} (h:PE X a t):PE X (.BoolOp op [a] pos) t:=λpins s σ H Q I hw=>BoolOp_one (h pins s σ H Q I hw)
theorem gf (ha:PE X a ta) (hb:PE X (.BoolOp .And (b :: rest) pos) tb):PE X (.BoolOp .And (a :: b :: rest) pos) (jl ta tb):=by
 intro pins s σ H Q I h;refine BoolOp_and (thn (ha pins s σ H _ I h) λv s1 ⟨x,H1,I1,r1,q1⟩=>?_);obtain ⟨c,rfl,q1⟩:=q1;cases r1;refine CA ?_
 cases c with
 | true=>exact hb pins s1 σ H1 Q I1 q1
 | false=>exact ⟨.bl false,H1,I1,rfl,q1⟩
theorem gW (ha:PE X a ta):PE X (.UnaryOp .Not a pos) (ja ta):=by
 intro pins s σ H Q I h;refine UnaryOp_ (thn (ha pins s σ H _ I h) λv s1 ⟨x,H1,I1,r1,q1⟩=>?_);obtain ⟨c,rfl,q1⟩:=q1;cases r1;exact not_of (CA ⟨.bl (!c),H1,I1,rfl,q1⟩)
end
def SqL (K:AA) (H:Hp) (a:AK) (xs:List V):Prop:=
 Rd H a (.lst xs) ∨
  ∃(o:Obj) (its:Array AC) (n:Nat),K.lookup a=some o/\o.cls=.type "list"/\o.dict=none/\o.data=.seq its n/\its.size<=sizeLine/\Bi xs its.toList
def SqT (K:AA) (H:Hp) (a:AK) (xs:List V):Prop:=
 Rd H a (.tup xs) ∨
  ∃(o:Obj) (its:Array AC) (n:Nat),K.lookup a=some o/\o.cls=.type "tuple"/\o.data=.seq its n/\its.size<=sizeLine/\Bi xs its.toList
def absV:AC->Option V
 | .none=>some .non
 | .bool b=>some (.bl b)
 | .int i _=>some (.int i)
 | .str x _=>some (.str x)
 | .bytes b _=>some (.byt b)
 | .float b _=>some (.flt b)
 | .ref a=>some (.ref a)
 | .type n=>some (.ty n)
 | _=>none
theorem RelV.abs {x:V} {u:AC} (r:RelV x u):absV u=some x:=by
 cases x with
 | non=>cases r;rfl
 | bl _=>cases r;rfl
 | int _=>obtain ⟨t,rfl⟩:=r;rfl
 | str _=>obtain ⟨t,rfl⟩:=r;rfl
 | byt _=>obtain ⟨t,rfl⟩:=r;rfl
 | flt _=>obtain ⟨t,rfl⟩:=r;rfl
 | ref _=>cases r;rfl
 | ty _=>cases r;rfl
theorem RelV.inj {x y:V} {u:AC} (r:RelV x u) (q:RelV y u):x=y:=B6 (r.abs.symm.trans q.abs)
theorem Bi.inj:∀ {xs ys:List V} {us:List AC},Bi xs us->Bi ys us->xs=ys
 | _,_,_,.nil,.nil=>rfl
 | _,_,_,.cons r t,.cons r' t'=>by rw [r.inj r',Bi.inj t t']
section
variable {X:Cx} {pins:List (AK×Obj)} {σ:St} {H:Hp} {s:AG} {a:AK} {xs ys:List V}
theorem Inv.list (I:Inv X pins σ H s) (h:SqL X.K H a xs):∃its:List AC,Bi xs its/\PlainL s.heap a its.toArray/\xs.length<=sizeLine:=by
 rcases h with h | ⟨o,its,n,hk,hc,hd,hs,hz,r⟩
 ·obtain ⟨z,its,n,r,e⟩:=h.ok I.hok
  exact ⟨its,r,⟨_,n,e,rfl,rfl,rfl⟩,z⟩
 ·refine ⟨its.toList,r,⟨o,n,I.kIn a o hk,hc,hd,by simpa using hs⟩,?_⟩
  have e:=r.length;simp only [BX] at e
  lia
theorem Inv.tuple (I:Inv X pins σ H s) (h:SqT X.K H a xs):∃its:List AC,Bi xs its/\IsTup s.heap a its.toArray/\xs.length<=sizeLine:=by
 rcases h with h | ⟨o,its,n,hk,hc,hs,hz,r⟩
 ·obtain ⟨z,its,r,p⟩:=h.ok I.hok
  exact ⟨its,r,p,z.1⟩
 ·refine ⟨its.toList,r,⟨o,I.kIn a o hk,hc,n,by simpa using hs⟩,?_⟩
  have e:=r.length;simp only [BX] at e
  lia
theorem Inv.list_inj (I:Inv X pins σ H s) (h:SqL X.K H a xs) (h':SqL X.K H a ys):xs=ys:=by
 obtain ⟨its,r,⟨o,n,e,_,_,d⟩,_⟩:=I.list h;obtain ⟨its',r',⟨o',n',e',_,_,d'⟩,_⟩:=I.list h';rw [e] at e';cases e';rw [d] at d'
 injection d' with d1 _
 have:its=its':=by simpa using congrArg fA d1
 subst this;exact r.inj r'
theorem Inv.tuple_inj (I:Inv X pins σ H s) (h:SqT X.K H a xs) (h':SqT X.K H a ys):xs=ys:=by
 obtain ⟨its,r,⟨o,e,_,n,d⟩,_⟩:=I.tuple h;obtain ⟨its',r',⟨o',e',_,n',d'⟩,_⟩:=I.tuple h';rw [e] at e';cases e';rw [d] at d'
 injection d' with d1 _
 have:its=its':=by simpa using congrArg fA d1
 subst this;exact r.inj r'
end
section
variable {X:Cx} {pins:List (AK×Obj)} {σ:St} {H:Hp} {s:AG} {E:AC->AG->Prop}
end
section
variable {X:Cx} {st:Cc} {rest:List Cc} {t u:TS} {e:Expr} {te:TE} {pos:Pos}
def jc:TS:=λD σ H=>D.nx σ H
def tSeq (t u:TS):TS:=λD σ H=>t { D with nx:=u D } σ H
theorem bm:PSs X [] jc:=λ_ _ σ H _ I h=>LQ ⟨σ,H,I,h⟩
theorem Yo (h1:PS X st t) (h2:PSs X rest u):PSs X (st :: rest) (tSeq t u):=by
 intro pins s σ H D I h;refine jM (thn (h1 pins s σ H { D with nx:=u D } I h) λf s1 q=>?_)
 cases f with
 | next=>
  obtain ⟨σ',H',I',q⟩:=q;exact h2 pins s1 σ' H' D I' q
 | ret v=>exact q
 | brk=>exact q
 | cont=>exact q
theorem bj (h1:PS X st t):PSs X [st] t:=by
 intro pins s σ H D I h;refine jM (thn (h1 pins s σ H D I h) λf s1 q=>?_)
 cases f with
 | next=>exact LQ q
 | ret v=>exact q
 | brk=>exact q
 | cont=>exact q
theorem Inv.quiet {pins:List (AK×Obj)} {σ:St} {H:Hp} {s:AG} (I:Inv X pins σ H s):interactive X.env=false:=by simp [interactive,I.ok.kind]
def je (te:TE):TS:=λD σ H=>te σ H λ_ H1=>D.nx σ H1
theorem bn (he:PE X e te) (hs:Fh e none pos.line X.env=pure false:=by rfl):PS X (.Expr e pos) (je te):=by
 intro pins s σ H D I h;exact wpAny_Expr_any (thn (he pins s σ H _ I h) λv s1 ⟨x,H1,I1,r1,q1⟩=>⟨σ,H1,I1,q1⟩) I.quiet hs
def tRet (te:TE):TS:=λD σ H=>te σ H D.rt
theorem gD (he:PE X e te):PS X (.Return (some e) pos) (tRet te):=by
 intro pins s σ H D I h;exact wpAny_Return_some (thn (he pins s σ H _ I h) λv s1 ⟨x,H1,I1,r1,q1⟩=>⟨x,σ,H1,I1,r1,q1⟩)
def tIfS (c:TT) (t u:TS):TS:=λD σ H=>c σ H λb H1=>if b=true then t D σ H1 else u D σ H1
theorem jw {c:Expr} {a b:List Cc} {tc:TT} (hc:PT X c tc) (ha:PSs X a t) (hb:PSs X b u):PS X (.If c a b pos) (tIfS tc t u):=by
 intro pins s σ H D I h;refine wpAny_If (thn (hc pins s σ H _ I h) λd s1 ⟨H1,I1,q1⟩=>?_)
 cases d with
 | true=>exact ha pins s1 σ H1 D I1 q1
 | false=>exact hb pins s1 σ H1 D I1 q1
def fb:TS:=λ_ _ _=>False
theorem Yq:PS X st fb:=λ_ _ _ _ _ _ h=>h.elim
end
abbrev TG:=V->St->Hp->(St->Hp->Prop)->Prop
abbrev TGs:=List V->St->Hp->(St->Hp->Prop)->Prop
def PG (X:Cx) (target:Expr) (t:TG):Prop:=
 ∀(pins:List (AK×Obj)) (s:AG) (σ:St) (H:Hp) (v:V) (u:AC) (Q:St->Hp->Prop),Inv X pins σ H s->RelV v u->t v σ H Q ->
  Aq (Ac X.prog X.w) X.A (OA target X.env u) (λ_ s'=>∃σ' H',Inv X pins σ' H' s'/\Q σ' H') X.xe s
def PGs (X:Cx) (ts:List Expr) (t:TGs):Prop:=
 ∀(pins:List (AK×Obj)) (s:AG) (σ:St) (H:Hp) (vs:List V) (us:List AC) (Q:St->Hp->Prop),Inv X pins σ H s->Bi vs us->t vs σ H Q ->
  Aq (Ac X.prog X.w) X.A (assignInOrder ((Ej ts X.env).map (·.2)) us) (λ_ s'=>∃σ' H',Inv X pins σ' H' s'/\Q σ' H') X.xe s
section
variable {X:Cx} {pos:Pos}
def Vr (i:Nat):TG:=λv σ H Q=>Q (σ.set i (some v)) H
theorem cA {i:Nat} {x:Str} (hN:X.N.Nodup) (hi:X.N[i]?=some x) (hx:Loc X.env.scope x) (hf:X.fn x=true∨X.env.scope.names.lookup x=some .local:=by first | exact .inl rfl | exact .inr rfl | assumption):PG X (.Name x pos) (Vr i):=by
 intro pins s σ H v u Q I r h;exact i5 (SL I hN hi hx r (λs' I'=>⟨_,H,I',h⟩) hf)
def gNil:TGs:=λvs σ H Q=>vs=[]/\Q σ H
def kW (t:TG) (u:TGs):TGs:=λvs σ H Q=>∃v r,vs=v :: r/\t v σ H λσ' H'=>u r σ' H' Q
theorem b0:PGs X [] gNil:=by
 intro pins s σ H vs us Q I r h;obtain ⟨e,h⟩:=h;subst e;cases r;exact assignInOrder_nil ⟨σ,H,I,h⟩
theorem Yv {e:Expr} {es:List Expr} {t:TG} {u:TGs} (h1:PG X e t) (h2:PGs X es u)
  (hs:(Ej (e :: es) X.env).map (·.2)=OA e X.env :: (Ej es X.env).map (·.2):=by rfl):PGs X (e :: es) (kW t u):=by
 intro pins s σ H vs us Q I r h;obtain ⟨v,vr,e1,h⟩:=h;subst e1
 cases r with
 | cons r rr=>
  rw [hs];refine assignInOrder_cons (thn (h1 pins s σ H _ _ _ I r h) λ_ s1 ⟨σ1,H1,I1,q1⟩=>?_);exact h2 pins s1 σ1 H1 _ _ Q I1 rr q1
def gTup (K:AA) (n:Nat) (t:TGs):TG:=λv σ H Q=>∃a xs,v=.ref a/\SqT K H a xs/\xs.length=n/\t xs σ H Q
theorem gM {es:List Expr} {k:Nat} {t:TGs} {n:Nat} (hc:X.calm=true) (h:PGs X es t)
  (hn:(Ej es X.env).length=n:=by rfl) (hst:(Ej es X.env).findIdx? (·.1)=none:=by rfl):PG X (.Tuple es k pos) (gTup X.K n t):=by
 intro pins s σ H v u Q I r hw;obtain ⟨a,xs,e1,hq,hl,hw⟩:=hw;subst e1;cases r;obtain ⟨its,rv,ht,hz⟩:=I.tuple hq
 refine assign_Tuple_tuple (I.ok.hd hc) ht (by simp [hn,<-hl,rv.length]) hst λh' hx=>?_
 have I1:Inv X pins σ H { s with heap:=h' }:=I.kept (t':=s.toks) λb o e=>hx b o (Am (Ad e)) e
 exact h pins _ σ H xs _ Q I1 (by simpa using rv) hw
def fg (te:TE) (g:TG):TS:=λD σ H=>te σ H λx H1=>g x σ H1 D.nx
theorem gJ {tg e:Expr} {te:TE} {g:TG} (he:PE X e te) (hg:PG X tg g) (hs:swapsWithSole [tg] e pos.line X.env=pure false:=by rfl) (hw:swappedStores [tg] e X.env=pure none:=by rfl)
  (h1:(Ej [tg] X.env).map (·.2)=[OA tg X.env]:=by rfl):PS X (.Assign [tg] e pos) (fg te g):=by
 intro pins s σ H D I h;refine wpAny_Assign_stores (thn (he pins s σ H _ I h) λv s1 ⟨x,H1,I1,r1,q1⟩=>?_) hs hw;rw [h1]
 exact thn (hg pins s1 σ H1 x v _ I1 r1 q1) λ_ s2 q=>q
theorem gC {i:Nat} {x:Str} {e:Expr} {te:TE} {pos':Pos} (hN:X.N.Nodup) (hi:X.N[i]?=some x) (hx:Loc X.env.scope x) (he:PE X e te) (hs:Fh e (some (.Name x pos')) pos.line X.env=pure false:=by rfl) (hf:X.fn x=true∨X.env.scope.names.lookup x=some .local:=by first | exact .inl rfl | exact .inr rfl | assumption) :
  PS X (.Assign [.Name x pos'] e pos) (fg te (Vr i)):=by
 intro pins s σ H D I h;refine wpAny_Assign_Name (thn (he pins s σ H _ I h) λv s1 ⟨y,H1,I1,r1,q1⟩=>?_) hs;exact SL I1 hN hi hx r1 (λs2 I2=>⟨_,H1,I2,q1⟩) hf
end
section
variable {X:Cx} {pos:Pos}
def fX (c:TT) (tb:TS):TS:=λD σ H=>∃W:Nat->St->Hp->Prop,(∃m,W m σ H)/\∀m σ H,W m σ H ->
 c σ H λb H1=>if b=true then ∃N:St->Hp->Prop,(∀σ' H',N σ' H'->∃m',m' < m/\W m' σ' H')/\tb { D with nx:=N,ct:=N,bk:=D.nx } σ H1 else D.nx σ H1
theorem Yp {c:Expr} {body:List Cc} {tc:TT} {tb:TS} (hp:Qm (Ac X.prog X.w) X.A X.env X.xe) (hc:PT X c tc) (hb:PSs X body tb):PS X (.While c body [] pos) (fX tc tb):=by
 intro pins s σ H D I h;obtain ⟨W,⟨m0,w0⟩,turn⟩:=h;refine wpAny_While (codeAny_whileLoop (λn s'=>∃σ' H',Inv X pins σ' H' s'/\W n σ' H') ?_ m0 ⟨σ,H,I,w0⟩);rintro n s1 ⟨σ1,H1,I1,w1⟩;refine Er hp (thn (hc pins s1 σ1 H1 _ I1 (turn n σ1 H1 w1)) λb s2 ⟨H2,I2,q2⟩=>?_)
 cases b with
 | true=>
  obtain ⟨N,hN,q2⟩:=q2;rw [qX rfl];refine Er hp (thn (hb pins s2 σ1 H2 _ I2 q2) λf s3 q3=>?_)
  cases f with
  | next=>
   obtain ⟨σ3,H3,I3,n3⟩:=q3;obtain ⟨m',hm,w3⟩:=hN σ3 H3 n3;exact ⟨m',hm,σ3,H3,I3,w3⟩
  | cont=>
   obtain ⟨σ3,H3,I3,n3⟩:=q3;obtain ⟨m',hm,w3⟩:=hN σ3 H3 n3;exact ⟨m',hm,σ3,H3,I3,w3⟩
  | brk=>exact q3
  | ret v=>exact q3
 | false=>
  rw [qY AX];exact LQ ⟨σ1,H2,I2,q2⟩
end
structure It where
 go:Nat->Hp->Prop
 yld:Nat->Hp->V->Hp->Prop
 stop:Nat->Hp->Prop
def LO (X:Cx) (pins:List (AK×Obj)) (H:Hp) (b:AK):Prop:=
 H b=none/\b≠X.env.locals/\b∉X.fs/\(b∈X.ex∨X.s₀.heap.objs.size<=b)/\(∀x c,X.env.cells.lookup x=some c->c≠b)/\∀p∈X.pn++pins,p.1≠b
theorem Inv.fpOk {X:Cx} {pins:List (AK×Obj)} {σ:St} {H H':Hp} {s:AG} {b:AK} (I:Inv X pins σ H s) (hb:s.heap.objs.size<=b) (hn:H' b=none):LO X pins H' b:=by
 refine ⟨hn,Nb (AZ I.lt hb),I.nofs hb,.inr (A0 I.sz hb),λx c e z=>?_,λp hp z=>?_⟩
 ·obtain ⟨v,q⟩:=I.cell x c e
  exact zX (AZ q.lt (by rw [z];exact hb)) (Ee _)
 ·exact zX (AZ (Ad (I.pin p hp).1) (by rw [z];exact hb)) (Ee _)
structure Rh (P:Ak) (w:A9) (K:AA) (tg:Expr) (J:It) (fp:List AK) (it:AK) (tn:Nat->Bw->Prop):Prop where
 mem:it∈fp
 obj:∀i h,tn i h->∀b∈fp,∃o,h.get? b=some o/\∀v,o.data≠.cell v
 keep:∀i h h',tn i h->(∀b∈fp,∀o,h.get? b=some o->h'.get? b=some o)->tn i h'
 item:∀(X:Cx),X.prog=P->X.w=w->X.K=K->X.calm=true->∀(i:Nat) (pins:List (AK×Obj)) (s:AG) (σ:St) (H:Hp) (E:AC->AG->Prop),Inv X pins σ H s->(∀b∈fp,LO X pins H b)->tn i s.heap->J.go i H ->
  Aq (Ac P w) X.A (Qi (.ref it)) (λr s1=>∃u,r=some u /\
   Aq (Ac P w) X.A (LR tg (.ref it) u) (λ_ s2=>∃x H',Inv X pins σ H' s2/\RelV x u/\J.yld i H x H'/\tn (i+1) s2.heap/\∀b∈fp,H' b=none) E s1) E s
 done:∀(X:Cx),X.prog=P->X.w=w->X.K=K->X.calm=true->∀(i:Nat) (pins:List (AK×Obj)) (s:AG) (σ:St) (H:Hp) (E:AC->AG->Prop),Inv X pins σ H s->(∀b∈fp,LO X pins H b)->tn i s.heap->J.stop i H ->
  Aq (Ac P w) X.A (Qi (.ref it)) (λr s1=>r=none/\Inv X pins σ H s1) E s
 self:∀(A:BB) (i:Nat) (s:AG) (Q:AC->AG->Prop) (E:AC->AG->Prop),tn i s.heap->Q (.ref it) s->Aq (Ac P w) A (Th (.ref it)) Q E s
abbrev TI:=St->Hp->(It->Hp->Prop)->Prop
def PIE (X:Cx) (pins:List (AK×Obj)) (σ:St) (tg:Expr) (R:It->Hp->Prop) (itv:AC) (s2:AG):Prop:=
 ∃(it:AK) (fp:List AK) (tn:Nat->Bw->Prop) (J:It) (H':Hp),itv=.ref it/\Inv X pins σ H' s2/\Rh X.prog X.w X.K tg J fp it tn/\tn 0 s2.heap/\(∀b∈fp,LO X pins H' b)/\R J H'
def PI (X:Cx) (tg iter:Expr) (wi:TI):Prop:=
 ∀(pins:List (AK×Obj)) (s:AG) (σ:St) (H:Hp) (R:It->Hp->Prop),Inv X pins σ H s->wi σ H R ->
  Aq (Ac X.prog X.w) X.A (Br iter X.env) (λv s1=>Aq (Ac X.prog X.w) X.A (Th v) (PIE X pins σ tg R) X.xe s1) X.xe s
theorem Vk {M:Model} {A:BB} {E:AC->AG->Prop} {s:AG} {tg:Expr} {it:AK} {u:AC} {o:Obj} {n:String} {vs:Array AC} {Q:Unit->AG->Prop} (ho:s.heap.get? it=some o) (hc:o.cls=.type n) (hd:o.data=.fields vs)
  (hn:["enumerate", "zip", "dict_itemiterator", "dict_reverseitemiterator", "odict_iterator", "itertools.zip_longest", "itertools.pairwise"].contains n=false) (hQ:Q () s):Aq M A (LR tg (.ref it) u) Q E s:=by
 unfold LR
 cases tg <;> first
  | exact AW hQ
  | (cases u <;> first
    | exact AW hQ
    | (refine AH (wpAny_load ho ?_)
       rw [hc,hd];show Aq M A (if (["enumerate", "zip", "dict_itemiterator", "dict_reverseitemiterator", "odict_iterator", "itertools.zip_longest", "itertools.pairwise"].contains n&&vs[0]?==some (MY _))=true then _ else _) Q E s;rw [qY (by intro h;rw [hn,Bool.false_and] at h;cases h)]
       exact AW hQ))
def Itl (K:AA) (a:AK):It:=
 ⟨λi H=>∃xs x,SqL K H a xs/\xs[i]?=some x,λi H x H'=>H'=H/\∀xs,SqL K H a xs->xs[i]?=some x,λi H=>∃xs,SqL K H a xs/\xs.length<=i⟩
def Itt (K:AA) (a:AK):It:=
 ⟨λi H=>∃xs x,SqT K H a xs/\xs[i]?=some x,λi H x H'=>H'=H/\∀xs,SqT K H a xs->xs[i]?=some x,λi H=>∃xs,SqT K H a xs/\xs.length<=i⟩
def Itr (lo:Int) (n:Nat):It:=⟨λi _=>i < n,λi H x H'=>H'=H/\x=.int (lo+i),λi _=>n<=i⟩
theorem Wb {P:Ak} {w:A9} {K:AA} {tg:Expr} (a it:AK):Rh P w K tg (Itl K a) [it] it (λi h=>h.IsListIter it a i) where
 mem:=by simp
 obj:=λi h st b hb=>by
  have e:b=it:=by simpa using hb
  subst e;obtain ⟨o,e,c,d⟩:=st;exact ⟨o,e,λv z=>by rw [d] at z;cases z⟩
 keep:=λi h h' st k=>st.at λo e=>k it (by simp) o e
 item:=by
  intro X hP hw hK hc i pins s σ H E I hf st hg;subst hP hw hK;obtain ⟨xs,x,hq,hx⟩:=hg;obtain ⟨its,rv,p,hz⟩:=I.list hq;obtain ⟨u,hu,ru⟩:=rv.get hx;obtain ⟨f0,f1,f2,f3,f4,f5⟩:=hf it (by simp)
  refine wpAny_pyNext_list_item st p.isList (x:=u) (by simpa using hu) λh' st' sb=>?_
  have I1:Inv X pins σ H { s with heap:=h' }:=I.turned (t':=s.toks) (λb o hb e=>(sb.2 b hb).trans e) f0 f1 f3 f4 f5;obtain ⟨o,e,c,d⟩:=id st';exact ⟨u,rfl,Vk (s:={ s with heap:=h' }) e c d (by decide) ⟨x,H,I1,ru,⟨rfl,λys hy=>by rw [I.list_inj hy hq];exact hx⟩,st',λb hb=>(hf b hb).1⟩⟩
 done:=by
  intro X hP hw hK hc i pins s σ H E I hf st hg;subst hP hw hK;obtain ⟨xs,hq,hx⟩:=hg;obtain ⟨its,rv,p,hz⟩:=I.list hq;obtain ⟨f0,f1,f2,f3,f4,f5⟩:=hf it (by simp);have hl:=rv.length
  exact wpAny_pyNext_list_end (I.ok.hd hc) st p.isList (by simp;lia) λh' eb=>⟨rfl,I.turned (t':=s.toks) (λb o hb e=>eb b o hb e) f0 f1 f3 f4 f5⟩
 self:=λ_ _ _ _ _ st h=>wpAny_pyIter_listiter st h
theorem T3 {P:Ak} {w:A9} {K:AA} {tg:Expr} (a it:AK):Rh P w K tg (Itt K a) [it] it (λi h=>h.IsTupleIter it a i) where
 mem:=by simp
 obj:=λi h st b hb=>by
  have e:b=it:=by simpa using hb
  subst e;obtain ⟨o,e,c,d⟩:=st;exact ⟨o,e,λv z=>by rw [d] at z;cases z⟩
 keep:=λi h h' st k=>st.at λo e=>k it (by simp) o e
 item:=by
  intro X hP hw hK hc i pins s σ H E I hf st hg;subst hP hw hK;obtain ⟨xs,x,hq,hx⟩:=hg;obtain ⟨its,rv,p,hz⟩:=I.tuple hq;obtain ⟨u,hu,ru⟩:=rv.get hx;obtain ⟨f0,f1,f2,f3,f4,f5⟩:=hf it (by simp)
  refine wpAny_pyNext_tuple_item st (show s.heap.IsTuple a its.toArray from p) (x:=u) (by simpa using hu) λh' st' sb=>?_
  have I1:Inv X pins σ H { s with heap:=h' }:=I.turned (t':=s.toks) (λb o hb e=>(sb.2 b hb).trans e) f0 f1 f3 f4 f5;obtain ⟨o,e,c,d⟩:=id st';exact ⟨u,rfl,Vk (s:={ s with heap:=h' }) e c d (by decide) ⟨x,H,I1,ru,⟨rfl,λys hy=>by rw [I.tuple_inj hy hq];exact hx⟩,st',λb hb=>(hf b hb).1⟩⟩
 done:=by
  intro X hP hw hK hc i pins s σ H E I hf st hg;subst hP hw hK;obtain ⟨xs,hq,hx⟩:=hg;obtain ⟨its,rv,p,hz⟩:=I.tuple hq;obtain ⟨f0,f1,f2,f3,f4,f5⟩:=hf it (by simp);have hl:=rv.length
  exact wpAny_pyNext_tuple_end (I.ok.hd hc) st (show s.heap.IsTuple a its.toArray from p) (by simp;lia) λh' eb=>⟨rfl,I.turned (t':=s.toks) (λb o hb e=>eb b o hb e) f0 f1 f3 f4 f5⟩
 self:=λ_ _ _ _ _ st h=>wpAny_pyIter_tupleiter st h
theorem T4 {P:Ak} {w:A9} {K:AA} {tg:Expr} (it:AK) (lo:Int) (n:Nat):Rh P w K tg (Itr lo n) [it] it (λi h=>IsRangeIter h it (lo+(i:Nat) * 1) ((n:Int) - (i:Nat)) 1) where
 mem:=by simp
 obj:=λi h st b hb=>by
  have e:b=it:=by simpa using hb
  subst e
  exact ⟨_,st,λv z=>by
   have z':U6 _=aK v:=z
   cases z'⟩
 keep:=λi h h' st k=>k it (by simp) _ st
 item:=by
  intro X hP hw hK hc i pins s σ H E I hf st hg;subst hP hw hK;obtain ⟨f0,f1,f2,f3,f4,f5⟩:=hf it (by simp);have W:=Walks.range (prog:=X.prog) (w:=X.w) (I.ok.hd hc) it lo 1 n
  refine W.item i s _ _ hg st λv h' tk hv st' kk=>?_
  obtain ⟨t,rfl⟩:=hv;have I1:Inv X pins σ H { s with heap:=h',toks:=tk }:=I.turned (λb o hb e=>kk b o (by simpa using hb) e) f0 f1 f3 f4 f5;refine ⟨_,rfl,Vk (s:={ s with heap:=h',toks:=tk }) (n:="range_iterator") st' rfl rfl (by decide) ⟨.int (lo+i),H,I1,⟨t,?_⟩,⟨rfl,rfl⟩,st',λb hb=>(hf b hb).1⟩⟩;rw [Int.mul_one]
 done:=by
  intro X hP hw hK hc i pins s σ H E I hf st hg;subst hP hw hK;obtain ⟨f0,f1,f2,f3,f4,f5⟩:=hf it (by simp)
  exact wpAny_pyNext_range_end (I.ok.hd hc) st (by have:n<=i:=hg;lia) λh' eb=>⟨rfl,I.turned (t':=s.toks) (λb o hb e=>eb b o hb e) f0 f1 f3 f4 f5⟩
 self:=λ_ _ _ _ _ st h=>wpAny_pyIter_rangeiter st h
section
variable {X:Cx} {tg:Expr}
def kO (K:AA) (tl:TE):TI:=λσ H R=>tl σ H λx H1=>∃a,x=.ref a/\(∃xs,SqL K H1 a xs)/\R (Itl K a) H1
def iTup (K:AA) (tl:TE):TI:=λσ H R=>tl σ H λx H1=>∃a,x=.ref a/\(∃xs,SqT K H1 a xs)/\R (Itt K a) H1
theorem bw {l:Expr} {tl:TE} (hl:PE X l tl):PI X tg l (kO X.K tl):=by
 intro pins s σ H R I h
 refine thn (hl pins s σ H _ I h) λv s1 ⟨x,H1,I1,r1,q1⟩=>?_
 obtain ⟨a,e,⟨xs,hq⟩,q⟩:=q1;subst e;cases r1;obtain ⟨its,rv,p,hz⟩:=I1.list hq;refine i4 p.isList ?_;refine ⟨s1.heap.objs.size,[s1.heap.objs.size],_,_,H1,rfl,I1.kept (t':=s1.toks) λb o e=>AJ _ e,Wb a _,⟨_,Aj _ rfl,rfl,rfl⟩,λb hb=>?_,q⟩
 have e:b=s1.heap.objs.size:=by simpa using hb
 subst e;exact I1.fpOk (AN _) (I1.hok.fresh (AN _))
theorem gK {l:Expr} {tl:TE} (hl:PE X l tl):PI X tg l (iTup X.K tl):=by
 intro pins s σ H R I h
 refine thn (hl pins s σ H _ I h) λv s1 ⟨x,H1,I1,r1,q1⟩=>?_
 obtain ⟨a,e,⟨xs,hq⟩,q⟩:=q1;subst e;cases r1;obtain ⟨its,rv,p,hz⟩:=I1.tuple hq;refine Eh (show s1.heap.IsTuple a its.toArray from p) ?_;refine ⟨s1.heap.objs.size,[s1.heap.objs.size],_,_,H1,rfl,I1.kept (t':=s1.toks) λb o e=>AJ _ e,T3 a _,⟨_,Aj _ rfl,rfl,rfl⟩,λb hb=>?_,q⟩
 have e:b=s1.heap.objs.size:=by simpa using hb
 subst e;exact I1.fpOk (AN _) (I1.hok.fresh (AN _))
theorem Sf {pins:List (AK×Obj)} {σ:St} {H:Hp} {s:AG} {R:It->Hp->Prop} {E:AC->AG->Prop} {lo hi:Int} {t u v:Tok} {tk:Nat} (I:Inv X pins σ H s) (h1:-(2 ^ 62)<=lo) (h2:lo < 2 ^ 62) (h3:-(2 ^ 62)<=hi) (h4:hi < 2 ^ 62)
  (q:R (Itr lo (hi - lo).toNat) H):Aq (Ac X.prog X.w) X.A (Th (.ref s.heap.objs.size)) (PIE X pins σ tg R) E { s with heap:=s.heap.push { cls:=.type "range",data:=.fields #[.int lo t,.int hi u,.int 1 v] },toks:=tk }:=by
 refine wpAny_pyIter_range (IsRange.new ..) (small_one h1 h2 h3 h4) ?_
 have I1:Inv X pins σ H { s with heap:=s.heap.push { cls:=.type "range",data:=.fields #[.int lo t,.int hi u,.int 1 v] },toks:=tk }:=I.kept λb o e=>AJ _ e
 refine ⟨(s.heap.push { cls:=.type "range",data:=.fields #[.int lo t,.int hi u,.int 1 v] }).objs.size,[(s.heap.push { cls:=.type "range",data:=.fields #[.int lo t,.int hi u,.int 1 v] }).objs.size],_,_,H,rfl,
  I1.kept (t':=tk) λb o e=>AJ _ e,T4 _ lo (hi - lo).toNat,?_,λb hb=>?_,q⟩
 ·have e1:lo+((0:Nat):Int) * 1=lo:=by simp
  have e2:(((hi - lo).toNat:Nat):Int) - ((0:Nat):Int)=jV lo hi 1:=by rw [rangeSize_one];split <;> lia
  show IsRangeIter _ _ (lo+((0:Nat):Int) * 1) ((((hi - lo).toNat:Nat):Int) - ((0:Nat):Int)) 1;rw [e1,e2];exact Aj _ rfl
 ·have e:b=(s.heap.push { cls:=.type "range",data:=.fields #[.int lo t,.int hi u,.int 1 v] }).objs.size:=by simpa using hb
  subst e;exact I1.fpOk (AN _) (I1.hok.fresh (AN _))
def kM (ta:TA):TI:=λσ H R=>ta σ H λvs H1=>∃j:Int,vs=[.int j]/\-(2 ^ 62)<=j/\j < 2 ^ 62/\R (Itr 0 j.toNat) H1
def kL (ta:TA):TI:=λσ H R=>ta σ H λvs H1=>∃i j:Int,vs=[.int i,.int j]/\(-(2 ^ 62)<=i/\i < 2 ^ 62/\-(2 ^ 62)<=j/\j < 2 ^ 62)/\R (Itr i (j - i).toNat) H1
theorem W2 {a:Expr} {ta:TA} {p pos:Pos} (hg:Gl X "range") (hm:X.mg "range" = none) (ha:PA X [a] ta) (hs:AS [a] X.env=[(false,Br a X.env)]:=by rfl):PI X tg (.Call (.Name "range" p) [a] [] pos) (kM ta):=by
 intro pins s σ H R I h;refine Call_ (JR I hg hm boot_range (CL (thn (ha pos pins s σ H _ I h) λus s1 ⟨vs,H1,I1,r1,q1⟩=>?_) hs rfl));obtain ⟨j,e,q1,q2,q⟩:=q1;subst e
 cases r1 with
 | cons r rr=>
  cases rr;obtain ⟨t,rfl⟩:=r;exact call_range_1 (Sf I1 (by lia) (by lia) q1 q2 (by simpa using q))
theorem W1 {a b:Expr} {ta:TA} {p pos:Pos} (hg:Gl X "range") (hm:X.mg "range" = none) (ha:PA X [a,b] ta) (hs:AS [a,b] X.env=[(false,Br a X.env),(false,Br b X.env)]:=by rfl) (hs2:AS [b] X.env=[(false,Br b X.env)]:=by rfl) :
  PI X tg (.Call (.Name "range" p) [a,b] [] pos) (kL ta):=by
 intro pins s σ H R I h;refine Call_ (JR I hg hm boot_range (CL (thn (ha pos pins s σ H _ I h) λus s1 ⟨vs,H1,I1,r1,q1⟩=>?_) (by rw [hs,hs2]) (by rw [hs2];rfl)));obtain ⟨i,j,e,⟨q1,q2,q3,q4⟩,q⟩:=q1;subst e
 cases r1 with
 | cons r rr=>
  cases rr with
  | cons r' rr=>
   cases rr;obtain ⟨t,rfl⟩:=r;obtain ⟨t',rfl⟩:=r';exact call_range_2 (Sf I1 q1 q2 q3 q4 q)
def tFor (wi:TI) (g:TG) (tb:TS):TS:=λD σ H=>wi σ H λJ H1=>∃W:Nat->Nat->St->Hp->Prop,(∃m,W 0 m σ H1)/\∀i m σ H,W i m σ H ->
 (J.stop i H/\D.nx σ H)∨(J.go i H/\∃N:St->Hp->Prop,(∀σ' H',N σ' H'->∃m',m' < m/\W (i+1) m' σ' H')/\∀x H',J.yld i H x H'->g x σ H' λσ2 H2=>tb { D with nx:=N,ct:=N,bk:=D.nx } σ2 H2)
def Oe (fp:List AK) (h:Bw):List (AK×Obj):=fp.filterMap λb=>(h.get? b).map λo=>(b,o)
theorem JO {fp:List AK} {h:Bw} {b:AK} {o:Obj} (hb:b∈fp) (e:h.get? b=some o):(b,o)∈Oe fp h:=Xu.mpr ⟨b,hb,by rw [e];rfl⟩
theorem W9 {fp:List AK} {h:Bw} {p:AK×Obj} (hp:p∈Oe fp h):p.1∈fp/\h.get? p.1=some p.2:=by
 obtain ⟨b,hb,e⟩:=Xu.mp hp
 cases q:h.get? b with
 | none=>rw [q] at e;cases e
 | some o=>
  rw [q] at e;have e':(b,o)=p:=B6 e;subst e';exact ⟨hb,q⟩
theorem Inv.pinned {pins:List (AK×Obj)} {σ:St} {H:Hp} {s:AG} {fp:List AK} (I:Inv X pins σ H s) (hf:∀b∈fp,LO X pins H b) (ho:∀b∈fp,∃o,s.heap.get? b=some o/\∀v,o.data≠.cell v):Inv X (pins++Oe fp s.heap) σ H s:=
 I.pins_of λp hp=>(Ai.mp hp).elim (λz=>I.pin p (A5 _ z)) λz=>by
  obtain ⟨hb,e⟩:=W9 z;obtain ⟨f0,f1,f2,_⟩:=hf p.1 hb;obtain ⟨o,e',d⟩:=ho p.1 hb;rw [e] at e';cases e';exact ⟨e,f0,f1,f2,d⟩
theorem Inv.unpinned {pins pl:List (AK×Obj)} {σ:St} {H:Hp} {s:AG} (I:Inv X (pins++pl) σ H s):Inv X pins σ H s:=I.pins_of λp hp=>I.pin p (A5 _ (A4 _ hp))
theorem gF {iter:Expr} {body:List Cc} {wi:TI} {g:TG} {tb:TS} {pos:Pos} (hp:Qm (Ac X.prog X.w) X.A X.env X.xe) (hc:X.calm=true) (hi:PI X tg iter wi) (hg:PG X tg g) (hb:PSs X body tb)
  (hs:∀x,FD iter X.env x=pure x:=by intro _;rfl):PS X (.For tg iter body [] pos) (tFor wi g tb):=by
 intro pins s σ H D I h;refine wpAny_For (thn (hi pins s σ H _ I h) λv s1 h1=>thn h1 λitv s2 h2=>?_) hs;obtain ⟨it,fp,tn,J,H2,e,I2,T,st2,f2,W,⟨m0,w0⟩,turn⟩:=h2;subst e
 have stat:∀ {H':Hp},(∀b∈fp,H' b=none)->∀b∈fp,LO X pins H' b:=λhn b hb=>⟨hn b hb,(f2 b hb).2⟩
 refine codeAny_forLoop_any (λn s'=>∃i σ' H',Inv X pins σ' H' s'/\tn i s'.heap/\(∀b∈fp,H' b=none)/\W i n σ' H') ?_ m0 ⟨0,σ,H2,I2,st2,λb hb=>(f2 b hb).1,w0⟩;rintro n s3 ⟨i,σ3,H3,I3,st3,fr3,w3⟩
 rcases turn i n σ3 H3 w3 with ⟨stop,qn⟩ | ⟨go,N,hN,step⟩
 ·refine Er hp (thn (T.done X rfl rfl rfl hc i pins s3 σ3 H3 X.xe I3 (stat fr3) st3 stop) λr s4 ⟨hr,I4⟩=>?_)
  subst hr;exact LQ ⟨σ3,H3,I4,qn⟩
 ·refine Er hp (thn (T.item X rfl rfl rfl hc i pins s3 σ3 H3 X.xe I3 (stat fr3) st3 go) λr s4 ⟨u,hr,h4⟩=>?_)
  subst hr;refine Er hp (thn h4 λ_ s5 ⟨x,H5,I5,r5,y5,st5,fr5⟩=>?_);have I5':=I5.pinned (stat fr5) (T.obj _ _ st5);refine Er hp (thn (hg _ s5 σ3 H5 x u _ I5' r5 (step x H5 y5)) λ_ s6 ⟨σ6,H6,I6,q6⟩=>?_);refine Er hp (thn (hb _ s6 σ6 H6 _ I6 q6) λf s7 q7=>?_)
  have jB:∀ {σ7:St} {H7:Hp},Inv X (pins++Oe fp s5.heap) σ7 H7 s7->N σ7 H7->∃m,m < n/\∃i σ' H',Inv X pins σ' H' s7/\tn i s7.heap/\(∀b∈fp,H' b=none)/\W i m σ' H':=λ{σ7 H7} I7 n7=>by
   obtain ⟨m',hm,w7⟩:=hN σ7 H7 n7;refine ⟨m',hm,i+1,σ7,H7,I7.unpinned,T.keep _ _ _ st5 λb hb o e=>(I7.pin (b,o) (A5 _ (A5 _ (JO hb e)))).1,λb hb=>?_,w7⟩;obtain ⟨o,e,d⟩:=T.obj _ _ st5 b hb;exact (I7.pin (b,o) (A5 _ (A5 _ (JO hb e)))).2.1
  cases f with
  | next=>obtain ⟨σ7,H7,I7,n7⟩:=q7;exact jB I7 n7
  | cont=>obtain ⟨σ7,H7,I7,n7⟩:=q7;exact jB I7 n7
  | brk=>obtain ⟨σ7,H7,I7,q7⟩:=q7;exact ⟨σ7,H7,I7.unpinned,q7⟩
  | ret v=>obtain ⟨x7,σ7,H7,I7,r7,q7⟩:=q7;exact ⟨x7,σ7,H7,I7.unpinned,r7,q7⟩
end
abbrev R2:=V->V->Hp->VK->Prop
def OpR (X:Cx) (f:AC->AC->Sem AC) (r:R2):Prop:=
 ∀(pins:List (AK×Obj)) (s:AG) (σ:St) (H:Hp) (x y:V) (v u:AC) (Q:VK),Inv X pins σ H s->RelV x v->RelV y u->r x y H Q ->
  Aq (Ac X.prog X.w) X.A (f v u) (EP X pins σ Q) X.xe s
def IN (X:Cx) (f:AC) (r:List V->Hp->VK->Prop):Prop:=
 ∀(pins:List (AK×Obj)) (s:AG) (σ:St) (H:Hp) (xs:List V) (us:List AC) (Q:VK),Inv X pins σ H s->Bi xs us->r xs H Q ->
  Aq (Ac X.prog X.w) X.A (call f us) (EP X pins σ Q) X.xe s
def TruR (X:Cx) (r:V->Hp->(Bool->Hp->Prop)->Prop):Prop:=
 ∀(pins:List (AK×Obj)) (s:AG) (σ:St) (H:Hp) (x:V) (v:AC) (Q:Bool->Hp->Prop),Inv X pins σ H s->RelV x v->r x H Q ->
  Aq (Ac X.prog X.w) X.A (eZ v) (TP X pins σ Q) X.xe s
def tOp (r:R2) (ta tb:TE):TE:=λσ H Q=>ta σ H λx H1=>tb σ H1 λy H2=>r x y H2 Q
def rI (C:Int->Int->Prop) (g:Int->Int->V):R2:=λx y H Q=>∃i j,x=.int i/\y=.int j/\C i j/\Q (g i j) H
def rI0 (g:Int->Int->V):R2:=λx y H Q=>∃i j,x=.int i/\y=.int j/\Q (g i j) H
section
variable {X:Cx} {a b c:Expr} {ta tb tc:TE} {pos:Pos}
theorem ip (ha:PE X a ta) (hb:PE X b tb) {pins:List (AK×Obj)} {s:AG} {σ:St} {H:Hp} {R:V->V->Hp->Prop} (I:Inv X pins σ H s)
  (h:ta σ H λx H1=>tb σ H1 λy H2=>R x y H2) {Q:AC->AG->Prop} {f:AC->AC->Sem AC}
  (hf:∀v u s2 x y H2,Inv X pins σ H2 s2->RelV x v->RelV y u->R x y H2->Aq (Ac X.prog X.w) X.A (f v u) Q X.xe s2) :
  Aq (Ac X.prog X.w) X.A (Br a X.env) (λv s₁=>Aq (Ac X.prog X.w) X.A (Br b X.env) (λu s₂=>Aq (Ac X.prog X.w) X.A (f v u) Q X.xe s₂) X.xe s₁) X.xe s:=by
 refine thn (ha pins s σ H _ I h) λv s1 ⟨x,H1,I1,r1,q1⟩=>?_
 refine thn (hb pins s1 σ H1 _ I1 q1) λu s2 ⟨y,H2,I2,r2,q2⟩=>?_
 exact hf v u s2 x y H2 I2 r1 r2 q2
theorem jx {op:Operator} {r:R2} (ho:OpR X (Ca op) r) (ha:PE X a ta) (hb:PE X b tb):PE X (.BinOp a op b pos) (tOp r ta tb):=by
 intro pins s σ H Q I h;exact wpAny_BinOp (ip ha hb I h λv u s2 x y H2 I2 rx ry q=>ho pins s2 σ H2 x y v u Q I2 rx ry q)
theorem opI {f:AC->AC->Sem AC} {C:Int->Int->Prop} {g:Int->Int->Int}
  (rule:∀(i j:Int) (t u:Tok) (s:AG) (Q:AC->AG->Prop) (E:AC->AG->Prop),C i j->Q (.int (g i j) s.toks) { s with toks:=s.toks+1 }->Aq (Ac X.prog X.w) X.A (f (.int i t) (.int j u)) Q E s) :
  OpR X f (rI C λi j=>.int (g i j)):=by
 intro pins s σ H x y v u Q I rx ry h;obtain ⟨i,j,rfl,rfl,hc,q⟩:=h;obtain ⟨t,rfl⟩:=rx;obtain ⟨t',rfl⟩:=ry;exact rule i j t t' s _ _ hc ⟨.int (g i j),H,I.tok _,⟨_,rfl⟩,q⟩
theorem gt {f:AC->AC->Sem AC} {g:Int->Int->Int}
  (rule:∀(i j:Int) (t u:Tok) (s:AG) (Q:AC->AG->Prop) (E:AC->AG->Prop),Q (.int (g i j) s.toks) { s with toks:=s.toks+1 }->Aq (Ac X.prog X.w) X.A (f (.int i t) (.int j u)) Q E s) :
  OpR X f (rI0 λi j=>.int (g i j)):=by
 intro pins s σ H x y v u Q I rx ry h;obtain ⟨i,j,rfl,rfl,q⟩:=h;obtain ⟨t,rfl⟩:=rx;obtain ⟨t',rfl⟩:=ry;exact rule i j t t' s _ _ ⟨.int (g i j),H,I.tok _,⟨_,rfl⟩,q⟩
theorem gu {f:AC->AC->Sem AC} {g:Int->Int->Bool}
  (rule:∀(i j:Int) (t u:Tok) (s:AG) (Q:AC->AG->Prop) (E:AC->AG->Prop),Q (.bool (g i j)) s->Aq (Ac X.prog X.w) X.A (f (.int i t) (.int j u)) Q E s) :
  OpR X f (rI0 λi j=>.bl (g i j)):=by
 intro pins s σ H x y v u Q I rx ry h;obtain ⟨i,j,rfl,rfl,q⟩:=h;obtain ⟨t,rfl⟩:=rx;obtain ⟨t',rfl⟩:=ry;exact rule i j t t' s _ _ ⟨.bl (g i j),H,I,rfl,q⟩
def du (i j:Int):Prop:=0 < j/\j < 1073741824
def aC (i j:Int):Prop:=0<=j/\j<=1000000/\i.natAbs < 2 ^ 64
def Xl (i j:Int):Prop:=(-(2 ^ 64) < i/\i < 2 ^ 64)∨(-(2 ^ 64) < j/\j < 2 ^ 64)
theorem Xl.ok {i j:Int} (h:Xl i j):IntMulOk i j:=by
 rcases h with ⟨h1,h2⟩ | ⟨h1,h2⟩
 ·exact .of_left (intBits_le_64 h1 h2)
 ·exact .of_right (intBits_le_64 h1 h2)
theorem T2 (k:Nat):(0:Int)<=2 ^ k:=by
 rw [two_pow_cast];exact X4 _
theorem gs:OpR X (Ca .Add) (rI0 λi j=>.int (i+j)):=gt λ_ _ _ _ _ _ _ q=>add_int q
theorem gh:OpR X (Ca .Sub) (rI0 λi j=>.int (i - j)):=gt λ_ _ _ _ _ _ _ q=>sub_int q
theorem gk:OpR X (Ca .Mult) (rI Xl λi j=>.int (i * j)):=opI λ_ _ _ _ _ _ _ hc q=>mul_int q hc.ok
theorem cN:OpR X (Ca .FloorDiv) (rI du λi j=>.int (i / j)):=opI λi j _ _ _ _ _ hc q=>by
 have h1:(0:Int) < j:=hc.1;have h2:j < 1073741824:=hc.2;exact floordiv_int (by lia) (by rw [Qq i (by lia)];exact q) (.inl (PyProof.noPylong_small (by omega)))
theorem gl:OpR X (Ca .Mod) (rI (λ_ j=>0 < j) λi j=>.int (i % j)):=opI λi j _ _ _ _ _ hc q=>by
 have h1:(0:Int) < j:=hc;exact mod_int' (by lia) (by rw [Int.fmod_eq_emod_of_nonneg i (by lia)];exact q)
theorem gj:OpR X (Ca .LShift) (rI aC λi j=>.int (i * 2 ^ j.toNat)):=opI λ_ _ _ _ _ _ _ hc q=>lshift_int_small hc.1 hc.2.1 hc.2.2 q
theorem gi:OpR X (Ca .RShift) (rI (λ_ j=>0<=j) λi j=>.int (i / 2 ^ j.toNat)):=opI λi j _ _ _ _ _ hc q=>
 rshift_int hc (by rw [Qq i (T2 _)];exact q)
theorem gr:OpR X (Ca .BitAnd) (rI0 λi j=>.int (Fm i j)):=gt λ_ _ _ _ _ _ _ q=>and_int q
end
section
variable {X:Cx} {a b c:Expr} {ta tb tc:TE} {pos:Pos}
theorem Zp {pins:List (AK×Obj)} {σ:St} {H:Hp} {s:AG} {Q:VK} {k k':Bool} (I:Inv X pins σ H s) (q:Q (.bl k) H) (e:k=k'):EP X pins σ Q (.bool k') s:=by
 subst e;exact ⟨.bl k,H,I,rfl,q⟩
theorem j3:OpR X (Bd .Lt) (rI0 λi j=>.bl (decide (i < j))):=gu λ_ _ _ _ _ _ _ q=>lt_int q
theorem j4:OpR X (Bd .LtE) (rI0 λi j=>.bl (decide (i<=j))):=gu λ_ _ _ _ _ _ _ q=>le_int q
theorem j5:OpR X (Bd .GtE) (rI0 λi j=>.bl (decide (j<=i))):=gu λ_ _ _ _ _ _ _ q=>ge_int q
theorem gm:OpR X (Bd .Is) (λx y H Q=>y=.non/\Q (.bl (decide (x=.non))) H):=by
 intro pins s σ H x y v u Q I rx ry h;obtain ⟨rfl,q⟩:=h;cases ry;refine is_none_gen (Zp I q ?_)
 cases x <;> first
  | (cases rx;rfl)
  | (obtain ⟨t,rfl⟩:=rx;rfl)
theorem cM:OpR X (Bd .IsNot) (λx y H Q=>y=.non/\Q (.bl (!decide (x=.non))) H):=by
 intro pins s σ H x y v u Q I rx ry h;obtain ⟨rfl,q⟩:=h;cases ry;refine isnot_none_gen (Zp I q ?_)
 cases x <;> first
  | (cases rx;rfl)
  | (obtain ⟨t,rfl⟩:=rx;rfl)
theorem OpR.or {f:AC->AC->Sem AC} {r r':R2} (h:OpR X f r) (h':OpR X f r'):OpR X f (λx y H Q=>r x y H Q∨r' x y H Q):=by
 intro pins s σ H x y v u Q I rx ry q
 rcases q with q | q
 ·exact h pins s σ H x y v u Q I rx ry q
 ·exact h' pins s σ H x y v u Q I rx ry q
theorem Ci (b:Expr) {op:Nt} (h:op≠.In:=by decide) (h2:op≠.NotIn:=by decide):CG op b=false:=by
 have e1:(op==Nt.In)=false:=by cases op <;> first | rfl | exact zX rfl h
 have e2:(op==Nt.NotIn)=false:=by cases op <;> first | rfl | exact zX rfl h2
 cases b <;> simp [CG,e1,e2]
theorem cI {op:Nt} {r:R2} (ho:OpR X (Bd op) r) (ha:PE X a ta) (hb:PE X b tb) (hm:CG op b=false):PE X (.Compare a [op] [b] pos) (tOp r ta tb):=by
 intro pins s σ H Q I h;exact wpAny_Compare1 (ip ha hb I h λv u s2 x y H2 I2 rx ry q=>ho pins s2 σ H2 x y v u Q I2 rx ry q) hm
def d9 (t:TE):TT:=λσ H Q=>t σ H λx H'=>∃k,x=.bl k/\Q k H'
theorem bi {op:Nt} {r:R2} (ho:OpR X (Bd op) r) (ha:PE X a ta) (hb:PE X b tb) (hm:CG op b=false):PT X (.Compare a [op] [b] pos) (d9 (tOp r ta tb)):=by
 intro pins s σ H Q I h
 refine aD (thn (ha pins s σ H _ I h) λv s1 ⟨x,H1,I1,r1,q1⟩=>thn (hb pins s1 σ H1 _ I1 q1) λu s2 ⟨y,H2,I2,r2,q2⟩=>
  thn (ho pins s2 σ H2 x y v u _ I2 r1 r2 q2) λc s3 ⟨z,H3,I3,r3,k,e,q3⟩=>?_) hm
 subst e;cases r3;exact CA ⟨H3,I3,q3⟩
def T9 (r r':R2) (ta tb tc:TE):TE:=λσ H Q=>ta σ H λx H1=>tb σ H1 λy H2=>r x y H2 λz H3=>∃k,z=.bl k /\
 (if k=true then tc σ H3 λw' H4=>r' y w' H4 Q else Q (.bl false) H3)
theorem Yy {op op':Nt} {r r':R2} (ho:OpR X (Bd op) r) (ho':OpR X (Bd op') r') (ha:PE X a ta) (hb:PE X b tb) (hc:PE X c tc)
  (hm:Xn [op,op'] [b,c]=false:=by with_unfolding_all rfl):PE X (.Compare a [op,op'] [b,c] pos) (T9 r r' ta tb tc):=by
 intro pins s σ H Q I h
 refine Compare_chain (thn (ha pins s σ H _ I h) λv s1 ⟨x,H1,I1,r1,q1⟩=>chain_link (thn (hb pins s1 σ H1 _ I1 q1) λu s2 ⟨y,H2,I2,r2,q2⟩=>
  thn (ho pins s2 σ H2 x y v u _ I2 r1 r2 q2) λd s3 ⟨z,H3,I3,r3,k,e,q3⟩=>?_)) hm
 subst e;cases r3;refine CA ?_
 cases k with
 | false=>exact ite_ff ⟨.bl false,H3,I3,rfl,q3⟩
 | true=>exact ite_tt (chain_last (thn (hc pins s3 σ H3 _ I3 q3) λw' s4 ⟨z',H4,I4,r4,q4⟩=>ho' pins s4 σ H4 y z' u w' Q I4 r2 r4 q4))
theorem Yn {op op':Nt} {r r':R2} (ho:OpR X (Bd op) r) (ho':OpR X (Bd op') r') (ha:PE X a ta) (hb:PE X b tb) (hc:PE X c tc)
  (hm:Xn [op,op'] [b,c]=false:=by with_unfolding_all rfl):PT X (.Compare a [op,op'] [b,c] pos) (d9 (T9 r r' ta tb tc)):=by
 intro pins s σ H Q I h
 refine isTrue_chain (thn (ha pins s σ H _ I h) λv s1 ⟨x,H1,I1,r1,q1⟩=>test_link (thn (hb pins s1 σ H1 _ I1 q1) λu s2 ⟨y,H2,I2,r2,q2⟩=>
  thn (ho pins s2 σ H2 x y v u _ I2 r1 r2 q2) λd s3 ⟨z,H3,I3,r3,k,e,q3⟩=>?_)) hm
 subst e;cases r3;refine CA ?_
 cases k with
 | false=>
  obtain ⟨k',e',q'⟩:=q3;cases e';exact ite_ff ⟨H3,I3,q'⟩
 | true=>
  refine ite_tt (test_last (thn (hc pins s3 σ H3 _ I3 q3) λw' s4 ⟨z',H4,I4,r4,q4⟩=>thn (ho' pins s4 σ H4 y z' u w' _ I4 r2 r4 q4) λd' s5 ⟨z2,H5,I5,r5,k2,e2,q5⟩=>?_));subst e2;cases r5;exact CA ⟨H5,I5,q5⟩
def iu (K:AA) (x:V) (H:Hp) (k:Bool):Prop:=
 match x with
 | .non=>k=false
 | .bl b=>k=b
 | .int i=>k=(i != 0)
 | .str y=>y.length<=sizeLine/\k=((y.length:Int) != 0)
 | .byt y=>y.size<=sizeLine/\k=((y.size:Int) != 0)
 | .ref p=>(∃xs,SqL K H p xs/\k = !xs.isEmpty)∨(∃xs,SqT K H p xs/\k = !xs.isEmpty)∨∃kvs,H p=some (.dK kvs)/\k = !kvs.isEmpty
 | _=>False
theorem UV {κ:Type} {kvs:List (κ×V)} {vs:List (κ×AC)} (r:KV kvs vs):(!vs.isEmpty) = !kvs.isEmpty:=by
 cases r <;> rfl
theorem O0 {xs:List V} {its:List AC} (r:Bi xs its):(!its.toArray.isEmpty) = !xs.isEmpty:=by
 cases r <;> simp
theorem RH:(sizeLine:Nat) < 2 ^ 63:=by rw [Rr];decide
theorem fW:TruR X (λx H Q=>∃k,iu X.K x H k/\Q k H):=by
 intro pins s σ H x v Q I rx h;obtain ⟨k,e,q⟩:=h;have hl:=RH;have hs:sizeLine=16777216:=Rr
 cases x with
 | non=>
  cases rx;have e':k=false:=e;subst e';exact truthy_none ⟨H,I,q⟩
 | bl b=>
  cases rx;have e':k=b:=e;subst e';exact CA ⟨H,I,q⟩
 | int i=>
  obtain ⟨t,rfl⟩:=rx;have e':k=(i != 0):=e;subst e';exact PySem.P.truthy_int ⟨H,I,q⟩
 | str y=>
  obtain ⟨t,rfl⟩:=rx;obtain ⟨hy,e'⟩:y.length<=sizeLine/\k=((y.length:Int) != 0):=e;subst e';exact PySem.P.truthy_str (by lia) ⟨H,I.tok _,q⟩
 | byt y=>
  obtain ⟨t,rfl⟩:=rx;obtain ⟨hy,e'⟩:y.size<=sizeLine/\k=((y.size:Int) != 0):=e;subst e';exact PySem.W.truthy_bytes (by lia) ⟨H,I.tok _,q⟩
 | ref p=>
  cases rx
  have e':(∃xs,SqL X.K H p xs/\k = !xs.isEmpty)∨(∃xs,SqT X.K H p xs/\k = !xs.isEmpty)∨∃kvs,H p=some (.dK kvs)/\k = !kvs.isEmpty:=e
  rcases e' with ⟨xs,hx,e'⟩ | ⟨xs,hx,e'⟩ | ⟨kvs,hx,e'⟩
  ·subst e'
   obtain ⟨its,r,pl,hz⟩:=I.list hx;have hlen:=r.length;exact wpAny_truthy_list pl.isList (by simp only [AY];lia) ⟨H,I.tok _,by rw [O0 r];exact q⟩
  ·subst e'
   obtain ⟨its,r,pl,hz⟩:=I.tuple hx;have hlen:=r.length;exact truthy_tuple pl (by simp only [AY];lia) ⟨H,I.tok _,by rw [O0 r];exact q⟩
  ·subst e'
   obtain ⟨hz,hS,vs,r,m⟩:kvs.length<=sizeLine/\(p==Cu)=false/\∃vs,KV kvs vs/\s.heap.DictOf (Cn X.prog X.w) p vs:=I.hok p _ hx
   have hlen:kvs.length=vs.length:=Db r;exact wpAny_truthy_dict hS m (by lia) ⟨H,I.tok _,by rw [UV r];exact q⟩
 | _=>exact (show False from e).elim
theorem Yl (ha:PE X a ta) (he:∀whole,Ti a X.env whole=(do let v <-whole;i7 a.pos;jA [v] (eZ v))) :
  PT X a (λσ H Q=>ta σ H λx H'=>∃k,iu X.K x H' k/\Q k H'):=by
 intro pins s σ H Q I h;exact isTrue_plain (thn (ha pins s σ H _ I h) λv s1 ⟨x,H1,I1,r1,q1⟩=>fW pins s1 σ H1 x v Q I1 r1 q1) (he _)
theorem vals1 {x:V} {us:List AC} (r:Bi [x] us):∃u,us=[u]/\RelV x u:=by
 cases r with
 | cons r1 r2=>cases r2;exact ⟨_,rfl,r1⟩
theorem vals2 {x y:V} {us:List AC} (r:Bi [x,y] us):∃u w',us=[u,w']/\RelV x u/\RelV y w':=by
 cases r with
 | cons r1 r2=>
  cases r2 with
  | cons r3 r4=>cases r4;exact ⟨_,_,rfl,r1,r3⟩
theorem Xh (hc:X.calm=true):IN X (.builtin "max") (λxs H Q=>∃i j,xs=[.int i,.int j]/\Q (.int (if j > i then j else i)) H):=by
 intro pins s σ H xs us Q I r h;obtain ⟨i,j,rfl,q⟩:=h;obtain ⟨u,w',rfl,⟨t,rfl⟩,⟨t',rfl⟩⟩:=vals2 r
 refine max_two_ints (I.ok.hd hc) λh' tk k=>⟨_,H,I.kept k,?_,q⟩
 by_cases hj:j > i
 ·rw [qX hj,qX hj];exact ⟨_,rfl⟩
 ·rw [qY hj,qY hj];exact ⟨_,rfl⟩
theorem Xg (hc:X.calm=true):IN X (.builtin "min") (λxs H Q=>∃i j,xs=[.int i,.int j]/\Q (.int (if j < i then j else i)) H):=by
 intro pins s σ H xs us Q I r h;obtain ⟨i,j,rfl,q⟩:=h;obtain ⟨u,w',rfl,⟨t,rfl⟩,⟨t',rfl⟩⟩:=vals2 r
 refine min_two_ints (I.ok.hd hc) λh' tk k=>⟨_,H,I.kept k,?_,q⟩
 by_cases hj:j < i
 ·rw [qX hj,qX hj];exact ⟨_,rfl⟩
 ·rw [qY hj,qY hj];exact ⟨_,rfl⟩
end
structure Xk (h:Bw) (x dx C:AK) (mA:Str->Option AC):Prop where
 obj:h.get? x=some (DR C dx)
 ns:h.Ns1 dx mA
 ne:dx≠x
theorem XB {h:Bw} {dx:AK} {mA:Str->Option AC} (n:h.Ns1 dx mA):∃od,h.get? dx=some od/\∀name,OB name od=some (mA name):=by
 obtain ⟨o,es,ep,ho,hd,hk,_,hm⟩:=n;refine ⟨o,ho,λname=>?_⟩;have e:=hm name;unfold nsFind findBy at e;rw [<-Array.find?_toList] at e;unfold OB;rw [hd];dsimp only;split
 ·rename_i y q
  rw [q] at e;exact congrArg some e
 ·rename_i q
  rw [q] at e
  have a:es.toList.any (·.refKey)=false:=by
   rw [List.any_eq_false];intro y hy;obtain ⟨z,t,hkey⟩:=hk y (BR.mp hy);simp [He.refKey,hkey]
  have a':¬es.toList.any (·.refKey)=true:=by rw [a];exact AX
  rw [qY a'];exact congrArg some e
theorem Xk.look {h:Bw} {x dx C:AK} {mA:Str->Option AC} (I:Xk h x dx C mA):∃od,PySem.W.InstAt h x (DR C dx) C (some od)/\∀name,OB name od=some (mA name):=
 let ⟨od,ho,hl⟩:=XB I.ns
 ⟨od,⟨I.obj,rfl,rfl,ho⟩,hl⟩
section
variable {prog:Ak} {w:A9} {A:BB} {E:AC->AG->Prop} {s:AG} {K:AA} {x dx C f:AK} {mA:Str->Option AC} {name:Str} {v:AC}
theorem dB {expr:Bool} {Q:AC->AG->Prop} (X:K.In s.heap) (I:Xk s.heap x dx C mA) (hg:Mb K C name=true) (hh:La K C=true)
  (ha:Dj K (.ref C) name=some none) (hv:mA name=some v) (hv':WJ v=true) (h:Q v { s with toks:=s.toks+1 }) :
  Aq (Ac prog w) A (getAttr (.ref x) name expr) Q E s:=by
 obtain ⟨od,J,hl⟩:=I.look;exact PySem.W.get_value X J (PySem.W.plainGet_of hg).1 (PySem.W.findObj_own hh ha rfl (by rw [hl,hv])) hv' h
theorem bZ {ns:List Str} {Q:Unit->AG->Prop} (X:K.In s.heap) (I:Xk s.heap x dx C mA)
  (hs:Dj K (.ref C) "__setattr__" = some (some (.builtin "object.__setattr__"))) (hp:Ux K C=true) (ht:Na K C name=some none) (hh:La K C=true)
  (hw:R0 mA ns) (hsz:ns.length<=sizeLine)
  (h:∀h',Xk h' x dx C (λy=>if y=name then some v else mA y)->EC dx s.heap h'->Q () { s with heap:=h',toks:=s.toks+2 }) :
  Aq (Ac prog w) A (setAttr (.ref x) name v) Q E s:=by
 obtain ⟨od,J,hl⟩:=I.look;refine PySem.W.set_plain X J hs (PySem.W.osa_open (s:={ s with toks:=s.toks+1 }) (r:=none) X J hp ht λb=>?_);obtain ⟨cd,hc,hd'⟩:=PySem.W.any_some hh;have hx:s.heap.get? x=some ⟨.ref C,some dx,.plain,#[]⟩:=I.obj;refine AH (AW (AH (AH (wpAny_loadPart hx (AH (jR (s:={ s with toks:=s.toks+1 }) (PySem.W.looks_clsIn X hc) ?_))))));rw [hd'];refine AW (a:=some dx) (AH (AW (AH ?_)))
 refine wpAny_nsSet1 (s:={ s with toks:=s.toks+1 }) I.ns λh' hn2 hs2=>?_
 obtain ⟨oD,esD,epD,hoD,hdD,hcD⟩:=hn2.count (kj name v hw);refine AH (wpAny_lookBehind hoD (by rw [hdD];exact pastItsLine_dict (A0 hcD (by rw [A8];lia))) ?_);exact AW (h _ ⟨(hs2.2 _ (Bx I.ne)).trans I.obj,hn2,I.ne⟩ hs2)
theorem ZH {R:em->AG->Prop} {vs:List AC} {kw:List (Str×AC)} (X:K.In s.heap) (hm:Xq K C=true)
  (hi:Dj K (.ref C) "__init__" = some (some (.ref f))) (hf:PySem.W.typeIn K (.ref f)=some (.type "function"))
  (h:Kw (Ac prog w) (A.under (.builtin "type.__call__" ⟨.ref C :: vs,kw⟩)) (.call (.ref f) ⟨.ref (s.heap.objs.size+1) :: vs,kw⟩) (PySem.W.InitBack (s.heap.objs.size+1) R)
   { s with heap:=(s.heap.push CZ).push (DR C s.heap.objs.size) }) :
  Kw (Ac prog w) A (.call (.ref C) ⟨vs,kw⟩) R s:=by
 obtain ⟨hh,g,d,t,os⟩:=s;exact PySem.W.make_core (PySem.W.makes_of X hm) (PySem.W.looks_findIn X hi) (λself=>PySem.W.bind_fn X self hf) (.inl rfl) h
end
def putF (f:Str) (v:V):List (Str×V)->List (Str×V)
 | []=>[(f,v)]
 | (g,x) :: r=>if g=f then (g,v) :: r else (g,x) :: putF f v r
theorem NP (f g:Str) (v:V):∀fs:List (Str×V),(putF f v fs).lookup g=if g=f then some v else fs.lookup g
 | []=>by
  show HH g [(f,v)]=_
  by_cases h:g=f
  ·have hb:(g==f)=true:=beq_iff_eq.mpr h
   simp only [HH,hb,qX h]
  ·have hb:(g==f)=false:=beq_eq_false_iff_ne.mpr h
   simp only [HH,hb,qY h]
 | (k,x) :: r=>by
  have ih:=NP f g v r;rw [show putF f v ((k,x) :: r)=(if k=f then (k,v) :: r else (k,x) :: putF f v r) from rfl]
  by_cases hk:k=f
  ·rw [qX hk]
   by_cases h:g=k
   ·have hb:(g==k)=true:=beq_iff_eq.mpr h
    simp only [HH,hb,qX (h.trans hk)]
   ·have hb:(g==k)=false:=beq_eq_false_iff_ne.mpr h
    simp only [HH,hb,qY (λe:g=f=>h (e.trans hk.symm))]
  ·rw [qY hk]
   by_cases h:g=k
   ·have hb:(g==k)=true:=beq_iff_eq.mpr h
    simp only [HH,hb,qY (λe:g=f=>hk (h.symm.trans e))]
   ·have hb:(g==k)=false:=beq_eq_false_iff_ne.mpr h
    simp only [HH,hb];exact ih
theorem M6 (f:Str) (v:V):∀fs:List (Str×V),f∈(putF f v fs).map (·.1)/\∀g,g∈fs.map (·.1)->g∈(putF f v fs).map (·.1)
 | []=>⟨by simp [putF],λg h=>by simp at h⟩
 | (k,x) :: r=>by
  obtain ⟨i1,i2⟩:=M6 f v r;rw [show putF f v ((k,x) :: r)=(if k=f then (k,v) :: r else (k,x) :: putF f v r) from rfl]
  by_cases hk:k=f
  ·rw [qX hk]
   subst hk;exact ⟨by simp,λg h=>by simpa using h⟩
  ·rw [qY hk]
   refine ⟨?_,λg h=>?_⟩
   ·rw [Az]
    exact Ag _ i1
   ·rw [Az] at h ⊢
    rcases Ay.mp h with e | e
    ·exact Ay.mpr (.inl e)
    ·exact Ag _ (i2 g e)
theorem NR (f:Str) (v:V):∀fs:List (Str×V),(putF f v fs).length<=fs.length+1
 | []=>by simp [putF]
 | (k,x) :: r=>by
  have ih:=NR f v r;rw [show putF f v ((k,x) :: r)=(if k=f then (k,v) :: r else (k,x) :: putF f v r) from rfl]
  by_cases hk:k=f
  ·rw [qX hk,A8,A8];lia
  ·rw [qY hk,A8,A8];lia
theorem NC.some_of {v:V} {o:Option AC} (r:NC (some v) o):∃u,o=some u/\RelV v u:=by
 cases o with
 | none=>exact (show False from r).elim
 | some u=>exact ⟨u,rfl,r⟩
theorem XO {v:V} {u:AC} (r:RelV v u):WJ u=true:=by
 cases v with
 | non=>cases (show u=Cb from r);rfl
 | bl b=>cases (show u=LY b from r);rfl
 | int i=>obtain ⟨t,e⟩:=(show ∃t,u=NY i t from r);cases e;rfl
 | str x=>obtain ⟨t,e⟩:=(show ∃t,u=NX x t from r);cases e;rfl
 | byt b=>obtain ⟨t,e⟩:=(show ∃t,u=jF b t from r);cases e;rfl
 | flt b=>obtain ⟨t,e⟩:=(show ∃t,u=To b t from r);cases e;rfl
 | ref a=>cases (show u=A7 a from r);rfl
 | ty n=>cases (show u=D7 n from r);rfl
section
variable {P:Ak} {w:A9} {H H':Hp} {h h':Bw} {a C dx:AK} {fs fs':List (Str×V)}
theorem RM (hok:HOk P w H h) (e:H a=some (.ins C dx fs)):∃mA,Xk h a dx C mA/\(∀f,NC (fs.lookup f) (mA f))/\R0 mA (fs.map (·.1))/\fs.length<=1000/\H dx=some (.own a):=by
 obtain ⟨d,z,ne,ob,mA,n,r,q⟩:=(show CM P w H h a (.ins C dx fs) from hok a _ e);exact ⟨mA,⟨ob,n,ne⟩,r,q,z,d⟩
end
structure Cls (K:AA) (C:AK):Prop where
 pg:Mb K C Str.empty=true
 hd:La K C=true
 po:Ux K C=true
 sa:Dj K (.ref C) "__setattr__" = some (some (.builtin "object.__setattr__"))
theorem Cls.get {K:AA} {C:AK} (c:Cls K C) (f:Str):Mb K C f=true:=c.pg
def Hw (K:AA) (C:AK) (f:Str):Prop:=Dj K (.ref C) f=some none
theorem Hw.taker {K:AA} {C:AK} {f:Str} (n:Hw K C f):Na K C f=some none:=by
 unfold Na;rw [show Dj K (.ref C) f=some none from n];rfl
section
variable {X:Cx} {pins:List (AK×Obj)} {σ:St} {H:Hp} {s:AG} {a C dx:AK} {fs:List (Str×V)} {f:Str} {v:V} {A:BB} {E:AC->AG->Prop}
theorem UY {b:Bool} {Q:AC->AG->Prop} (I:Inv X pins σ H s) (e:H a=some (.ins C dx fs)) (c:Cls X.K C) (n:Hw X.K C f) (l:fs.lookup f=some v)
  (h:∀u s',Inv X pins σ H s'->RelV v u->Q u s'):Aq (Ac X.prog X.w) A (getAttr (.ref a) f b) Q E s:=by
 obtain ⟨mA,O,r,_,_,_⟩:=RM I.hok e;obtain ⟨u,hu,ru⟩:=NC.some_of (v:=v) (o:=mA f) (by rw [<-l];exact r f);exact dB I.kIn O (c.get f) c.hd n hu (XO ru) (h u _ (I.tok _) ru)
theorem UD {y:V} {u:AC} {Q:Unit->AG->Prop} (I:Inv X pins σ H s) (e:H a=some (.ins C dx fs)) (c:Cls X.K C) (n:Hw X.K C f) (hl:fs.length < 1000) (ry:RelV y u)
  (h:∀s',Inv X pins σ (upd H a (.ins C dx (putF f y fs))) s'->Q () s'):Aq (Ac X.prog X.w) A (setAttr (.ref a) f u) Q E s:=by
 obtain ⟨mA,O,r,wi,_,ho⟩:=RM I.hok e
 have hz:(fs.map (·.1)).length<=sizeLine:=by rw [AE,Rr];lia
 refine bZ I.kIn O c.sa c.po n.taker c.hd wi hz λh' O' sb=>h _ ?_
 have hd:∃o,h'.get? dx=some o:=let ⟨o,_,_,e',_⟩:=O'.ns;⟨o,e'⟩
 refine I.write (x:=a) (e:=dx) (by rw [e];exact Co) (.inr ho) (λb q hb z=>(sb.2 b hb).trans z) hd ?_;refine ⟨by rw [BW O.ne];exact ho,?_,O.ne,O'.obj,_,O'.ns,λg=>?_,λg hg=>?_⟩
 ·have:=NR f y fs;lia
 ·show NC ((putF f y fs).lookup g) (if g=f then some u else mA g)
  rw [NP]
  by_cases q:g=f
  ·rw [qX q,qX q];exact ry
  ·rw [qY q,qY q];exact r g
 ·by_cases q:g=f
  ·rw [q];exact (M6 f y fs).1
  ·refine (M6 f y fs).2 g (wi g λz=>hg ?_)
   show (if g=f then some u else mA g)=none;rw [qY q];exact z
theorem Inv.made (I:Inv X pins σ H s):Inv X pins σ (upd (upd H s.heap.objs.size (.own (s.heap.objs.size+1))) (s.heap.objs.size+1) (.ins C s.heap.objs.size []))
  { s with heap:=(s.heap.push CZ).push (DR C s.heap.objs.size) }:=by
 have e1:(s.heap.push CZ).get? s.heap.objs.size=some CZ:=Aj s.heap rfl
 have e2:((s.heap.push CZ).push (DR C s.heap.objs.size)).get? (s.heap.objs.size+1)=some (DR C s.heap.objs.size):=by
  have:=Aj (s.heap.push CZ) (o:=DR C s.heap.objs.size) rfl;rwa [DO] at this
 have e3:(s.heap.push CZ).Ns s.heap.objs.size (λ_=>none):=⟨CZ,#[],_,e1,rfl,(λe he=>zX he (by simp)),λ_=>rfl⟩;have I1:=I.laid (a:=s.heap.objs.size) (o:=.own (s.heap.objs.size+1)) (h':=s.heap.push CZ) (t':=s.toks) (λb u q=>AJ _ q) (AN _) ⟨_,e1⟩;refine I1.laid (a:=s.heap.objs.size+1) (o:=.ins C s.heap.objs.size []) (t':=s.toks) (λb u q=>AJ _ q) (jT (DO _ _)) ?_;have ne:s.heap.objs.size≠s.heap.objs.size+1:=Am (DM _);refine ⟨by rw [BW ne,Bg],Cg _,ne,e2,λ_=>none,(Bw.Ns1.of_empty e3).at λo q=>AJ _ q,λ_=>Co,λy hy=>zX rfl hy⟩
theorem df {prog:Ak} {w:A9} {env:Env} {e:Expr} {f:Str} {pos:Pos} {s:AG} {Q:AC->AG->Prop} (hb:CV e f env (Br e env)=Br e env)
  (h:Aq (Ac prog w) A (Br e env) (λo s₁=>Aq (Ac prog w) A (getAttr o f true) Q E s₁) E s):Aq (Ac prog w) A (Br (.Attribute e f pos) env) Q E s:=
 Attribute_any_ h (by rw [arm_eval_Attribute,hb])
end
def tFld (K:AA) (ta:TE) (f:Str):TE:=λσ H Q=>ta σ H λx H1=>∃a C dx fs v,x=.ref a/\H1 a=some (.ins C dx fs)/\Cls K C/\Hw K C f/\fs.lookup f=some v/\Q v H1
def sFld (K:AA) (ta tv:TE) (f:Str):TS:=λD σ H=>tv σ H λy H1=>ta σ H1 λx H2=>∃a C dx fs,x=.ref a/\H2 a=some (.ins C dx fs)/\Cls K C/\Hw K C f/\fs.length < 1000 /\
 D.nx σ (upd H2 a (.ins C dx (putF f y fs)))
section
variable {X:Cx} {o e value:Expr} {f:Str} {pos pos' tpos:Pos} {ta tv:TE}
theorem gb (he:PE X e ta) (hb:CV e f X.env (Br e X.env)=Br e X.env):PE X (.Attribute e f pos) (tFld X.K ta f):=by
 intro pins s σ H Q I h;refine df hb (thn (he pins s σ H _ I h) λu s1 ⟨x,H1,I1,rx,a,C,dx,fs,v,ex,ea,c,n,l,q⟩=>?_);subst ex;obtain rfl:u=A7 a:=rx
 exact UY I1 ea c n l λu' s2 I2 ru=>⟨v,H1,I2,ru,q⟩
theorem gH (ha:PE X o ta) (hv:PE X value tv) (hs:Fh value (some (.Attribute o f pos')) pos.line X.env=pure false):PS X (.Assign [.Attribute o f pos'] value pos) (sFld X.K ta tv f):=by
 intro pins s σ H D I h;refine plainObj_wpAny_Assign_Attribute (thn (hv pins s σ H _ I h) λu s1 ⟨y,H1,I1,ry,q⟩=>thn (ha pins s1 σ H1 _ I1 q) λov s2 ⟨x,H2,I2,rx,a,C,dx,fs,ex,ea,c,n,l,q2⟩=>?_) hs;subst ex;obtain rfl:ov=A7 a:=rx
 exact UD I2 ea c n l ry λs3 I3=>⟨σ,_,I3,q2⟩
end
section
variable {X:Cx} {pins:List (AK×Obj)} {σ:St} {H:Hp} {s:AG} {A:BB} {E:AC->AG->Prop} {Q:AC->AG->Prop} {c:AC} {b:Bool}
inductive MP (K:AA) (H:Hp):V->AC->Prop where
 | non:MP K H .non (.type "NoneType")
 | bl (x:Bool):MP K H (.bl x) (.type "bool")
 | int (i:Int):MP K H (.int i) (.type "int")
 | str (x:Str):MP K H (.str x) (.type "str")
 | flt (x:UInt64):MP K H (.flt x) (.type "float")
 | lst {a:AK} {xs:List V} (e:H a=some (.lst xs)):MP K H (.ref a) (.type "list")
 | frz {a:AK} {o:Obj} {xs:List V} (e:H a=some (.frz o (.lst xs))):MP K H (.ref a) (.type "list")
 | tup {a:AK} {xs:List V} (e:H a=some (.tup xs)):MP K H (.ref a) (.type "tuple")
 | dK {a:AK} {kvs:List (Key×V)} (e:H a=some (.dK kvs)):MP K H (.ref a) (.type "dict")
 | dT {a:AK} {kvs:List (List Key×V)} (e:H a=some (.dT kvs)):MP K H (.ref a) (.type "dict")
 | ins {a C dx:AK} {fs:List (Str×V)} (e:H a=some (.ins C dx fs)) (cl:Cls K C) (ha:Dj K (.ref C) "__class__" = some (some (.builtin "object.__class__")))
   (hn:PySem.W.specialIn K (.builtin "object.__class__") "__get__" = some (some (.builtin "getset_descriptor.__get__"))) (htk:PySem.W.takesIn K (.builtin "object.__class__")=some true)
   (hm:PySem.W.mroIn K C (.type "object")=some true):MP K H (.ref a) (.ref C)
theorem XH {x:V} {u t:AC} (I:Inv X pins σ H s) (rx:RelV x u) (ty:MP X.K H x t) (e:DG X.K t c=some b) (h:∀tk,Q (.bool b) { s with toks:=tk }) :
  Aq (Ac X.prog X.w) A (call (.builtin "isinstance") [u,c]) Q E s:=by
 cases ty with
 | non=>cases (show u=Cb from rx);exact CK PySem.W.kitx_none I.kIn Co e (λz=>nomatch z) h
 | bl y=>cases (show u=LY y from rx);exact CK PySem.W.kitx_bool I.kIn Co e (λz=>nomatch z) h
 | int i=>obtain ⟨t,q⟩:=(show ∃t,u=NY i t from rx);cases q;exact CK PySem.W.kitx_int I.kIn Co e (λz=>nomatch z) h
 | str y=>obtain ⟨t,q⟩:=(show ∃t,u=NX y t from rx);cases q;exact CK PySem.W.kitx_str I.kIn Co e (λz=>nomatch z) h
 | flt y=>obtain ⟨t,q⟩:=(show ∃t,u=To y t from rx);cases q;exact CK PySem.W.kitx_float I.kIn Co e (λz=>nomatch z) h
 | @lst a xs ea=>
  cases (show u=A7 a from rx);obtain ⟨_,_,n,_,h1⟩:=(show CM X.prog X.w H s.heap a (.lst xs) from I.hok a _ ea);exact CK Uy I.kIn ⟨_,h1,rfl⟩ e (λz=>nomatch z) h
 | @frz a ob xs ea=>
  cases (show u=A7 a from rx);obtain ⟨_,_,_,n,_,h1⟩:=(show CM X.prog X.w H s.heap a (.frz ob (.lst xs)) from I.hok a _ ea);exact CK Uy I.kIn ⟨_,h1,rfl⟩ e (λz=>nomatch z) h
 | @tup a xs ea=>
  cases (show u=A7 a from rx);obtain ⟨_,_,_,p⟩:=(show CM X.prog X.w H s.heap a (.tup xs) from I.hok a _ ea);obtain ⟨o,h1,h2,_⟩:=p;exact CK PySem.W.kitx_tuple I.kIn ⟨o,h1,h2⟩ e (λz=>nomatch z) h
 | @dK a kvs ea=>
  cases (show u=A7 a from rx);obtain ⟨_,_,vs,_,p⟩:=(show CM X.prog X.w H s.heap a (.dK kvs) from I.hok a _ ea);obtain ⟨o,es,ep,h1,h2,_⟩:=p;exact CK Uz I.kIn ⟨o,h1,h2.1⟩ e (λz=>nomatch z) h
 | @dT a kvs ea=>
  cases (show u=A7 a from rx);obtain ⟨_,_,xs,_,o,es,ep,h1,h2,_⟩:=(show CM X.prog X.w H s.heap a (.dT kvs) from I.hok a _ ea);exact CK Uz I.kIn ⟨o,h1,h2.1⟩ e (λz=>nomatch z) h
 | @ins a C dx fs ea cl ha hn htk hm=>
  cases (show u=A7 a from rx);obtain ⟨mA,O,_⟩:=RM I.hok ea;obtain ⟨od,J,_⟩:=O.look;exact CK (PySem.W.kitx_own (cl.get _) cl.hd ha hn htk hm) I.kIn J e (λz=>nomatch z) h
end
structure HG (k:Nat) (A:BB):Prop where
 hd:A.handled=none
 dp:A.depth+3 * k+5 < recursionLimit
 un:A.units+16 * k+200 < Ed
theorem HG.mono {j k:Nat} {A:BB} (r:HG k A) (h:j<=k):HG j A:=⟨r.hd,by have:=r.dp;lia,by have:=r.un;lia⟩
theorem HG.deeper {k:Nat} {A:BB} (r:HG (k+1) A) (env:Env):HG k (A.deeper env):=
 ⟨r.hd,by have:=r.dp;show A.depth+1+3 * k+5 < _;lia,by have:=r.un;show A.units+3+16 * k+200 < _;lia⟩
theorem UP {A:BB} {C:AK} {us:List AC} {kw:List (Str×AC)}:(A.under (.builtin "type.__call__" ⟨.ref C :: us,kw⟩)).depth=A.depth+1:=by
 first | rfl | simp [Rx,Code.weight,Code.isCreation,Code.isGuard,Code.isCaller,jU,Tf,guardIds]
theorem UO {A:BB} {C:AK} {us:List AC} {kw:List (Str×AC)}:(A.under (.builtin "type.__call__" ⟨.ref C :: us,kw⟩)).units=A.units+1:=by
 first | rfl | simp [Rx,Code.cUnits,jU,Tf]
theorem HG.make {k:Nat} {A:BB} (r:HG (k+1) A) (C:AK) (us:List AC) (kw:List (Str×AC)):HG k (A.under (.builtin "type.__call__" ⟨.ref C :: us,kw⟩)):=
 ⟨r.hd,by have:=r.dp;rw [UP];lia,by have:=r.un;rw [UO];lia⟩
theorem HG.depth {k:Nat} {A:BB} (r:HG k A):A.depth < recursionLimit:=by have:=r.dp;lia
theorem HG.units {k:Nat} {A:BB} (r:HG k A):A.units+64 < Ed:=by have:=r.un;lia
def tNil:TA:=λ_ H Q=>Q [] H
def jj (ta:TE) (tr:TA):TA:=λσ H Q=>ta σ H λx H1=>tr σ H1 λxs H2=>Q (x :: xs) H2
section
variable {X:Cx} {e:Expr} {es:List Expr} {te:TE} {t:TA} {pos:Pos}
theorem HC:PA X [] tNil:=λ_ _ _ _ H Q I h=>Ih ⟨[],H,I,.nil,h⟩
theorem E2 (ha:PE X e te) (hr:PA X es t) (hs:AS (e :: es) X.env=(false,Br e X.env) :: AS es X.env:=by rfl):PA X (e :: es) (jj te t):=by
 intro pos pins s σ H Q I h;rw [hs];show Aq _ _ (Xx ((false,Br e X.env) :: DQ pos (AS es X.env))) _ _ s;refine IC (thn (ha pins s σ H _ I h) λu s1 ⟨x,H1,I1,r1,q1⟩=>?_)
 exact thn (hr pos pins s1 σ H1 _ I1 q1) λus s2 ⟨xs,H2,I2,r2,q2⟩=>⟨x :: xs,H2,I2,.cons r1 r2,q2⟩
def tTup (t:TA):TE:=λσ H Q=>t σ H λxs H1=>xs.length<=sizeLine/\∀p,H1 p=none->Q (.ref p) (upd H1 p (.tup xs))
def tLst (t:TA):TE:=λσ H Q=>t σ H λxs H1=>xs.length<=sizeLine/\∀p,H1 p=none->Q (.ref p) (upd H1 p (.lst xs))
theorem gR {x1} (h:PA X es t):PE X (.Tuple es x1 pos) (tTup t):=by
 intro pins s σ H Q I hq;refine wpAny_Tuple_spliced (thn (h pos pins s σ H _ I hq) λus s1 ⟨xs,H1,I1,r,z,q⟩=>⟨by rw [<-r.length];exact z,?_⟩);have hf:H1 s1.heap.objs.size=none:=I1.hok.fresh (AN _);refine ⟨.ref s1.heap.objs.size,upd H1 s1.heap.objs.size (.tup xs),I1.laid (t':=s1.toks) (λb u e=>AJ _ e) (AN _) ?_,rfl,q _ hf⟩;exact ⟨⟨z,⟨_,Aj _ rfl,rfl⟩⟩,us,r,⟨_,Aj _ rfl,rfl,_,rfl⟩⟩
theorem gY (h:PA X es t):PE X (.List es pos) (tLst t):=by
 intro pins s σ H Q I hq;refine wpAny_List_spliced (thn (h pos pins s σ H _ I hq) λus s1 ⟨xs,H1,I1,r,z,q⟩=>⟨by rw [<-r.length];exact z,?_⟩);have hf:H1 s1.heap.objs.size=none:=I1.hok.fresh (AN _);refine ⟨.ref s1.heap.objs.size,upd H1 s1.heap.objs.size (.lst xs),I1.laid (t':=s1.toks) (λb u e=>AJ _ e) (AN _) ?_,rfl,q _ hf⟩;exact ⟨z,us,0,r,Aj _ rfl⟩
end
abbrev Sp:=List V->Hp->VK->XK->Prop
abbrev CXT:=List Env->Hp->AG->XK->AC->AG->Prop
structure Uu (P:Ak) (w:A9) (K:AA) (mg:Str->Option AC) (base:Bw) (A:BB) (outer:List Env) (s:AG) (H:Hp):Prop where
 frames:A.frames=some outer
 mod:Mod K mg base
 bs:∀b o,base.get? b=some o->s.heap.get? b=some o/\H b=none
 bsz:base.objs.size<=s.heap.objs.size
 funs:s.heap.FunFrames base outer
 frf:∀b∈frs outer,H b=none
 hok:HOk P w H s.heap
 bare:Ip s.gens
def CE (outer:List Env) (P:Ak) (w:A9) (H:Hp) (s:AG) (Q:VK) (u:AC) (s':AG):Prop:=
 ∃v H',s'.os=s.os/\Ip s'.gens/\Un (frs outer) [] H H' s.heap s'.heap/\HOk P w H' s'.heap/\RelV v u/\Q v H'
def CR (CX:CXT) (outer:List Env) (P:Ak) (w:A9) (H:Hp) (s:AG) (Q:VK) (E:XK) (r:em) (s':AG):Prop:=
 match r with
 | .ok (.ret u)=>CE outer P w H s Q u s'
 | .ok _=>False
 | .error e=>CX outer H s E e s'
structure DX (P:Ak) (w:A9) (K:AA) (mg:Str->Option AC) (base:Bw) (CX:CXT) (k:Nat) (f:AK) (fd:DN) (ps:List Str) (sp:Sp):Prop where
 len:∀vs H Q E,sp vs H Q E->vs.length=ps.length
 run:∀(A:BB) (outer:List Env) (s:AG) (H:Hp) (args:Args) (us:List AC) (vs:List V) (Q:VK) (E:XK),HG k A->Uu P w K mg base A outer s H->Tg s fd args (ps.zip us)->Bi vs us->sp vs H Q E ->
  Kw (Ac P w) A (.call (.ref f) args) (CR CX outer P w H s Q E) s
theorem DX.imp {P:Ak} {w:A9} {K:AA} {mg:Str->Option AC} {base:Bw} {CX:CXT} {k:Nat} {f:AK} {fd:DN} {ps:List Str} {sp sp':Sp} (F:DX P w K mg base CX k f fd ps sp)
  (h:∀vs H Q E,sp' vs H Q E->sp vs H Q E):DX P w K mg base CX k f fd ps sp':=
 ⟨λvs H Q E q=>F.len vs H Q E (h _ _ _ _ q),λA outer s H args us vs Q E hr he hb hv hs=>F.run A outer s H args us vs Q E hr he hb hv (h _ _ _ _ hs)⟩
theorem Uu.make {P:Ak} {w:A9} {K:AA} {mg:Str->Option AC} {base:Bw} {A:BB} {outer:List Env} {s:AG} {H:Hp} (e:Uu P w K mg base A outer s H) (C:AK) (us:List AC) (kw:List (Str×AC)) :
  Uu P w K mg base (A.under (.builtin "type.__call__" ⟨.ref C :: us,kw⟩)) outer s H:=⟨by first | exact e.frames | (simpa [Rx,Code.envs,Tf,pushEnvs] using e.frames),e.mod,e.bs,e.bsz,e.funs,e.frf,e.hok,e.bare⟩
section
variable {X:Cx} {pins:List (AK×Obj)} {σ:St} {H:Hp} {s s':AG}
theorem Inv.env0 (I:Inv X pins σ H s):Uu X.prog X.w X.K X.mg X.base X.A X.stack s H:=
 ⟨I.ok.frames,I.ok.mod,I.bs,A0 I.ok.bsz I.sz,I.stack,I.stkFree,I.hok,I.bare⟩
theorem Inv.after {Q:VK} {u:AC} (I:Inv X pins σ H s) (h:CE X.stack X.prog X.w H s Q u s'):EP X pins σ Q u s':=by
 obtain ⟨v,H',os,bare,un,hok,r,q⟩:=h;obtain ⟨hh,g,d,t,os'⟩:=s';obtain rfl:os'=s.os:=os;exact ⟨v,H',I.call (h':=hh) (g':=g) (d':=d) (t':=t) (ch:=[]) un hok bare (λb z=>zX z (by simp)),r,q⟩
end
def jk (sp:Sp) (dvs:List V) (E:St->XK) (t:TA):TE:=λσ H Q=>t σ H λvs H1=>sp (vs++dvs) H1 Q (E σ)
def jd (C:AK) (sp:Sp) (dvs:List V) (E:St->XK) (t:TA):TE:=λσ H Q=>t σ H λvs H1=>∀x dx,H1 x=none->H1 dx=none->dx≠x ->
 sp (.ref x :: (vs++dvs)) (upd (upd H1 dx (.own x)) x (.ins C dx [])) (λv H2=>v=.non/\Q (.ref x) H2) (E σ)
def Binds (K:AA) (fd:DN) (ps:List Str) (ds:List AC):Prop:=
 ∀(s:AG) (us:List AC),K.In s.heap->(us++ds).length=ps.length->Tg s fd ⟨us,[]⟩ (ps.zip (us++ds))
theorem Binds.all {K:AA} {fd:DN} {ps:List Str} (h:∀us:List AC,us.length=ps.length->bindArgs fd ⟨us,[]⟩=pure (ps.zip us)):Binds K fd ps []:=λs us _ hl=>by
 rw [BQ] at hl ⊢;exact .of_eq (h us hl)
def LN (CX:CXT) (X:Cx) (E:St->XK):Prop:=∀(pins:List (AK×Obj)) (σ:St) (H:Hp) (s:AG) (e:AC) (s':AG),Inv X pins σ H s->CX X.stack H s (E σ) e s'->X.xe e s'
section
variable {X:Cx} {CX:CXT} {k:Nat} {f C:AK} {fd:DN} {ps:List Str} {sp:Sp} {dvs:List V} {ds:List AC} {E:St->XK} {x m:Str} {p pos apos:Pos} {e o:Expr} {es:List Expr} {ta:TE} {t:TA}
theorem ft {pins:List (AK×Obj)} {σ:St} {H:Hp} {s:AG} {Q:VK} {us:List AC} {vs:List V} (F:DX X.prog X.w X.K X.mg X.base CX k f fd ps sp) (hr:HG k X.A) (hb:Binds X.K fd ps ds) (hd:Bi dvs ds) (hx:LN CX X E)
  (I:Inv X pins σ H s) (r:Bi vs us) (h:sp (vs++dvs) H Q (E σ)):Aq (Ac X.prog X.w) X.A (call (.ref f) us) (EP X pins σ Q) X.xe s:=by
 have r2:Bi (vs++dvs) (us++ds):=r.append hd
 have hl:(us++ds).length=ps.length:=by rw [<-r2.length];exact F.len _ _ _ _ h
 refine eX (Ik (F.run X.A X.stack s H ⟨us,[]⟩ (us++ds) (vs++dvs) Q (E σ) hr I.env0 (hb s us I.kIn hl) r2 h) λr s' hq=>?_)
 cases r with
 | error e=>exact hx pins σ H s e s' I hq
 | ok fl=>
  cases fl with
  | ret u=>exact I.after hq
  | next=>exact De hq
  | brk=>exact De hq
  | cont=>exact De hq
theorem cJ (F:DX X.prog X.w X.K X.mg X.base CX k f fd ps sp) (hr:HG k X.A) (hg:Gl X x) (hm:X.mg x=some (.ref f)) (hk:Fj X.K (.ref f)=true) (hb:Binds X.K fd ps ds) (hd:Bi dvs ds) (hx:LN CX X E)
  (ha:PA X (e :: es) t) (hdb:(x==("__debug__" : Str))=false:=by decide) (he:AS (e :: es) X.env=(false,Br e X.env) :: AS es X.env:=by rfl) (hpl:(DQ pos (AS es X.env)).any (·.1)=false:=by rfl) :
  PE X (.Call (.Name x p) (e :: es) [] pos) (jk sp dvs E t):=by
 intro pins s σ H Q I h;refine DY (RI I hg hm ?_ hdb);refine Tp (h₀:=X.base) I.ok.mod.kin hk (thn (ha pos pins s σ H _ I h) λus s1 ⟨vs,H1,I1,r,q⟩=>⟨I1.kIn,?_⟩) he hpl;exact ft F hr hb hd hx I1 r q
structure Mk (K:AA) (C f:AK):Prop where
 makes:Xq K C=true
 init:Dj K (.ref C) "__init__" = some (some (.ref f))
 fn:PySem.W.isFn K (.ref f)=true
 kp:Fj K (.ref C)=true
theorem Yd {pins:List (AK×Obj)} {σ:St} {H:Hp} {s:AG} {Q:VK} {us:List AC} {vs:List V} (M:Mk X.K C f) (F:DX X.prog X.w X.K X.mg X.base CX k f fd ps sp) (hr:HG (k+1) X.A) (hb:Binds X.K fd ps ds) (hd:Bi dvs ds)
  (hx:LN CX X E) (I:Inv X pins σ H s) (r:Bi vs us)
  (h:∀x dx,H x=none->H dx=none->dx≠x->sp (.ref x :: (vs++dvs)) (upd (upd H dx (.own x)) x (.ins C dx [])) (λv H2=>v=.non/\Q (.ref x) H2) (E σ)) :
  Aq (Ac X.prog X.w) X.A (call (.ref C) us) (EP X pins σ Q) X.xe s:=by
 have hq:=h (s.heap.objs.size+1) s.heap.objs.size (I.hok.fresh (HJ _)) (I.hok.fresh (AN _)) (Am (DM _));have I2:=Inv.made (C:=C) I;have r2:Bi (V.ref (s.heap.objs.size+1) :: (vs++dvs)) (A7 (s.heap.objs.size+1) :: (us++ds)):=.cons rfl (r.append hd)
 have hl:(A7 (s.heap.objs.size+1) :: us++ds).length=ps.length:=by
  have e:=r2.length;rw [F.len _ _ _ _ hq] at e;exact e.symm
 refine eX (ZH (f:=f) I.kIn M.makes M.init (beq_iff_eq.mp M.fn) (Ik (F.run _ X.stack _ _ ⟨A7 (s.heap.objs.size+1) :: us,[]⟩ (A7 (s.heap.objs.size+1) :: (us++ds)) _ _ (E σ) (hr.make C us [])
  (I2.env0.make C us []) (hb _ (A7 (s.heap.objs.size+1) :: us) I2.kIn hl) r2 hq) λr s' hq'=>?_))
 cases r with
 | error e=>exact hx pins σ _ _ e s' I2 hq'
 | ok fl=>
  cases fl with
  | ret u=>
   obtain ⟨v,H',I3,rv,ev,q3⟩:=I2.after hq';subst ev;exact ⟨rv,⟨V.ref (s.heap.objs.size+1),H',I3,rfl,q3⟩⟩
  | next=>exact De hq'
  | brk=>exact De hq'
  | cont=>exact De hq'
theorem cC (M:Mk X.K C f) (F:DX X.prog X.w X.K X.mg X.base CX k f fd ps sp) (hr:HG (k+1) X.A) (hg:Gl X x) (hm:X.mg x=some (.ref C)) (hb:Binds X.K fd ps ds) (hd:Bi dvs ds) (hx:LN CX X E)
  (ha:PA X (e :: es) t) (hdb:(x==("__debug__" : Str))=false:=by decide) (he:AS (e :: es) X.env=(false,Br e X.env) :: AS es X.env:=by rfl) (hpl:(DQ pos (AS es X.env)).any (·.1)=false:=by rfl) :
  PE X (.Call (.Name x p) (e :: es) [] pos) (jd C sp dvs E t):=by
 intro pins s σ H Q I h;refine DY (RI I hg hm ?_ hdb);refine Tp (h₀:=X.base) I.ok.mod.kin M.kp (thn (ha pos pins s σ H _ I h) λus s1 ⟨vs,H1,I1,r,q⟩=>⟨I1.kIn,?_⟩) he hpl;exact Yd M F hr hb hd hx I1 r q
end
section
variable {X:Cx} {CX:CXT} {k:Nat} {f C:AK} {fd:DN} {ps ks:List Str} {sp:Sp} {E:St->XK} {x m:Str} {p pos apos kpos:Pos} {e o:Expr} {es:List Expr} {kws:List Io} {te ta:TE} {t tk:TA} {nm:Option Str}
variable {g:List AC->List AC->List AC} {gV:List V->List V->List V}
end
structure Bq (N P:List Str) (sc:IB):Prop where
 kind:sc.kind=.function
 co:sc.isCoroutine=false
 gen:sc.isGenerator=false
 nd:N.Nodup
 pre:N.take P.length=P
 par:∀x∈P,sc.names.lookup x=some .local∨sc.names.lookup x=some .cell
 nofree:∀y∈sc.names,y.2≠.free
theorem QX {kindOf:Str->Option Pb} {x:Str}:∀ {binds:List (Str×AC)} {m:Str->Option AC},(∀v,(x,v)∉binds)->Xo kindOf binds m x=m x
 | [],_,_=>rfl
 | (n,v) :: r,m,h=>by
  unfold Xo;rw [QX λw hw=>h w (Ag _ hw)];split
  ·have:x≠n:=by rintro rfl;exact h v A1
   simp [this]
  ·rfl
theorem QZ {kindOf:Str->Option Pb} {x:Str}:∀ {binds:List (Str×AC)} {m:Str->Option AC},(∀v,(x,v)∉binds)->Xp kindOf binds m x=m x
 | [],_,_=>rfl
 | (n,v) :: r,m,h=>by
  unfold Xp;rw [QZ λw hw=>h w (Ag _ hw)];split
  ·rfl
  ·have:x≠n:=by rintro rfl;exact h v A1
   simp [this]
theorem QY {kindOf:Str->Option Pb} {x:Str} {v:AC}:∀ {P:List Str} {vs:List AC} {i:Nat} {m:Str->Option AC},P.Nodup->P[i]?=some x->vs[i]?=some v->kindOf x=some .local ->
  Xo kindOf (P.zip vs) m x=some v
 | [],_,_,_,_,h,_,_=>by simp at h
 | _ :: _,[],_,_,_,_,h,_=>by simp at h
 | p :: P,w :: vs,0,m,nd,h1,h2,hk=>by
  simp at h1 h2;subst h1;subst h2;show Xo kindOf ((p,w) :: P.zip vs) m p=_;unfold Xo;rw [QX λv hv=>(CO.mp nd).1 (PN hv).1,qX hk];simp
 | p :: P,w :: vs,i+1,m,nd,h1,h2,hk=>by
  show Xo kindOf ((p,w) :: P.zip vs) m x=_;unfold Xo;exact QY (i:=i) (CO.mp nd).2 (by simpa using h1) (by simpa using h2) hk
theorem Qa {kindOf:Str->Option Pb} {x:Str} {v:AC}:∀ {P:List Str} {vs:List AC} {i:Nat} {m:Str->Option AC},P.Nodup->P[i]?=some x->vs[i]?=some v->kindOf x≠some .local ->
  Xp kindOf (P.zip vs) m x=some v
 | [],_,_,_,_,h,_,_=>by simp at h
 | _ :: _,[],_,_,_,_,h,_=>by simp at h
 | p :: P,w :: vs,0,m,nd,h1,h2,hk=>by
  simp at h1 h2;subst h1;subst h2;show Xp kindOf ((p,w) :: P.zip vs) m p=_;unfold Xp;rw [QZ λv hv=>(CO.mp nd).1 (PN hv).1,qY hk];simp
 | p :: P,w :: vs,i+1,m,nd,h1,h2,hk=>by
  show Xp kindOf ((p,w) :: P.zip vs) m x=_;unfold Xp;exact Qa (i:=i) (CO.mp nd).2 (by simpa using h1) (by simpa using h2) hk
def start (N:List Str) (vs:List V):St:=vs.map some++BU (N.length - vs.length) none
def Uh (CX:CXT) (P:Ak) (w:A9) (K:AA) (mg:Str->Option AC) (base:Bw) (N:List Str) (qual:Str) (scope:IB) (f:AK) (cd:AC) (A:BB) (outer:List Env) (s:AG) (H:Hp) (E:XK):Cx where
 prog:=P
 w:=w
 K:=K
 mg:=mg
 base:=base
 A:=A.deeper (Kv qual scope s.heap.objs.size f cd)
 N:=N
 s₀:=s
 H₀:=H
 env:=Kv qual scope s.heap.objs.size f cd
 outer:=outer
 stack:=Kv qual scope s.heap.objs.size f cd :: outer
 ex:=[]
 calm:=true
 fn:=λ_=>true
 pn:=[]
 xe:=λe s'=>Aq (Ac P w) (A.deeper (Kv qual scope s.heap.objs.size f cd)) (leaving (Kv qual scope s.heap.objs.size f cd) e) (λ_ s''=>CX outer H s E e s'') (λe' s''=>CX outer H s E e' s'') s'
theorem TR {sc:IB} {n:Nat} {x:Str} (h:sc.names.lookup x=some .cell):∃c,(jP n sc.names []).lookup x=some c:=by
 have q:=Qk sc.names n [] (.inl h);exact Ig.mp q
theorem XJ {CX:CXT} {P:Ak} {w:A9} {K:AA} {mg:Str->Option AC} {base:Bw} {N ps:List Str} {qual:Str} {scope:IB} {f:AK} {cd:AC} {A:BB} {outer:List Env} {s s1:AG} {H:Hp} {E:XK} {us:List AC} {vs:List V}
  (S:Bq N ps scope) (hd:A.handled=none) (e0:Uu P w K mg base A outer s H) (hl:vs.length=ps.length) (r:Bi vs us)
  (x:InCallC s s.heap.objs.size (Xo (Kv qual scope s.heap.objs.size f cd).kindOf (ps.zip us) λ_=>none) (jP (s.heap.objs.size+1) scope.names []) (Xp (Kv qual scope s.heap.objs.size f cd).kindOf (ps.zip us) λ_=>none) s1) :
  Inv (Uh CX P w K mg base N qual scope f cd A outer s H E) [] (start N vs) H s1:=by
 have hpl:ps.length<=N.length:=by have:=congrArg Fk S.pre;rw [Dy] at this;lia
 obtain ⟨h1,tk,rfl,hk⟩:=x.done
 have noA:∀b:AK,b∉(Uh CX P w K mg base N qual scope f cd A outer s H E).ex:=λb z=>zX (show b∈([]:List AK) from z) (by simp)
 refine ⟨⟨e0.mod,S.kind,rfl,rfl,AN _,λy z c h1 h2=>?_,λy hy=>?_,λy c _ h=>?_,λ_=>hd,BB.frames_deeper e0.frames,.inr ⟨rfl,rfl⟩,λb z=>zX z (noA b),e0.bs,e0.bsz,λb _ _=>noA b,λb z=>zX z (noA b),e0.funs,e0.frf⟩,
  rfl,e0.bare,Un.kept hk,⟨_,x.toInCall.ns,λi y v h1 h2 h3=>?_⟩,λy c h=>⟨_,x.cell y c h⟩,e0.hok.fresh (AN _),λy c h=>?_,λp hp=>zX (show p∈([]:List (AK×Obj)) from hp) (by simp),e0.hok.kept hk,?_⟩
 ·exact name_of_addr x.apart (Du h1) (Du h2)
 ·have hy:scope.names.lookup y=some .cell∨scope.names.lookup y=some .free:=hy
  rcases hy with hy | hy
  ·exact TR hy
  ·exact zX rfl (S.nofree _ (Du hy))
 ·exact Nc (x.above y c (Du h))
 ·have hi:i < vs.length:=by
   unfold start at h2
   by_cases hi:i < vs.length
   ·exact hi
   ·rw [BE (by simpa using hi)] at h2
    rw [Cy] at h2
    split at h2 <;> cases h2
  have ha:vs[i]?=some v:=by
   unfold start at h2;rw [Ab (by simpa using hi),AO] at h2
   cases e:vs[i]? with
   | none=>rw [e] at h2;cases h2
   | some a=>rw [e] at h2;cases h2;rfl
  obtain ⟨u,hu,rv⟩:=r.get ha
  have hp:ps[i]?=some y:=by
   rw [<-S.pre,Ru (by lia)];exact h1
  have ndP:ps.Nodup:=by rw [<-S.pre];exact S.nd.sublist (X1 _ _)
  refine ⟨u,rv,?_⟩
  rcases S.par y (BD hp) with k | k
  ·exact .inl ⟨k,QY ndP hp hu k⟩
  ·obtain ⟨c,e⟩:=TR (n:=s.heap.objs.size+1) k
   refine .inr ⟨.inl k,c,e,?_⟩;have q:=x.cell y c e;rw [Qa ndP hp hu (by show scope.names.lookup y≠_;rw [k];decide)] at q;exact q
 ·exact e0.hok.fresh (Nc (x.above y c (Du h)))
 ·unfold start
  show _=N.length;rw [Ah,AE,KP]
  lia
theorem kX {CX:CXT} {P:Ak} {w:A9} {K:AA} {mg:Str->Option AC} {base:Bw} {k:Nat} {f:AK} {name qual:Str} {params:Arguments} {body:List Cc} {scope:IB} {dV kV doc pm cdv ct oc:AC} {an od:Option AK}
  {osl:Array (Option AC)} {N ps:List Str} {sp:Sp} (lk:K.lookup f=some ⟨oc,od,.func (HI name qual params body scope dV kV doc pm an cdv ct),osl⟩) (hcd:OC K cdv qual=true) (S:Bq N ps scope)
  (len:∀vs H Q E,sp vs H Q E->vs.length=ps.length)
  (hbody:∀(A:BB) (outer:List Env) (s:AG) (H:Hp) (vs:List V) (Q:VK) (E:XK),HG k (A.deeper (Kv qual scope s.heap.objs.size f cdv))->sp vs H Q E ->
   ∃t,PSs (Uh CX P w K mg base N qual scope f cdv A outer s H E) body t/\t { nx:=λ_ H'=>Q .non H',rt:=Q } (start N vs) H) :
  DX P w K mg base CX (k+1) f (HI name qual params body scope dV kV doc pm an cdv ct) ps sp:=by
 refine ⟨len,λA outer s H args us vs Q E hr e0 hb r hsp=>?_⟩;have hl:=len _ _ _ _ hsp
 have KX:K.In s.heap:=e0.mod.kin.keeps λb o e=>(e0.bs b o e).1
 have lim:s.heap.NoLimit:=e0.mod.nolimit.keeps λb o e=>(e0.bs b o e).1
 have hkind:∀y∈ps.zip us,scope.names.lookup y.1=some .local∨(scope.names.lookup y.1=some .cell/\((jP (s.heap.objs.size+1) scope.names []).lookup y.1).isSome=true):=λ⟨n,v⟩ hy=>by
  rcases S.par n (PN hy).1 with q | q
  ·exact .inl q
  ·exact .inr ⟨q,Qk _ _ _ (.inl q)⟩
 refine codeAny_call_function hr.depth (KX _ _ lk) rfl S.co S.gen rfl (PySem.W.codeRec_of KX hcd) (hb _ _ _ _ ?_)
 refine wpAny_newFunctionEnv_cells S.kind hkind λenv he s1 x=>?_
 subst he;refine ⟨lim.keeps x.toInCall.keep,codeAny_func ?_⟩;obtain ⟨t,ht,hq⟩:=hbody A outer s H vs Q E (hr.deeper _) hsp;have I:Inv (Uh CX P w K mg base N qual scope f cdv A outer s H E) [] (start N vs) H s1:=XJ S hr.hd e0 hl r x
 refine GJ (ht [] s1 (start N vs) H _ I hq) (λfl s' hs=>?_) λe s' hs=>hs
 have fin:∀ {σ':St} {H':Hp} {v:V} {u:AC},Inv (Uh CX P w K mg base N qual scope f cdv A outer s H E) [] σ' H' s'->RelV v u->Q v H'->CE outer P w H s Q u s':=
  λ{σ' H' v u} J rv q=>⟨v,H',J.os,J.bare,J.base,J.hok,rv,q⟩
 cases fl with
 | ret u=>
  obtain ⟨v,σ',H',J,rv,q⟩:=hs;exact fin J rv q
 | next=>
  obtain ⟨σ',H',J,q⟩:=hs;exact fin (v:=V.non) (u:=Cb) J rfl q
 | brk=>
  obtain ⟨_,_,_,q⟩:=hs;exact De q
 | cont=>
  obtain ⟨_,_,_,q⟩:=hs;exact De q
section
variable {X:Cx} {x:Str} {p pos:Pos} {e:Expr} {es:List Expr} {t:TA} {id T:String} {r:List V->Hp->VK->Prop}
def tCB (r:List V->Hp->VK->Prop) (t:TA):TE:=λσ H Q=>t σ H λvs H1=>r vs H1 Q
theorem J2 (hc:IN X (.builtin id) r) (hg:Gl X x) (hm:X.mg x=none) (hv:Ei x=some (.builtin id)) (ha:PA X (e :: es) t) (hn:x≠"__name__":=by decide) (hdb:(x==("__debug__" : Str))=false:=by decide)
  (he:AS (e :: es) X.env=(false,Br e X.env) :: AS es X.env:=by rfl) (hpl:(DQ pos (AS es X.env)).any (·.1)=false:=by rfl):PE X (.Call (.Name x p) (e :: es) [] pos) (tCB r t):=by
 intro pins s σ H Q I h;refine DY (JR I hg hm hv ?_ hn hdb);exact Kh (thn (ha pos pins s σ H _ I h) λus s1 ⟨vs,H1,I1,r1,q1⟩=>hc pins s1 σ H1 vs us Q I1 r1 q1) he hpl
theorem QH (hc:IN X (.type T) r) (hg:Gl X x) (hm:X.mg x=none) (hv:Ei x=some (.type T)) (ha:PA X (e :: es) t) (hn:x≠"__name__":=by decide) (hdb:(x==("__debug__" : Str))=false:=by decide)
  (he:AS (e :: es) X.env=(false,Br e X.env) :: AS es X.env:=by rfl) (hpl:(DQ pos (AS es X.env)).any (·.1)=false:=by rfl):PE X (.Call (.Name x p) (e :: es) [] pos) (tCB r t):=by
 intro pins s σ H Q I h;refine DY (JR I hg hm hv ?_ hn hdb);exact CL (thn (ha pos pins s σ H _ I h) λus s1 ⟨vs,H1,I1,r1,q1⟩=>hc pins s1 σ H1 vs us Q I1 r1 q1) he hpl
end
end L2
namespace HT
open PySem PyProof.Rows
section
open PySem.SeqAt
open PySem.AutoSeq1 (wpAny_loadPart')
open PySem.MeetsSeq PySem.MeetsSeq2 PySem.MeetsSeq3
end
section
variable {prog:Ak} {w:A9} {A:BB} {E:AC->AG->Prop} {s:AG}
theorem db {t b:AK} {vs ws:List AC} {Q:AC->AG->Prop} (ht:IsTup s.heap t vs.toArray) (hb:IsTup s.heap b ws.toArray) (hv:vs≠[])
  (h1:ws=[]->Q (.ref t) s) (h2:ws≠[]->Q (.ref s.heap.objs.size) { s with heap:=s.heap.push { cls:=.type "tuple",data:=.seq (vs++ws).toArray } })
  (hsz:vs.length+ws.length<=sizeLine):Aq (Ac prog w) A (Ca .Add (.ref t) (.ref b)) Q E s:=by
 obtain ⟨⟨cls,dd,data,sl⟩,ho,hc,n,hd⟩:=id ht;obtain ⟨⟨cls2,dd2,data2,sl2⟩,ho2,hc2,n2,hd2⟩:=id hb;simp only at hc hd hc2 hd2;subst hc hd hc2 hd2
 have e:vs.toArray++ws.toArray=(vs++ws).toArray:=by simp
 by_cases hw:ws=[]
 ·exact X0 ⟨_,ho,rfl⟩ ⟨_,ho2,rfl⟩ Qj WF JE Il (IQ _ _)
   (tuple_addW1 t b vs.toArray ws.toArray n n2 dd dd2 sl sl2 (by simpa using hv) (by simp [hw])) ⟨ho,ho2,h1 hw⟩
 ·refine X0 ⟨_,ho,rfl⟩ ⟨_,ho2,rfl⟩ Qj WF JE Il (IQ _ _)
   (tuple_addW2 t b vs.toArray ws.toArray n n2 dd dd2 sl sl2 (by simpa using hv) (by simpa using hw) (by rw [AY,AY];exact hsz)) ⟨ho,ho2,?_⟩
  rw [e];exact h2 hw
end
end HT
namespace L2
open PySem PySem.Spec PyProof.Rows
abbrev TO:=St->Hp->(Option Int->Hp->Prop)->Prop
def PO (X:Cx) (e:Option Expr) (t:TO):Prop:=
 ∀(pins:List (AK×Obj)) (s:AG) (σ:St) (H:Hp) (Q:Option Int->Hp->Prop),Inv X pins σ H s->t σ H Q ->
  Aq (Ac X.prog X.w) X.A (evalPart e X.env) (λu s'=>∃o H',Inv X pins σ H' s'/\IsPart u o/\Q o H') X.xe s
def bP:TO:=λ_ H Q=>Q none H
def jZ (t:TE):TO:=λσ H Q=>t σ H λx H1=>∃i,x=.int i/\Q (some i) H1
theorem intsAre_of {ns:List Int}:∀ {us:List AC},Bi (ns.map V.int) us->IntsAre us ns:=by
 induction ns with
 | nil=>intro us r;rw [Hy] at r;cases r;exact .nil
 | cons n ns ih=>
  intro us r;rw [Az] at r
  cases r with
  | cons r1 r2=>
   obtain ⟨t,e⟩:=r1;subst e;exact .cons n t (ih r2)
section
variable {κ:Type} [DecidableEq κ]
def JJ (kvs:List (κ×V)) (k:κ):Option V:=(kvs.find? λkv=>decide (kv.1=k)).map (·.2)
def HB (kvs:List (κ×V)) (k:κ) (v:V):List (κ×V):=
 if (kvs.any λkv=>decide (kv.1=k))=true then kvs.map (λkv=>if kv.1=k then (kv.1,v) else kv) else kvs++[(k,v)]
theorem OO {p:κ×V} {r:List (κ×V)} {k:κ} (e:p.1=k):JJ (p :: r) k=some p.2:=by simp [JJ,BP,e]
theorem OP {p:κ×V} {r:List (κ×V)} {k:κ} (e:¬p.1=k):JJ (p :: r) k=JJ r k:=by simp [JJ,BP,e]
theorem SF (k:κ):∀kvs:List (κ×V),(kvs.any λkv=>decide (kv.1=k))=(JJ kvs k).isSome
 | []=>rfl
 | p :: r=>by
  rw [G9]
  by_cases e:p.1=k
  ·simp only [OO e,wX e,Bool.true_or,Option.isSome_some]
  ·rw [OP e,wY e,eu];exact SF k r
theorem J9 (kvs:List (κ×V)) (k:κ) (v:V):(HB kvs k v).length<=kvs.length+1:=by
 unfold HB;split
 ·rw [AE];lia
 ·rw [Ah,A8,HX];lia
theorem NC.isSome_eq {o:Option V} {u:Option AC} (r:NC o u):o.isSome=u.isSome:=by
 cases o with
 | none=>cases u with
  | none=>rfl
  | some _=>exact (show False from r).elim
 | some _=>cases u with
  | none=>exact (show False from r).elim
  | some _=>rfl
theorem KV.val {kvs:List (κ×V)} {vs:List (κ×AC)} (r:KV kvs vs) (k:κ):NC (JJ kvs k) (PU vs k):=by
 unfold KV at r
 induction r with
 | nil=>exact Co
 | @cons p q ps qs h t ih=>
  obtain ⟨h1,h2⟩:=h
  by_cases e:p.1=k
  ·have e':q.1=k:=h1.symm.trans e
   have b:PU (q :: qs) k=some q.2:=by simp [PU,BP,e']
   rw [OO e,b];exact h2
  ·have e':¬q.1=k:=λz=>e (h1.trans z)
   have b:PU (q :: qs) k=PU qs k:=by simp [PU,BP,e']
   rw [OP e,b];exact ih
theorem KV.any {kvs:List (κ×V)} {vs:List (κ×AC)} (r:KV kvs vs) (k:κ):(kvs.any λkv=>decide (kv.1=k))=vs.any λkv=>decide (kv.1=k):=by
 unfold KV at r
 induction r with
 | nil=>rfl
 | cons h t ih=>rw [G9,G9,ih,h.1]
theorem KV.repl {kvs:List (κ×V)} {vs:List (κ×AC)} (r:KV kvs vs) (k:κ) {y:V} {u:AC} (ry:RelV y u) :
  KV (kvs.map λkv=>if kv.1=k then (kv.1,y) else kv) (vs.map λkv=>if kv.1=k then (kv.1,u) else kv):=by
 unfold KV at r ⊢
 induction r with
 | nil=>exact .nil
 | @cons p q ps qs h t ih=>
  rw [Az,Az];refine .cons ?_ ih;obtain ⟨h1,h2⟩:=h
  by_cases e:p.1=k
  ·rw [qX e,qX (h1.symm.trans e)];exact ⟨h1,ry⟩
  ·rw [qY e,qY (λz=>e (h1.trans z))];exact ⟨h1,h2⟩
theorem KV.put {kvs:List (κ×V)} {vs:List (κ×AC)} (r:KV kvs vs) (k:κ) {y:V} {u:AC} (ry:RelV y u):KV (HB kvs k y) (stored vs k u):=by
 unfold HB stored;rw [r.any k]
 by_cases e:(vs.any λkv=>decide (kv.1=k))=true
 ·rw [qX e,qX e];exact r.repl k ry
 ·rw [qY e,qY e];exact Ta r ⟨rfl,ry⟩
theorem KV.length {kvs:List (κ×V)} {vs:List (κ×AC)} (r:KV kvs vs):kvs.length=vs.length:=Db r
end
theorem QO {P:Ak} {w:A9} {k:Key} {u:AC} (r:RelV (kV k) u):(Cn P w).is k u=true:=by
 cases k with
 | inl i=>obtain ⟨t,e⟩:=(show ∃t,u=NY i t from r);subst e;exact Ss P w i t
 | inr x=>obtain ⟨t,e⟩:=(show ∃t,u=NX x t from r);subst e;exact Sr P w x t
theorem QP {P:Ak} {w:A9}:∀ {ks:List Key} {us:List AC},Bi (ks.map kV) us->ItemsAre (Cn P w) ks us
 | [],_,r=>by rw [Hy] at r;cases r;exact .nil
 | k :: ks,_,r=>by
  rw [Az] at r
  cases r with
  | cons h t=>exact .cons (QO h) (QP t)
abbrev KT (H:Hp):List (List Key×V)->List (List Key×AK×AC)->Prop:=E6 λp q=>p.1=q.1/\H q.2.1=some (.tup (p.1.map kV))/\RelV p.2 q.2.2
theorem KT.val {H:Hp} {kvs:List (List Key×V)} {xs:List (List Key×AK×AC)} (r:KT H kvs xs) (k:List Key):NC (JJ kvs k) ((Tn xs k).map (·.2)):=by
 induction r with
 | nil=>exact Co
 | @cons p q ps qs h t ih=>
  obtain ⟨h1,_,h2⟩:=h
  by_cases e:p.1=k
  ·have e':q.1=k:=h1.symm.trans e
   have b:Tn (q :: qs) k=some q.2:=by simp [Tn,BP,e']
   rw [OO e,b];exact h2
  ·have e':¬q.1=k:=λz=>e (h1.trans z)
   have b:Tn (q :: qs) k=Tn qs k:=by simp [Tn,BP,e']
   rw [OP e,b];exact ih
theorem KT.repl {H:Hp} {kvs:List (List Key×V)} {xs:List (List Key×AK×AC)} (r:KT H kvs xs) (k:List Key) {y:V} {u:AC} (ry:RelV y u) :
  KT H (kvs.map λkv=>if kv.1=k then (kv.1,y) else kv) (xs.map (putAt k u)):=by
 induction r with
 | nil=>exact .nil
 | @cons p q ps qs h t ih=>
  rw [Az,Az];refine .cons ?_ ih;obtain ⟨h1,h2,h3⟩:=h;unfold putAt
  by_cases e:p.1=k
  ·rw [qX e,qX (h1.symm.trans e)];exact ⟨h1,h2,ry⟩
  ·rw [qY e,qY (λz=>e (h1.trans z))];exact ⟨h1,h2,h3⟩
theorem KT.put {H:Hp} {kvs:List (List Key×V)} {xs:List (List Key×AK×AC)} (r:KT H kvs xs) (k:List Key) {b:AK} {y:V} {u:AC} (hb:H b=some (.tup (k.map kV))) (ry:RelV y u) :
  KT H (HB kvs k y) (storedH xs k b u):=by
 have e:(kvs.any λkv=>decide (kv.1=k))=(Tn xs k).isSome:=by
  rw [SF,(r.val k).isSome_eq,F0]
 unfold HB storedH;rw [e]
 by_cases q:(Tn xs k).isSome=true
 ·rw [qX q,qX q];exact r.repl k ry
 ·rw [qY q,qY q];exact Ta r ⟨rfl,hb,ry⟩
theorem KT.keeps {H H':Hp} {kvs:List (List Key×V)} {xs:List (List Key×AK×AC)} (r:KT H kvs xs) (ht:∀b ys,H b=some (.tup ys)->H' b=some (.tup ys)):KT H' kvs xs:=
 E6.mapP r λ_ _ z=>⟨z.1,ht _ _ z.2.1,z.2.2⟩
variable {X:Cx} {e:Expr} {te:TE} {lo hi:Option Expr} {tl th:TO} {pos p2:Pos}
theorem bv:PO X none bP:=by
 intro pins s σ H Q I h;rw [evalPart_none];exact AW ⟨none,H,I,.none,h⟩
theorem bu (h:PE X e te):PO X (some e) (jZ te):=by
 intro pins s σ H Q I hw;rw [evalPart_some]
 refine thn (h pins s σ H _ I hw) λu s1 ⟨x,H1,I1,r1,q1⟩=>?_
 obtain ⟨i,rfl,q⟩:=q1;obtain ⟨t,rfl⟩:=r1;exact ⟨some i,H1,I1,.int i t,q⟩
def jt (K:AA):R2:=λx y H Q=>∃a b xs ys,x=.ref a/\y=.ref b/\SqT K H a xs/\SqT K H b ys/\xs≠[]/\xs.length+ys.length<=sizeLine /\
 (ys=[]->Q (.ref a) H)/\(ys≠[]->∀p,H p=none->Q (.ref p) (upd H p (.tup (xs++ys))))
theorem Bi.nil_iff {xs:List V} {us:List AC} (r:Bi xs us):us=[]↔xs=[]:=by
 cases r with
 | nil=>simp
 | cons _ _=>simp
theorem cO:OpR X (Ca .Add) (jt X.K):=by
 intro pins s σ H x y v u Q I rx ry h;obtain ⟨a,b,xs,ys,rfl,rfl,ha,hb,hx,hz,q1,q2⟩:=h;cases rx;cases ry;obtain ⟨its,r1,p1,_⟩:=I.tuple ha;obtain ⟨its2,r2,p2,_⟩:=I.tuple hb;refine HT.db p1 p2 (λz=>hx (r1.nil_iff.mp z)) (λz=>⟨.ref a,H,I,rfl,q1 (r2.nil_iff.mp z)⟩) (λz=>?_) (by rw [<-r1.length,<-r2.length];exact hz);refine ⟨.ref s.heap.objs.size,_,I.laid (t':=s.toks) (o:=.tup (xs++ys)) (λb ob q=>AJ _ q) (AN _) ?_,rfl,q2 (λw=>z (r2.nil_iff.mpr w)) _ (I.hok.fresh (AN _))⟩;exact ⟨⟨by rw [Ah];exact hz,⟨_,Aj _ rfl,rfl⟩⟩,_,r1.append r2,lI _ _⟩
def ixN (n:Nat) (i:Int):Option Nat:=if 0<=i then (if i < n then some i.toNat else none) else if -(n:Int)<=i then some (i+n).toNat else none
def atI {α:Type} (xs:List α) (i:Int):Option α:=(ixN xs.length i).bind λj=>xs[j]?
theorem cj {n:Nat} {i:Int} {j:Nat} (h:ixN n i=some j):seqIndex? i n=some j/\j < n/\-(n:Int)<=i/\i < n:=by
 unfold ixN at h
 by_cases h0:0<=i
 ·rw [qX h0] at h
  by_cases h1:i < n
  ·rw [qX h1] at h
   have e:i.toNat=j:=B6 h;exact ⟨by rw [seqIndex_of h0 h1,e],by lia,by lia,h1⟩
  ·rw [qY h1] at h;cases h
 ·rw [qY h0] at h
  by_cases h1:-(n:Int)<=i
  ·rw [qX h1] at h
   have e:(i+n).toNat=j:=B6 h;exact ⟨by rw [seqIndex_neg (by lia) h1,e],by lia,h1,by lia⟩
  ·rw [qY h1] at h;cases h
theorem V5 {α:Type} {xs:List α} {i:Int} {v:α} (h:atI xs i=some v):∃j,seqIndex? i xs.length=some j/\xs[j]?=some v/\j < xs.length/\-(xs.length:Int)<=i/\i < xs.length:=by
 unfold atI at h
 cases e:ixN xs.length i with
 | none=>rw [e] at h;cases h
 | some j=>
  rw [e] at h;obtain ⟨h1,h2,h3,h4⟩:=cj e;exact ⟨j,h1,h,h2,h3,h4⟩
def Rp (b:Expr):Prop:=∀o i,Rq b false o i=operate [o,i] (Xz o i)
def IxR (X:Cx) (r:R2):Prop:=
 ∀(value slice:Expr) (pins:List (AK×Obj)) (s:AG) (σ:St) (H:Hp) (x y:V) (v u:AC) (Q:VK),Inv X pins σ H s->RelV x v->RelV y u->r x y H Q ->
  Rq slice false v u=operate [v,u] (Xz v u)->Aq (Ac X.prog X.w) X.A (WE value slice v u) (EP X pins σ Q) X.xe s
def MtR (X:Cx) (id:String) (r:V->List V->Hp->VK->Prop):Prop:=
 ∀(pins:List (AK×Obj)) (s:AG) (σ:St) (H:Hp) (x:V) (xs:List V) (v:AC) (us:List AC) (Q:VK),Inv X pins σ H s->RelV x v->Bi xs us->r x xs H Q ->
  Aq (Ac X.prog X.w) X.A (call (.builtin id) (v :: us)) (EP X pins σ Q) X.xe s
section
variable {P:Ak} {w:A9} {H:Hp} {h:Bw} {a:AK}
theorem eC {u:HO} (ok:HOk P w H h) (e:Rd H a u):CM P w H h a u:=e.ok ok
theorem QV {kvs:List (Key×V)} (ok:HOk P w H h) (e:Rd H a (.dK kvs)):kvs.length<=sizeLine/\(a==Cu)=false/\∃vs,KV kvs vs/\h.DictOf (Cn P w) a vs:=
 show CM P w H h a (.dK kvs) from eC ok e
theorem Vy {kvs:List (Key×V)} (ok:HOk P w H h) (e:H a=some (.dK kvs)):kvs.length<=sizeLine/\(a==Cu)=false/\∃vs,KV kvs vs/\h.DictOf (Cn P w) a vs:=QV ok (.inl e)
theorem Oz {ks:List Key} (ok:HOk P w H h) (e:H a=some (.tup (ks.map kV))):(Qg (Cn P w)).is h ks a:=by
 obtain ⟨_,its,r,o,h1,h2,n,h3⟩:=(show CM P w H h a (.tup (ks.map kV)) from ok a _ e);exact ⟨o,its.toArray,n,h1,h2,h3,by simpa using QP r⟩
theorem QU {kvs:List (List Key×V)} (ok:HOk P w H h) (e:Rd H a (.dT kvs)):kvs.length<=sizeLine/\(a==Cu)=false /\
  ∃xs,KT H kvs xs/\h.DictOfH (Qg (Cn P w)) a xs:=by
 obtain ⟨z,y,xs,r,o,es,ep,h1,h2,h3,h4,h5⟩:=(show CM P w H h a (.dT kvs) from eC ok e);refine ⟨z,y,xs,r,o,es,ep,h1,h2,h3,h4,λx hx=>?_,h5⟩
 have all:∀ {l:List (List Key×V)} {m:List (List Key×AK×AC)},KT H l m->∀x∈m,(Qg (Cn P w)).is h x.1 x.2.1:=by
  intro l m q
  induction q with
  | nil=>intro x hx;exact nomatch hx
  | @cons p q ps qs hq t ih=>
   intro x hx
   rcases Ay.mp hx with e | hx
   ·subst e
    exact Oz ok (by rw [<-hq.1];exact hq.2.1)
   ·exact ih x hx
 exact all r x hx
theorem kY {kvs:List (List Key×V)} (ok:HOk P w H h) (e:H a=some (.dT kvs)):kvs.length<=sizeLine/\(a==Cu)=false /\
  ∃xs,KT H kvs xs/\h.DictOfH (Qg (Cn P w)) a xs:=QU ok (.inl e)
end
def MQ (H:Hp) (a:AK) (y:V) (r:Option V):Prop:=
 (∃kvs k,Rd H a (.dK kvs)/\y=kV k/\r=JJ kvs k)∨∃kvs k b,Rd H a (.dT kvs)/\y=.ref b/\H b=some (.tup (k.map kV))/\r=JJ kvs k
def TY (H:Hp) (a:AK) (y v:V) (H':Hp):Prop:=
 (∃kvs k,H a=some (.dK kvs)/\y=kV k/\kvs.length < sizeLine/\H'=upd H a (.dK (HB kvs k v))) ∨
 ∃kvs k b,H a=some (.dT kvs)/\y=.ref b/\H b=some (.tup (k.map kV))/\kvs.length < sizeLine/\H'=upd H a (.dT (HB kvs k v))
theorem MQ.k {H:Hp} {a:AK} {kvs:List (Key×V)} {k:Key} (e:H a=some (.dK kvs)):MQ H a (kV k) (JJ kvs k):=.inl ⟨kvs,k,.inl e,rfl,rfl⟩
theorem MQ.t {H:Hp} {a b:AK} {kvs:List (List Key×V)} {k:List Key} (e:H a=some (.dT kvs)) (eb:H b=some (.tup (k.map kV))):MQ H a (.ref b) (JJ kvs k):=.inr ⟨kvs,k,b,.inl e,rfl,eb,rfl⟩
theorem TY.k {H:Hp} {a:AK} {kvs:List (Key×V)} {k:Key} {v:V} (e:H a=some (.dK kvs)) (hl:kvs.length < sizeLine):TY H a (kV k) v (upd H a (.dK (HB kvs k v))):=.inl ⟨kvs,k,e,rfl,hl,rfl⟩
theorem TY.t {H:Hp} {a b:AK} {kvs:List (List Key×V)} {k:List Key} {v:V} (e:H a=some (.dT kvs)) (eb:H b=some (.tup (k.map kV))) (hl:kvs.length < sizeLine) :
  TY H a (.ref b) v (upd H a (.dT (HB kvs k v))):=.inr ⟨kvs,k,b,e,rfl,eb,hl,rfl⟩
variable {X:Cx} {a b:Expr} {ta tb:TE} {pos:Pos}
theorem IxR.or {r r':R2} (h:IxR X r) (h':IxR X r'):IxR X (λx y H Q=>r x y H Q∨r' x y H Q):=by
 intro value slice pins s σ H x y v u Q I rx ry q hs
 rcases q with q | q
 ·exact h value slice pins s σ H x y v u Q I rx ry q hs
 ·exact h' value slice pins s σ H x y v u Q I rx ry q hs
theorem jy {r:R2} (hr:IxR X r) (ha:PE X a ta) (hb:PE X b tb) (hs:Rp b):PE X (.Subscript a b pos) (tOp r ta tb):=by
 intro pins s σ H Q I h;exact ej (ip ha hb I h λv u s2 x y H2 I2 rx ry q=>hr a b pins s2 σ H2 x y v u Q I2 rx ry q (hs _ _))
def rIxL (K:AA):R2:=λx y H Q=>∃p xs i v,x=.ref p/\y=.int i/\SqL K H p xs/\atI xs i=some v/\Q v H
def rIxT (K:AA):R2:=λx y H Q=>∃p xs i v,x=.ref p/\y=.int i/\SqT K H p xs/\atI xs i=some v/\Q v H
theorem ix_list:IxR X (rIxL X.K):=by
 intro value slice pins s σ H x y v u Q I rx ry h hs;obtain ⟨p,xs,i,z,rfl,rfl,hq,he,q⟩:=h;cases rx;obtain ⟨t,rfl⟩:=ry;obtain ⟨its,r,pl,hz⟩:=I.list hq;obtain ⟨j,h1,h2,h3,h4,h5⟩:=V5 he;obtain ⟨w,ew,rw'⟩:=r.get h2;have hl:=r.length;have hn:=RH;have fin:EP X pins σ Q w s:=⟨z,H,I,rw',q⟩
 by_cases h0:0<=i
 ·have hj:i.toNat=j:=by
   rw [seqIndex_of h0 h5] at h1;exact B6 h1
  exact item_listR pl.isList h0 (by lia) (by rw [hj];simpa using ew) fin hs
 ·have hj:(i+(its.toArray.size:Int)).toNat=j:=by
   rw [seqIndex_neg (by lia) h4] at h1;rw [AY,<-hl];exact B6 h1
  exact Xw (x:=w) pl.isList.typeIs i8.lookup
   (wpAny_getItem_list_neg (Q:=λr s'=>r=w/\EP X pins σ Q r s') pl.isList (by lia) (by rw [AY] <;> lia) (by lia) (by rw [hj];simpa using ew) ⟨rfl,fin⟩) hs
theorem iH:IxR X (rIxT X.K):=by
 intro value slice pins s σ H x y v u Q I rx ry h hs;obtain ⟨p,xs,i,z,rfl,rfl,hq,he,q⟩:=h;cases rx;obtain ⟨t,rfl⟩:=ry;obtain ⟨its,r,pl,hz⟩:=I.tuple hq;obtain ⟨j,h1,h2,h3,h4,h5⟩:=V5 he;obtain ⟨w,ew,rw'⟩:=r.get h2;have hl:=r.length;have hn:=RH;have fin:EP X pins σ Q w s:=⟨z,H,I,rw',q⟩
 exact Xw (x:=w) pl.typeIs slot_tuple_getitem.lookup
  (getItem_tuple (j:=j) (Q:=λr s'=>r=w/\EP X pins σ Q r s') pl (by lia) (by lia) (by rw [AY,<-hl];exact h1) (by simpa using ew) ⟨rfl,fin⟩) hs
theorem Re:IN X (.builtin "len") (λxs H Q=>∃p ys,xs=[.ref p]/\(SqL X.K H p ys∨SqT X.K H p ys)/\Q (.int ys.length) H):=by
 intro pins s σ H xs us Q I r h;obtain ⟨p,ys,rfl,hq,q⟩:=h;obtain ⟨u,rfl,rx⟩:=vals1 r;cases rx;have hn:=RH
 rcases hq with hq | hq
 ·obtain ⟨its,r',pl,hz⟩:=I.list hq
  have hlen:=r'.length;exact Calls.call_len_list pl.isList (by simp only [AY] <;> lia) ⟨.int ys.length,H,I.tok _,⟨s.toks+1,by rw [AY,hlen]⟩,q⟩
 ·obtain ⟨its,r',pl,hz⟩:=I.tuple hq
  have hlen:=r'.length;exact len_tuple pl (by simp only [AY] <;> lia) ⟨.int ys.length,H,I.tok _,⟨s.toks+1,by rw [AY,hlen]⟩,q⟩
theorem Rc:IN X (.type "list") (λxs H Q=>∃p ys,xs=[.ref p]/\(SqL X.K H p ys∨SqT X.K H p ys)/\∀l,H l=none->Q (.ref l) (upd H l (.lst ys))):=by
 intro pins s σ H xs us Q I r h;obtain ⟨p,ys,rfl,hq,q⟩:=h;obtain ⟨u,rfl,rx⟩:=vals1 r;cases rx
 have fin:∀(its:List AC),Bi ys its->ys.length<=sizeLine->∀(h':Bw) (c':Nat),(∀b o',s.heap.get? b=some o'->h'.get? b=some o') ->
   h'.get? s.heap.objs.size=some { cls:=.type "list",dict:=none,data:=.seq its.toArray c',slots:=#[] }->EP X pins σ Q (.ref s.heap.objs.size) { s with heap:=h' }:=λits r' hz h' c' kp e=>
  ⟨.ref s.heap.objs.size,_,I.laid (t':=s.toks) kp (AN _) (show CM X.prog X.w _ h' _ (.lst ys) from ⟨hz,its,c',r',e⟩),rfl,q _ (I.hok.fresh (AN _))⟩
 rcases hq with hq | hq
 ·obtain ⟨its,r',pl,hz⟩:=I.list hq
  have hlen:=r'.length;obtain ⟨o,ho,hc,n,hd⟩:=pl.isList;exact call_list_seq p (.inl rfl) ho hc hd (λh' c' kp e=>fin its r' hz h' c' kp e) (by simp only [AY] <;> lia)
 ·obtain ⟨its,r',pl,hz⟩:=I.tuple hq
  have hlen:=r'.length;obtain ⟨o,ho,hc,n,hd⟩:=pl;exact call_list_seq p (.inr rfl) ho hc hd (λh' c' kp e=>fin its r' hz h' c' kp e) (by simp only [AY] <;> lia)
theorem Pz:IN X (.type "tuple") (λxs H Q=>∃p ys,xs=[.ref p]/\((SqL X.K H p ys/\∀l,H l=none->Q (.ref l) (upd H l (.tup ys)))∨(SqT X.K H p ys/\Q (.ref p) H))):=by
 intro pins s σ H xs us Q I r h;obtain ⟨p,ys,rfl,h⟩:=h;obtain ⟨u,rfl,rx⟩:=vals1 r;cases rx
 rcases h with ⟨hq,q⟩ | ⟨hq,q⟩
 ·obtain ⟨its,r',pl,hz⟩:=I.list hq
  have hlen:=r'.length;refine call_tuple_list pl.isList (λh' kp=>?_) (by simp only [AY] <;> lia);have I1:Inv X pins σ H { s with heap:=h' }:=I.kept (t':=s.toks) kp
  have I2:Inv X pins σ (upd H h'.objs.size (.tup ys)) { s with heap:=h'.push { cls:=.type "tuple",data:=.seq its.toArray } }:=
   I1.laid (t':=s.toks) (λb o e=>AJ _ e) (AN _) (show CM X.prog X.w _ _ _ (.tup ys) from ⟨⟨hz,⟨_,Aj _ rfl,rfl⟩⟩,its,r',lI _ _⟩)
  exact ⟨.ref h'.objs.size,_,I2,rfl,q _ (I1.hok.fresh (AN _))⟩
 ·obtain ⟨its,r',pl,hz⟩:=I.tuple hq
  exact call_tuple_same pl ⟨.ref p,H,I,rfl,q⟩
def tyV (K:AA) (T:String) (x:V) (H:Hp):Prop:=match x with
 | .str _=>T = "str"
 | .int _=>T = "int"
 | .ref p=>(T = "list"/\∃xs,SqL K H p xs)∨(T = "tuple"/\∃o,K.lookup p=some o/\o.cls=.type "tuple"/\o.dict=none) ∨
   (T = "dict"/\((∃kvs,H p=some (.dK kvs))∨∃kvs,H p=some (.dT kvs)))∨(T = "set"/\∃S n,H p=some (.set S n))
 | _=>False
theorem YM {pins:List (AK×Obj)} {σ:St} {H:Hp} {s:AG} {T:String} {x:V} {v:AC} (I:Inv X pins σ H s) (r:RelV x v) (ty:tyV X.K T x H) :
  s.TypeIs v T/\∀a,v=.ref a->∃ob,s.heap.get? a=some ob/\ob.dict=none:=by
 cases x with
 | str z=>
  obtain ⟨t,rfl⟩:=r;cases (show T = "str" from ty);exact ⟨typeIs_str s z t,λ_ e=>nomatch e⟩
 | int i=>
  obtain ⟨t,rfl⟩:=r;cases (show T = "int" from ty);exact ⟨typeIs_int s i t,λ_ e=>nomatch e⟩
 | ref p=>
  cases r
  rcases ty with ⟨rfl,xs,hq⟩ | ⟨rfl,o,hk,hc,hd⟩ | ⟨rfl,hk⟩ | ⟨rfl,S,n,hk⟩
  ·obtain ⟨its,_,pl,_⟩:=I.list hq
   refine ⟨pl.isList.typeIs,λa e=>?_⟩;cases e;obtain ⟨o,n,e,c,hd,_⟩:=pl;exact ⟨o,e,hd⟩
  ·refine ⟨⟨o,I.kIn p o hk,hc⟩,λa e=>?_⟩
   cases e;exact ⟨o,I.kIn _ o hk,hd⟩
  ·have z:∃o,s.heap.get? p=some o/\o.ExactDict:=by
    rcases hk with ⟨kvs,hk⟩ | ⟨kvs,hk⟩
    ·obtain ⟨_,_,_,_,o,_,_,e,ex,_⟩:=I.hok p _ hk
     exact ⟨o,e,ex⟩
    ·obtain ⟨_,_,_,_,o,_,_,e,ex,_⟩:=I.hok p _ hk
     exact ⟨o,e,ex⟩
   obtain ⟨o,e,ex⟩:=z;refine ⟨⟨o,e,ex.1⟩,λa e2=>?_⟩;cases e2;exact ⟨o,e,ex.2.1⟩
  ·obtain ⟨o,_,_,_,e,ex,_⟩:=I.hok p _ hk
   refine ⟨⟨o,e,ex.1⟩,λa e2=>?_⟩;cases e2;exact ⟨o,e,ex.2.1⟩
 | _=>exact De ty
def tBM0 (K:AA) (T:String) (r:V->List V->Hp->VK->Prop) (to:TE):TE:=λσ H Q=>to σ H λx H1=>tyV K T x H1/\r x [] H1 Q
def tBM (K:AA) (T:String) (r:V->List V->Hp->VK->Prop) (to:TE) (t:TA):TE:=λσ H Q=>to σ H λx H1=>tyV K T x H1/\t σ H1 λxs H2=>r x xs H2 Q
variable {o e:Expr} {es:List Expr} {to:TE} {t:TA} {name:Str} {apos cpos:Pos} {T id:String} {r:V->List V->Hp->VK->Prop}
theorem Yz (pa:PlainAttrs T) (slot:Slot T name id) (hty:typeOf (.builtin id)=pure (.type "method_descriptor")) (hm:MtR X id r) (ho:PE X o to)
  (hbase:CV o name X.env (Br o X.env)=Br o X.env:=by rfl) (hline:(apos.endLine==cpos.line)=true:=by rfl):PE X (.Call (.Attribute o name apos) [] [] cpos) (tBM0 X.K T r to):=by
 intro pins s σ H Q I h;refine Xm hbase hline (thn (ho pins s σ H _ I h) λv s1 ⟨x,H1,I1,r1,ty,q1⟩=>?_);obtain ⟨h1,h2⟩:=YM I1 r1 ty;exact ⟨T,id,pa,slot,hty,h1,h2,GC rfl (Uw (hm pins s1 σ H1 x [] v [] Q I1 r1 .nil q1))⟩
theorem Y0 (pa:PlainAttrs T) (slot:Slot T name id) (hty:typeOf (.builtin id)=pure (.type "method_descriptor")) (hm:MtR X id r) (ho:PE X o to) (ha:PA X (e :: es) t)
  (hbase:CV o name X.env (Br o X.env)=Br o X.env:=by rfl)
  (hfew:((DQ cpos (AS (e :: es) X.env)).all (λx=>!x.1)&&(Tl cpos (MZ [] X.env)).all (λx=>x.1.isSome)
    &&decide ((e :: es).length+([]:List Io).length+(if ([]:List Io).isEmpty then 0 else 1) < 30))=true:=by rfl)
  (hline:(apos.endLine==cpos.line)=true:=by rfl) (hs:AS (e :: es) X.env=(false,Br e X.env) :: AS es X.env:=by rfl) (hplain:(DQ cpos (AS es X.env)).any (·.1)=false:=by rfl) :
  PE X (.Call (.Attribute o name apos) (e :: es) [] cpos) (tBM X.K T r to t):=by
 intro pins s σ H Q I h;refine wpAny_Call_method_late hbase hfew hline rfl (thn (ho pins s σ H _ I h) λv s1 ⟨x,H1,I1,r1,ty,q1⟩=>?_);obtain ⟨h1,h2⟩:=YM I1 r1 ty;refine ⟨T,id,pa,slot,hty,h1,h2,?_⟩;have hA:=ha cpos pins s1 σ H1 _ I1 q1;rw [hs] at hA ⊢;refine GC (by show (false||(DQ cpos (AS es X.env)).any (·.1))=false;rw [hplain] <;> rfl) (Tv ?_)
 exact thn hA λus s2 ⟨vs,H2,I2,r2,q2⟩=>hm pins s2 σ H2 x vs v us Q I2 r1 r2 q2
def MtM (X:Cx) (id:String) (r:V->List V->Hp->VK->Prop):Prop:=
 ∀(pins:List (AK×Obj)) (s:AG) (σ:St) (H:Hp) (x:V) (xs:List V) (v:AC) (us:List AC) (Q:VK),Inv X pins σ H s->RelV x v->Bi xs us->r x xs H Q ->
  Aq (Ac X.prog X.w) X.A (call (.builtin id) (v :: us)) (EP X pins σ Q) X.xe s
theorem Bi.one:∀ {x:V} {us:List AC},Bi [x] us->∃u,us=[u]/\RelV x u
 | _,_,.cons r .nil=>⟨_,rfl,r⟩
theorem Bi.zero:∀ {us:List AC},Bi [] us->us=[]
 | _,.nil=>rfl
theorem Bi.dropLast {xs:List V} {us:List AC} (h:Bi xs us):Bi xs.dropLast us.dropLast:=by
 induction h with
 | nil=>exact .nil
 | cons r t ih=>
  cases t with
  | nil=>exact .nil
  | cons q t'=>exact .cons r ih
theorem Bi.reverse {xs:List V} {us:List AC} (h:Bi xs us):Bi xs.reverse us.reverse:=by
 induction h with
 | nil=>exact .nil
 | cons r t ih=>rw [Im,Im];exact Bi.append ih (.cons r .nil)
theorem Uc {α:Type} (l:List α):l.eraseIdx (l.length - 1)=l.dropLast:=by
 induction l with
 | nil=>rfl
 | cons a r ih=>
  cases r with
  | nil=>rfl
  | cons b r=>
   have e:(a :: b :: r).length - 1=((b :: r).length - 1)+1:=by
    have h1:(a :: b :: r).length=r.length+2:=rfl;have h2:(b :: r).length=r.length+1:=rfl
    lia
   rw [e,List.eraseIdx_cons_succ,ih]
   all_goals rfl
section
variable {X:Cx} {pins:List (AK×Obj)} {σ:St} {H:Hp} {s:AG} {a:AK} {y v:V} {u r:AC} {o:Option V} {A:BB} {E:AC->AG->Prop}
theorem Inv.big (I:Inv X pins σ H s):Cu < s.heap.objs.size:=by
 have h:Ae < s.heap.objs.size:=(I.mod.glob.keeps I.bk).lt;exact jS (by decide) h
theorem Xb {Q:AC->AG->Prop} (hu:A.units+1 < Ed) (I:Inv X pins σ H s) (g:MQ H a y (some v)) (ry:RelV y u) (h:∀w' s',Inv X pins σ H s'->RelV v w'->Q w' s') :
  Aq (Ac X.prog X.w) A (Xz (.ref a) u) Q E s:=by
 rcases g with ⟨kvs,k,e,ey,l⟩ | ⟨kvs,k,b,e,ey,eb,l⟩
 ·subst ey
  obtain ⟨z,hd,vs,rel,dd⟩:=QV I.hok e;obtain ⟨w',hw,rw'⟩:=NC.some_of (v:=v) (o:=PU vs k) (by rw [l];exact rel.val k);exact wpAny_getItem_of (QO ry) dd.mapOf hw (h w' _ (I.tok _) rw')
 ·subst ey
  cases (show u=A7 b from ry);obtain ⟨z,hd,xs,rel,dd⟩:=QU I.hok e;obtain ⟨w',hw,rw'⟩:=NC.some_of (v:=v) (o:=(Tn xs k).map (·.2)) (by rw [l];exact rel.val k);obtain ⟨p,hp,hp2⟩:=Option.map_eq_some_iff.mp hw;refine wpAny_getItem_heap (JC hu) (Oz I.hok eb) dd hp ?_;rw [hp2];exact h w' _ (I.tok _) rw'
theorem d_in {Q:AC->AG->Prop} (hu:A.units+1 < Ed) (I:Inv X pins σ H s) (g:MQ H a y o) (ry:RelV y u) (h:∀s',Inv X pins σ H s'->Q (.bool o.isSome) s') :
  Aq (Ac X.prog X.w) A (Bd .In u (.ref a)) Q E s:=by
 rcases g with ⟨kvs,k,e,ey,l⟩ | ⟨kvs,k,b,e,ey,eb,l⟩
 ·subst ey
  obtain ⟨z,hd,vs,rel,dd⟩:=QV I.hok e;refine wpAny_in_of (QO ry) hd dd.mapOf ?_;rw [<-(rel.val k).isSome_eq,<-l];exact h _ (I.tok _)
 ·subst ey
  cases (show u=A7 b from ry);obtain ⟨z,hd,xs,rel,dd⟩:=QU I.hok e;refine wpAny_in_heap (JC hu) (Oz I.hok eb) hd dd ?_;have q:=(rel.val k).isSome_eq;rw [F0] at q;rw [<-q,<-l];exact h _ (I.tok _)
theorem dW {Q:AC->AG->Prop} (hu:A.units+1 < Ed) (I:Inv X pins σ H s) (g:MQ H a y o) (ry:RelV y u) (h:∀s',Inv X pins σ H s'->Q (.bool (!o.isSome)) s') :
  Aq (Ac X.prog X.w) A (Bd .NotIn u (.ref a)) Q E s:=by
 rcases g with ⟨kvs,k,e,ey,l⟩ | ⟨kvs,k,b,e,ey,eb,l⟩
 ·subst ey
  obtain ⟨z,hd,vs,rel,dd⟩:=QV I.hok e;refine wpAny_notIn_of (QO ry) hd dd.mapOf ?_;rw [<-(rel.val k).isSome_eq,<-l];exact h _ (I.tok _)
 ·subst ey
  cases (show u=A7 b from ry);obtain ⟨z,hd,xs,rel,dd⟩:=QU I.hok e;refine wpAny_notIn_heap (JC hu) (Oz I.hok eb) hd dd ?_;have q:=(rel.val k).isSome_eq;rw [F0] at q;rw [<-q,<-l];exact h _ (I.tok _)
theorem N6 {h':Bw} {t':Nat} {ob:HO} (I:Inv X pins σ H s) (mu:Mut (H a)) (hs:EC a s.heap h') (he:∃q,h'.get? a=some q) (new:CM X.prog X.w (upd H a ob) h' a ob) :
  Inv X pins σ (upd H a ob) { s with heap:=h',toks:=t' }:=
 I.write (x:=a) (e:=a) mu (.inl rfl) (λb q hb z=>(hs.2 b hb).trans z) he new
theorem Ue {P:Ak} {w:A9} {H':Hp} {h':Bw} {kvs:List (Key×V)} {vs:List (Key×AC)} (z:kvs.length<=sizeLine) (hd:(a==Cu)=false) (rel:KV kvs vs) (dd:h'.DictOf (Cn P w) a vs) :
  CM P w H' h' a (.dK kvs):=⟨z,hd,vs,rel,dd⟩
theorem Xa {H':Hp} {Q:Unit->AG->Prop} (hu:A.units+1 < Ed) (I:Inv X pins σ H s) (g:TY H a y v H') (ry:RelV y u) (rv:RelV v r) (h:∀s',Inv X pins σ H' s'->Q () s') :
  Aq (Ac X.prog X.w) A (setItem (.ref a) u r) Q E s:=by
 rcases g with ⟨kvs,k,e,ey,l,eH⟩ | ⟨kvs,k,b,e,ey,eb,l,eH⟩
 ·subst ey eH
  obtain ⟨z,hd,vs,rel,dd⟩:=Vy I.hok e
  have hz:vs.length<=sizeLine:=by rw [<-rel.length];exact z
  have hl:(HB kvs k v).length<=sizeLine:=by have:=J9 kvs k v;lia
  refine wpAny_setItem_pairs (hsz:=hz) (QO ry) dd λh' dd' hs=>h _ ?_
  have he:∃q,h'.get? a=some q:=let ⟨q,_,_,hq,_⟩:=dd';⟨q,hq⟩
  exact N6 I (by rw [e];exact Co) hs he (Ue hl hd (rel.put k rv) dd')
 ·subst ey eH
  cases (show u=A7 b from ry);obtain ⟨z,hd,xs,rel,dd⟩:=kY I.hok e
  have hz:xs.length<=sizeLine:=by rw [<-Db rel];exact z
  have hl:(HB kvs k v).length<=sizeLine:=by have:=J9 kvs k v;lia
  refine wpAny_setItem_heap (hsz:=hz) (JC hu) (Oz I.hok eb) dd λh' dd' hs=>h _ ?_
  obtain ⟨q,es,ep,hq,h2,h3,h4,_,h5⟩:=dd';refine N6 I (by rw [e];exact Co) hs ⟨q,hq⟩ ⟨hl,hd,_,(rel.put k eb rv).keeps λc ys ec=>?_,q,es,ep,hq,h2,h3,h4,h5⟩;rw [BW (kC ec e (λz=>nomatch z))];exact ec
variable {X:Cx} {pins:List (AK×Obj)} {σ:St} {H:Hp} {s:AG} {l b:AK} {xs ys zs:List V}
theorem Inv.lset {its its':List AC} {n:Nat} {f:Array AC->Array AC} {t':Nat} (I:Inv X pins σ H s) (hH:H l=some (.lst xs))
  (e:s.heap.get? l=some { cls:=.type "list",data:=.seq its.toArray n }) (hf:f its.toArray=its'.toArray) (hv:Bi ys its') (hz:ys.length<=sizeLine) :
  Inv X pins σ (upd H l (.lst ys)) { s with heap:=s.heap.update l (G7 f),toks:=t' }:=by
 have q:=PySem.IsL.update e f;rw [hf] at q;refine I.write (x:=l) (e:=l) (by rw [hH];exact trivial) (.inl rfl) (λb' u hb hu=>(Bw.get?_update_other s.heap (G7 f) (Bx hb)).trans hu) ⟨_,q⟩ ?_;exact ⟨hz,its',_,hv,q⟩
theorem Inv.lnew {its:List AC} {t':Nat} (I:Inv X pins σ H s) (hv:Bi ys its) (hz:ys.length<=sizeLine) :
  Inv X pins σ (upd H s.heap.objs.size (.lst ys)) { s with heap:=s.heap.push { cls:=.type "list",data:=.seq its.toArray },toks:=t' }:=
 I.laid (λ_ _ q=>AJ _ q) (AN _) ⟨hz,its,0,hv,Aj _ rfl⟩
theorem Inv.fresh (I:Inv X pins σ H s):H s.heap.objs.size=none:=I.hok.fresh (AN _)
theorem Inv.lstM (I:Inv X pins σ H s) (hH:H l=some (.lst xs)):xs.length<=sizeLine/\∃(its:List AC) (n:Nat),Bi xs its/\xs.length=its.length/\s.heap.get? l=some { cls:=.type "list",data:=.seq its.toArray n }:=by
 obtain ⟨z,its,n,r,e⟩:=I.hok l _ hH;exact ⟨z,its,n,r,r.length,e⟩
theorem Sn {n:Nat} (h:n<=sizeLine):DP n=false:=by
 unfold DP;exact wY (by lia)
end
section
variable {X:Cx} {pins:List (AK×Obj)} {σ:St} {H:Hp} {s:AG} {a:AK} {kvs:List (Key×V)} {k:Key} {u:AC} {A:BB} {E:AC->AG->Prop}
end
def iz (i:Expr):Prop:=∀ov iv,Rq i false ov iv=operate [ov,iv] (Xz ov iv)
theorem bT {prog:Ak} {w:A9} {A:BB} {E:AC->AG->Prop} {s:AG} {env:Env} {value slice:Expr} {pos:Pos} {T id:String} {Q:AC->AG->Prop}
  (hl:typeLookup (.type T) "__getitem__" = pure (some (.builtin id))) (hs:iz slice)
  (h:Aq (Ac prog w) A (Br value env) (λo s₁=>Aq (Ac prog w) A (Br slice env) (λi s₂=>s₂.TypeIs o T/\Aq (Ac prog w) A (Xz o i) Q E s₂) E s₁) E s) :
  Aq (Ac prog w) A (Br (.Subscript value slice pos) env) Q E s:=by
 refine ej (GJ h (λo s₁ h₁=>GJ h₁ (λi s₂ h₂=>?_) λ_ _ x=>x) λ_ _ x=>x);obtain ⟨hT,h₂⟩:=h₂;unfold WE;refine AH ?_;rw [getitemInPython_of_ne hT.not_modules];refine AH (wpAny_specialOf hT hl ?_)
 have fin:Aq (Ac prog w) A (Rq slice false o i) (λr s₃=>Aq (Ac prog w) A (letTemporaryGo value o r >>= λ_=>pure r) Q E s₃) E s₂:=by
  rw [hs o i];exact wpAny_operating (GJ h₂ (λr s₃ h₃=>AH (wpAny_letTemporaryGo (AW h₃))) λ_ _ x=>x)
 first
  | exact AW (AH fin)
  | exact AH (AW (AH fin))
  | exact AH fin
theorem TM {X:Cx} {pins:List (AK×Obj)} {σ:St} {H:Hp} {s:AG} {a:AK} {y:V} {o:Option V} (I:Inv X pins σ H s) (g:MQ H a y o):s.TypeIs (.ref a) "dict":=by
 rcases g with ⟨kvs,k,e,_,_⟩ | ⟨kvs,k,b,e,_,_,_⟩
 ·obtain ⟨_,_,vs,_,dd⟩:=QV I.hok e
  exact dd.typeIs
 ·obtain ⟨_,_,xs,_,dd⟩:=QU I.hok e
  exact dd.typeIs
def ji (td ty:TE):TE:=λσ H Q=>td σ H λx H1=>ty σ H1 λy H2=>∃a v,x=.ref a/\MQ H2 a y (some v)/\Q v H2
def jh (ty td:TE):TE:=λσ H Q=>ty σ H λy H1=>td σ H1 λx H2=>∃a o,x=.ref a/\MQ H2 a y o/\Q (.bl o.isSome) H2
def VP (ty td:TE):TE:=λσ H Q=>ty σ H λy H1=>td σ H1 λx H2=>∃a o,x=.ref a/\MQ H2 a y o/\Q (.bl (!o.isSome)) H2
def jo (td ty tv:TE):TS:=λD σ H=>tv σ H λv H1=>td σ H1 λx H2=>ty σ H2 λy H3=>∃a H4,x=.ref a/\TY H3 a y v H4/\D.nx σ H4
variable {X:Cx}
def bf:V->List V->Hp->VK->Prop:=λx vs H Q=>∃l xs y,x=.ref l/\vs=[y]/\H l=some (.lst xs)/\xs.length < sizeLine/\Q .non (upd H l (.lst (xs++[y])))
theorem QK:MtM X "list.append" bf:=by
 intro pins s σ H x vs v us Q I rx rv h;obtain ⟨l,xs,y,rfl,rfl,hH,hz,q⟩:=h;cases rx;obtain ⟨u,rfl,ru⟩:=rv.one;obtain ⟨z,its,n,r,hl,e⟩:=I.lstM hH;refine N9 F.slot_list_append ⟨_,e,rfl⟩ F.entry_list_append (F.args_list_append_2 _ _) (PySem.list_append l its.toArray n u (by rw [AY];lia)) ⟨e,?_⟩;refine ⟨.non,_,I.lset (its':=its++[u]) hH e (by simp) (r.append (.cons ru .nil)) ?_,rfl,q⟩;rw [Ah,Ck]
 lia
def be:V->List V->Hp->VK->Prop:=λx vs H Q=>∃l b xs zs,x=.ref l/\vs=[.ref b]/\H l=some (.lst xs)/\H b=some (.lst zs)/\xs.length+zs.length<=sizeLine/\Q .non (upd H l (.lst (xs++zs)))
theorem XA:MtM X "list.extend" be:=by
 intro pins s σ H x vs v us Q I rx rv h;obtain ⟨l,b,xs,zs,rfl,rfl,hH,hB,hz,q⟩:=h;cases rx;obtain ⟨u,rfl,ru⟩:=rv.one;cases ru;obtain ⟨z,its,n,r,hl,e⟩:=I.lstM hH;obtain ⟨z2,its2,n2,r2,hl2,e2⟩:=I.lstM hB
 have hsz:its.toArray.size+its2.toArray.size<=sizeLine:=by rw [AY,AY];lia
 have hlong:¬(!its.toArray.isEmpty&&DP (its.toArray.size+its2.toArray.size))=true:=by
  rw [Sn hsz,d8];exact AX
 refine N9 aU ⟨_,e,rfl⟩ aJ (X7 _ _)
  (AutoSeq1.list_extend_list_list_0 l its.toArray n b its2.toArray n2 hlong (by rw [AY];lia) (by lia)) ⟨e,e2,?_⟩
 refine ⟨.non,_,I.lset (its':=its++its2) hH e (by simp) (r.append r2) ?_,rfl,q⟩;rw [Ah];omega
def rPop:V->List V->Hp->VK->Prop:=λx vs H Q=>∃l xs y,x=.ref l/\vs=[]/\H l=some (.lst xs)/\xs[xs.length - 1]?=some y/\Q y (upd H l (.lst xs.dropLast))
theorem hV:MtM X "list.pop" rPop:=by
 intro pins s σ H x vs v us Q I rx rv h;obtain ⟨l,xs,y,rfl,rfl,hH,hy,q⟩:=h;cases rx;have hus:=rv.zero;subst hus;obtain ⟨z,its,n,r,hl,e⟩:=I.lstM hH;obtain ⟨u,hu,ru⟩:=r.get hy
 have hy':its.toArray[its.toArray.size - 1]?=some u:=by
  show its.toArray[its.length - 1]?=some u;rw [<-Ea,<-hl];exact hu
 refine N9 F.slot_list_pop ⟨_,e,rfl⟩ F.entry_list_pop (F.args_list_pop_1 _) (MeetsSeq.list_pop_last l its.toArray n u hy' (by rw [AY];lia)) ⟨e,?_⟩;refine ⟨y,_,I.lset (its':=its.dropLast) hH e ?_ r.dropLast ?_,ru,q⟩
 ·show its.toArray.eraseIdxIfInBounds (its.toArray.size - 1)=its.dropLast.toArray
  rw [AY,List.eraseIdxIfInBounds_toArray,Uc]
 ·rw [List.length_dropLast]
  lia
def Yh:V->List V->Hp->VK->Prop:=λx vs H Q=>∃l xs,x=.ref l/\vs=[]/\H l=some (.lst xs)/\Q .non (upd H l (.lst xs.reverse))
theorem UN:MtM X "list.reverse" Yh:=by
 intro pins s σ H x vs v us Q I rx rv h;obtain ⟨l,xs,rfl,rfl,hH,q⟩:=h;cases rx;have hus:=rv.zero;subst hus;obtain ⟨z,its,n,r,hl,e⟩:=I.lstM hH;refine N9 F.slot_list_reverse ⟨_,e,rfl⟩ F.entry_list_reverse (F.args_list_reverse_1 _) (AutoSeq1.list_reverse_list_0 l its.toArray n (by rw [AY];lia)) ⟨e,?_⟩;refine ⟨.non,_,I.lset (its':=its.reverse) hH e (by simp) r.reverse ?_,rfl,q⟩;rw [WM];omega
def rCat:R2:=λx y H Q=>∃l b xs zs,x=.ref l/\y=.ref b/\H l=some (.lst xs)/\H b=some (.lst zs)/\xs.length+zs.length<=sizeLine/\∀p,H p=none->Q (.ref p) (upd H p (.lst (xs++zs)))
theorem gn:OpR X (Ca .Add) rCat:=by
 intro pins s σ H x y v u Q I rx ry h;obtain ⟨l,b,xs,zs,rfl,rfl,hH,hB,hz,q⟩:=h;cases rx;cases ry;obtain ⟨z,its,n,r,hl,e⟩:=I.lstM hH;obtain ⟨z2,its2,n2,r2,hl2,e2⟩:=I.lstM hB;refine PySem.P.add_list e e2 ?_ (by rw [AY,AY];lia)
 have ea:its.toArray++its2.toArray=(its++its2).toArray:=by simp
 rw [ea];exact ⟨.ref _,_,I.lnew (t':=s.toks) (r.append r2) (by rw [Ah];omega),rfl,q _ I.fresh⟩
section
variable {X:Cx} {o i e value:Expr} {pos pos' tpos:Pos} {td ty tv:TE}
theorem cG (hu:X.A.units+1 < Ed) (ho:PE X o td) (hi:PE X i ty) (hs:iz i):PE X (.Subscript o i pos) (ji td ty):=by
 intro pins s σ H Q I h;refine bT PySem.F.slot_dict_getitem.lookup hs (thn (ho pins s σ H _ I h) λu s1 ⟨x,H1,I1,rx,q1⟩=>thn (hi pins s1 σ H1 _ I1 q1) λiv s2 ⟨y,H2,I2,ry,a,v,ex,g,q2⟩=>?_);subst ex;obtain rfl:u=A7 a:=rx;exact ⟨TM I2 g,Xb hu I2 g ry λw' s3 I3 rw'=>⟨v,H2,I3,rw',q2⟩⟩
theorem Y1 (hu:X.A.units+1 < Ed) (hi:PE X i ty) (ho:PE X o td):PC X .In i o (jh ty td):=by
 intro pins s σ H Q I h
 refine thn (hi pins s σ H _ I h) λiv s1 ⟨y,H1,I1,ry,q1⟩=>thn (ho pins s1 σ H1 _ I1 q1) λu s2 ⟨x,H2,I2,rx,a,ov,ex,g,q2⟩=>?_
 subst ex;obtain rfl:u=A7 a:=rx
 exact d_in hu I2 g ry λs3 I3=>⟨.bl ov.isSome,H2,I3,rfl,q2⟩
theorem W5 (hu:X.A.units+1 < Ed) (hi:PE X i ty) (ho:PE X o td):PC X .NotIn i o (VP ty td):=by
 intro pins s σ H Q I h
 refine thn (hi pins s σ H _ I h) λiv s1 ⟨y,H1,I1,ry,q1⟩=>thn (ho pins s1 σ H1 _ I1 q1) λu s2 ⟨x,H2,I2,rx,a,ov,ex,g,q2⟩=>?_
 subst ex;obtain rfl:u=A7 a:=rx
 exact dW hu I2 g ry λs3 I3=>⟨.bl (!ov.isSome),H2,I3,rfl,q2⟩
theorem bo (hu:X.A.units+1 < Ed) (ho:PE X o td) (hi:PE X i ty) (hv:PE X value tv) (hs:Fh value (some (.Subscript o i pos')) pos.line X.env=pure false) :
  PS X (.Assign [.Subscript o i pos'] value pos) (jo td ty tv):=by
 intro pins s σ H D I h;refine wpAny_Assign_Subscript (thn (hv pins s σ H _ I h) λr s1 ⟨v,H1,I1,rv,q1⟩=>thn (ho pins s1 σ H1 _ I1 q1) λu s2 ⟨x,H2,I2,rx,q2⟩=>thn (hi pins s2 σ H2 _ I2 q2) λiv s3 ⟨y,H3,I3,ry,a,H4,ex,g,q3⟩=>?_) hs;subst ex;obtain rfl:u=A7 a:=rx
 exact Xa hu I3 g ry rv λs4 I4=>⟨σ,H4,I4,q3⟩
end
theorem TL {P:Ak} {w:A9} {H:Hp} (h:Bw) (hb:Cu < h.objs.size):CM P w H (h.push { cls:=.type "dict",data:=.dict #[] }) h.objs.size (.dK []):=
 ⟨Cg _,beq_eq_false_iff_ne.mpr (Bx (Am hb)),[],.nil,Bw.DictOf.new h⟩
theorem Zx {P:Ak} {w:A9} {H:Hp} (h:Bw) (hb:Cu < h.objs.size):CM P w H (h.push { cls:=.type "dict",data:=.dict #[] }) h.objs.size (.dT []):=
 ⟨Cg _,beq_eq_false_iff_ne.mpr (Bx (Am hb)),[],.nil,_,#[],0,Aj _ rfl,⟨rfl,rfl,rfl⟩,rfl,rfl,E4⟩
def ff:TE:=λ_ H Q=>∀p,H p=none->Q (.ref p) (upd H p (.dK []))
def fc:TE:=λ_ H Q=>∀p,H p=none->Q (.ref p) (upd H p (.dT []))
variable {prog:Ak} {w:A9} {A:BB} {E:AC->AG->Prop} {s:AG}
section
variable {X:Cx} {pos:Pos}
theorem Yx:PE X (.Dict [] [] pos) ff:=λpins s σ H Q I h=>
 jO ⟨.ref s.heap.objs.size,_,I.laid (a:=s.heap.objs.size) (o:=.dK []) (t':=s.toks) (λ_ _ q=>AJ _ q) (AN _) (TL s.heap I.big),rfl,h _ (I.hok.fresh (AN _))⟩
theorem Yw:PE X (.Dict [] [] pos) fc:=λpins s σ H Q I h=>
 jO ⟨.ref s.heap.objs.size,_,I.laid (a:=s.heap.objs.size) (o:=.dT []) (t':=s.toks) (λ_ _ q=>AJ _ q) (AN _) (Zx s.heap I.big),rfl,h _ (I.hok.fresh (AN _))⟩
end
def T7:List (TE×TE)->St->Hp->(List (V×V)->Hp->Prop)->Prop
 | [],_,H,Q=>Q [] H
 | (tk,tv) :: r,σ,H,Q=>tk σ H λx H1=>tv σ H1 λy H2=>T7 r σ H2 λps H3=>Q ((x,y) :: ps) H3
abbrev VV:List (V×V)->List (AC×AC)->Prop:=E6 λp q=>RelV p.1 q.1/\RelV p.2 q.2
def PPs (X:Cx) (pos:Pos) (keys:List (Option Expr)) (values:List Expr) (trs:List (TE×TE)):Prop:=
 ∀(pins:List (AK×Obj)) (s:AG) (σ:St) (H:Hp) (Q:List (V×V)->Hp->Prop),Inv X pins σ H s->T7 trs σ H Q ->
  Aq (Ac X.prog X.w) X.A (evalPairs (pairTrees keys values X.env pos)) (λvs s'=>∃ps H',Inv X pins σ H' s'/\VV ps vs/\Q ps H') X.xe s
theorem bq {X:Cx} {pos:Pos}:PPs X pos [] [] []:=λpins s σ H Q I h=>pairTrees_nil_walk ⟨[],H,I,.nil,h⟩
theorem Ys {X:Cx} {pos:Pos} {k v:Expr} {ks:List (Option Expr)} {vs:List Expr} {tk tv:TE} {trs:List (TE×TE)} (hk:PE X k tk) (hv:PE X v tv) (hr:PPs X pos ks vs trs) :
  PPs X pos (some k :: ks) (v :: vs) ((tk,tv) :: trs):=λpins s σ H Q I h=>
 pairTrees_cons_walk (thn (hk pins s σ H _ I h) λu s1 ⟨x,H1,I1,rx,q1⟩=>thn (hv pins s1 σ H1 _ I1 q1) λw2 s2 ⟨y,H2,I2,ry,q2⟩=>
  thn (hr pins s2 σ H2 _ I2 q2) λws s3 ⟨ps,H3,I3,rel,q3⟩=>⟨(x,y) :: ps,H3,I3,.cons ⟨rx,ry⟩ rel,q3⟩)
def IV (kvs more:List (Key×V)):List (Key×V):=more.foldl (λacc kv=>HB acc kv.1 kv.2) kvs
theorem KV.merge:∀ {more:List (Key×V)} {rs:List (Key×AC)} {kvs:List (Key×V)} {vs:List (Key×AC)},KV more rs->KV kvs vs->KV (IV kvs more) (merged vs rs):=by
 intro more rs kvs vs r;unfold KV at r
 induction r generalizing kvs vs with
 | nil=>intro q;exact q
 | @cons p q ps qs h t ih=>
  intro r0
  have e:KV (HB kvs p.1 p.2) (stored vs q.1 q.2):=by
   have:=r0.put p.1 h.2;rw [<-h.1];exact this
  exact ih e
theorem IW:∀(more kvs:List (Key×V)),(IV kvs more).length<=kvs.length+more.length
 | [],kvs=>by show kvs.length<=kvs.length+0;lia
 | p :: r,kvs=>by
  have h1:=IW r (HB kvs p.1 p.2);have h2:=J9 kvs p.1 p.2;show (IV (HB kvs p.1 p.2) r).length<=_;rw [A8];lia
theorem PH {P:Ak} {w:A9}:∀ {kvs:List (Key×V)} {ws:List (AC×AC)},VV (kvs.map λkv=>(kV kv.1,kv.2)) ws->∃rs,Carries (Cn P w) ws rs/\KV kvs rs
 | [],_,r=>by rw [Hy] at r;cases r;exact ⟨[],Co,.nil⟩
 | p :: kvs,_,r=>by
  rw [Az] at r
  cases r with
  | @cons a b as bs h t=>
   obtain ⟨rs,c,q⟩:=PH (P:=P) (w:=w) t;obtain ⟨b1,b2⟩:=b;exact ⟨(p.1,b2) :: rs,⟨QO h.1,rfl,c⟩,.cons ⟨rfl,h.2⟩ q⟩
def jf (trs:List (TE×TE)):TE:=λσ H Q=>∀p,H p=none->T7 trs σ (upd H p (.dK [])) λps H2=>H2 p=some (.dK [])/\∃kvs:List (Key×V),ps=kvs.map (λkv=>(kV kv.1,kv.2))/\kvs.length<=15/\Q (.ref p) (upd H2 p (.dK (IV [] kvs)))
theorem cF {X:Cx} {pos:Pos} {keys:List (Option Expr)} {values:List Expr} {trs:List (TE×TE)} (h:PPs X pos keys values trs) (hall:keys.all (·.isSome)=true) (hl:keys.length=values.length) (h0:keys≠[])
  (h15:keys.length<=15):PE X (.Dict keys values pos) (jf trs):=by
 intro pins s σ H Q I q;have hn:=I.hok.fresh (AN s.heap.objs.size);have I1:=I.laid (a:=s.heap.objs.size) (o:=.dK []) (h':=s.heap.push { cls:=.type "dict",data:=.dict #[] }) (t':=s.toks) (λ_ _ q=>AJ _ q) (AN _) (TL s.heap I.big);refine wpAny_Dict_walk (knd:=Cn X.prog X.w) hall hl h0 h15 (thn (h pins _ σ _ _ I1 (q _ hn)) λws s2 ⟨ps,H2,I2,rel,e,kvs,ep,lk,q2⟩=>?_);subst ep;obtain ⟨rs,c,rk⟩:=PH (P:=X.prog) (w:=X.w) rel;obtain ⟨z,hd,vs0,r0,dd⟩:=Vy I2.hok e;cases r0;refine ⟨rs,c,dd,λh' dd' hs=>⟨.ref s.heap.objs.size,_,?_,rfl,q2⟩⟩
 have hz:(IV [] kvs).length<=sizeLine:=by
  have h1:=IW kvs [];rw [HX] at h1;rw [Rr];lia
 have he:∃q,h'.get? s.heap.objs.size=some q:=let ⟨q,_,_,hq,_⟩:=dd';⟨q,hq⟩
 exact N6 I2 (by rw [e];exact Co) hs he (Ue hz hd (rk.merge .nil) dd')
structure M1 (X:Cx) (o:Expr) (m:Str) (apos:Pos) (e:Expr) (cpos:Pos):Prop where
 base:CV o m X.env (Br o X.env)=Br o X.env
 few:((DQ cpos (AS [e] X.env)).all (λx=>!x.1)&&(Tl cpos (MZ [] X.env)).all (λx=>x.1.isSome)
   &&decide (([e]:List Expr).length+([]:List Io).length+(if ([]:List Io).isEmpty then 0 else 1) < 30))=true
 line:(apos.endLine==cpos.line)=true
 trees:DQ cpos (AS [e] X.env)=[(false,Br e X.env)]
def IsD (H:Hp) (a:AK):Prop:=(∃kvs,Rd H a (.dK kvs))∨∃kvs,Rd H a (.dT kvs)
theorem ZY {X:Cx} {pins:List (AK×Obj)} {σ:St} {H:Hp} {s:AG} {a:AK} (I:Inv X pins σ H s) (d:IsD H a) :
  s.TypeIs (.ref a) "dict"/\(∀b,A7 a=.ref b->∃ob,s.heap.get? b=some ob/\ob.dict=none)/\(a==Cu)=false:=by
 rcases d with ⟨kvs,e⟩ | ⟨kvs,e⟩
 ·obtain ⟨_,hd,vs,_,dd⟩:=QV I.hok e
  refine ⟨dd.typeIs,λb q=>?_,hd⟩;cases q;obtain ⟨ob,_,_,h1,h2,_⟩:=dd;exact ⟨ob,h1,h2.2.1⟩
 ·obtain ⟨_,hd,xs,_,dd⟩:=QU I.hok e
  refine ⟨dd.typeIs,λb q=>?_,hd⟩;cases q;obtain ⟨ob,_,_,h1,h2,_⟩:=dd;exact ⟨ob,h1,h2.2.1⟩
section
variable {X:Cx} {pins:List (AK×Obj)} {σ:St} {H:Hp} {s:AG} {a:AK} {y d:V} {u r:AC} {o:Option V} {A:BB} {E:AC->AG->Prop}
end
section
variable {X:Cx} {o e f:Expr} {apos cpos:Pos} {td ty tx:TE}
end
section
variable {X:Cx} {pins:List (AK×Obj)} {σ:St} {H:Hp} {s:AG} {a:AK} {kvs:List (Key×V)} {A:BB} {E:AC->AG->Prop}
end
section
variable {X:Cx} {pins:List (AK×Obj)} {σ:St} {H:Hp} {s:AG} {a:AK} {y:V} {u:AC} {A:BB} {E:AC->AG->Prop}
variable {X:Cx}
end
end L2
namespace Att
open PySem PySem.W PySem.Calls PyProof.Rows
theorem Nn {P:Params} {h:Bw}:∀(ns:List Int) (vs:List AC),WellAll P h vs (ns.map kh)->IntsAre vs ns:=by
 intro ns
 induction ns with
 | nil=>
  intro vs w;rw [Hy] at w;cases w;exact .nil
 | cons n ns ih=>
  intro vs w;rw [Az] at w
  cases w with
  | cons a b=>
   cases a;exact .cons _ _ (ih _ b)
theorem Wm {l:OpenLaw} {n:Nat} (hn:l.most=some n) {P:Params} {h:Bw} {args:List WData} {vals:List AC}
  (hpre:l.row.toRowW.claim.pre args=true) (hwl:WellAll P h vals args) :
  ∃a vs ns,vals=[A7 a]/\args=[WData.list (ns.map kh)]/\h.get? a=some { cls:=.type "list",data:=.seq vs.toArray }/\IntsAre vs ns/\ns.length<=n:=by
 have hsh:WShape.hasAll [] args [.list .int]=true:=(pre_splitW hpre).1;have hc:l.pre.holds [] { args:=args }=true:=(pre_splitW hpre).2;obtain ⟨d,r,rfl,h1,h2⟩:=hasAllW_cons hsh;obtain rfl:=hasAllW_nil h2;obtain ⟨xs,rfl,h3⟩:=hasW_list h1;obtain ⟨ns,rfl⟩:=items_int h3
 have hlen:ns.length<=n:=by
  unfold OpenLaw.pre at hc
  have h4:(WTm.not (.lt (.lit (.int (n:Int))) (.len (.arg 0)))).holds [] { args:=[.list (ns.map .int)] }=true:=by
   have h4:=(holds_andW hc).1;rw [hn] at h4;exact h4
  have h5:=condW_of h4 (w_not (w_lt w_lit (w_len_list (w_arg rfl))));rw [AE] at h5
  refine OD λq=>?_
  have q':(n:Int) < ((ns.length:Nat):Int):=by omega
  first
   | (rw [wX q'] at h5;exact zX h5 (by decide))
   | (simp at h5;omega)
 cases hwl with
 | cons w1 w2=>
  cases w2
  cases w1 with
  | list ho hall=>exact ⟨_,_,ns,rfl,rfl,ho,Nn ns _ hall,hlen⟩
theorem Wx (l:OpenLaw) (args:List WData):l.row.toRowW.claim.post args (.bool true) args=true:=
 postW_of (r:=l.row.toRowW) (X:=(true==true))
  (show jD [] (.bool true) .bool=true by first | rfl | decide | simp [jD,WShape.arms,WShape.armsAll])
  (show (WTm.eq .res (.lit (.bool true))).value [] { args:=args,res:=some (.bool true),after:=args }=some (.bool (true==true)) from w_eq_bool (w_res rfl) w_lit) rfl
theorem TV {l:OpenLaw} {n:Nat} {q:Ak} {loose:List Str} {XP:(Str->Option AC)->Bw->Prop} {YP:A9->Bw->Prop} {d:DefRec}
  (hn:l.most=some n) (hdf:d.params.defaults=[])
  (call:∀(w:A9) (s₀ s₁:AG) (mg mb:Str->Option AC) (fa:AK) (o:Obj) (pm cd doc:AC) (a:AK) (vs:List AC) (ns:List Int),
   Ground q loose [] XP w s₀ mg mb s₁.heap->YP w s₁.heap ->
   s₁.heap.get? fa=some o->o.data=.func (docDef d.name d.params d.body d.scope pm cd doc)->s₁.heap.CodeRec cd d.name->mg d.name=some (.ref fa) ->
   s₁.heap.get? a=some { cls:=.type "list",data:=.seq vs.toArray }->IntsAre vs ns->ns.length<=n->s₁.gens = #[] ->
   Kw (Ac l.prog w) PV (.call (.ref fa) ⟨[.ref a],[]⟩) (λr s'=>r=.ok (.ret (.bool true))/\OldK s₁.heap s'.heap/\s'.os=s₁.os/\Ip s'.gens) s₁) :
  WalkO q loose XP YP l.row.toRowW d [] (λf vs=>WI f vs):=by
 intro w s₀ s₁ mg mb G Y fa o pm cd doc dV kV ho hd hcd hD hmg hg args vals as hpre hlay hrd hwl hlo;obtain rfl:dV=.none:=Dflts.none hD hdf;obtain rfl:kV=.none:=Dflts.noKw hD;obtain ⟨a,vs,ns,rfl,rfl,hobj,hints,hlen⟩:=Wm hn hpre hwl;refine enter_call (Ik (call w s₀ s₁ mg mb fa o pm cd doc a vs ns G Y ho (fd_plain hd) hcd hmg hobj hints hlen hg) λr s' hq=>?_);obtain ⟨rfl,h2,h3,h4⟩:=hq;exact ⟨.inl ⟨.bool true,.bool true,[],rfl,λ_=>rfl,.bool true,Wx l _,λ_=>⟨P7,λ_ hm=>(nomatch hm)⟩⟩,h2,h3,h4⟩
section
variable {prog:Ak} {w:A9} {A:BB} {E:AC->AG->Prop} {s:AG} {K:Frag}
end
end Att
namespace L2
open PySem PySem.Spec PyProof.Rows
theorem QC:∀ {vs:List AC} {ns:List Int},IntsAre vs ns->Bi (ns.map V.int) vs
 | _,_,.nil=>.nil
 | _,_,.cons n t h=>.cons ⟨t,rfl⟩ (QC h)
def dq (H:Hp):Prop:=∀b,H b=none∨∃o xs,H b=some (.frz o (.lst xs))
theorem ZS {P:Ak} {w:A9} {K:AA} {mg mb:Str->Option AC} {CX:CXT} {k:Nat} {fa a:AK} {fd:DN} {x:Str} {sp:Sp} {s₁:AG} {vs:List AC} {ns:List Int}
  (KX:K.In s₁.heap) (hns:s₁.heap.Ns Ae mg) (hb:s₁.heap.Ns eh mb) (hbb:∀x:Str,x≠"__name__"->mb x=Ei x) (hlim:s₁.heap.NoLimit) (hg:s₁.gens = #[])
  (ha:s₁.heap.get? a=some { cls:=.type "list",data:=.seq vs.toArray }) (hi:IntsAre vs ns) (hl:ns.length<=sizeLine) (hr:HG k PV)
  (F:∀base:Bw,K.In base->base.Ns Ae mg->DX P w K mg base CX k fa fd [x] sp) (hbind:∀(s:AG) (u:AC),Tg s fd ⟨[u],[]⟩ [(x,u)])
  (hsp:∀H:Hp,dq H->SqL K H a (ns.map V.int)->sp [.ref a] H (λv _=>v=.bl true) λ_ _ _=>False)
  (hCX:∀H e s',CX [] H s₁ (λ_ _ _=>False) e s'->False) :
  Kw (Ac P w) PV (.call (.ref fa) ⟨[.ref a],[]⟩) (λr s'=>r=.ok (.ret (.bool true))/\OldK s₁.heap s'.heap/\s'.os=s₁.os/\Ip s'.gens) s₁:=by
 have rv:=QC hi;have lenV:=hi.length
 have core:∀H:Hp,dq H->SqL K H a (ns.map V.int)->HOk P w H s₁.heap->(∀b,H b≠none->b=a)->(H a≠none->K.lookup a=none) ->
   Kw (Ac P w) PV (.call (.ref fa) ⟨[.ref a],[]⟩) (λr s'=>r=.ok (.ret (.bool true))/\OldK s₁.heap s'.heap/\s'.os=s₁.os/\Ip s'.gens) s₁:=by
  intro H hO hS hok hA hK
  have base_of:∀ {b:AK} {o:Obj},s₁.heap.get? b=some o->H b=none->(RN s₁.heap H).get? b=some o:=λe n=>Zg e n
  have noA:∀ {b:AK} {o:Obj} {es:Array He} {ep:Nat},s₁.heap.get? b=some o->o.data=.dict es ep->H b=none:=λ{b o es ep} e d=>by
   cases q:H b with
   | none=>rfl
   | some u=>
    have e':b=a:=hA b (by rw [q];simp);subst e';rw [ha] at e;cases e;have d':Data.seq vs.toArray _=Data.dict es ep:=d;cases d'
  have nsK:∀ {b:AK} {m:Str->Option AC},s₁.heap.Ns b m->(RN s₁.heap H).Ns b m:=λ{b m} ⟨o,es,ep,e,d,r⟩=>⟨o,es,ep,base_of e (noA e d),d,r⟩
  have hKb:K.In (RN s₁.heap H):=λb o e=>base_of (KX b o e) (by
   cases q:H b with
   | none=>rfl
   | some u=>
    have e':b=a:=hA b (by rw [q];simp);subst e'
    rw [hK (by rw [q];simp)] at e;cases e)
  have hM:Mod K mg (RN s₁.heap H):=⟨hKb,nsK hns,⟨mb,nsK hb,hbb⟩,let ⟨mc,h1,h2⟩:=hlim;⟨mc,nsK h1,h2⟩⟩;have e0:Uu P w K mg (RN s₁.heap H) PV [] s₁ H:=⟨rfl,hM,λb o e=>cQ e,jT (XN _ _),trivial,λb hb=>zX (show b∈([]:List AK) from hb) (by simp),hok,.of_eq hg⟩
  refine Ik ((F _ hKb (nsK hns)).run PV [] s₁ H ⟨[.ref a],[]⟩ [.ref a] [.ref a] _ _ hr e0 (hbind s₁ (.ref a)) (.cons rfl .nil) (hsp H hO hS)) λr s' h=>?_
  cases r with
  | error e=>exact (hCX H e s' h).elim
  | ok fl=>
   cases fl with
   | next=>exact De h
   | brk=>exact De h
   | cont=>exact De h
   | ret u=>
    obtain ⟨v,H',os,bare,un,hok',r',q⟩:=h;have q':v=.bl true:=q;subst q';obtain rfl:u=LY true:=r';refine ⟨rfl,OldK.of_keep λb o e=>?_,os,bare⟩
    cases q:H b with
    | none=>exact un.keep b o e q (by intro z;exact zX (show b∈([]:List AK) from z) (by simp)) (by simp)
    | some u=>
     rcases hO b with z | ⟨ob,xs,z⟩
     ·rw [q] at z;cases z
     ·have z2:=un.frzs b ob _ z
      obtain ⟨e1,_⟩:=hok b _ z;obtain ⟨e2,_⟩:=hok' b _ z2;rw [e] at e1;cases e1;exact e2
 cases hk:K.lookup a with
 | some o=>
  have e:=KX a o hk;rw [ha] at e;cases e
  refine core (λ_=>none) (λ_=>.inl rfl) (.inr ⟨_,vs.toArray,_,hk,rfl,rfl,rfl,by rw [AY,lenV];exact hl,by simpa using rv⟩) (λb u z=>by have z':(none:Option HO)=some u:=z;cases z') (λb z=>zX rfl z) λz=>zX rfl z
 | none=>
  refine core (λb=>if b=a then some (.frz { cls:=.type "list",data:=.seq vs.toArray } (.lst (ns.map V.int))) else none) (λb=>?_) (.inl (.inr ⟨{ cls:=.type "list",data:=.seq vs.toArray },qX rfl⟩)) (λb u z=>?_) (λb z=>?_) λ_=>hk
  ·by_cases hb:b=a
   ·exact .inr ⟨_,_,qX hb⟩
   ·exact .inl (qY hb)
  ·by_cases hb:b=a
   ·have z':=(qX hb).symm.trans z
    cases z';subst hb;exact ⟨ha,by rw [AE];exact hl,vs,_,rv,ha⟩
   ·have z':=(qY hb).symm.trans z
    cases z'
  ·by_cases hb:b=a
   ·exact hb
   ·exact zX (qY hb) z
theorem ab {l:PySem.W.OpenLaw} {n k:Nat} {q:Ak} {loose:List Str} {XP:(Str->Option AC)->Bw->Prop} {YP:A9->Bw->Prop} {d:DefRec} {K:Params->AA} {CX:A9->CXT} {sp:A9->Sp} {x:Str}
  (hn:l.most=some n) (hn2:n<=sizeLine) (hdf:d.params.defaults=[]) (hr:HG k PV)
  (hY:∀(w:A9) (h:Bw),YP w h->(K w.params).In h)
  (F:∀(w:A9) (mg:Str->Option AC) (fa:AK) (h:Bw),(K w.params).In h->h.Ns Ae mg->mg d.name=some (.ref fa) ->
   ∃fd:DN,(∀(s:AG) (u:AC),Tg s fd ⟨[u],[]⟩ [(x,u)]) /\
    ∀base:Bw,(K w.params).In base->base.Ns Ae mg->DX l.prog w (K w.params) mg base (CX w) k fa fd [x] (sp w))
  (hsp:∀(w:A9) (H:Hp) (a:AK) (ns:List Int),ns.length<=n->dq H->SqL (K w.params) H a (ns.map V.int)->sp w [.ref a] H (λv _=>v=.bl true) λ_ _ _=>False)
  (hCX:∀(w:A9) (H:Hp) (s:AG) (e:AC) (s':AG),CX w [] H s (λ_ _ _=>False) e s'->False) :
  PySem.W.WalkO q loose XP YP l.row.toRowW d [] (λf vs=>WI f vs):=by
 refine Att.TV hn hdf λw s₀ s₁ mg mb fa o pm cd doc a vs ns G Y ho hd hcd hmg hobj hints hlen hg=>?_
 have KX:=hY w _ Y;obtain ⟨fd,hb,hF⟩:=F w mg fa _ KX G.T.g hmg
 exact ZS KX G.T.g G.T.b G.T.builtins G.T.nolimit hg hobj hints (A0 hlen hn2) hr hF hb (λH hO hS=>hsp w H a ns hlen hO hS) λH e s'=>hCX w H s₁ e s'
def cz (s:Cc) (j:Nat):Cc:=match s with
 | .ClassDef _ _ _ body _ _ _ _ _ _ _=>body.getD j (.Pass ⟨0,0,0,0⟩)
 | _=>.Pass ⟨0,0,0,0⟩
def Bv (s:Cc):Arguments:=match s with
 | .FunctionDef _ a _ _ _ _ _ _ _ _=>a
 | _=>{ posonlyargs:=[],args:=[],vararg:=none,kwonlyargs:=[],kw_defaults:=[],kwarg:=none,defaults:=[] }
def Bm (s:Cc):List Cc:=match s with
 | .FunctionDef _ _ b _ _ _ _ _ _ _=>b
 | _=>[]
def An (s:Cc):IB:=match s with
 | .FunctionDef _ _ _ _ _ _ sc _ _ _=>sc
 | _=>{ kind:=.function,names:=[],isGenerator:=false,isCoroutine:=false }
structure Fun (K:AA) (x qual:Str) (st:Cc) (f:AK) (fd:DN):Prop where
 ex:∃(oc:AC) (od:Option AK) (kV doc pm:AC) (an:Option AK) (cdv ct:AC) (osl:Array (Option AC)),
  fd=HI x qual (Bv st) (Bm st) (An st) .none kV doc pm an cdv ct/\K.lookup f=some ⟨oc,od,.func fd,osl⟩/\OC K cdv qual=true
 kp:Fj K (.ref f)=true
section
variable {P:Ak} {w:A9} {K:AA} {mg:Str->Option AC} {base:Bw}
theorem Fun.binds {x qual:Str} {st:Cc} {f:AK} {fd:DN} {ps:List Str} (F:Fun K x qual st f fd)
  (h:∀(kV doc pm:AC) (an:Option AK) (cdv ct:AC) (us:List AC),us.length=ps.length->bindArgs (HI x qual (Bv st) (Bm st) (An st) .none kV doc pm an cdv ct) ⟨us,[]⟩=pure (ps.zip us)):Binds K fd ps []:=by
 obtain ⟨oc,od,kV,doc,pm,an,cdv,ct,osl,rfl,lk,hcd⟩:=F.ex;exact .all (h kV doc pm an cdv ct)
theorem Cj {x qual:Str} {st:Cc} {f:AK} {oc:AC} {od an:Option AK} {osl:Array (Option AC)} {kV doc pm cdv ct:AC} (l:K.lookup f=some ⟨oc,od,.func (HI x qual (Bv st) (Bm st) (An st) .none kV doc pm an cdv ct),osl⟩)
  (c:OC K cdv qual=true) (k:Fj K (.ref f)=true):Fun K x qual st f (HI x qual (Bv st) (Bm st) (An st) .none kV doc pm an cdv ct):=⟨⟨oc,od,kV,doc,pm,an,cdv,ct,osl,rfl,l,c⟩,k⟩
end
section
variable {X:Cx}
theorem pv (i:Nat) {x:Str} {pos:Pos} (hN:X.N[i]?=some x:=by rfl) (hv:Vis X.env.scope x:=by first | exact PM rfl | exact ND (PM rfl) | exact ND (ND rfl)) (hd:(x==("__debug__" : Str))=false:=by decide)
  (hcd:(x==("__classdict__" : Str))=false:=by decide):PE X (.Name x pos) (fY i):=gP hN hv hd hcd
end
section
variable {κ:Type} [DecidableEq κ]
end
inductive D where
 | non | bl (b:Bool) | int (i:Int) | str (x:Str) | tup (ds:List D) | fro (ds:List D) | ref (n:Nat) | exc (C:AK)
def P2 (K:AA) (H:Hp) (a:AK) (vs:List V):Prop:=
 (∃o,H a=some (.frz o (.lst vs))) ∨
  ∃(o:Obj) (its:Array AC) (n:Nat),K.lookup a=some o/\o.cls=.type "list"/\o.dict=none/\o.data=.seq its n/\its.size<=sizeLine/\Bi vs its.toList
theorem P2.sq {K:AA} {H:Hp} {a:AK} {vs:List V} (h:P2 K H a vs):SqL K H a vs:=by
 rcases h with h | h
 ·exact .inl (.inr h)
 ·exact .inr h
def ExcO (o:Obj) (C:AK):Prop:=o.cls=.ref C/\o.dict=none/\∃vs,o.data=.fields vs
mutual
inductive Bs (K:AA) (ρ:List AK) (H:Hp):D->V->Prop where
 | non:Bs K ρ H .non .non
 | bl (b:Bool):Bs K ρ H (.bl b) (.bl b)
 | int (i:Int):Bs K ρ H (.int i) (.int i)
 | str (x:Str):Bs K ρ H (.str x) (.str x)
 | tup {ds:List D} {a:AK} {vs:List V}:H a=some (.tup vs)->Au K ρ H ds vs->Bs K ρ H (.tup ds) (.ref a)
 | fro {ds:List D} {a:AK} {vs:List V}:P2 K H a vs->Au K ρ H ds vs->Bs K ρ H (.fro ds) (.ref a)
 | ref {n:Nat} {a:AK}:ρ[n]?=some a->Bs K ρ H (.ref n) (.ref a)
 | exc {C a:AK} {o:Obj} {u:HO}:H a=some (.frz o u)->ExcO o C->Bs K ρ H (.exc C) (.ref a)
inductive Au (K:AA) (ρ:List AK) (H:Hp):List D->List V->Prop where
 | nil:Au K ρ H [] []
 | cons {d:D} {v:V} {ds:List D} {vs:List V}:Bs K ρ H d v->Au K ρ H ds vs->Au K ρ H (d :: ds) (v :: vs)
end
structure Le (K:AA) (ρ:List AK) (H:Hp) (ρ':List AK) (H':Hp):Prop where
 pre:∀(n:Nat) a,ρ[n]?=some a->ρ'[n]?=some a
 tup:∀a xs,H a=some (.tup xs)->H' a=some (.tup xs)
 frz:∀a o u,H a=some (.frz o u)->H' a=some (.frz o u)
 oth:∀a o,H a=some o->(∀n:Nat,ρ[n]?≠some a)->H' a=some o/\∀n:Nat,ρ'[n]?≠some a
theorem P2.mono {K:AA} {H H':Hp} {a:AK} {xs:List V} (l:∀a o u,H a=some (.frz o u)->H' a=some (.frz o u)) (h:P2 K H a xs):P2 K H' a xs:=by
 rcases h with ⟨o,h⟩ | h
 ·exact .inl ⟨o,l _ _ _ h⟩
 ·exact .inr h
section
variable {K:AA} {ρ ρ' ρ'':List AK} {H H' H'':Hp}
theorem Le.fro (l:Le K ρ H ρ' H'):∀a xs,P2 K H a xs->P2 K H' a xs:=λ_ _ h=>h.mono l.frz
theorem Le.refl:Le K ρ H ρ H:=⟨λ_ _ h=>h,λ_ _ h=>h,λ_ _ _ h=>h,λ_ _ h n=>⟨h,n⟩⟩
theorem Le.trans (a:Le K ρ H ρ' H') (b:Le K ρ' H' ρ'' H''):Le K ρ H ρ'' H'':=
 ⟨λn x h=>b.pre n x (a.pre n x h),λx xs h=>b.tup x xs (a.tup x xs h),λx o u h=>b.frz x o u (a.frz x o u h),λx o h n=>b.oth x o (a.oth x o h n).1 (a.oth x o h n).2⟩
mutual
theorem Bs.mono (l:Le K ρ H ρ' H'):∀ {d:D} {v:V},Bs K ρ H d v->Bs K ρ' H' d v
 | _,_,.non=>.non
 | _,_,.bl b=>.bl b
 | _,_,.int i=>.int i
 | _,_,.str x=>.str x
 | _,_,.tup h r=>.tup (l.tup _ _ h) (Au.mono l r)
 | _,_,.fro h r=>.fro (l.fro _ _ h) (Au.mono l r)
 | _,_,.ref h=>.ref (l.pre _ _ h)
 | _,_,.exc h e=>.exc (l.frz _ _ _ h) e
theorem Au.mono (l:Le K ρ H ρ' H'):∀ {ds:List D} {vs:List V},Au K ρ H ds vs->Au K ρ' H' ds vs
 | _,_,.nil=>.nil
 | _,_,.cons r t=>.cons (Bs.mono l r) (Au.mono l t)
end
mutual
theorem Bs.more (l:∀(n:Nat) a,ρ[n]?=some a->ρ'[n]?=some a):∀ {d:D} {v:V},Bs K ρ H d v->Bs K ρ' H d v
 | _,_,.non=>.non
 | _,_,.bl b=>.bl b
 | _,_,.int i=>.int i
 | _,_,.str x=>.str x
 | _,_,.tup h r=>.tup h (Au.more l r)
 | _,_,.fro h r=>.fro h (Au.more l r)
 | _,_,.ref h=>.ref (l _ _ h)
 | _,_,.exc h e=>.exc h e
theorem Au.more (l:∀(n:Nat) a,ρ[n]?=some a->ρ'[n]?=some a):∀ {ds:List D} {vs:List V},Au K ρ H ds vs->Au K ρ' H ds vs
 | _,_,.nil=>.nil
 | _,_,.cons r t=>.cons (Bs.more l r) (Au.more l t)
end
mutual
theorem Bs.keep (h1:∀a xs,H a=some (.tup xs)->H' a=some (.tup xs)) (h2:∀a o u,H a=some (.frz o u)->H' a=some (.frz o u)):∀ {d:D} {v:V},Bs K ρ H d v->Bs K ρ H' d v
 | _,_,.non=>.non
 | _,_,.bl b=>.bl b
 | _,_,.int i=>.int i
 | _,_,.str x=>.str x
 | _,_,.tup h r=>.tup (h1 _ _ h) (Au.keep h1 h2 r)
 | _,_,.fro h r=>.fro (h.mono h2) (Au.keep h1 h2 r)
 | _,_,.ref h=>.ref h
 | _,_,.exc h e=>.exc (h2 _ _ _ h) e
theorem Au.keep (h1:∀a xs,H a=some (.tup xs)->H' a=some (.tup xs)) (h2:∀a o u,H a=some (.frz o u)->H' a=some (.frz o u)):∀ {ds:List D} {vs:List V},Au K ρ H ds vs->Au K ρ H' ds vs
 | _,_,.nil=>.nil
 | _,_,.cons r t=>.cons (Bs.keep h1 h2 r) (Au.keep h1 h2 t)
end
theorem Au.length:∀ {ds:List D} {vs:List V},Au K ρ H ds vs->ds.length=vs.length
 | _,_,.nil=>rfl
 | _,_,.cons _ t=>by rw [A8,A8,Au.length t]
theorem Au.get:∀ {ds:List D} {vs:List V} {i:Nat} {d:D},Au K ρ H ds vs->ds[i]?=some d->∃v,vs[i]?=some v/\Bs K ρ H d v
 | _,_,_,_,.nil,e=>by simp at e
 | _,_,0,_,.cons r _,e=>by simp at e;subst e;exact ⟨_,rfl,r⟩
 | _,_,i+1,d,.cons _ t,e=>by
  obtain ⟨v,h1,h2⟩:=Au.get (i:=i) (d:=d) t (by simpa using e);exact ⟨v,by simpa using h1,h2⟩
theorem Au.get':∀ {ds:List D} {vs:List V} {i:Nat} {v:V},Au K ρ H ds vs->vs[i]?=some v->∃d,ds[i]?=some d/\Bs K ρ H d v
 | _,_,_,_,.nil,e=>by simp at e
 | _,_,0,_,.cons r _,e=>by simp at e;subst e;exact ⟨_,rfl,r⟩
 | _,_,i+1,d,.cons _ t,e=>by
  obtain ⟨v,h1,h2⟩:=Au.get' (i:=i) (v:=d) t (by simpa using e);exact ⟨v,by simpa using h1,h2⟩
theorem Au.append:∀ {ds es:List D} {vs us:List V},Au K ρ H ds vs->Au K ρ H es us->Au K ρ H (ds++es) (vs++us)
 | _,_,_,_,.nil,s=>s
 | _,_,_,_,.cons r t,s=>.cons r (Au.append t s)
theorem Au.take:∀ {ds:List D} {vs:List V} (n:Nat),Au K ρ H ds vs->Au K ρ H (ds.take n) (vs.take n)
 | _,_,0,_=>.nil
 | _,_,_+1,.nil=>.nil
 | _,_,n+1,.cons r t=>.cons r (Au.take n t)
theorem Au.reverse {ds:List D} {vs:List V} (h:Au K ρ H ds vs):Au K ρ H ds.reverse vs.reverse:=by
 induction ds generalizing vs with
 | nil=>cases h;exact .nil
 | cons d ds ih=>
  cases h with
  | cons r t=>rw [Im,Im];exact (ih t).append (.cons r .nil)
theorem Au.of_ints:∀(ns:List Int),Au K ρ H (ns.map D.int) (ns.map V.int)
 | []=>.nil
 | n :: ns=>.cons (.int n) (Au.of_ints ns)
theorem Au.ints:∀ {ns:List Int} {vs:List V},Au K ρ H (ns.map D.int) vs->vs=ns.map V.int
 | [],_,.nil=>rfl
 | n :: ns,_,.cons r t=>by
  cases r;rw [Au.ints (ns:=ns) t];rfl
end
inductive Ob where
 | lst (ds:List D)
 | dK (kvs:List (Key×D))
 | dT (kvs:List (List Key×D))
 | ins (C:AK) (fs:List (Str×D))
 | fK (kvs:List (Key×D))
 | fT (kvs:List (List Key×D))
abbrev Sto:=List Ob
abbrev KVR {κ:Type} (K:AA) (ρ:List AK) (H:Hp):List (κ×D)->List (κ×V)->Prop:=E6 λ(p:κ×D) (q:κ×V)=>p.1=q.1/\Bs K ρ H p.2 q.2
def EZ (K:AA) (ρ:List AK) (H:Hp) (a:AK):Ob->Prop
 | .lst ds=>∃vs,H a=some (.lst vs)/\Au K ρ H ds vs
 | .dK kvs=>∃kvs',H a=some (.dK kvs')/\KVR K ρ H kvs kvs'
 | .dT kvs=>∃kvs',H a=some (.dT kvs')/\KVR K ρ H kvs kvs'
 | .ins C fs=>∃dx fs',H a=some (.ins C dx fs')/\KVR K ρ H fs fs'
 | .fK kvs=>∃ob kvs',H a=some (.frz ob (.dK kvs'))/\KVR K ρ H kvs kvs'
 | .fT kvs=>∃ob kvs',H a=some (.frz ob (.dT kvs'))/\KVR K ρ H kvs kvs'
structure B4 (K:AA) (ρ:List AK) (S:Sto) (H:Hp):Prop where
 len:ρ.length=S.length
 nd:∀(i j:Nat) a,ρ[i]?=some a->ρ[j]?=some a->i=j
 ob:∀(n:Nat) o a,S[n]?=some o->ρ[n]?=some a->EZ K ρ H a o
section
variable {K:AA} {ρ ρ':List AK} {H H':Hp} {S:Sto} {a p:AK} {o:Ob} {n:Nat} {ho:HO}
theorem KVR.mono {κ:Type} (l:Le K ρ H ρ' H') {x:List (κ×D)} {y:List (κ×V)} (h:KVR K ρ H x y):KVR K ρ' H' x y:=E6.mapP h λ_ _ z=>⟨z.1,z.2.mono l⟩
theorem EZ.has (h:EZ K ρ H a o):H a≠none:=by
 cases o with
 | lst ds=>obtain ⟨_,e,_⟩:=h;rw [e];exact λz=>nomatch z
 | dK ds=>obtain ⟨_,e,_⟩:=h;rw [e];exact λz=>nomatch z
 | dT ds=>obtain ⟨_,e,_⟩:=h;rw [e];exact λz=>nomatch z
 | ins C fs=>obtain ⟨_,_,e,_⟩:=h;rw [e];exact λz=>nomatch z
 | fK ds=>obtain ⟨_,_,e,_⟩:=h;rw [e];exact λz=>nomatch z
 | fT ds=>obtain ⟨_,_,e,_⟩:=h;rw [e];exact λz=>nomatch z
theorem EZ.mono (l:Le K ρ H ρ' H') (e:H' a=H a) (h:EZ K ρ H a o):EZ K ρ' H' a o:=by
 cases o with
 | lst ds=>obtain ⟨vs,h1,h2⟩:=h;exact ⟨vs,e.trans h1,h2.mono l⟩
 | dK ds=>obtain ⟨vs,h1,h2⟩:=h;exact ⟨vs,e.trans h1,h2.mono l⟩
 | dT ds=>obtain ⟨vs,h1,h2⟩:=h;exact ⟨vs,e.trans h1,h2.mono l⟩
 | ins C fs=>obtain ⟨dx,vs,h1,h2⟩:=h;exact ⟨dx,vs,e.trans h1,h2.mono l⟩
 | fK ds=>obtain ⟨dx,vs,h1,h2⟩:=h;exact ⟨dx,vs,e.trans h1,h2.mono l⟩
 | fT ds=>obtain ⟨dx,vs,h1,h2⟩:=h;exact ⟨dx,vs,e.trans h1,h2.mono l⟩
theorem EZ.keep (h1:∀a xs,H a=some (.tup xs)->H' a=some (.tup xs)) (h2:∀a o u,H a=some (.frz o u)->H' a=some (.frz o u)) (e:H' a=H a) (h:EZ K ρ H a o):EZ K ρ H' a o:=by
 cases o with
 | lst ds=>obtain ⟨vs,q1,q2⟩:=h;exact ⟨vs,e.trans q1,q2.keep h1 h2⟩
 | dK ds=>obtain ⟨vs,q1,q2⟩:=h;exact ⟨vs,e.trans q1,E6.mapP q2 λ_ _ z=>⟨z.1,z.2.keep h1 h2⟩⟩
 | dT ds=>obtain ⟨vs,q1,q2⟩:=h;exact ⟨vs,e.trans q1,E6.mapP q2 λ_ _ z=>⟨z.1,z.2.keep h1 h2⟩⟩
 | ins C fs=>obtain ⟨dx,vs,q1,q2⟩:=h;exact ⟨dx,vs,e.trans q1,E6.mapP q2 λ_ _ z=>⟨z.1,z.2.keep h1 h2⟩⟩
 | fK ds=>obtain ⟨dx,vs,q1,q2⟩:=h;exact ⟨dx,vs,e.trans q1,E6.mapP q2 λ_ _ z=>⟨z.1,z.2.keep h1 h2⟩⟩
 | fT ds=>obtain ⟨dx,vs,q1,q2⟩:=h;exact ⟨dx,vs,e.trans q1,E6.mapP q2 λ_ _ z=>⟨z.1,z.2.keep h1 h2⟩⟩
theorem EZ.mono' (l:∀(n:Nat) a,ρ[n]?=some a->ρ'[n]?=some a) (h:EZ K ρ H a o):EZ K ρ' H a o:=by
 cases o with
 | lst ds=>obtain ⟨vs,h1,h2⟩:=h;exact ⟨vs,h1,h2.more l⟩
 | dK ds=>obtain ⟨vs,h1,h2⟩:=h;exact ⟨vs,h1,E6.mapP h2 λ_ _ z=>⟨z.1,z.2.more l⟩⟩
 | dT ds=>obtain ⟨vs,h1,h2⟩:=h;exact ⟨vs,h1,E6.mapP h2 λ_ _ z=>⟨z.1,z.2.more l⟩⟩
 | ins C fs=>obtain ⟨dx,vs,h1,h2⟩:=h;exact ⟨dx,vs,h1,E6.mapP h2 λ_ _ z=>⟨z.1,z.2.more l⟩⟩
 | fK ds=>obtain ⟨dx,vs,h1,h2⟩:=h;exact ⟨dx,vs,h1,E6.mapP h2 λ_ _ z=>⟨z.1,z.2.more l⟩⟩
 | fT ds=>obtain ⟨dx,vs,h1,h2⟩:=h;exact ⟨dx,vs,h1,E6.mapP h2 λ_ _ z=>⟨z.1,z.2.more l⟩⟩
theorem Fp (hp:H p=none∨Mut (H p)):(∀a xs,H a=some (.tup xs)->upd H p ho a=some (.tup xs))/\∀a o u,H a=some (.frz o u)->upd H p ho a=some (.frz o u):=by
 have ne:∀a u,H a=some u->¬Mut (some u)->a≠p:=λa u e nm z=>by
  subst z
  rcases hp with h | h
  ·rw [e] at h;cases h
  ·rw [e] at h;exact nm h
 refine ⟨λa xs e=>?_,λa o u e=>?_⟩
 ·rw [BW (ne a _ e λz=>z)];exact e
 ·rw [BW (ne a _ e λz=>z)];exact e
theorem Le.fresh (hp:H p=none):Le K ρ H ρ (upd H p ho):=
 ⟨λ_ _ h=>h,(Fp (.inl hp)).1,(Fp (.inl hp)).2,λa o e n=>⟨by rw [BW (CF e hp)];exact e,n⟩⟩
theorem Le.write (hn:ρ[n]?=some p) (hm:Mut (H p)):Le K ρ H ρ (upd H p ho):=
 ⟨λ_ _ h=>h,(Fp (.inr hm)).1,(Fp (.inr hm)).2,λa o e h=>⟨by rw [BW λz=>h n (by rw [z];exact hn)];exact e,h⟩⟩
theorem Hl {α:Type} {l:List α} {x:α} {m:Nat} {a:α} (e:(l++[x])[m]?=some a):(l[m]?=some a/\m < l.length)∨(m=l.length/\a=x):=by
 by_cases hm:m < l.length
 ·rw [Ab hm] at e;exact .inl ⟨e,hm⟩
 ·rw [BE (by lia)] at e
  have:m - l.length=0:=by
   have:=(AD.mp e).1;simp at this;omega
  rw [this] at e;exact .inr ⟨by lia,by simpa using e.symm⟩
theorem Le.alloc (hp:H p=none):Le K ρ H (ρ++[p]) (upd H p ho):=by
 refine ⟨λn a h=>by rw [Ab (AD.mp h).1];exact h,(Fp (.inl hp)).1,(Fp (.inl hp)).2,λa o e h=>⟨by rw [BW (CF e hp)];exact e,λn q=>?_⟩⟩
 rcases Hl q with ⟨q,_⟩ | ⟨_,q⟩
 ·exact h n q
 ·exact CF e hp q
theorem B4.at (h:B4 K ρ S H) (e:S[n]?=some o):∃a,ρ[n]?=some a/\EZ K ρ H a o:=by
 have hn:n < ρ.length:=by rw [h.len];exact (AD.mp e).1
 exact ⟨ρ[n],by simp [hn],h.ob n o _ e (by simp [hn])⟩
theorem B4.there (h:B4 K ρ S H) {m:Nat} (e:ρ[m]?=some a):∃o,S[m]?=some o/\EZ K ρ H a o:=by
 have hn:m < S.length:=by rw [<-h.len];exact (AD.mp e).1
 exact ⟨S[m],by simp [hn],h.ob m _ a (by simp [hn]) e⟩
theorem B4.notIn (h:B4 K ρ S H) (hp:H p=none) {m:Nat} (e:ρ[m]?=some p):False:=by
 obtain ⟨o,_,r⟩:=h.there e;exact r.has hp
theorem B4.alloc (h:B4 K ρ S H) (hp:H p=none) (hob:EZ K (ρ++[p]) (upd H p ho) p o):B4 K (ρ++[p]) (S++[o]) (upd H p ho)/\Le K ρ H (ρ++[p]) (upd H p ho)/\(ρ++[p])[S.length]?=some p:=by
 have le:Le K ρ H (ρ++[p]) (upd H p ho):=Le.alloc hp
 have at':∀(m:Nat) a,(ρ++[p])[m]?=some a->(ρ[m]?=some a/\m < ρ.length)∨(m=ρ.length/\a=p):=λm a e=>Hl e
 refine ⟨⟨by simp [h.len],λi j a hi hj=>?_,λm ob a hm ha=>?_⟩,le,by rw [<-h.len];simp⟩
 ·rcases at' i a hi with ⟨hi1,_⟩ | ⟨hi1,ea⟩ <;> rcases at' j a hj with ⟨hj1,_⟩ | ⟨hj1,ea'⟩
  ·exact h.nd i j a hi1 hj1
  ·rw [ea'] at hi1;exact (h.notIn hp hi1).elim
  ·rw [ea] at hj1;exact (h.notIn hp hj1).elim
  ·lia
 ·rcases at' m a ha with ⟨ha1,hlt⟩ | ⟨rfl,rfl⟩
  ·rw [Ab (by rw [<-h.len];exact hlt)] at hm
   refine (h.ob m ob a hm ha1).mono le (BW λz=>?_);rw [z] at ha1;exact h.notIn hp ha1
  ·rw [h.len] at hm
   simp at hm;subst hm;exact hob
theorem B4.write (h:B4 K ρ S H) (hn:ρ[n]?=some a) (hob:EZ K ρ (upd H a ho) a o) (le:Le K ρ H ρ (upd H a ho)):B4 K ρ (S.set n o) (upd H a ho)/\Le K ρ H ρ (upd H a ho):=by
 refine ⟨⟨by simp [h.len],h.nd,λm ob b hm hb=>?_⟩,le⟩
 by_cases e:m=n
 ·subst e
  rw [hn] at hb;cases hb;rw [Al (by rw [<-h.len];exact (AD.mp hn).1)] at hm;cases hm;exact hob
 ·rw [AT (Bx e)] at hm
  refine (h.ob m ob b hm hb).mono le (BW λz=>?_);subst z;exact e (h.nd m n b hb hn)
theorem Le.back {S':Sto} (l:Le K ρ H ρ' H') (s:B4 K ρ S H) (s':B4 K ρ' S' H') (hp:H' p=none):H p=none:=by
 cases q:H p with
 | none=>rfl
 | some o=>
  by_cases hn:∃n:Nat,ρ[n]?=some p
  ·obtain ⟨n,hn⟩:=hn
   exact (s'.notIn hp (l.pre n p hn)).elim
  ·have:=(l.oth p o q λn h=>hn ⟨n,h⟩).1
   rw [hp] at this;cases this
theorem B4.adopt (h:B4 K ρ S H) (hn:∀m:Nat,ρ[m]?≠some p) (hob:EZ K (ρ++[p]) H p o):B4 K (ρ++[p]) (S++[o]) H/\(ρ++[p])[S.length]?=some p:=by
 have le:∀a ob,EZ K ρ H a ob->EZ K (ρ++[p]) H a ob:=λa ob r=>by
  have l0:∀(n:Nat) a,ρ[n]?=some a->(ρ++[p])[n]?=some a:=λn a h=>by rw [Ab (AD.mp h).1];exact h
  exact r.mono' l0
 refine ⟨⟨by simp [h.len],λi j a hi hj=>?_,λm ob a hm ha=>?_⟩,by rw [<-h.len];simp⟩
 ·rcases Hl hi with ⟨hi1,_⟩ | ⟨hi1,ea⟩ <;> rcases Hl hj with ⟨hj1,_⟩ | ⟨hj1,ea'⟩
  ·exact h.nd i j a hi1 hj1
  ·rw [ea'] at hi1;exact (hn i hi1).elim
  ·rw [ea] at hj1;exact (hn j hj1).elim
  ·lia
 ·rcases Hl ha with ⟨ha,hlt⟩ | ⟨rfl,rfl⟩
  ·rw [Ab (by rw [<-h.len];exact hlt)] at hm
   exact le a ob (h.ob m ob a hm ha)
  ·rw [h.len] at hm
   simp at hm;subst hm;exact hob
end
inductive Res (α:Type) where
 | ok (a:α) (S:Sto) | err (c:AK) (S:Sto) | bad
def Res.bind {α β:Type} (r:Res α) (f:α->Sto->Res β):Res β:=match r with
 | .ok a S=>f a S
 | .err c S=>.err c S
 | .bad=>.bad
abbrev Lo:=List (Option D)
abbrev ME:=Lo->Sto->Res D
abbrev MT:=Lo->Sto->Res Bool
abbrev ML:=Lo->Sto->Res (List D)
inductive Fl where
 | nx (e:Lo) | rt (d:D) | bk (e:Lo) | ct (e:Lo) | ex (c:AK) (e:Lo)
abbrev MS:=Lo->Sto->Res Fl
abbrev MG:=D->Lo->Sto->Res Lo
abbrev Hv:=Sto->Option (List D)
abbrev MI:=Lo->Sto->Res Hv
structure FQ (K:AA) (ρ:List AK) (H:Hp) (e:Lo) (σ:St):Prop where
 len:e.length=σ.length
 at':∀(i:Nat) d,e[i]?=some (some d)->∃v,σ[i]?=some (some v)/\Bs K ρ H d v
section
variable {K:AA} {ρ ρ':List AK} {H H':Hp} {S:Sto} {e:Lo} {σ:St}
theorem FQ.mono (l:Le K ρ H ρ' H') (h:FQ K ρ H e σ):FQ K ρ' H' e σ:=⟨h.len,λi d q=>by
 obtain ⟨v,h1,h2⟩:=h.at' i d q
 exact ⟨v,h1,h2.mono l⟩⟩
theorem FQ.set {d:D} {v:V} (h:FQ K ρ H e σ) (r:Bs K ρ H d v) (i:Nat):FQ K ρ H (e.set i (some d)) (σ.set i (some v)):=by
 refine ⟨by simp [h.len],λj d' q=>?_⟩
 by_cases hj:i=j
 ·subst hj
  have hi:i < e.length:=by
   have:=(AD.mp q).1;simpa using this
  rw [Al hi] at q;cases q;exact ⟨v,by rw [Al (by rw [<-h.len];exact hi)],r⟩
 ·rw [AT hj] at q ⊢
  exact h.at' j d' q
end
abbrev EW:=AK->St->Hp->Prop
abbrev EH:=AK->Hp->Prop
abbrev noE:EW:=λ_ _ _=>False
abbrev noH:EH:=λ_ _=>False
def B7 {α:Type} (K:AA) (E:EH) (ρ:List AK) (H:Hp) (r:Res α) (k:α->Sto->Prop):Prop:=match r with
 | .ok a S=>k a S
 | .err c S=>∀ρ' H',Le K ρ H ρ' H'->B4 K ρ' S H'->E c H'
 | .bad=>False
section
variable {α β:Type} {K:AA} {E:EH} {ρ ρ1:List AK} {H H1:Hp}
theorem B7.seq {r:Res α} {F:α->Sto->Res β} {k:β->Sto->Prop} {k':α->Sto->Prop} (h:B7 K E ρ H (r.bind F) k) (f:∀a S,B7 K E ρ H (F a S) k->k' a S):B7 K E ρ H r k':=by
 cases r with
 | ok a S=>exact f a S h
 | err c S=>exact h
 | bad=>exact h
theorem B7.later {r:Res α} {k:α->Sto->Prop} (h:B7 K E ρ H r k) (l:Le K ρ H ρ1 H1):B7 K E ρ1 H1 r k:=by
 cases r with
 | ok a S=>exact h
 | err c S=>exact λρ' H' l'=>h ρ' H' (l.trans l')
 | bad=>exact h
theorem B7.imp {r:Res α} {k k':α->Sto->Prop} (h:B7 K E ρ H r k) (f:∀a S,k a S->k' a S):B7 K E ρ H r k':=by
 cases r with
 | ok a S=>exact f a S h
 | err c S=>exact h
 | bad=>exact h
theorem B7.go {r:Res α} {k k':α->Sto->Prop} (h:B7 K E ρ H r k) (l:Le K ρ H ρ1 H1) (f:∀a S,k a S->k' a S):B7 K E ρ1 H1 r k':=(h.later l).imp f
end
def okR {α:Type}:Res α->Res α
 | .ok a S=>.ok a S
 | _=>.bad
theorem B7.okR {α:Type} {K:AA} {E:EH} {ρ:List AK} {H:Hp} {r:Res α} {k:α->Sto->Prop} (h:B7 K E ρ H (L2.okR r) k):∃a S,r=.ok a S/\k a S:=by
 cases r with
 | ok a S=>exact ⟨a,S,rfl,h⟩
 | err c S=>exact h.elim
 | bad=>exact h.elim
section
variable (K:AA) (E:EW)
def gE (m:ME):TE:=λσ H Q=>∃ρ e S,FQ K ρ H e σ/\B4 K ρ S H/\B7 K (λc=>E c σ) ρ H (m e S) λd S'=>∀ρ' H' x,Le K ρ H ρ' H'->B4 K ρ' S' H'->Bs K ρ' H' d x->Q x H'
def gT (m:MT):TT:=λσ H Q=>∃ρ e S,FQ K ρ H e σ/\B4 K ρ S H/\B7 K (λc=>E c σ) ρ H (m e S) λb S'=>∀ρ' H',Le K ρ H ρ' H'->B4 K ρ' S' H'->Q b H'
def gA (m:ML):TA:=λσ H Q=>∃ρ e S,FQ K ρ H e σ/\B4 K ρ S H/\B7 K (λc=>E c σ) ρ H (m e S) λds S'=>∀ρ' H' xs,Le K ρ H ρ' H'->B4 K ρ' S' H'->Au K ρ' H' ds xs->Q xs H'
def gL (m:ML):TE:=λσ H Q=>∃ρ e S,FQ K ρ H e σ/\B4 K ρ S H/\B7 K (λc=>E c σ) ρ H (m e S) λds S'=>∀ρ' H' p xs,Le K ρ H ρ' H'->B4 K ρ' S' H'->Au K ρ' H' ds xs->H' p=some (.lst xs)->(∀n:Nat,ρ'[n]?≠some p)->H p=none->Q (.ref p) H'
def gQ (m:ML):TE:=λσ H Q=>∃ρ e S,FQ K ρ H e σ/\B4 K ρ S H/\B7 K (λc=>E c σ) ρ H (m e S) λds S'=>∀ρ' H' p xs,Le K ρ H ρ' H'->B4 K ρ' S' H'->Au K ρ' H' ds xs->(SqL K H' p xs∨SqT K H' p xs)->Q (.ref p) H'
def No (K:AA) (E:EW) (ρ:List AK) (H:Hp) (S':Sto) (D:Uv):Fl->Prop
 | .ex c e'=>∀ρ' H' σ',Le K ρ H ρ' H'->B4 K ρ' S' H'->FQ K ρ' H' e' σ'->E c σ' H'
 | .nx e'=>∀ρ' H' σ',Le K ρ H ρ' H'->B4 K ρ' S' H'->FQ K ρ' H' e' σ'->D.nx σ' H'
 | .bk e'=>∀ρ' H' σ',Le K ρ H ρ' H'->B4 K ρ' S' H'->FQ K ρ' H' e' σ'->D.bk σ' H'
 | .ct e'=>∀ρ' H' σ',Le K ρ H ρ' H'->B4 K ρ' S' H'->FQ K ρ' H' e' σ'->D.ct σ' H'
 | .rt d=>∀ρ' H' x,Le K ρ H ρ' H'->B4 K ρ' S' H'->Bs K ρ' H' d x->D.rt x H'
def gS (m:MS):TS:=λD σ H=>∃ρ e S,FQ K ρ H e σ/\B4 K ρ S H/\B7 K noH ρ H (m e S) λfl S'=>No K E ρ H S' D fl
def gG (m:MG):TG:=λv σ H Q=>∃ρ e S d,Bs K ρ H d v/\FQ K ρ H e σ/\B4 K ρ S H/\B7 K noH ρ H (m d e S) λe' S'=>∀ρ' H' σ',Le K ρ H ρ' H'->B4 K ρ' S' H'->FQ K ρ' H' e' σ'->Q σ' H'
def LM (ρ0:List AK) (H0:Hp) (J:It) (v:Hv):Prop:=∀ρ H S ds (i:Nat),Le K ρ0 H0 ρ H->B4 K ρ S H->v S=some ds ->
 (ds[i]?=none->J.stop i H)/\∀d,ds[i]?=some d->J.go i H/\∀x H',J.yld i H x H'->∃ρ',Le K ρ H ρ' H'/\B4 K ρ' S H'/\Bs K ρ' H' d x
def gI (m:MI):TI:=λσ H R=>∃ρ e S,FQ K ρ H e σ/\B4 K ρ S H/\B7 K (λc=>E c σ) ρ H (m e S) λv S'=>∀ρ' H' J,Le K ρ H ρ' H'->B4 K ρ' S' H'->LM K ρ' H' J v->R J H'
end
abbrev GE (X:Cx) (E:EW) (e:Expr) (m:ME):Prop:=PE X e (gE X.K E m)
abbrev GT (X:Cx) (E:EW) (e:Expr) (m:MT):Prop:=PT X e (gT X.K E m)
abbrev GA (X:Cx) (E:EW) (es:List Expr) (m:ML):Prop:=PA X es (gA X.K E m)
abbrev GL (X:Cx) (E:EW) (e:Expr) (m:ML):Prop:=PE X e (gL X.K E m)
abbrev GQ (X:Cx) (E:EW) (e:Expr) (m:ML):Prop:=PE X e (gQ X.K E m)
abbrev GS (X:Cx) (E:EW) (s:Cc) (m:MS):Prop:=PS X s (gS X.K E m)
abbrev GSs (X:Cx) (E:EW) (s:List Cc) (m:MS):Prop:=PSs X s (gS X.K E m)
abbrev GG (X:Cx) (t:Expr) (m:MG):Prop:=PG X t (gG X.K m)
abbrev GI (X:Cx) (E:EW) (tg t:Expr) (m:MI):Prop:=PI X tg t (gI X.K E m)
theorem PE.imp {X:Cx} {e:Expr} {t t':TE} (h:PE X e t) (i:∀σ H Q,t' σ H Q->t σ H Q):PE X e t':=λpins s σ H Q I q=>h pins s σ H Q I (i σ H Q q)
theorem PT.imp {X:Cx} {e:Expr} {t t':TT} (h:PT X e t) (i:∀σ H Q,t' σ H Q->t σ H Q):PT X e t':=λpins s σ H Q I q=>h pins s σ H Q I (i σ H Q q)
theorem PW.imp {X:Cx} {e:Expr} {t t':TT} (h:PW X e t) (i:∀σ H Q,t' σ H Q->t σ H Q):PW X e t':=λwh pins s σ H Q I q=>h wh pins s σ H Q I (i σ H Q q)
theorem PA.imp {X:Cx} {e:List Expr} {t t':TA} (h:PA X e t) (i:∀σ H Q,t' σ H Q->t σ H Q):PA X e t':=λpos pins s σ H Q I q=>h pos pins s σ H Q I (i σ H Q q)
theorem PS.imp {X:Cx} {e:Cc} {t t':TS} (h:PS X e t) (i:∀D σ H,t' D σ H->t D σ H):PS X e t':=λpins s σ H D I q=>h pins s σ H D I (i D σ H q)
theorem PSs.imp {X:Cx} {e:List Cc} {t t':TS} (h:PSs X e t) (i:∀D σ H,t' D σ H->t D σ H):PSs X e t':=λpins s σ H D I q=>h pins s σ H D I (i D σ H q)
theorem PG.imp {X:Cx} {e:Expr} {t t':TG} (h:PG X e t) (i:∀v σ H Q,t' v σ H Q->t v σ H Q):PG X e t':=λpins s σ H v u Q I r q=>h pins s σ H v u Q I r (i v σ H Q q)
theorem PI.imp {X:Cx} {tg e:Expr} {t t':TI} (h:PI X tg e t) (i:∀σ H R,t' σ H R->t σ H R):PI X tg e t':=λpins s σ H R I q=>h pins s σ H R I (i σ H R q)
theorem OpR.imp {X:Cx} {f:AC->AC->Sem AC} {r r':R2} (h:OpR X f r) (i:∀x y H Q,r' x y H Q->r x y H Q):OpR X f r':=λpins s σ H x y v u Q I rx ry q=>h pins s σ H x y v u Q I rx ry (i x y H Q q)
theorem IxR.imp {X:Cx} {r r':R2} (h:IxR X r) (i:∀x y H Q,r' x y H Q->r x y H Q):IxR X r':=λva sl pins s σ H x y v u Q I rx ry q=>h va sl pins s σ H x y v u Q I rx ry (i x y H Q q)
def AB (i:Nat):ME:=λe S=>match e[i]? with
 | some (some d)=>.ok d S
 | _=>.bad
def mC (d:D):ME:=λ_ S=>.ok d S
section
variable {X:Cx} {E:EW} {e a b:Expr} {pos:Pos} {ma mb:ME}
theorem AF {i:Nat} (h:PE X e (fY i)):GE X E e (AB i):=h.imp λσ H Q ⟨ρ,l,S,hl,hs,hm⟩=>by
 unfold AB at hm;split at hm
 ·rename_i d' hd
  obtain ⟨v,h1,h2⟩:=hl.at' i _ hd;exact ⟨v,h1,hm ρ H v .refl hs h2⟩
 ·exact hm.elim
theorem dF {v:V} {d:D} (h:PE X e (tC v)) (hd:∀ρ H,Bs X.K ρ H d v):GE X E e (mC d):=h.imp λσ H Q ⟨ρ,l,S,hl,hs,hm⟩=>by
 exact hm ρ H v .refl hs (hd _ _)
theorem ge_int {i j pos}:GE X E (.Constant (.int i) j pos) (mC (.int i)):=dF gZ λ_ _=>.int i
theorem Jk {b j pos}:GE X E (.Constant (.bool b) j pos) (mC (.bl b)):=dF jz λ_ _=>.bl b
theorem RS {j pos}:GE X E (.Constant .none j pos) (mC .non):=dF gX λ_ _=>.non
theorem Zj {x:Str} {i:Int} {tk:Tok} {pos:Pos} (hg:Gl X x) (hm:X.mg x=some (.int i tk)) (hd:(x==("__debug__" : Str))=false:=by decide):GE X E (.Name x pos) (mC (.int i)):=
 dF (cD (v:=.int i) hg hm ⟨tk,rfl⟩ hd) λ_ _=>.int i
def m2 (f:D->D->Sto->Res D) (ma mb:ME):ME:=λe S=>(ma e S).bind λx S1=>(mb e S1).bind λy S2=>okR (f x y S2)
def rD (K:AA) (f:D->D->Sto->Res D):R2:=λu v H Q=>∃ρ S x y d S',B4 K ρ S H/\Bs K ρ H x u/\Bs K ρ H y v/\f x y S=.ok d S' /\
 ∀ρ' H' z,Le K ρ H ρ' H'->B4 K ρ' S' H'->Bs K ρ' H' d z->Q z H'
theorem Ky {K:AA} {f:D->D->Sto->Res D} {σ:St} {H:Hp} {Q:VK} (h:gE K E (m2 f ma mb) σ H Q):tOp (rD K f) (gE K E ma) (gE K E mb) σ H Q:=by
 obtain ⟨ρ,l,S,hl,hs,hm⟩:=h;refine ⟨ρ,l,S,hl,hs,hm.seq λx S1 hm ρ1 H1 u l1 s1 r1=>⟨ρ1,l,S1,hl.mono l1,s1,(hm.later l1).seq λy S2 hm ρ2 H2 v l2 s2 r2=>?_⟩⟩;obtain ⟨d,S',e,k⟩:=hm.okR;exact ⟨ρ2,S2,x,y,d,S',s2,r1.mono l2,r2,e,λρ' H' z l' s' r'=>k ρ' H' z (l1.trans (l2.trans l')) s' r'⟩
theorem B0 {op:Operator} {f:D->D->Sto->Res D} (ho:OpR X (Ca op) (rD X.K f)) (ha:GE X E a ma) (hb:GE X E b mb):GE X E (.BinOp a op b pos) (m2 f ma mb):=(jx ho ha hb).imp λ_ _ _ h=>Ky h
theorem LF {op:Nt} {f:D->D->Sto->Res D} (ho:OpR X (Bd op) (rD X.K f)) (ha:GE X E a ma) (hb:GE X E b mb) (hm:CG op b=false):GE X E (.Compare a [op] [b] pos) (m2 f ma mb):=(cI ho ha hb hm).imp λ_ _ _ h=>Ky h
theorem kS {f:D->D->Sto->Res D} (ho:IxR X (rD X.K f)) (ha:GE X E a ma) (hb:GE X E b mb) (hs:Rp b:=by intro _ _;rfl):GE X E (.Subscript a b pos) (m2 f ma mb):=(jy ho ha hb hs).imp λ_ _ _ h=>Ky h
def mB (m:ME):MT:=λe S=>(m e S).bind λd S1=>match d with
 | .bl b=>.ok b S1
 | _=>.bad
def Oq (d:D) (S:Sto):Option Bool:=match d with
 | .non=>some false
 | .bl b=>some b
 | .int i=>some (i != 0)
 | .tup ds=>some (!ds.isEmpty)
 | .fro ds=>some (!ds.isEmpty)
 | .ref n=>match S[n]? with
  | some (.lst ds)=>some (!ds.isEmpty)
  | some (.dK kvs)=>some (!kvs.isEmpty)
  | _=>none
 | _=>none
def ID (m:ME):MT:=λe S=>(m e S).bind λd S1=>match Oq d S1 with
 | some b=>.ok b S1
 | none=>.bad
theorem Au.empty {K:AA} {ρ:List AK} {H:Hp} {ds:List D} {vs:List V} (h:Au K ρ H ds vs):ds.isEmpty=vs.isEmpty:=by cases h <;> rfl
theorem KVR.empty {κ:Type} {K:AA} {ρ:List AK} {H:Hp} {x:List (κ×D)} {y:List (κ×V)} (h:KVR K ρ H x y):x.isEmpty=y.isEmpty:=by cases h <;> rfl
theorem bM {K:AA} {ρ:List AK} {H:Hp} {S:Sto} {d:D} {x:V} {b:Bool} (hs:B4 K ρ S H) (r:Bs K ρ H d x) (h:Oq d S=some b):iu K x H b:=by
 cases r with
 | non=>cases h;rfl
 | bl c=>cases h;rfl
 | int i=>cases h;rfl
 | str x=>cases h
 | tup h1 h2=>cases h;rw [h2.empty];exact .inr (.inl ⟨_,.inl (.inl h1),rfl⟩)
 | fro h1 h2=>cases h;rw [h2.empty];exact .inl ⟨_,h1.sq,rfl⟩
 | exc _ _=>cases h
 | @ref n a hn=>
  obtain ⟨o,ho,ro⟩:=hs.there hn;unfold Oq at h;simp only [ho] at h
  cases o with
  | lst ds=>cases h;obtain ⟨vs,e,rr⟩:=ro;rw [rr.empty];exact .inl ⟨_,.inl (.inl e),rfl⟩
  | dK kvs=>cases h;obtain ⟨vs,e,rr⟩:=ro;rw [KVR.empty rr];exact .inr (.inr ⟨_,e,rfl⟩)
  | dT kvs=>cases h
  | ins C fs=>cases h
  | fK _=>cases h
  | fT _=>cases h
theorem O1 (h:GE X E e ma) (he:∀whole,Ti e X.env whole=(do let v <-whole;i7 e.pos;jA [v] (eZ v)):=by intro _;rfl):GT X E e (mB ma):=(fy h he).imp λσ H Q ⟨ρ,l,S,hl,hs,hm⟩=>by
 refine ⟨ρ,l,S,hl,hs,hm.seq λd S1 hm ρ1 H1 x l1 s1 r1=>?_⟩
 cases d <;> first | exact hm.elim | skip
 cases r1;exact ⟨_,rfl,hm ρ1 H1 l1 s1⟩
theorem Iy (h:GE X E e ma) (he:∀whole,Ti e X.env whole=(do let v <-whole;i7 e.pos;jA [v] (eZ v)):=by intro _;rfl):GT X E e (ID ma):=(Yl h he).imp λσ H Q ⟨ρ,l,S,hl,hs,hm⟩=>by
 refine ⟨ρ,l,S,hl,hs,hm.seq λd S1 hm ρ1 H1 x l1 s1 r1=>?_⟩
 cases hb:Oq d S1 with
 | none=>rw [hb] at hm;exact hm.elim
 | some c=>
  rw [hb] at hm;exact ⟨c,bM s1 r1 hb,hm ρ1 H1 l1 s1⟩
theorem DI {op:Nt} {f:D->D->Sto->Res D} (ho:OpR X (Bd op) (rD X.K f)) (ha:GE X E a ma) (hb:GE X E b mb) (hm:CG op b=false):GT X E (.Compare a [op] [b] pos) (mB (m2 f ma mb)):=(bi ho ha hb hm).imp λσ H Q ⟨ρ,l,S,hl,hs,hm⟩=>by
 refine Ky (Q:=λx H'=>∃k,x=.bl k/\Q k H') ⟨ρ,l,S,hl,hs,hm.seq λd S1 hm ρ1 H1 x l1 s1 r1=>?_⟩
 cases d <;> first | exact hm.elim | skip
 cases r1;exact ⟨_,rfl,hm ρ1 H1 l1 s1⟩
def Kc (m:MT):MT:=λe S=>(m e S).bind λb S1=>.ok (!b) S1
def M5 (ma mb:MT):MT:=λe S=>(ma e S).bind λb S1=>if b=true then mb e S1 else .ok false S1
def mOr (ma mb:MT):MT:=λe S=>(ma e S).bind λb S1=>if b=true then .ok true S1 else mb e S1
variable {ta tb:MT} {rest:List Expr}
theorem JU (h:GT X E a ta):GT X E (.UnaryOp .Not a pos) (Kc ta):=(gB h).imp λσ H Q ⟨ρ,l,S,hl,hs,hm⟩=>by
 exact ⟨ρ,l,S,hl,hs,hm.seq λd S1 hm ρ1 H1 l1 s1=>hm ρ1 H1 l1 s1⟩
theorem bR {K:AA} {σ:St} {H:Hp} {Q:Bool->Hp->Prop} (h:gT K E (M5 ta tb) σ H Q):jm (gT K E ta) (gT K E tb) σ H Q:=by
 obtain ⟨ρ,l,S,hl,hs,hm⟩:=h;refine ⟨ρ,l,S,hl,hs,hm.seq λc S1 hm ρ1 H1 l1 s1=>?_⟩
 cases c with
 | true=>rw [qX rfl] at hm ⊢;exact ⟨ρ1,l,S1,hl.mono l1,s1,hm.go l1 λ_ _ k ρ2 H2 l2 s2=>k ρ2 H2 (l1.trans l2) s2⟩
 | false=>rw [qY AX] at hm ⊢;exact hm ρ1 H1 l1 s1
theorem fZ {K:AA} {σ:St} {H:Hp} {Q:Bool->Hp->Prop} (h:gT K E (mOr ta tb) σ H Q):tOr (gT K E ta) (gT K E tb) σ H Q:=by
 obtain ⟨ρ,l,S,hl,hs,hm⟩:=h;refine ⟨ρ,l,S,hl,hs,hm.seq λc S1 hm ρ1 H1 l1 s1=>?_⟩
 cases c with
 | false=>rw [qY AX] at hm ⊢;exact ⟨ρ1,l,S1,hl.mono l1,s1,hm.go l1 λ_ _ k ρ2 H2 l2 s2=>k ρ2 H2 (l1.trans l2) s2⟩
 | true=>rw [qX rfl] at hm ⊢;exact hm ρ1 H1 l1 s1
abbrev GW (X:Cx) (E:EW) (e:Expr) (m:MT):Prop:=PW X e (gT X.K E m)
theorem RO (ha:GT X E a ta):GW X E (.BoolOp .And [a] pos) ta:=bg ha
theorem M8 (ha:GT X E a ta):GW X E (.BoolOp .Or [a] pos) ta:=fw ha
theorem UW (ha:GT X E a ta) (hb:GW X E (.BoolOp .And (b :: rest) pos) tb):GW X E (.BoolOp .And (a :: b :: rest) pos) (M5 ta tb):=(fx ha hb).imp λ_ _ _ h=>bR h
theorem NS (ha:GT X E a ta) (hb:GW X E (.BoolOp .Or (b :: rest) pos) tb):GW X E (.BoolOp .Or (a :: b :: rest) pos) (mOr ta tb):=(jv ha hb).imp λ_ _ _ h=>fZ h
theorem RP {t:MT} (h:GW X E e t):GT X E e t:=PW.pt h
def J7 (ma mb:ME):ME:=λe S=>(ma e S).bind λd S1=>match d with
 | .bl true=>mb e S1
 | .bl false=>.ok (.bl false) S1
 | _=>.bad
def Vc (ma:ME):ME:=λe S=>(ma e S).bind λd S1=>match d with
 | .bl c=>.ok (.bl (!c)) S1
 | _=>.bad
theorem Ua {op} (h:GE X E a ma):GE X E (.BoolOp op [a] pos) ma:=gU h
theorem RU (ha:GE X E a ma) (hb:GE X E (.BoolOp .And (b :: rest) pos) mb):GE X E (.BoolOp .And (a :: b :: rest) pos) (J7 ma mb):=(gf ha hb).imp λσ H Q ⟨ρ,l,S,hl,hs,hm⟩=>by
 refine ⟨ρ,l,S,hl,hs,hm.seq λc S1 hm ρ1 H1 x l1 s1 r1=>?_⟩
 cases c with
 | bl c=>
  cases r1;refine ⟨c,rfl,?_⟩
  cases c with
  | true=>rw [qX rfl];exact ⟨ρ1,l,S1,hl.mono l1,s1,hm.go l1 λ_ _ k ρ2 H2 z l2 s2 r2=>k ρ2 H2 z (l1.trans l2) s2 r2⟩
  | false=>rw [qY AX];exact hm ρ1 H1 _ l1 s1 (.bl false)
 | _=>exact hm.elim
theorem iV (ha:GE X E a ma):GE X E (.UnaryOp .Not a pos) (Vc ma):=(gW ha).imp λσ H Q ⟨ρ,l,S,hl,hs,hm⟩=>by
 refine ⟨ρ,l,S,hl,hs,hm.seq λc S1 hm ρ1 H1 x l1 s1 r1=>?_⟩
 cases c with
 | bl c=>cases r1;exact ⟨c,rfl,hm ρ1 H1 _ l1 s1 (.bl _)⟩
 | _=>exact hm.elim
def m3 (f g:D->D->Sto->Res D) (ma mb mc:ME):ME:=λe S=>(ma e S).bind λx S1=>(mb e S1).bind λy S2=>(okR (f x y S2)).bind λz S3=>match z with
 | .bl true=>(mc e S3).bind λw S4=>okR (g y w S4)
 | .bl false=>.ok (.bl false) S3
 | _=>.bad
def Aw:ML:=λ_ S=>.ok [] S
def AI (m:ME) (r:ML):ML:=λe S=>(m e S).bind λd S1=>(r e S1).bind λds S2=>.ok (d :: ds) S2
variable {es:List Expr} {ml:ML}
theorem BA:GA X E [] Aw:=HC.imp λσ H Q ⟨ρ,l,S,hl,hs,hm⟩=>by
 exact hm ρ H [] .refl hs .nil
theorem AU (ha:GE X E e ma) (hr:GA X E es ml) (hs:AS (e :: es) X.env=(false,Br e X.env) :: AS es X.env:=by rfl):GA X E (e :: es) (AI ma ml):=(E2 ha hr hs).imp λσ H Q ⟨ρ,l,S,hl,hs,hm⟩=>by
 exact ⟨ρ,l,S,hl,hs,hm.seq λd S1 hm ρ1 H1 x l1 s1 r1=>⟨ρ1,l,S1,hl.mono l1,s1,(hm.later l1).seq λds' S2 hm ρ2 H2 xs l2 s2 r2=>hm ρ2 H2 (x :: xs) (l1.trans l2) s2 (.cons (r1.mono l2) r2)⟩⟩
def Gz (m:ML):ME:=λe S=>(m e S).bind λds S1=>if ds.length<=sizeLine then .ok (.tup ds) S1 else .bad
theorem II {K:AA} {ρ:List AK} {H:Hp} {S:Sto} {p:AK} {ho:HO} (hs:B4 K ρ S H) (hp:H p=none):B4 K ρ S (upd H p ho)/\Le K ρ H ρ (upd H p ho):=by
 have le:Le K ρ H ρ (upd H p ho):=Le.fresh hp;refine ⟨⟨hs.len,hs.nd,λn o a h1 h2=>(hs.ob n o a h1 h2).mono le (BW λz=>?_)⟩,le⟩;subst z;exact hs.notIn hp h2
theorem KD {x1} (h:GA X E es ml):GE X E (.Tuple es x1 pos) (Gz ml):=(gR h).imp λσ H Q ⟨ρ,l,S,hl,hs,hm⟩=>by
 refine ⟨ρ,l,S,hl,hs,hm.seq λds S1 hm ρ1 H1 xs l1 s1 r1=>?_⟩;split at hm
 ·rename_i hz
  refine ⟨by rw [<-r1.length];exact hz,λp hp=>?_⟩;obtain ⟨s2,l2⟩:=II (ho:=.tup xs) s1 hp;exact hm ρ1 _ _ (l1.trans l2) s2 (.tup Bg (r1.mono l2))
 ·exact hm.elim
def Cw (m:ML):ML:=λe S=>(m e S).bind λds S1=>if ds.length<=sizeLine then .ok ds S1 else .bad
theorem IX (h:GA X E es ml):GL X E (.List es pos) (Cw ml):=(gY h).imp λσ H Q ⟨ρ,l,S,hl,hs,hm⟩=>by
 refine ⟨ρ,l,S,hl,hs,hm.seq λds S1 hm ρ1 H1 xs l1 s1 r1=>?_⟩;split at hm
 ·rename_i hz
  refine ⟨by rw [<-r1.length];exact hz,λp hp=>?_⟩;obtain ⟨s2,l2⟩:=II (ho:=.lst xs) s1 hp;exact hm ρ1 _ p xs (l1.trans l2) s2 (r1.mono l2) Bg (λn q=>s1.notIn hp q) (l1.back hs s1 hp)
 ·exact hm.elim
def DT (m:ML):ME:=λe S=>(m e S).bind λds S1=>.ok (.ref S1.length) (S1++[.lst ds])
theorem ES (h:GL X E e ml):GE X E e (DT ml):=PE.imp h λσ H Q ⟨ρ,l,S,hl,hs,hm⟩=>by
 refine ⟨ρ,l,S,hl,hs,hm.seq λds S1 hm ρ1 H1 p xs l1 s1 r1 hp hn hp0=>?_⟩
 have l0:∀(n:Nat) a,ρ1[n]?=some a->(ρ1++[p])[n]?=some a:=λn a h=>by rw [Ab (AD.mp h).1];exact h
 obtain ⟨s2,at2⟩:=s1.adopt (o:=.lst ds) hn ⟨xs,hp,r1.more l0⟩;refine hm _ _ _ ⟨λn a h=>l0 n a (l1.pre n a h),l1.tup,l1.frz,λa o e h=>⟨(l1.oth a o e h).1,λn q=>?_⟩⟩ s2 (.ref at2)
 rcases Hl q with ⟨q,_⟩ | ⟨_,q⟩
 ·exact (l1.oth a o e h).2 n q
 ·exact CF e hp0 q
def Eu (d:D) (S:Sto):Option (List D):=match d with
 | .tup ds=>some ds
 | .fro ds=>some ds
 | .ref n=>match S[n]? with
  | some (.lst ds)=>some ds
  | _=>none
 | _=>none
def Jo (m:ME):ML:=λe S=>(m e S).bind λd S1=>match Eu d S1 with
 | some ds=>.ok ds S1
 | none=>.bad
theorem Lm {K:AA} {ρ:List AK} {H:Hp} {S:Sto} {d:D} {x:V} {ds:List D} (hs:B4 K ρ S H) (r:Bs K ρ H d x) (h:Eu d S=some ds):∃p xs,x=.ref p/\Au K ρ H ds xs/\(SqL K H p xs∨SqT K H p xs):=by
 cases r with
 | tup h1 h2=>cases h;exact ⟨_,_,rfl,h2,.inr (.inl (.inl h1))⟩
 | fro h1 h2=>cases h;exact ⟨_,_,rfl,h2,.inl h1.sq⟩
 | @ref n a hn=>
  obtain ⟨o,ho,ro⟩:=hs.there hn;unfold Eu at h;simp only [ho] at h
  cases o with
  | lst es=>cases h;obtain ⟨vs,e,rr⟩:=ro;exact ⟨_,_,rfl,rr,.inl (.inl (.inl e))⟩
  | _=>cases h
 | _=>cases h
theorem Zi (h:GE X E e ma):GQ X E e (Jo ma):=PE.imp h λσ H Q ⟨ρ,l,S,hl,hs,hm⟩=>by
 refine ⟨ρ,l,S,hl,hs,hm.seq λx S1 hm ρ1 H1 v l1 s1 r1=>?_⟩
 cases hq:Eu x S1 with
 | none=>rw [hq] at hm;exact hm.elim
 | some ds=>
  rw [hq] at hm;obtain ⟨p,xs,rfl,r2,sq⟩:=Lm s1 r1 hq;exact hm ρ1 H1 p xs l1 s1 r2 sq
end
def Res.lift {α:Type} (r:Res α) (e:Lo) (f:α->Sto->Res Fl):Res Fl:=match r with
 | .ok a S=>f a S
 | .err c S=>.ok (.ex c e) S
 | .bad=>.bad
theorem B7.lift {α:Type} {K:AA} {E:EW} {ρ ρ1:List AK} {H H1:Hp} {σ:St} {e:Lo} {D:Uv} {r:Res α} {F:α->Sto->Res Fl} {k':α->Sto->Prop} (h:B7 K noH ρ1 H1 (r.lift e F) λfl S'=>No K E ρ H S' D fl) (hl:FQ K ρ1 H1 e σ) (l:Le K ρ H ρ1 H1)
  (f:∀a S,(B7 K noH ρ1 H1 (F a S) λfl S'=>No K E ρ H S' D fl)->k' a S):B7 K (λc=>E c σ) ρ1 H1 r k':=by
 cases r with
 | ok a S=>exact f a S h
 | err c S=>exact λρ' H' l' s'=>h ρ' H' σ (l.trans l') s' (hl.mono l')
 | bad=>exact h
def sNx:MS:=λe S=>.ok (.nx e) S
def Pq:MS:=λ_ _=>.bad
def BI (a b:MS):MS:=λe S=>(a e S).bind λf S1=>match f with
 | .nx e1=>b e1 S1
 | f=>.ok f S1
def CB (m:ME):MS:=λe S=>(m e S).lift e λ_ S1=>.ok (.nx e) S1
def C5 (m:ME):MS:=λe S=>(m e S).lift e λd S1=>.ok (.rt d) S1
def sIf (t:MT) (a b:MS):MS:=λe S=>(t e S).lift e λc S1=>if c=true then a e S1 else b e S1
def Wo (m:ME) (g:MG):MS:=λe S=>(m e S).lift e λd S1=>(g d e S1).bind λe1 S2=>.ok (.nx e1) S2
def tgN (i:Nat):MG:=λd e S=>.ok (e.set i (some d)) S
def Bk (i:Nat) (m:ME):MS:=Wo m (tgN i)
section
variable {X:Cx} {E:EW} {st:Cc} {rest:List Cc} {e:Expr} {pos:Pos} {a b:MS} {m:ME} {t:MT}
theorem No.later {K:AA} {ρ ρ1:List AK} {H H1:Hp} {S:Sto} {D:Uv} {f:Fl} (l:Le K ρ H ρ1 H1) (h:No K E ρ H S D f):No K E ρ1 H1 S D f:=by
 cases f with
 | nx e=>exact λρ' H' σ' l'=>h ρ' H' σ' (l.trans l')
 | bk e=>exact λρ' H' σ' l'=>h ρ' H' σ' (l.trans l')
 | ct e=>exact λρ' H' σ' l'=>h ρ' H' σ' (l.trans l')
 | ex c e=>exact λρ' H' σ' l'=>h ρ' H' σ' (l.trans l')
 | rt d=>exact λρ' H' x l'=>h ρ' H' x (l.trans l')
theorem CC:GSs X E [] sNx:=bm.imp λD σ H ⟨ρ,l,S,hl,hs,hm⟩=>by
 exact hm ρ H σ .refl hs hl
theorem Aa (h1:GS X E st a) (h2:GSs X E rest b):GSs X E (st :: rest) (BI a b):=(Yo h1 h2).imp λD σ H ⟨ρ,l,S,hl,hs,hm⟩=>by
 refine ⟨ρ,l,S,hl,hs,hm.seq λg S1 hm=>?_⟩
 cases g with
 | nx e'=>exact λρ1 H1 σ1 l1 s1 r1=>⟨ρ1,e',S1,r1,s1,hm.go l1 λ_ _ k=>k.later l1⟩
 | rt d=>exact hm
 | bk d=>exact hm
 | ct d=>exact hm
 | ex c d=>exact hm
theorem Ap (h1:GS X E st a):GSs X E [st] a:=bj h1
theorem Iz:GS X E st Pq:=(Yq (X:=X) (st:=st)).imp λD σ H ⟨ρ,l,S,hl,hs,hm⟩=>hm.elim
theorem DL (he:GE X E e m) (hs:Fh e none pos.line X.env=pure false:=by rfl):GS X E (.Expr e pos) (CB m):=(bn he hs).imp λD σ H ⟨ρ,l,S,hl,hs,hm⟩=>by
 exact ⟨ρ,l,S,hl,hs,hm.lift hl .refl λd S1 hm ρ1 H1 x l1 s1 r1=>hm ρ1 H1 σ l1 s1 (hl.mono l1)⟩
theorem B5 (he:GE X E e m):GS X E (.Return (some e) pos) (C5 m):=(gD he).imp λD σ H ⟨ρ,l,S,hl,hs,hm⟩=>by
 exact ⟨ρ,l,S,hl,hs,hm.lift hl .refl λd S1 hm ρ1 H1 x l1 s1 r1=>hm ρ1 H1 x l1 s1 r1⟩
theorem DU {c:Expr} {sa sb:List Cc} (hc:GT X E c t) (ha:GSs X E sa a) (hb:GSs X E sb b):GS X E (.If c sa sb pos) (sIf t a b):=(jw hc ha hb).imp λD σ H ⟨ρ,l,S,hl,hs,hm⟩=>by
 refine ⟨ρ,l,S,hl,hs,hm.lift hl .refl λc S1 hm ρ1 H1 l1 s1=>?_⟩
 cases c with
 | true=>rw [qX rfl] at hm ⊢;exact ⟨ρ1,l,S1,hl.mono l1,s1,hm.go l1 λ_ _ k=>k.later l1⟩
 | false=>rw [qY AX] at hm ⊢;exact ⟨ρ1,l,S1,hl.mono l1,s1,hm.go l1 λ_ _ k=>k.later l1⟩
theorem dA {i:Nat} {tg:Expr} (h:PG X tg (Vr i)):GG X tg (tgN i):=h.imp λv σ H Q ⟨ρ,l,S,d,hd,hl,hs,hm⟩=>by
 exact hm ρ H _ .refl hs (hl.set hd i)
theorem iP {tg:Expr} {g:MG} (he:GE X E e m) (hg:GG X tg g) (hs:swapsWithSole [tg] e pos.line X.env=pure false:=by rfl) (hw:swappedStores [tg] e X.env=pure none:=by rfl)
  (h1:(Ej [tg] X.env).map (·.2)=[OA tg X.env]:=by rfl):GS X E (.Assign [tg] e pos) (Wo m g):=(gJ he hg hs hw h1).imp λD σ H ⟨ρ,l,S,hl,hs,hm⟩=>by
 exact ⟨ρ,l,S,hl,hs,hm.lift hl .refl λd S1 hm ρ1 H1 x l1 s1 r1=>⟨ρ1,l,S1,d,r1,hl.mono l1,s1,(hm.later l1).seq λe1 S2 hm ρ2 H2 σ2 l2 s2 r2=>hm ρ2 H2 σ2 (l1.trans l2) s2 r2⟩⟩
theorem iO {i:Nat} {x:Str} {pos':Pos} (hN:X.N.Nodup) (hi:X.N[i]?=some x) (hx:Loc X.env.scope x) (he:GE X E e m) (hs:Fh e (some (.Name x pos')) pos.line X.env=pure false:=by rfl)
  (hf:X.fn x=true∨X.env.scope.names.lookup x=some .local:=by first | exact .inl rfl | exact .inr rfl | assumption):GS X E (.Assign [.Name x pos'] e pos) (Bk i m):=(gC hN hi hx he hs hf).imp λD σ H ⟨ρ,l,S,hl,hs,hm⟩=>by
 exact ⟨ρ,l,S,hl,hs,hm.lift hl .refl λd S1 hm ρ1 H1 x l1 s1 r1=>hm ρ1 H1 _ l1 s1 ((hl.mono l1).set r1 i)⟩
def JA (v:Hv) (g:MG) (b:MS):Nat->Nat->Lo->Sto->Res Fl
 | k,i,e,S=>match v S with
  | none=>.bad
  | some ds=>match ds[i]? with
   | none=>.ok (.nx e) S
   | some d=>match k with
    | 0=>.bad
    | k+1=>(g d e S).bind λe1 S1=>(b e1 S1).bind λf S2=>match f with
     | .nx e2=>JA v g b k (i+1) e2 S2
     | .ct e2=>JA v g b k (i+1) e2 S2
     | .bk e2=>.ok (.nx e2) S2
     | .rt d=>.ok (.rt d) S2
     | .ex c e2=>.ok (.ex c e2) S2
def Cm (v:Hv) (S:Sto):Nat:=match v S with
 | none=>0
 | some ds=>ds.length
def GD (m:MI) (g:MG) (b:MS):MS:=λe S=>(m e S).lift e λv S1=>JA v g b (Cm v S1) 0 e S1
theorem Eo {tg iter:Expr} {body:List Cc} {mi:MI} {g:MG} (hp:Qm (Ac X.prog X.w) X.A X.env X.xe) (hc:X.calm=true) (hi:GI X E tg iter mi) (hg:GG X tg g) (hb:GSs X E body b)
  (hs:∀x,FD iter X.env x=pure x:=by intro _;rfl):GS X E (.For tg iter body [] pos) (GD mi g b):=(gF hp hc hi hg hb hs).imp λD σ H ⟨ρ,l,S,hl,hs,hm⟩=>by
 refine ⟨ρ,l,S,hl,hs,hm.lift hl .refl λv S1 hm ρ1 H1 J l1 s1 vo=>?_⟩;refine ⟨λi n σ2 H2=>∃ρ2 e2 S2,Le X.K ρ1 H1 ρ2 H2/\FQ X.K ρ2 H2 e2 σ2/\B4 X.K ρ2 S2 H2/\B7 X.K noH ρ2 H2 (JA v g b n i e2 S2) λfl S'=>No X.K E ρ H S' D fl,⟨Cm v S1,ρ1,l,S1,.refl,hl.mono l1,s1,hm.later l1⟩,?_⟩;rintro i n σ2 H2 ⟨ρ2,e2,S2,l2,r2,s2,hm2⟩;unfold JA at hm2
 cases hv:v S2 with
 | none=>rw [hv] at hm2;exact hm2.elim
 | some ds=>
  rw [hv] at hm2;dsimp only at hm2;obtain ⟨v1,v2⟩:=vo ρ2 H2 S2 ds i l2 s2 hv
  cases hd:ds[i]? with
  | none=>
   rw [hd] at hm2;exact .inl ⟨v1 hd,hm2 ρ2 H2 σ2 (l1.trans l2) s2 r2⟩
  | some d=>
   rw [hd] at hm2;dsimp only at hm2;obtain ⟨go,yl⟩:=v2 d hd
   cases n with
   | zero=>exact hm2.elim
   | succ n=>
    dsimp only at hm2;refine .inr ⟨go,λσ' H'=>∃ρ2 e2 S2,Le X.K ρ1 H1 ρ2 H'/\FQ X.K ρ2 H' e2 σ'/\B4 X.K ρ2 S2 H'/\B7 X.K noH ρ2 H' (JA v g b n (i+1) e2 S2) λfl S'=>No X.K E ρ H S' D fl,λσ' H' q=>⟨n,DM n,q⟩,λx H' y=>?_⟩;obtain ⟨ρ3,l3,s3,rd⟩:=yl x H' y;refine ⟨ρ3,e2,S2,d,rd,r2.mono l3,s3,(hm2.later l3).seq λe3 S3 hm2 ρ4 H4 σ4 l4 s4 r4=>?_⟩;refine ⟨ρ4,e3,S3,r4,s4,(hm2.later l4).seq λf4 S4 hm2=>?_⟩
    cases f4 with
    | nx e5=>exact λρ5 H5 σ5 l5 s5 r5=>⟨ρ5,e5,S4,l2.trans (l3.trans (l4.trans l5)),r5,s5,hm2.later l5⟩
    | ct e5=>exact λρ5 H5 σ5 l5 s5 r5=>⟨ρ5,e5,S4,l2.trans (l3.trans (l4.trans l5)),r5,s5,hm2.later l5⟩
    | bk e5=>exact λρ5 H5 σ5 l5 s5 r5=>hm2 ρ5 H5 σ5 (l1.trans (l2.trans (l3.trans (l4.trans l5)))) s5 r5
    | ex c e5=>exact λρ5 H5 σ5 l5 s5 r5=>hm2 ρ5 H5 σ5 (l1.trans (l2.trans (l3.trans (l4.trans l5)))) s5 r5
    | rt d5=>exact λρ5 H5 x5 l5 s5 r5=>hm2 ρ5 H5 x5 (l1.trans (l2.trans (l3.trans (l4.trans l5)))) s5 r5
def FU (c:MT) (b:MS):Nat->MS
 | 0=>λ_ _=>.bad
 | n+1=>λe S=>(c e S).lift e λt S1=>if t=true then (b e S1).bind λf S2=>match f with
   | .nx e2=>FU c b n e2 S2
   | .ct e2=>FU c b n e2 S2
   | .bk e2=>.ok (.nx e2) S2
   | .rt d=>.ok (.rt d) S2
   | .ex c e2=>.ok (.ex c e2) S2
  else .ok (.nx e) S1
theorem TC {c:Expr} {body:List Cc} (N:Nat) (hp:Qm (Ac X.prog X.w) X.A X.env X.xe) (hc:GT X E c t) (hb:GSs X E body b):GS X E (.While c body [] pos) (FU t b N):=(Yp hp hc hb).imp λD σ H ⟨ρ,l,S,hl,hs,hm⟩=>by
 refine ⟨λn σ2 H2=>∃ρ2 e2 S2,Le X.K ρ H ρ2 H2/\FQ X.K ρ2 H2 e2 σ2/\B4 X.K ρ2 S2 H2/\B7 X.K noH ρ2 H2 (FU t b n e2 S2) λfl S'=>No X.K E ρ H S' D fl,⟨N,ρ,l,S,.refl,hl,hs,hm⟩,?_⟩;rintro n σ2 H2 ⟨ρ2,e2,S2,l2,r2,s2,hm2⟩
 cases n with
 | zero=>exact hm2.elim
 | succ n=>
  refine ⟨ρ2,e2,S2,r2,s2,hm2.lift r2 l2 λtc S3 hm2 ρ3 H3 l3 s3=>?_⟩
  cases tc with
  | false=>rw [qY AX] at hm2 ⊢;exact hm2 ρ3 H3 σ2 (l2.trans l3) s3 (r2.mono l3)
  | true=>
   rw [qX rfl] at hm2 ⊢;refine ⟨λσ' H'=>∃ρ2 e2 S2,Le X.K ρ H ρ2 H'/\FQ X.K ρ2 H' e2 σ'/\B4 X.K ρ2 S2 H'/\B7 X.K noH ρ2 H' (FU t b n e2 S2) λfl S'=>No X.K E ρ H S' D fl,λσ' H' q=>⟨n,DM n,q⟩,?_⟩;refine ⟨ρ3,e2,S3,r2.mono l3,s3,(hm2.later l3).seq λf4 S4 hm2=>?_⟩
   cases f4 with
   | nx e5=>exact λρ5 H5 σ5 l5 s5 r5=>⟨ρ5,e5,S4,l2.trans (l3.trans l5),r5,s5,hm2.later l5⟩
   | ct e5=>exact λρ5 H5 σ5 l5 s5 r5=>⟨ρ5,e5,S4,l2.trans (l3.trans l5),r5,s5,hm2.later l5⟩
   | bk e5=>exact λρ5 H5 σ5 l5 s5 r5=>hm2 ρ5 H5 σ5 (l2.trans (l3.trans l5)) s5 r5
   | ex c e5=>exact λρ5 H5 σ5 l5 s5 r5=>hm2 ρ5 H5 σ5 (l2.trans (l3.trans l5)) s5 r5
   | rt d5=>exact λρ5 H5 x5 l5 s5 r5=>hm2 ρ5 H5 x5 (l2.trans (l3.trans l5)) s5 r5
end
section
variable {X:Cx} {E:EW} {tg e:Expr} {m:ME} {ml:ML} {K:AA}
def NI (d:D):Hv:=λS=>match d with
 | .ref n=>match S[n]? with
  | some (.lst ds)=>some ds
  | _=>none
 | .fro ds=>some ds
 | _=>none
def Dc (ds:List D):Hv:=λ_=>some ds
def kN (m:ME):MI:=λe S=>(m e S).bind λd S1=>match NI d S1 with
 | some _=>.ok (NI d) S1
 | none=>.bad
def eN (m:ME):MI:=λe S=>(m e S).bind λd S1=>match d with
 | .tup ds=>.ok (Dc ds) S1
 | _=>.bad
theorem OL {ρ:List AK} {H:Hp} {S:Sto} {a:AK} {d:D} {ds:List D} (s:B4 K ρ S H) (r:Bs K ρ H d (.ref a)) (hv:NI d S=some ds):∃xs,SqL K H a xs/\Au K ρ H ds xs:=by
 cases r with
 | tup h1 h2=>cases hv
 | exc _ _=>cases hv
 | fro h1 h2=>cases hv;exact ⟨_,h1.sq,h2⟩
 | @ref n _ hn=>
  obtain ⟨o,ho,ro⟩:=s.there hn;unfold NI at hv;simp only [ho] at hv
  cases o with
  | lst es=>
   cases hv;obtain ⟨vs,e,rr⟩:=ro;exact ⟨vs,.inl (.inl e),rr⟩
  | _=>cases hv
theorem OJ {ρ:List AK} {H:Hp} {a:AK} {d:D} (r:Bs K ρ H d (.ref a)):LM K ρ H (Itl K a) (NI d):=by
 intro ρ2 H2 S ds i l s hv;obtain ⟨xs,sq,rr⟩:=OL s (r.mono l) hv;refine ⟨λhn=>⟨xs,sq,by rw [<-rr.length];exact Bj.mp hn⟩,λd hd=>?_⟩;obtain ⟨x,hx,rx⟩:=rr.get hd;refine ⟨⟨xs,x,sq,hx⟩,λy H' ⟨e,hy⟩=>?_⟩;subst e;have:=hy xs sq;rw [hx] at this;cases this;exact ⟨ρ2,.refl,s,rx⟩
theorem iR (h:GE X E e m):GI X E tg e (kN m):=(bw h).imp λσ H R ⟨ρ,l,S,hl,hs,hm⟩=>by
 refine ⟨ρ,l,S,hl,hs,hm.seq λd S1 hm ρ1 H1 x l1 s1 r1=>?_⟩
 cases hv:NI d S1 with
 | none=>rw [hv] at hm;exact hm.elim
 | some ds=>
  rw [hv] at hm
  have:∃a,x=.ref a:=by
   cases r1 <;> first | exact ⟨_,rfl⟩ | (cases hv;done)
  obtain ⟨a,rfl⟩:=this;obtain ⟨xs,sq,_⟩:=OL s1 r1 hv;exact ⟨a,rfl,⟨xs,sq⟩,hm ρ1 H1 _ l1 s1 (OJ r1)⟩
theorem OH {ρ:List AK} {H:Hp} {a:AK} {ds:List D} {xs:List V} (h1:H a=some (.tup xs)) (h2:Au K ρ H ds xs):LM K ρ H (Itt K a) (Dc ds):=by
 intro ρ2 H2 S ds' i l s hv;cases hv;have rr:=h2.mono l;have sq:SqT K H2 a xs:=.inl (.inl (l.tup _ _ h1));refine ⟨λhn=>⟨xs,sq,by rw [<-rr.length];exact Bj.mp hn⟩,λd hd=>?_⟩;obtain ⟨x,hx,rx⟩:=rr.get hd;refine ⟨⟨xs,x,sq,hx⟩,λy H' ⟨e,hy⟩=>?_⟩;subst e;have:=hy xs sq;rw [hx] at this;cases this;exact ⟨ρ2,.refl,s,rx⟩
theorem iQ (h:GE X E e m):GI X E tg e (eN m):=(gK h).imp λσ H R ⟨ρ,l,S,hl,hs,hm⟩=>by
 refine ⟨ρ,l,S,hl,hs,hm.seq λd S1 hm ρ1 H1 x l1 s1 r1=>?_⟩
 cases d <;> first | exact hm.elim | skip
 cases r1 with
 | tup q1 q2=>exact ⟨_,rfl,⟨_,.inl (.inl q1)⟩,hm ρ1 H1 _ l1 s1 (OH q1 q2)⟩
def DA (lo:Int) (n:Nat):List D:=(BN n).map λi:Nat=>D.int (lo+i)
theorem Mq (lo:Int) (n i:Nat):(DA lo n)[i]?=if i < n then some (.int (lo+i)) else none:=by
 unfold DA;rw [AO]
 by_cases h:i < n
 ·rw [Bh h,qX h];rfl
 ·rw [qY h,Bj.mpr (by simpa using h)];rfl
theorem OI {ρ:List AK} {H:Hp} (lo:Int) (n:Nat):LM K ρ H (Itr lo n) (Dc (DA lo n)):=by
 intro ρ2 H2 S ds' i l s hv;cases hv;rw [Mq];refine ⟨λhn=>?_,λd hd=>?_⟩
 ·split at hn
  ·cases hn
  ·rename_i h;exact OD h
 ·split at hd
  ·rename_i h
   cases hd;refine ⟨h,λy H' ⟨e,hy⟩=>?_⟩;subst e;subst hy;exact ⟨ρ2,.refl,s,.int _⟩
  ·cases hd
def iR1 (ml:ML):MI:=λe S=>(ml e S).bind λds S1=>match ds with
 | [.int j]=>if -(2 ^ 62)<=j/\j < 2 ^ 62 then .ok (Dc (DA 0 j.toNat)) S1 else .bad
 | _=>.bad
def iR2 (ml:ML):MI:=λe S=>(ml e S).bind λds S1=>match ds with
 | [.int i,.int j]=>if -(2 ^ 62)<=i/\i < 2 ^ 62/\-(2 ^ 62)<=j/\j < 2 ^ 62 then .ok (Dc (DA i (j - i).toNat)) S1 else .bad
 | _=>.bad
theorem GZ {a:Expr} {p pos:Pos} (hg:Gl X "range") (hm:X.mg "range" = none) (ha:GA X E [a] ml) (hs:AS [a] X.env=[(false,Br a X.env)]:=by rfl):GI X E tg (.Call (.Name "range" p) [a] [] pos) (iR1 ml):=(W2 hg hm ha hs).imp λσ H R ⟨ρ,l,S,hl,hs,hm⟩=>by
 refine ⟨ρ,l,S,hl,hs,hm.seq λds S1 hm ρ1 H1 xs l1 s1 r1=>?_⟩;split at hm
 ·rename_i j
  split at hm
  ·rename_i hj
   cases r1 with
   | cons r t=>
    cases t;cases r;exact ⟨j,rfl,hj.1,hj.2,hm ρ1 H1 _ l1 s1 (OI 0 j.toNat)⟩
  ·exact hm.elim
 ·exact hm.elim
theorem XS {a b:Expr} {p pos:Pos} (hg:Gl X "range") (hm:X.mg "range" = none) (ha:GA X E [a,b] ml) (hs:AS [a,b] X.env=[(false,Br a X.env),(false,Br b X.env)]:=by rfl) (hs2:AS [b] X.env=[(false,Br b X.env)]:=by rfl) :
  GI X E tg (.Call (.Name "range" p) [a,b] [] pos) (iR2 ml):=(W1 hg hm ha hs hs2).imp λσ H R ⟨ρ,l,S,hl,hs,hm⟩=>by
 refine ⟨ρ,l,S,hl,hs,hm.seq λds S1 hm ρ1 H1 xs l1 s1 r1=>?_⟩;split at hm
 ·rename_i i j
  split at hm
  ·rename_i hj
   cases r1 with
   | cons r t=>
    cases t with
    | cons r' t=>
     cases t;cases r;cases r';exact ⟨i,j,rfl,hj,hm ρ1 H1 _ l1 s1 (OI i _)⟩
  ·exact hm.elim
 ·exact hm.elim
end
def FH:List D->Lo->Sto->Res Lo
 | [],e,S=>.ok e S
 | _,_,_=>.bad
def Bn (g:MG) (r:List D->Lo->Sto->Res Lo):List D->Lo->Sto->Res Lo
 | d :: ds,e,S=>(g d e S).bind λe1 S1=>r ds e1 S1
 | [],_,_=>.bad
def E5 (n:Nat) (r:List D->Lo->Sto->Res Lo):MG:=λd e S=>match d with
 | .tup ds=>if ds.length=n then r ds e S else .bad
 | _=>.bad
section
variable {X:Cx} {E:EW} {pos:Pos}
def gGs (K:AA) (r:List D->Lo->Sto->Res Lo):TGs:=λvs σ H Q=>∃ρ e S ds,Au K ρ H ds vs/\FQ K ρ H e σ/\B4 K ρ S H/\B7 K noH ρ H (r ds e S) λe' S'=>∀ρ' H' σ',Le K ρ H ρ' H'->B4 K ρ' S' H'->FQ K ρ' H' e' σ'->Q σ' H'
abbrev GGs (X:Cx) (ts:List Expr) (r:List D->Lo->Sto->Res Lo):Prop:=PGs X ts (gGs X.K r)
theorem PGs.imp {X:Cx} {ts:List Expr} {t t':TGs} (h:PGs X ts t) (i:∀vs σ H Q,t' vs σ H Q->t vs σ H Q):PGs X ts t':=λpins s σ H vs us Q I r q=>h pins s σ H vs us Q I r (i vs σ H Q q)
theorem HS:GGs X [] FH:=b0.imp λvs σ H Q ⟨ρ,l,S,ds,hd,hl,hs,hm⟩=>by
 cases ds with
 | nil=>cases hd;exact ⟨rfl,hm ρ H σ .refl hs hl⟩
 | cons d ds=>exact hm.elim
theorem Cf {e:Expr} {es:List Expr} {g:MG} {r:List D->Lo->Sto->Res Lo} (h1:GG X e g) (h2:GGs X es r)
  (hs:(Ej (e :: es) X.env).map (·.2)=OA e X.env :: (Ej es X.env).map (·.2):=by rfl):GGs X (e :: es) (Bn g r):=(Yv h1 h2 hs).imp λvs σ H Q ⟨ρ,l,S,ds,hd,hl,hs,hm⟩=>by
 cases ds with
 | nil=>exact hm.elim
 | cons d ds=>
  cases hd with
  | cons q1 q2=>
   exact ⟨_,_,rfl,ρ,l,S,d,q1,hl,hs,hm.seq λe1 S1 hm ρ1 H1 σ1 l1 s1 r1=>⟨ρ1,e1,S1,ds,q2.mono l1,r1,s1,hm.go l1 λ_ _ k ρ2 H2 σ2 l2 s2 r2=>k ρ2 H2 σ2 (l1.trans l2) s2 r2⟩⟩
theorem JW {es:List Expr} {k:Nat} {r:List D->Lo->Sto->Res Lo} {n:Nat} (hc:X.calm=true) (h:GGs X es r)
  (hn:(Ej es X.env).length=n:=by rfl) (hst:(Ej es X.env).findIdx? (·.1)=none:=by rfl):GG X (.Tuple es k pos) (E5 n r):=(gM hc h hn hst).imp λv σ H Q ⟨ρ,l,S,d,hd,hl,hs,hm⟩=>by
 cases d <;> first | exact hm.elim | skip
 rename_i ds
 cases hd with
 | tup q1 q2=>
  unfold E5 at hm;dsimp only at hm;split at hm
  ·rename_i hlen
   exact ⟨_,_,rfl,.inl (.inl q1),by rw [<-q2.length];exact hlen,ρ,l,S,ds,q2,hl,hs,hm⟩
  ·exact hm.elim
end
def spM (K:AA) (n:Nat) (f:List D->Sto->Res D):Sp:=λvs H Q E=>∃ρ ds S,ds.length=n/\Au K ρ H ds vs/\B4 K ρ S H/\B7 K (λc H'=>E (.ref c) none H') ρ H (f ds S) λd S'=>
 ∀ρ' H' x,Le K ρ H ρ' H'->B4 K ρ' S' H'->Bs K ρ' H' d x->Q x H'
theorem spM.len {K:AA} {n:Nat} {f:List D->Sto->Res D} {vs:List V} {H:Hp} {Q:VK} {E:XK} (h:spM K n f vs H Q E):vs.length=n:=by
 obtain ⟨ρ,ds,S,h1,h2,_⟩:=h;rw [<-h2.length];exact h1
def BH (n:Nat) (f:List D->Sto->Res D) (m:ML):ME:=λe S=>(m e S).bind λds S1=>if ds.length=n then f ds S1 else .bad
def Os (C:AK) (n:Nat) (f:List D->Sto->Res D) (m:ML):ME:=λe S=>(m e S).bind λds S1=>if ds.length+1=n then (f (.ref S1.length :: ds) (S1++[.ins C []])).bind (λd S2=>match d with
  | .non=>.ok (.ref S1.length) S2
  | _=>.bad) else .bad
def WS (E:EW) (σ:St):XK:=λv o H=>o=none/\∃c,v=.ref c/\E c σ H
section
variable {X:Cx} {E:EW} {CX:CXT} {k n:Nat} {f C:AK} {fd:DN} {ps:List Str} {x:Str} {p pos:Pos} {e:Expr} {es:List Expr} {ml:ML} {g:List D->Sto->Res D}
theorem B7.xk {α:Type} {K:AA} {σ:St} {ρ ρ1:List AK} {H H1:Hp} {r:Res α} {k k':α->Sto->Prop} (h:B7 K (λc=>E c σ) ρ H r k) (l:Le K ρ H ρ1 H1) (f:∀a S,k a S->k' a S):B7 K (λc H'=>WS E σ (.ref c) none H') ρ1 H1 r k':=by
 cases r with
 | ok a S=>exact f a S h
 | err c S=>exact λρ' H' l' s=>⟨rfl,c,rfl,h ρ' H' (l.trans l') s⟩
 | bad=>exact h
theorem Bb (F:DX X.prog X.w X.K X.mg X.base CX k f fd ps (spM X.K n g)) (hx:LN CX X (WS E)) (hr:HG k X.A) (hg:Gl X x) (hm:X.mg x=some (.ref f)) (hk:Fj X.K (.ref f)=true) (hb:Binds X.K fd ps [])
  (ha:GA X E (e :: es) ml) (hdb:(x==("__debug__" : Str))=false:=by decide) (he:AS (e :: es) X.env=(false,Br e X.env) :: AS es X.env:=by rfl) (hpl:(DQ pos (AS es X.env)).any (·.1)=false:=by rfl) :
  GE X E (.Call (.Name x p) (e :: es) [] pos) (BH n g ml):=(cJ (E:=WS E) F hr hg hm hk hb .nil hx ha hdb he hpl).imp λσ H Q ⟨ρ,l,S,hl,hs,hm⟩=>by
 refine ⟨ρ,l,S,hl,hs,hm.seq λds S1 hm ρ1 H1 xs l1 s1 r1=>?_⟩;split at hm
 ·rename_i hlen
  rw [BQ];exact ⟨ρ1,ds,S1,hlen,r1,s1,hm.xk l1 λ_ _ k ρ' H' z l' s' r'=>k ρ' H' z (l1.trans l') s' r'⟩
 ·exact hm.elim
theorem dC (M:Mk X.K C f) (F:DX X.prog X.w X.K X.mg X.base CX k f fd ps (spM X.K n g)) (hx:LN CX X (WS E)) (hr:HG (k+1) X.A) (hg:Gl X x) (hm:X.mg x=some (.ref C)) (hb:Binds X.K fd ps [])
  (ha:GA X E (e :: es) ml) (hdb:(x==("__debug__" : Str))=false:=by decide) (he:AS (e :: es) X.env=(false,Br e X.env) :: AS es X.env:=by rfl) (hpl:(DQ pos (AS es X.env)).any (·.1)=false:=by rfl) :
  GE X E (.Call (.Name x p) (e :: es) [] pos) (Os C n g ml):=(cC (E:=WS E) M F hr hg hm hb .nil hx ha hdb he hpl).imp λσ H Q ⟨ρ,l,S,hl,hs,hm⟩=>by
 refine ⟨ρ,l,S,hl,hs,hm.seq λds S1 hm ρ1 H1 xs l1 s1 r1 a dx ha hdx hne=>?_⟩;split at hm
 ·rename_i hlen
  rw [BQ];obtain ⟨s2,l2⟩:=II (ho:=.own a) s1 hdx
  have ha2:upd H1 dx (.own a) a=none:=by rw [BW (Bx hne)];exact ha
  obtain ⟨s3,l3,at3⟩:=s2.alloc (p:=a) (ho:=.ins C dx []) (o:=.ins C []) ha2 ⟨dx,[],Bg,.nil⟩;refine ⟨ρ1++[a],.ref S1.length :: ds,S1++[.ins C []],by simpa using hlen,.cons (.ref at3) (r1.mono (l2.trans l3)),s3,B7.xk (hm.seq λz S2 hm=>hm) (l1.trans (l2.trans l3)) λz S2 hm ρ' H' y l' s' r'=>?_⟩
  cases z <;> first | exact hm.elim | skip
  cases r';exact ⟨rfl,hm ρ' H' _ (l1.trans (l2.trans (l3.trans l'))) s' (.ref (l'.pre _ _ at3))⟩
 ·exact hm.elim
end
theorem KVR.lookup {K:AA} {ρ:List AK} {H:Hp} (f:Str):∀ {x:List (Str×D)} {y:List (Str×V)} {d:D},KVR K ρ H x y->x.lookup f=some d->∃v,y.lookup f=some v/\Bs K ρ H d v
 | _,_,_,.nil,h=>by simp at h
 | (g,a) :: x,(g',b) :: y,d,.cons r t,h=>by
  obtain ⟨r1,r2⟩:=r;dsimp only at r1 r2;subst r1;rw [CW] at h ⊢
  cases hq:(f==g) with
  | true=>rw [hq] at h;cases h;exact ⟨b,rfl,r2⟩
  | false=>rw [hq] at h;exact KVR.lookup f t h
def Nj (f:Str) (v:D):List (Str×D)->List (Str×D)
 | []=>[(f,v)]
 | (g,x) :: r=>if g=f then (g,v) :: r else (g,x) :: Nj f v r
theorem KVR.putF {K:AA} {ρ:List AK} {H:Hp} (f:Str) {d:D} {v:V} (rd:Bs K ρ H d v):∀ {x:List (Str×D)} {y:List (Str×V)},KVR K ρ H x y->KVR K ρ H (Nj f d x) (putF f v y)
 | _,_,.nil=>.cons ⟨rfl,rd⟩ .nil
 | (g,a) :: x,(g',b) :: y,.cons r t=>by
  obtain ⟨r1,r2⟩:=r;dsimp only at r1 r2;subst r1;unfold Nj L2.putF
  by_cases hq:g=f
  ·rw [qX hq,qX hq];exact .cons ⟨rfl,rd⟩ t
  ·rw [qY hq,qY hq];exact .cons ⟨rfl,r2⟩ (KVR.putF f rd t)
theorem KVR.length {κ:Type} {K:AA} {ρ:List AK} {H:Hp} {x:List (κ×D)} {y:List (κ×V)} (h:KVR K ρ H x y):x.length=y.length:=Db h
def HE (C:AK) (f:Str) (m:ME):ME:=λe S=>(m e S).bind λd S1=>match d with
 | .ref n=>match S1[n]? with
  | some (.ins C' fs)=>if C'=C then (match fs.lookup f with | some v=>.ok v S1 | none=>.bad) else .bad
  | _=>.bad
 | _=>.bad
def QG (C:AK) (f:Str) (mo mv:ME):MS:=λe S=>(mv e S).lift e λv S1=>(mo e S1).lift e λd S2=>match d with
 | .ref n=>match S2[n]? with
  | some (.ins C' fs)=>if C'=C/\fs.length < 1000 then .ok (.nx e) (S2.set n (.ins C (Nj f v fs))) else .bad
  | _=>.bad
 | _=>.bad
section
variable {X:Cx} {E:EW} {o e value:Expr} {f:Str} {pos pos':Pos} {m mv:ME} {C:AK}
theorem IY (hc:Cls X.K C) (hn:Hw X.K C f) (he:GE X E e m) (hb:CV e f X.env (Br e X.env)=Br e X.env:=by rfl):GE X E (.Attribute e f pos) (HE C f m):=(gb he hb).imp λσ H Q ⟨ρ,l,S,hl,hs,hm⟩=>by
 refine ⟨ρ,l,S,hl,hs,hm.seq λx S1 hm ρ1 H1 v l1 s1 r1=>?_⟩
 cases x <;> first | exact hm.elim | skip
 rename_i n;dsimp only at hm
 cases ho:S1[n]? with
 | none=>rw [ho] at hm;exact hm.elim
 | some ob=>
  rw [ho] at hm
  cases ob <;> first | exact hm.elim | skip
  rename_i C' fs;dsimp only at hm;split at hm
  ·rename_i hC
   rw [hC] at ho
   cases r1 with
   | ref hn'=>
    obtain ⟨dx,fs',e1,e2⟩:=s1.ob n _ _ ho hn'
    cases hq:fs.lookup f with
    | none=>rw [hq] at hm;exact hm.elim
    | some w=>
     rw [hq] at hm;obtain ⟨v,h3,h4⟩:=KVR.lookup f e2 hq;exact ⟨_,_,dx,fs',v,rfl,e1,hc,hn,h3,hm ρ1 H1 v l1 s1 h4⟩
  ·exact hm.elim
theorem UX (hc:Cls X.K C) (hn:Hw X.K C f) (ha:GE X E o m) (hv:GE X E value mv) (hs:Fh value (some (.Attribute o f pos')) pos.line X.env=pure false:=by rfl):GS X E (.Assign [.Attribute o f pos'] value pos) (QG C f m mv):=(gH ha hv hs).imp λD σ H ⟨ρ,l,S,hl,hs,hm⟩=>by
 refine ⟨ρ,l,S,hl,hs,hm.lift hl .refl λv S1 hm ρ1 H1 y l1 s1 r1=>⟨ρ1,l,S1,hl.mono l1,s1,(hm.later l1).lift (hl.mono l1) l1 λx S2 hm ρ2 H2 u l2 s2 r2=>?_⟩⟩
 cases x <;> first | exact hm.elim | skip
 rename_i n;dsimp only at hm
 cases ho:S2[n]? with
 | none=>rw [ho] at hm;exact hm.elim
 | some ob=>
  rw [ho] at hm
  cases ob <;> first | exact hm.elim | skip
  rename_i C' fs;dsimp only at hm;split at hm
  ·rename_i hC
   obtain ⟨hC,hlen⟩:=hC;rw [hC] at ho
   cases r2 with
   | ref hn'=>
    obtain ⟨dx,fs',e1,e2⟩:=s2.ob n _ _ ho hn';have le:Le X.K ρ2 H2 ρ2 (upd H2 _ (.ins C dx (putF f y fs'))):=Le.write hn' (by rw [e1];trivial);obtain ⟨s3,l3⟩:=s2.write (ho:=.ins C dx (putF f y fs')) (o:=.ins C (Nj f v fs)) hn' ⟨dx,_,Bg,(KVR.putF f (r1.mono l2) e2).mono le⟩ le;refine ⟨_,C,dx,fs',rfl,e1,hc,hn,by rw [<-KVR.length e2];exact hlen,?_⟩;exact hm ρ2 _ σ (l1.trans (l2.trans l3)) s3 (hl.mono (l1.trans (l2.trans l3)))
  ·exact hm.elim
end
def ExAt (Nw:AK->Prop) (F:Option AC->Prop) (ea C:AK) (H:Hp) (h:Bw):Prop:=
 H ea=none/\Nw ea/\∃(oe:Obj) (vs:Array AC) (a0:AC),h.get? ea=some oe/\oe.cls=.ref C/\(oe.dict=none/\oe.data=.fields vs)/\vs[0]?=some a0 /\
  ((F none/\vs[1]?=some .none)∨∃(T:AK) (oT:Obj) (ts:Array AC) (fl:AC),F (some fl)/\vs[1]?=some (.ref T)/\T≠ea/\H T=none/\Nw T/\h.get? T=some oT/\oT.data=.fields ts/\ts[3]?=some fl)
section
variable {X:Cx} {pins:List (AK×Obj)} {σ:St} {H:Hp} {s:AG} {h':Bw} {ea C:AK} {F:Option AC->Prop}
end
def CXG (P:Ak) (w:A9):CXT:=λouter H s E e s'=>∃ea C H',e=.ref ea/\s'.os=s.os/\Ip s'.gens/\Un (frs outer) [] H H' s.heap s'.heap/\HOk P w H' s'.heap/\ExAt (λb=>s.heap.get? b=none) (· = some .none) ea C H' s'.heap/\E (.ref C) none H'
theorem Inv.with {X:Cx} {pins:List (AK×Obj)} {σ:St} {H:Hp} {s:AG} (I:Inv X pins σ H s) (z:AC->AG->Prop):Inv { X with xe:=z } pins σ H s:=by
 obtain ⟨ok,a,b,c,d,e,f,g,i,j,l⟩:=I;obtain ⟨o1,o2,o3,o4,o5,o6,o7,o8,o9,o10,o11,o12,o13,o14,o15,o16,o17,o18⟩:=ok;exact ⟨⟨o1,o2,o3,o4,o5,o6,o7,o8,o9,o10,o11,o12,o13,o14,o15,o16,o17,o18⟩,a,b,c,d,e,f,g,i,j,l⟩
theorem Inv.without {X:Cx} {pins:List (AK×Obj)} {σ:St} {H:Hp} {s:AG} {z:AC->AG->Prop} (I:Inv { X with xe:=z } pins σ H s):Inv X pins σ H s:=by
 have:=I.with X.xe
 exact this
structure Good (X:Cx) (E:EW):Prop where
 pass:LN (CXG X.prog X.w) X (WS E)
 own:Qm (Ac X.prog X.w) X.A X.env X.xe
 made:∀(pins:List (AK×Obj)) (σ:St) (H:Hp) (s:AG) (h':Bw) (ea C:AK) (args:List AC),Inv X pins σ H s->E C σ H->Bw.MadeExcOf s.heap h' ea (.ref C) args->X.xe (.ref ea) { s with heap:=h' }
theorem good_none {X:Cx} (hx:X.xe=λ_ _=>False):Good X noE:=by
 refine ⟨λpins σ H s e s' I h=>?_,by rw [hx];exact Qm.never,λ_ _ _ _ _ _ _ _ _ w _=>w.elim⟩;obtain ⟨ea,C,H',rfl,os,bare,un,hok,x,_,c,ec,w⟩:=h;exact w.elim
section
variable {X:Cx} {E:EW} {x:Str} {np cpos pos:Pos} {e:Expr} {es:List Expr} {ml:ML} {C:AK}
end
section
variable {X:Cx} {E:EW} {body suite:List Cc} {b₀:Cc} {g n:Str} {gp hpos pos:Pos} {cs:List AK} {i:Nat} {mb mh:MS} {G:AK}
end
def Cv (n:Nat) (ds:List D):Lo:=ds.map some++BU (n - ds.length) none
theorem UA {K:AA} {ρ:List AK} {H:Hp} {N:List Str} {ds:List D} {vs:List V} (r:Au K ρ H ds vs):FQ K ρ H (Cv N.length ds) (start N vs):=by
 refine ⟨by simp [Cv,start,r.length],λi d q=>?_⟩;unfold Cv at q;unfold start
 by_cases hi:i < ds.length
 ·rw [Ab (by simpa using hi),AO] at q
  rw [Ab (by rw [AE,<-r.length];exact hi),AO]
  cases e:ds[i]? with
  | none=>rw [e] at q;cases q
  | some d'=>
   rw [e] at q;cases q;obtain ⟨v,h1,h2⟩:=r.get e;exact ⟨v,by rw [h1];rfl,h2⟩
 ·rw [BE (by simpa using hi),Cy] at q
  split at q <;> cases q
section
variable {P:Ak} {w:A9} {K:AA} {mg:Str->Option AC} {base:Bw}
end
section
variable {X:Cx}
def intOp (C:Int->Int->Prop) [∀i j,Decidable (C i j)] (g:Int->Int->D):D->D->Sto->Res D
 | .int i,.int j,S=>if C i j then .ok (g i j) S else .bad
 | _,_,_=>.bad
theorem Zb {C:Int->Int->Prop} [∀i j,Decidable (C i j)] {g:Int->Int->D} {a b d:D} {S S':Sto} (h:intOp C g a b S=.ok d S'):∃i j,a=.int i/\b=.int j/\C i j/\d=g i j/\S'=S:=by
 unfold intOp at h;split at h
 ·split at h
  ·rename_i i j _ hc
   cases h;exact ⟨_,_,rfl,rfl,hc,rfl,rfl⟩
  ·cases h
 ·cases h
theorem Mu {f:AC->AC->Sem AC} {C:Int->Int->Prop} [∀i j,Decidable (C i j)] {g:Int->Int->D} {v:Int->Int->V} (hv:∀ρ H i j,Bs X.K ρ H (g i j) (v i j)) (h:OpR X f (rI C v)):OpR X f (rD X.K (intOp C g)):=h.imp λx y H Q ⟨ρ,S,a,b,d,S',hs,ra,rb,hm,k⟩=>by
 obtain ⟨i,j,rfl,rfl,hc,rfl,rfl⟩:=Zb hm;cases ra;cases rb;exact ⟨i,j,rfl,rfl,hc,k ρ H _ .refl hs (hv _ _ _ _)⟩
theorem Ly {f:AC->AC->Sem AC} {g:Int->Int->D} {v:Int->Int->V} (hv:∀ρ H i j,Bs X.K ρ H (g i j) (v i j)) (h:OpR X f (rI0 v)):OpR X f (rD X.K (intOp (λ_ _=>True) g)):=
 Mu (C:=λ_ _=>True) hv (h.imp λx y H Q ⟨i,j,e1,e2,_,q⟩=>⟨i,j,e1,e2,q⟩)
instance (i j:Int):Decidable (du i j):=inferInstanceAs (Decidable (_/\_))
instance (i j:Int):Decidable (aC i j):=inferInstanceAs (Decidable (_/\_/\_))
instance (i j:Int):Decidable (Xl i j):=inferInstanceAs (Decidable (_∨_))
abbrev fj:=intOp (λ_ _=>True) λi j=>.int (i - j)
abbrev Op:=intOp Xl λi j=>.int (i * j)
abbrev MC:=intOp du λi j=>.int (i / j)
abbrev Dg:=intOp (λ_ j=>0 < j) λi j=>.int (i % j)
abbrev ltD:=intOp (λ_ _=>True) λi j=>.bl (decide (i < j))
abbrev leD:=intOp (λ_ _=>True) λi j=>.bl (decide (i<=j))
abbrev geD:=intOp (λ_ _=>True) λi j=>.bl (decide (j<=i))
theorem gy:OpR X (Ca .Sub) (rD X.K fj):=Ly (λ_ _ _ _=>.int _) gh
theorem RD:OpR X (Ca .Mult) (rD X.K Op):=Mu (λ_ _ _ _=>.int _) gk
theorem RE:OpR X (Ca .FloorDiv) (rD X.K MC):=Mu (λ_ _ _ _=>.int _) cN
theorem E8:OpR X (Ca .Mod) (rD X.K Dg):=Mu (λ_ _ _ _=>.int _) gl
theorem Sm:OpR X (Bd .Lt) (rD X.K ltD):=Ly (λ_ _ _ _=>.bl _) j3
theorem VZ:OpR X (Bd .LtE) (rD X.K leD):=Ly (λ_ _ _ _=>.bl _) j4
theorem j7:OpR X (Bd .GtE) (rD X.K geD):=Ly (λ_ _ _ _=>.bl _) j5
def Fx:D->D->Sto->Res D
 | .int i,.int j,S=>.ok (.int (i+j)) S
 | .tup xs,.tup ys,S=>if xs.length+ys.length<=sizeLine then .ok (.tup (xs++ys)) S else .bad
 | .ref l,.ref b,S=>match S[l]?,S[b]? with
  | some (.lst xs),some (.lst ys)=>if xs.length+ys.length<=sizeLine then .ok (.ref S.length) (S++[.lst (xs++ys)]) else .bad
  | _,_=>.bad
 | _,_,_=>.bad
def ju (K:AA):R2:=λx y H Q=>∃a b xs ys,x=.ref a/\y=.ref b/\H a=some (.tup xs)/\H b=some (.tup ys)/\xs.length+ys.length<=sizeLine /\
 (xs=[]->Q (.ref b) H)/\(ys=[]->Q (.ref a) H)/\(∀p,H p=none->Q (.ref p) (upd H p (.tup (xs++ys))))
theorem cP:OpR X (Ca .Add) (ju X.K):=by
 intro pins s σ H x y v u Q I rx ry h;obtain ⟨a,b,xs,ys,rfl,rfl,ha,hb,hz,q0,q1,q2⟩:=h;cases rx;cases ry;obtain ⟨its,r1,p1,_⟩:=I.tuple (a:=a) (xs:=xs) (.inl (.inl ha));obtain ⟨its2,r2,p2,_⟩:=I.tuple (a:=b) (xs:=ys) (.inl (.inl hb))
 by_cases hx:xs=[]
 ·obtain ⟨⟨cls,dd,data,sl⟩,ho,hc,n,hd⟩:=id p1
  obtain ⟨⟨cls2,dd2,data2,sl2⟩,ho2,hc2,n2,hd2⟩:=id p2;simp only at hc hd hc2 hd2;subst hc hd hc2 hd2;have hi:its=[]:=r1.nil_iff.mpr hx
  exact X0 ⟨_,ho,rfl⟩ ⟨_,ho2,rfl⟩ Qj WF JE Il (IQ _ _)
   (tuple_addW0 a b its.toArray its2.toArray n n2 dd dd2 sl sl2 (by simp [hi])) ⟨ho,ho2,⟨.ref b,H,I,rfl,q0 hx⟩⟩
 ·exact cO pins s σ H (.ref a) (.ref b) _ _ Q I rfl rfl ⟨a,b,xs,ys,rfl,rfl,.inl (.inl ha),.inl (.inl hb),hx,hz,q1,λ_ p hp=>q2 p hp⟩
theorem Au.nil_of {K:AA} {ρ:List AK} {H:Hp} {xs:List D} {vs:List V} (r:Au K ρ H xs vs) (e:vs=[]):xs=[]:=by
 subst e;cases r;rfl
theorem IU:OpR X (Ca .Add) (rD X.K Fx):=(gs.or (cP.or gn)).imp λx y H Q ⟨ρ,S,a,b,d,S',hs,ra,rb,hm,k⟩=>by
 cases ra with
 | int i=>
  cases rb <;> first | (cases hm;done) | skip
  cases hm;exact .inl ⟨_,_,rfl,rfl,k ρ H _ .refl hs (.int _)⟩
 | @tup xs a1 vs h1 h2=>
  cases rb with
  | @tup ys b1 ws h3 h4=>
   unfold Fx at hm;dsimp only at hm;split at hm
   ·rename_i hz
    cases hm;refine .inr (.inl ⟨_,_,_,_,rfl,rfl,h1,h3,by rw [<-h2.length,<-h4.length];exact hz,λe=>?_,λe=>?_,λp hp=>?_⟩)
    ·rw [h2.nil_of e,List.nil_append] at k
     exact k ρ H _ .refl hs (.tup h3 h4)
    ·rw [h4.nil_of e,BQ] at k
     exact k ρ H _ .refl hs (.tup h1 h2)
    ·obtain ⟨s2,l2⟩:=II (ho:=.tup (vs++ws)) hs hp
     exact k ρ _ _ l2 s2 (.tup Bg ((h2.append h4).mono l2))
   ·cases hm
  | _=>cases hm
 | @ref n a1 hn=>
  cases rb with
  | @ref m b1 hn'=>
   unfold Fx at hm;dsimp only at hm;split at hm
   ·rename_i xs ys h1 h2
    split at hm
    ·rename_i hz
     cases hm;obtain ⟨vs,e1,r1⟩:=hs.ob _ _ _ h1 hn;obtain ⟨us,e2,r2⟩:=hs.ob _ _ _ h2 hn';refine .inr (.inr ⟨_,_,_,_,rfl,rfl,e1,e2,by rw [<-r1.length,<-r2.length];exact hz,λp hp=>?_⟩);have le:Le X.K ρ H (ρ++[p]) (upd H p (.lst (vs++us))):=Le.alloc hp;obtain ⟨s2,l2,at2⟩:=hs.alloc (ho:=.lst (vs++us)) (o:=.lst (xs++ys)) hp ⟨_,Bg,(r1.append r2).mono le⟩;exact k _ _ _ l2 s2 (.ref at2)
    ·cases hm
   ·cases hm
  | _=>cases hm
 | _=>cases hm
def ixD:D->D->Sto->Res D:=λa b S=>match Eu a S,b with
 | some ds,.int i=>match atI ds i with
  | some d=>.ok d S
  | none=>.bad
 | _,_=>.bad
theorem dg {K:AA} {ρ:List AK} {H:Hp} {ds:List D} {vs:List V} {i:Int} {d:D} (r:Au K ρ H ds vs) (h:atI ds i=some d):∃v,atI vs i=some v/\Bs K ρ H d v:=by
 unfold atI at h ⊢;rw [<-r.length]
 cases hq:ixN ds.length i with
 | none=>rw [hq] at h;cases h
 | some j=>
  rw [hq] at h;exact r.get h
theorem j6:IxR X (rD X.K ixD):=(ix_list.or iH).imp λx y H Q ⟨ρ,S,a,b,d,S',hs,ra,rb,hm,k⟩=>by
 unfold ixD at hm;split at hm
 ·rename_i ds i hq
  split at hm
  ·rename_i d' hd
   cases hm;cases rb;obtain ⟨p,xs,rfl,rr,sq⟩:=Lm hs ra hq;obtain ⟨v,h1,h2⟩:=dg rr hd
   rcases sq with sq | sq
   ·exact .inl ⟨p,xs,_,v,rfl,rfl,sq,h1,k ρ H v .refl hs h2⟩
   ·exact .inr ⟨p,xs,_,v,rfl,rfl,sq,h1,k ρ H v .refl hs h2⟩
  ·cases hm
 ·cases hm
def XI (neg:Bool) (x y:D) (S:Sto):Res D:=match y with
 | .non=>match x with
  | .non=>.ok (.bl (!neg)) S
  | _=>.ok (.bl neg) S
 | _=>.bad
theorem g7:OpR X (Bd .Is) (rD X.K (XI false)):=gm.imp λx y H Q ⟨ρ,S,a,b,d,S',hs,ra,rb,hm,k⟩=>by
 cases rb <;> first | (cases hm;done) | skip
 refine ⟨rfl,?_⟩
 cases ra <;> (cases hm;exact k ρ H _ .refl hs (.bl _))
theorem cR:OpR X (Bd .IsNot) (rD X.K (XI true)):=cM.imp λx y H Q ⟨ρ,S,a,b,d,S',hs,ra,rb,hm,k⟩=>by
 cases rb <;> first | (cases hm;done) | skip
 refine ⟨rfl,?_⟩
 cases ra <;> (cases hm;exact k ρ H _ .refl hs (.bl _))
end
def mQ (f:List D->Sto->Res D) (m:ML):ME:=λe S=>(m e S).bind λds S1=>okR (f ds S1)
section
variable {X:Cx} {E:EW} {e:Expr} {es:List Expr} {x:Str} {p pos:Pos} {ml:ML} {id T:String} {r:List V->Hp->VK->Prop} {f:List D->Sto->Res D}
def iw (K:AA) (r:List V->Hp->VK->Prop) (f:List D->Sto->Res D):Prop:=∀ρ H S ds q xs d S' (Q:VK),B4 K ρ S H->Au K ρ H ds xs->(SqL K H q xs∨SqT K H q xs)->f ds S=.ok d S' ->
 (∀ρ' H' z,Le K ρ H ρ' H'->B4 K ρ' S' H'->Bs K ρ' H' d z->Q z H')->r [.ref q] H Q
def i0 (K:AA) (r:List V->Hp->VK->Prop) (f:List D->Sto->Res D):Prop:=∀ρ H S ds xs d S' (Q:VK),B4 K ρ S H->Au K ρ H ds xs->f ds S=.ok d S' ->
 (∀ρ' H' z,Le K ρ H ρ' H'->B4 K ρ' S' H'->Bs K ρ' H' d z->Q z H')->r xs H Q
def kf (K:AA) (r:List V->Hp->VK->Prop) (f:List D->Option (List D)):Prop:=∀ρ H S ds q xs es (Q:VK),B4 K ρ S H->Au K ρ H ds xs->(SqL K H q xs∨SqT K H q xs)->f ds=some es ->
 (∀ρ' H' p ys,Le K ρ H ρ' H'->B4 K ρ' S H'->Au K ρ' H' es ys->H' p=some (.lst ys)->(∀n:Nat,ρ'[n]?≠some p)->H p=none->Q (.ref p) H')->r [.ref q] H Q
theorem Vl (hc:IN X (.builtin id) r) (hf:iw X.K r f) (hg:Gl X x) (hm:X.mg x=none) (hv:Ei x=some (.builtin id)) (h:GQ X E e ml) (hn:x≠"__name__":=by decide) (hdb:(x==("__debug__" : Str))=false:=by decide)
  (he:AS [e] X.env=(false,Br e X.env) :: AS [] X.env:=by rfl):GE X E (.Call (.Name x p) [e] [] pos) (mQ f ml):=(J2 hc hg hm hv (E2 h HC he) hn hdb he rfl).imp λσ H Q ⟨ρ,l,S,hl,hs,hm⟩=>by
 refine ⟨ρ,l,S,hl,hs,hm.seq λds S1 hm ρ1 H1 q xs l1 s1 r1 sq=>?_⟩;obtain ⟨d,S',e,k⟩:=hm.okR
 exact hf ρ1 H1 S1 ds q xs d S' Q s1 r1 sq e λρ' H' z l' s' r'=>k ρ' H' z (l1.trans l') s' r'
theorem Vp (hc:IN X (.builtin id) r) (hf:i0 X.K r f) (hg:Gl X x) (hm:X.mg x=none) (hv:Ei x=some (.builtin id)) (h:GA X E (e :: es) ml) (hn:x≠"__name__":=by decide) (hdb:(x==("__debug__" : Str))=false:=by decide)
  (he:AS (e :: es) X.env=(false,Br e X.env) :: AS es X.env:=by rfl) (hpl:(DQ pos (AS es X.env)).any (·.1)=false:=by rfl):GE X E (.Call (.Name x p) (e :: es) [] pos) (mQ f ml):=(J2 hc hg hm hv h hn hdb he hpl).imp λσ H Q ⟨ρ,l,S,hl,hs,hm⟩=>by
 refine ⟨ρ,l,S,hl,hs,hm.seq λds S1 hm ρ1 H1 xs l1 s1 r1=>?_⟩;obtain ⟨d,S',e,k⟩:=hm.okR
 exact hf ρ1 H1 S1 ds xs d S' Q s1 r1 e λρ' H' z l' s' r'=>k ρ' H' z (l1.trans l') s' r'
def mN (f:List D->Option (List D)) (m:ML):ML:=λe S=>(m e S).bind λds S1=>match f ds with
 | some es=>.ok es S1
 | none=>.bad
theorem c8 {f:List D->Option (List D)} (hc:IN X (.type T) r) (hf:kf X.K r f) (hg:Gl X x) (hm:X.mg x=none) (hv:Ei x=some (.type T)) (h:GQ X E e ml) (hn:x≠"__name__":=by decide) (hdb:(x==("__debug__" : Str))=false:=by decide)
  (he:AS [e] X.env=(false,Br e X.env) :: AS [] X.env:=by rfl):GL X E (.Call (.Name x p) [e] [] pos) (mN f ml):=(QH hc hg hm hv (E2 h HC he) hn hdb he rfl).imp λσ H Q ⟨ρ,l,S,hl,hs,hm⟩=>by
 refine ⟨ρ,l,S,hl,hs,hm.seq λds S1 hm ρ1 H1 q xs l1 s1 r1 sq=>?_⟩
 cases hq:f ds with
 | none=>rw [hq] at hm;exact hm.elim
 | some es=>
  rw [hq] at hm
  exact hf ρ1 H1 S1 ds q xs es Q s1 r1 sq hq λρ' H' p ys l' s' r' hp hn hp0=>hm ρ' H' p ys (l1.trans l') s' r' hp hn (l1.back hs s1 hp0)
def kI (ds:List D) (S:Sto):Res D:=.ok (.int ds.length) S
theorem fo:iw X.K (λxs H Q=>∃p ys,xs=[.ref p]/\(SqL X.K H p ys∨SqT X.K H p ys)/\Q (.int ys.length) H) kI:=λρ H S ds q xs d S' Q hs rr sq hm k=>by
 cases hm;exact ⟨q,xs,rfl,sq,k ρ H _ .refl hs (by rw [rr.length];exact .int _)⟩
def NN:List D->Sto->Res D
 | [.int i,.int j],S=>.ok (.int (if j < i then j else i)) S
 | _,_=>.bad
def NO:List D->Sto->Res D
 | [.int i,.int j],S=>.ok (.int (if j > i then j else i)) S
 | _,_=>.bad
theorem dm:i0 X.K (λxs H Q=>∃i j,xs=[.int i,.int j]/\Q (.int (if j < i then j else i)) H) NN:=λρ H S ds xs d S' Q hs rr hm k=>by
 unfold NN at hm;split at hm
 ·cases hm
  cases rr with
  | cons a t=>
   cases t with
   | cons b t=>
    cases t;cases a;cases b;exact ⟨_,_,rfl,k ρ H _ .refl hs (.int _)⟩
 ·cases hm
theorem dn:i0 X.K (λxs H Q=>∃i j,xs=[.int i,.int j]/\Q (.int (if j > i then j else i)) H) NO:=λρ H S ds xs d S' Q hs rr hm k=>by
 unfold NO at hm;split at hm
 ·cases hm
  cases rr with
  | cons a t=>
   cases t with
   | cons b t=>
    cases t;cases a;cases b;exact ⟨_,_,rfl,k ρ H _ .refl hs (.int _)⟩
 ·cases hm
def NQ (ds:List D):Option (List D):=some ds
theorem bW:kf X.K (λxs H Q=>∃p ys,xs=[.ref p]/\(SqL X.K H p ys∨SqT X.K H p ys)/\∀l,H l=none->Q (.ref l) (upd H l (.lst ys))) NQ:=λρ H S ds q xs es Q hs rr sq hm k=>by
 cases hm;refine ⟨q,xs,rfl,sq,λl hl=>?_⟩;obtain ⟨s2,l2⟩:=II (ho:=.lst xs) hs hl;exact k ρ _ l xs l2 s2 (rr.mono l2) Bg (λn e=>hs.notIn hl e) hl
end
def Da (X:Cx) (scope:IB) (N':List Str) (cl:List (Str×AK)) (C:AK) (s₁:AG) (H₁:Hp) (ex:List AK) (pn:List (AK×Obj)):Cx where
 prog:=X.prog
 w:=X.w
 K:=X.K
 mg:=X.mg
 base:=X.base
 A:=X.A
 N:=N'
 s₀:=s₁
 H₀:=H₁
 env:=compEnvC scope cl C X.env
 outer:=X.stack
 stack:=X.stack
 ex:=ex
 fn:=λ_=>false
 calm:=X.calm
 pn:=pn
 xe:=λ_ _=>False
theorem RY {env:Env}:∀(names:List (Str×Pb)) (acc:List (Str×AK)),(∀y∈names,y.2=.free->∃c,env.cells.lookup y.1=some c)->(∀n c,acc.lookup n=some c->env.cells.lookup n=some c) ->
  ∃cl,(forIn names acc (λ(x:Str×Pb) (cs:List (Str×AK))=>match x with | (name,kind)=>if (kind==IF)=true then do let a <-cellOf env name;pure (Gt ((name,a) :: cs)) else pure (Gt cs)):Sem (List (Str×AK)))=pure cl /\
   (∀n c,cl.lookup n=some c->env.cells.lookup n=some c)/\(∀n c,acc.lookup n=some c->∃c',cl.lookup n=some c')/\∀y∈names,y.2=.free->∃c,cl.lookup y.1=some c
 | [],acc,_,ha=>⟨acc,rfl,ha,λn c h=>⟨c,h⟩,λ_ h=>nomatch h⟩
 | (n,k) :: r,acc,h,ha=>by
  rw [aS]
  by_cases hk:k=.free
  ·subst hk
   obtain ⟨c,hc⟩:=h (n,.free) A1 rfl
   obtain ⟨cl,e,h1,h2,h3⟩:=RY r ((n,c) :: acc) (λy hy=>h y (Ag _ hy)) (λm d hm=>by
    rw [CW] at hm
    cases hq:(m==n) with
    | true=>rw [hq] at hm;cases hm;rw [eq_of_beq hq];exact hc
    | false=>rw [hq] at hm;exact ha m d hm)
   have e0:cellOf env n=pure c:=by unfold cellOf;rw [hc]
   refine ⟨cl,?_,h1,λm d hm=>h2 m (if m==n then c else d) ?_,λy hy hf=>?_⟩
   ·simp only [beq_self_eq_true,if_true,e0,pure_bind]
    exact e
   ·rw [CW]
    cases hq:(m==n) with
    | true=>rfl
    | false=>exact hm
   ·rcases Ay.mp hy with rfl | hy
    ·exact h2 n c (by rw [CW,beq_self_eq_true])
    ·exact h3 y hy hf
  ·have hb:(k==IF)=false:=by simpa using hk
   obtain ⟨cl,e,h1,h2,h3⟩:=RY r acc (λy hy=>h y (Ag _ hy)) ha;refine ⟨cl,?_,h1,h2,λy hy hf=>?_⟩
   ·simp only [hb,CU,if_false,pure_bind]
    exact e
   ·rcases Ay.mp hy with rfl | hy
    ·exact (hk hf).elim
    ·exact h3 y hy hf
theorem Vz {scope:IB} {env:Env} (h:∀y∈scope.names,y.2=.free->∃c,env.cells.lookup y.1=some c):∃cl,closureFor scope env=pure cl /\
  (∀n c,cl.lookup n=some c->env.cells.lookup n=some c)/\∀y∈scope.names,y.2=.free->∃c,cl.lookup y.1=some c:=by
 obtain ⟨cl,e,h1,_,h3⟩:=RY scope.names [] h (λn c z=>by simp at z);refine ⟨cl,?_,h1,h3⟩;unfold closureFor;exact (congrArg (λz=>z >>= λcs=>pure cs) e).trans (by rw [pure_bind])
def Us (X:Cx) (ifs:List Expr) (t:TT):Prop:=
 ∀(pins:List (AK×Obj)) (s:AG) (σ:St) (H:Hp) (Q:Bool->Hp->Prop),Inv X pins σ H s->t σ H Q ->
  Aq (Ac X.prog X.w) X.A (forIn ifs true λc r=>if r=true then do let ok <-Ti c X.env (Br c X.env);pure (Gt ok) else pure (Gt r)) (TP X pins σ Q) X.xe s
theorem Yu {X:Cx}:Us X [] (λ_ H Q=>Q true H):=λpins s σ H Q I h=>wpAny_tests_nil ⟨H,I,h⟩
theorem Yt {X:Cx} {c:Expr} {t:TT} (h:PT X c t):Us X [c] t:=λpins s σ H Q I q=>wpAny_tests_one (h pins s σ H Q I q)
structure LP (X:Cx) (scope:IB) (own N':List Str):Prop where
 kind:scope.kind=.function
 nocell:∀y∈scope.names,y.2≠.cell
 names:∀y∈scope.names,y.2=.local->scope.names.lookup y.1=some .local
 free:∀y∈scope.names,y.2=.free->X.env.kindOf y.1=some .cell∨X.env.kindOf y.1=some .free
 len:N'.length=own.length+X.N.length
 up:∀i x,N'[own.length+i]?=some x->Vis (Ij scope X.env) x->X.N[i]?=some x/\Vis X.env.scope x/\((Ij scope X.env).names.lookup x=some .cell∨(Ij scope X.env).names.lookup x=some .free)/\X.env.kindOf x≠some .local
 vis:∀x,((Ij scope X.env).names.lookup x=some .cell∨(Ij scope X.env).names.lookup x=some .free)->(x,IF)∈scope.names
section
variable {X:Cx} {pins:List (AK×Obj)} {σ:St} {H2:Hp} {s2:AG} {scope:IB} {own N':List Str} {cl:List (Str×AK)} {fp:List AK} {C:AK} {s:AG} {H:Hp}
theorem Ui (Sc:LP X scope own N') (I:Inv X pins σ H2 s2) (hf:∀b∈fp,LO X pins H2 b) (hfl:∀b∈fp,b < s2.heap.objs.size)
  (c1:∀n c,cl.lookup n=some c->X.env.cells.lookup n=some c) (c2:∀y∈scope.names,y.2=.free->∃c,cl.lookup y.1=some c)
  (hC:s2.heap.objs.size<=C) {m:Str->Option AC} (hn:s.heap.Ns C m) (hos:s.os=s2.os) (hg:Ip s.gens)
  (u:Un (frs X.stack) fp H2 H s2.heap s.heap) (hok:HOk X.prog X.w H s.heap) (hHC:H C=none) :
  Inv (Da X scope N' cl C s2 H2 fp (X.pn++pins)) [] (BU own.length none++σ) H s:=by
 have cellK:∀x c v,cl.lookup x=some c->s2.heap.IsCell c v->s.heap.IsCell c v:=λx c v e ⟨o,ho,hd⟩=>by
  obtain ⟨sl,q⟩:=u.any ho (I.freeC x c (c1 x c e)) λz=>(hf c z).2.2.2.2.1 x c (c1 x c e) rfl
  exact ⟨_,q,hd⟩
 have ok':(Da X scope N' cl C s2 H2 fp (X.pn++pins)).Ok:=by
  refine ⟨I.ok.mod,Sc.kind,I.ok.glob,I.ok.blt,hC,λx y c h1 h2=>I.ok.inj x y c (c1 x c h1) (c1 y c h2),λx hx=>?_,λx c z=>?_,I.ok.hd,I.ok.frames,.inl rfl,λb hb=>?_,I.bs,A0 I.ok.bsz I.sz,λb o e hb=>?_,λb hb hb'=>?_,I.stack,I.stkFree⟩
  ·obtain ⟨c,hc⟩:=c2 _ (Sc.vis x hx) rfl
   exact ⟨c,hc⟩
  ·exact zX (show false=true from z) AX
  ·exact ⟨Am (AZ (hfl b hb) hC),λx c e=>(hf b hb).2.2.2.2.1 x c (c1 x c e)⟩
  ·obtain ⟨_,_,_,z,_⟩:=hf b hb
   rcases z with z | z
   ·exact I.ok.noex b o e z
   ·exact zX (AZ (Ad (I.ok.bs b o e).1) z) (Ee _)
  ·obtain ⟨_,z1,z2,_⟩:=hf b hb
   rcases Ay.mp (I.stkSub b hb') with e | e
   ·exact z1 e
   ·exact z2 e
 refine ⟨ok',hos,hg,u,⟨m,hn,λi x v e1 e2 e3=>?_⟩,λx c e=>?_,hHC,λx c e=>?_,λp hp=>?_,hok,?_⟩
 ·have hi:own.length<=i:=by
   apply OD
   intro hlt;rw [Ab (by simpa using hlt),Cy,qX hlt] at e2;cases e2
  obtain ⟨j,rfl⟩:∃j,i=own.length+j:=⟨i - own.length,by lia⟩
  rw [BE (by simp)] at e2
  have e2':σ[j]?=some (some v):=by simpa using e2
  obtain ⟨n1,n2,n3,n4⟩:=Sc.up j x e1 e3;obtain ⟨m0,hn0,hl⟩:=I.loc;obtain ⟨w',r,lk⟩:=hl j x v n1 e2' n2;refine ⟨w',r,.inr ⟨n3,?_⟩⟩
  rcases lk with ⟨k,_⟩ | ⟨_,c,hc,hcell⟩
  ·exact (n4 k).elim
  ·obtain ⟨c',hc'⟩:=c2 _ (Sc.vis x n3) rfl
   have e:=c1 x c' hc';rw [hc] at e;cases e;exact ⟨c,hc',cellK x c _ hc' hcell⟩
 ·obtain ⟨v,z⟩:=I.cell x c (c1 x c e)
  exact ⟨v,cellK x c v e z⟩
 ·obtain ⟨v,o,ho,hd⟩:=I.cell x c (c1 x c e)
  exact u.free c o ho (I.freeC x c (c1 x c e)) λz=>(hf c z).2.2.2.2.1 x c (c1 x c e) rfl
 ·have hp':p∈X.pn++pins:=by
   have hp:p∈(X.pn++pins)++[]:=hp;rwa [BQ] at hp
  obtain ⟨e,n,ne,nf,d⟩:=I.pin p hp'
  have nfs:p.1∉frs X.stack:=λz=>(Ay.mp (I.stkSub _ z)).elim ne nf
  have nfp:p.1∉fp:=λz=>(hf _ z).2.2.2.2.2 p hp' rfl
  exact ⟨u.keep p.1 p.2 e n nfs nfp,u.free p.1 p.2 e n nfp,Am (AZ (Ad e) hC),nfs,d⟩
 ·show (BU own.length none++σ).length=N'.length
  rw [Ah,KP,I.len,Sc.len]
def YS (k:Nat) (wi:TI) (g:TG) (tc:TT) (te:TE):TE:=λσ H Q=>wi σ H λJ H1=>∀p,H1 p=none->∃W:Nat->Nat->St->Hp->List V->Prop,(∃m,W 0 m (BU k none++σ) (upd H1 p (.lst [])) []) /\
 ∀i m σ' H' xs,W i m σ' H' xs->H' p=some (.lst xs)/\((J.stop i H'/\Q (.ref p) H')∨(J.go i H'/\xs.length < sizeLine/\∀x H'',J.yld i H' x H''->g x σ' H'' λσ2 H2=>tc σ2 H2 λb H3=>
  if b=true then te σ2 H3 λy H4=>H4 p=some (.lst xs)/\∃m',m' < m/\W (i+1) m' σ2 (upd H4 p (.lst (xs++[y]))) (xs++[y]) else ∃m',m' < m/\W (i+1) m' σ2 H3 xs))
theorem Xd {X':Cx} {elt target iter:Expr} {ifs:List Expr} {pos:Pos} {J:It} {it p:AK} {tn:Nat->Bw->Prop} {g:TG} {tc:TT} {te:TE} {R:em->AG->Prop} {Q:Hp->Prop}
  (hc:X'.calm=true) (hx:X'.xe=λ_ _=>False) (T:Rh X'.prog X'.w X'.K target J fp it tn) (hg:PG X' target g) (hif:Us X' ifs tc) (he:PE X' elt te)
  (W:Nat->Nat->St->Hp->List V->Prop) (turn:∀i m σ' H' xs,W i m σ' H' xs->H' p=some (.lst xs)/\((J.stop i H'/\Q H')∨(J.go i H'/\xs.length < sizeLine/\∀x H'',J.yld i H' x H''->g x σ' H'' λσ2 H2=>tc σ2 H2 λb H3=>
   if b=true then te σ2 H3 λy H4=>H4 p=some (.lst xs)/\∃m',m' < m/\W (i+1) m' σ2 (upd H4 p (.lst (xs++[y]))) (xs++[y]) else ∃m',m' < m/\W (i+1) m' σ2 H3 xs)))
  (fin:∀σ' H' s',Inv X' [] σ' H' s'->Q H'->R (.ok .next) s')
  {m0:Nat} {σ0:St} {H0:Hp} {s0:AG} (I0:Inv X' [] σ0 H0 s0) (st0:tn 0 s0.heap) (f0:∀b∈fp,LO X' [] H0 b) (w0:W 0 m0 σ0 H0 []) :
  Kw (Ac X'.prog X'.w) X'.A (.compLoop (.ListComp elt [⟨target,iter,ifs,0⟩] scope pos) 0 (.ref it) (.ref p) X'.env) R s0:=by
 have stat:∀ {H':Hp},(∀b∈fp,H' b=none)->∀b∈fp,LO X' [] H' b:=λhn b hb=>⟨hn b hb,(f0 b hb).2⟩
 refine codeAny_loop rfl (λn s'=>∃i σ' H' xs,Inv X' [] σ' H' s'/\tn i s'.heap/\(∀b∈fp,H' b=none)/\W i n σ' H' xs) (λn s1 hI=>?_) m0 ⟨0,σ0,H0,[],I0,st0,λb hb=>(f0 b hb).1,w0⟩;obtain ⟨i,σ1,H1,xs,I1,st1,fr1,w1⟩:=hI;show Aq _ X'.A ((compTurn (.ListComp elt [⟨target,iter,ifs,0⟩] scope pos) 0 (.ref it) (.ref p) X'.env).onRaise (λx=>do noteFrame x X'.env;theTreesLotGoes x)) _ _ s1;refine wpAny_noted ?_;rw [compTurn_list]
 have up:∀ {α:Type} {t:Sem α} {P:α->AG->Prop} {E:AC->AG->Prop} {s:AG},Aq (Ac X'.prog X'.w) X'.A t P X'.xe s->Aq (Ac X'.prog X'.w) X'.A t P E s:=λh=>GJ h (λ_ _ z=>z) λ_ _ z=>by rw [hx] at z;exact z.elim
 obtain ⟨hp,hcase⟩:=turn i n σ1 H1 xs w1;refine AH (wpAny_standAt (AH ?_))
 rcases hcase with ⟨stop,q⟩ | ⟨go,hz,step⟩
 ·refine up (thn (T.done X' rfl rfl rfl hc i [] s1 σ1 H1 X'.xe I1 (stat fr1) st1 stop) λr s4 ⟨hr,I4⟩=>?_)
  subst hr;exact AW (fin σ1 H1 s4 I4 q)
 ·refine up (thn (T.item X' rfl rfl rfl hc i [] s1 σ1 H1 X'.xe I1 (stat fr1) st1 go) λr s4 ⟨u,hr,h4⟩=>?_)
  subst hr;refine AH (up (thn h4 λ_ s5 ⟨x,H5,I5,r5,y5,st5,fr5⟩=>?_));have I5':=I5.pinned (stat fr5) (T.obj _ _ st5);refine AH (up (thn (hg _ s5 σ1 H5 x u _ I5' r5 (step x H5 y5)) λ_ s6 ⟨σ6,H6,I6,q6⟩=>?_))
  have jB:∀ {s7:AG} {σ7:St} {H7:Hp} {ys:List V},Inv X' ([]++Oe fp s5.heap) σ7 H7 s7->(∃m',m' < n/\W (i+1) m' σ7 H7 ys)->∃m,m < n/\∃i σ' H' xs,Inv X' [] σ' H' s7/\tn i s7.heap/\(∀b∈fp,H' b=none)/\W i m σ' H' xs:=λ{s7 σ7 H7 ys} I7 ⟨m',hm,w7⟩=>by
   refine ⟨m',hm,i+1,σ7,H7,ys,I7.unpinned,T.keep _ _ _ st5 λb hb o e=>(I7.pin (b,o) (A5 _ (A5 _ (JO hb e)))).1,λb hb=>?_,w7⟩;obtain ⟨o,e,d⟩:=T.obj _ _ st5 b hb;exact (I7.pin (b,o) (A5 _ (A5 _ (JO hb e)))).2.1
  refine AH (up (thn (hif _ s6 σ6 H6 _ I6 q6) λok s7 ⟨H7,I7,q7⟩=>?_))
  cases ok with
  | false=>
   rw [qY AX] at q7;exact AW ⟨rfl,jB I7 q7⟩
  | true=>
   rw [qX rfl] at q7;refine AH (AH (up (thn (he _ s7 σ6 H7 _ I7 q7) λyv s8 ⟨y,H8,I8,r8,hp8,q8⟩=>?_)));refine AH (up (thn (QK (X:=X') _ s8 σ6 H8 (.ref p) [y] (.ref p) [yv] (λv H9=>v=.non/\H9=upd H8 p (.lst (xs++[y]))) I8 rfl (.cons r8 .nil) ⟨p,xs,y,rfl,rfl,hp8,hz,rfl,rfl⟩) λv9 s9 ⟨v,H9,I9,r9,e9,e10⟩=>?_));subst e10;exact AW (AW ⟨rfl,jB I9 q8⟩)
end
section
variable {X:Cx} {pins:List (AK×Obj)} {σ:St} {H2:Hp} {s2:AG} {scope:IB} {own N':List Str} {cl:List (Str×AK)} {fp:List AK} {C:AK}
theorem QW {σ':St} {H':Hp} {s':AG} {h':Bw} (I2:Inv X pins σ H2 s2) (J:Inv (Da X scope N' cl C s2 H2 fp (X.pn++pins)) [] σ' H' s') (hC:s2.heap.objs.size<=C) (hf:∀b∈fp,LO X pins H2 b)
  (sb:EC C s'.heap h'):Inv X pins σ H' { s' with heap:=h' }:=by
 have ne:∀b o,s2.heap.get? b=some o->b≠C:=λb o e=>Am (AZ (Ad e) hC)
 have jb:Un (frs X.stack) fp H2 H' s2.heap s'.heap:=J.base
 have u:Un (frs X.stack) fp H2 H' s2.heap h':=by
  refine ⟨λb o e n hb hx=>(sb.2 b (ne b o e)).trans (jb.keep b o e n hb hx),λb o e n hb hx=>?_,jb.free,λb o e hx=>?_,jb.tups,jb.frzs,jb.tbls⟩
  ·obtain ⟨sl,q⟩:=jb.slot b o e n hb hx
   exact ⟨sl,(sb.2 b (ne b o e)).trans q⟩
  ·obtain ⟨o',q⟩:=jb.there b o e hx
   exact ⟨o',(sb.2 b (ne b o e)).trans q⟩
 have hHC:H' C=none:=J.free
 have hok:HOk X.prog X.w H' h':=λa o e=>(J.hok a o e).stay (λb u hb q=>(sb.2 b λz=>by
  subst z
  rcases hb with z | z
  ·subst z;rw [hHC] at e;cases e
  ·rw [hHC] at z;cases z).trans q) (λ_ q=>q) λ_ _ q=>q
 exact I2.call' (s':={ s' with heap:=h' }) (ch:=fp) J.os u hok J.bare λb hb=>by
  obtain ⟨_,z1,z2,z3,z4,z5⟩:=hf b hb;exact ⟨z3,z1,z4,z5⟩
variable {elt iter target:Expr} {ifs:List Expr} {pos:Pos} {wi:TI} {g:TG} {tc:TT} {te:TE}
theorem PD {σ:St} {E:AC->AG->Prop} {Qf:AK->Hp->Prop} {RR:AC->AK->em->AG->Prop} {it:AK} {J:It} {tn:Nat->Bw->Prop} (hc:X.calm=true) (Sc:LP X scope own N')
  (hg:∀cl C s₁ H₁ ex pn,PG (Da X scope N' cl C s₁ H₁ ex pn) target g) (hif:∀cl C s₁ H₁ ex pn,Us (Da X scope N' cl C s₁ H₁ ex pn) ifs tc) (he:∀cl C s₁ H₁ ex pn,PE (Da X scope N' cl C s₁ H₁ ex pn) elt te)
  (c1:∀n c,cl.lookup n=some c->X.env.cells.lookup n=some c) (c2:∀y∈scope.names,y.2=.free->∃c,cl.lookup y.1=some c)
  (I2:Inv X pins σ H2 s2) (T:Rh X.prog X.w X.K target J fp it tn) (st2:tn 0 s2.heap) (f2:∀b∈fp,LO X pins H2 b)
  (q2:∀p,H2 p=none->∃W:Nat->Nat->St->Hp->List V->Prop,(∃m,W 0 m (BU own.length none++σ) (upd H2 p (.lst [])) []) /\
   ∀i m σ' H' xs,W i m σ' H' xs->H' p=some (.lst xs)/\((J.stop i H'/\Qf p H')∨(J.go i H'/\xs.length < sizeLine/\∀x H'',J.yld i H' x H''->g x σ' H'' λσ2 H2=>tc σ2 H2 λb H3=>
    if b=true then te σ2 H3 λy H4=>H4 p=some (.lst xs)/\∃m',m' < m/\W (i+1) m' σ2 (upd H4 p (.lst (xs++[y]))) (xs++[y]) else ∃m',m' < m/\W (i+1) m' σ2 H3 xs)))
  (hRR:∀D C σ' H' s',s2.heap.objs.size<=C->Inv (Da X scope N' cl C s2 H2 fp (X.pn++pins)) [] σ' H' s'->Qf D H'->RR (.ref D) C (.ok .next) s') :
  Aq (Ac X.prog X.w) X.A (newList []) (λacc s₃=>Aq (Ac X.prog X.w) X.A (newFunctionEnv scope X.env.globals cl [] X.env.qual none .none (some X.env)) (λcenv s₄=>
   Kw (Ac X.prog X.w) X.A (.compStart (.ListComp elt [⟨target,iter,ifs,0⟩] scope pos) 0 (.ref it) acc { cenv with scope:=Ij scope X.env }) (RR acc cenv.locals) s₄) E s₃) E s2:=by
 have hfl:∀b∈fp,b < s2.heap.objs.size:=λb hb=>by
  obtain ⟨o,e,_⟩:=T.obj _ _ st2 b hb;exact Ad e
 refine FC (wpAny_newFunctionEnv Sc.nocell (by intro y hy;simp at hy) (λh₁ hns₁ hsb₁=>?_) Sc.kind);dsimp only at hns₁ hsb₁ ⊢;generalize hH3:s2.heap.push { cls:=.type "list",dict:=none,data:=.seq ([]:List AC).toArray }=H3 at hns₁ hsb₁ ⊢
 have hC:H3.objs.size=s2.heap.objs.size+1:=by rw [<-hH3,DO]
 have hDC:s2.heap.objs.size≠H3.objs.size:=by rw [hC];exact Am (DM _)
 have hCle:s2.heap.objs.size<=H3.objs.size:=by rw [hC];exact HJ _
 have old:∀b o,s2.heap.get? b=some o->h₁.get? b=some o:=λb o e=>hsb₁.extBut b o (Am (by rw [hC];exact GM (Ad e))) (AJ _ (hH3▸AJ _ e))
 have hacc:h₁.get? s2.heap.objs.size=some { cls:=.type "list",dict:=none,data:=.seq ([]:List AC).toArray }:=hsb₁.extBut _ _ hDC (AJ _ (hH3▸Aj _ rfl));have hD:H2 s2.heap.objs.size=none:=I2.hok.fresh (AN _);have u:Un (frs X.stack) fp H2 (upd H2 s2.heap.objs.size (.lst [])) s2.heap h₁:=Un.laid old (AN _) hD;have hok:HOk X.prog X.w (upd H2 s2.heap.objs.size (.lst [])) h₁:=I2.hok.laid old (AN _) ⟨Cg _,[],0,.nil,hacc⟩
 have hHC:upd H2 s2.heap.objs.size (.lst []) H3.objs.size=none:=by rw [BW (Bx hDC)];exact I2.hok.fresh hCle
 obtain ⟨W,⟨m0,w0⟩,turn⟩:=q2 s2.heap.objs.size hD
 have loop:∀s₃:AG,s₃={ s2 with heap:=h₁,toks:=s2.toks+([]:List (Str×AC)).length } ->
   Kw (Ac X.prog X.w) X.A (.compLoop (.ListComp elt [⟨target,iter,ifs,0⟩] scope pos) 0 (.ref it) (.ref s2.heap.objs.size) (compEnvC scope cl H3.objs.size X.env))
    (RR (.ref s2.heap.objs.size) H3.objs.size) s₃:=by
  rintro s₃ rfl
  have J0:Inv (Da X scope N' cl H3.objs.size s2 H2 fp (X.pn++pins)) [] (BU own.length none++σ) (upd H2 s2.heap.objs.size (.lst [])) { s2 with heap:=h₁,toks:=s2.toks+([]:List (Str×AC)).length }:=
   Ui (s:={ s2 with heap:=h₁,toks:=s2.toks+([]:List (Str×AC)).length }) Sc I2 f2 hfl c1 c2 hCle hns₁ rfl I2.bare u hok hHC
  refine Xd (X':=Da X scope N' cl H3.objs.size s2 H2 fp (X.pn++pins)) (fp:=fp) (Q:=Qf s2.heap.objs.size) hc rfl T (hg _ _ _ _ _ _) (hif _ _ _ _ _ _) (he _ _ _ _ _ _) W turn (λσ' H' s' J q=>hRR _ _ σ' H' s' hCle J q) J0 (T.keep _ _ _ st2 λb _ o e=>old b o e) (λb hb=>?_) w0;obtain ⟨z0,z1,z2,z3,z4,z5⟩:=f2 b hb;refine ⟨by rw [BW (Am (hfl b hb))];exact z0,Am (AZ (hfl b hb) hCle),λz=>?_,.inl hb,λx c e=>z4 x c (c1 x c e),λp hp=>?_⟩
  ·exact (Ay.mp (I2.stkSub _ z)).elim z1 z2
  ·have hp:p∈(X.pn++pins)++[]:=hp
   rw [BQ] at hp;exact z5 p hp
 exact codeAny_compStart_list (loop _ rfl) (T.self X.A 0 _ _ _ (T.keep _ _ _ st2 λb _ o e=>old b o e) (loop _ rfl))
theorem cH (hc:X.calm=true) (Sc:LP X scope own N') (hi:PI X target iter wi)
  (hg:∀cl C s₁ H₁ ex pn,PG (Da X scope N' cl C s₁ H₁ ex pn) target g) (hif:∀cl C s₁ H₁ ex pn,Us (Da X scope N' cl C s₁ H₁ ex pn) ifs tc) (he:∀cl C s₁ H₁ ex pn,PE (Da X scope N' cl C s₁ H₁ ex pn) elt te)
  (hs:∀x,FD iter X.env x=pure x:=by intro _;rfl):PE X (.ListComp elt [⟨target,iter,ifs,0⟩] scope pos) (YS own.length wi g tc te):=by
 intro pins s σ H Q I h;rw [eval_ListComp];obtain ⟨cl,hclos,c1,c2⟩:=Vz (scope:=scope) (env:=X.env) (λy hy hf=>I.ok.has y.1 (Sc.free y hy hf));refine WD (use:=none) rfl hs hclos Sc.kind Sc.names (thn (hi pins s σ H _ I h) λv s1 h1=>thn h1 λitv s2 h2=>?_);obtain ⟨it,fp,tn,J,H2,rfl,I2,T,st2,f2,q2⟩:=h2
 refine PD (Qf:=λp H'=>Q (.ref p) H') (RR:=λacc C=>compPost (Ac X.prog X.w) X.A X.xe none (EP X pins σ Q) acc C) hc Sc hg hif he c1 c2 I2 T st2 f2 q2 λD C σ' H' s' hC J q=>?_
 obtain ⟨m,hn,_⟩:=J.loc;exact ⟨m,hn,λh' sb=>⟨.ref D,H',QW I2 J hC f2 sb,rfl,q⟩⟩
theorem bp {i:Nat} {y:Str} {py spos:Pos} (hc:X.calm=true) (hsw:Fh (.ListComp elt [⟨target,iter,ifs,0⟩] scope pos) (some (.Name y py)) spos.line X.env=pure true)
  (hN:X.N.Nodup) (hy:X.N[i]?=some y) (hloc:Loc X.env.scope y) (Sc:LP X scope own N') (hi:PI X target iter wi)
  (hg:∀cl C s₁ H₁ ex pn,PG (Da X scope N' cl C s₁ H₁ ex pn) target g) (hif:∀cl C s₁ H₁ ex pn,Us (Da X scope N' cl C s₁ H₁ ex pn) ifs tc) (he:∀cl C s₁ H₁ ex pn,PE (Da X scope N' cl C s₁ H₁ ex pn) elt te)
  (hs:∀x,FD iter X.env x=pure x:=by intro _;rfl) (hf:X.fn y=true∨X.env.scope.names.lookup y=some .local:=by first | exact .inl rfl | exact .inr rfl | assumption) :
  PS X (.Assign [.Name y py] (.ListComp elt [⟨target,iter,ifs,0⟩] scope pos) spos) (fg (YS own.length wi g tc te) (Vr i)):=by
 intro pins s σ H D I h;rw [exec_Assign_Name_used _ _ _ _ hsw];refine AH (wpAny_standAt (AH ?_));show Aq _ X.A (do let _ <-comprehension (.ListComp elt [⟨target,iter,ifs,0⟩] scope pos) scope X.env _ (newList []) false (Br iter X.env) (some (OA (.Name y py) X.env))) _ _ s;obtain ⟨cl,hclos,c1,c2⟩:=Vz (scope:=scope) (env:=X.env) (λy hy hf=>I.ok.has y.1 (Sc.free y hy hf))
 refine AH (GJ (WD (use:=some (OA (.Name y py) X.env)) (Q:=λ_ s'=>SP X pins D .next s') rfl hs hclos Sc.kind Sc.names
  (thn (hi pins s σ H _ I h) λv s1 h1=>thn h1 λitv s2 h2=>?_)) (λ_ s' hq=>AW (AW hq)) λ_ _ e=>e)
 obtain ⟨it,fp,tn,J,H2,rfl,I2,T,st2,f2,q2⟩:=h2
 refine PD (Qf:=λp H'=>D.nx (σ.set i (some (.ref p))) H') (RR:=λacc C=>compPost (Ac X.prog X.w) X.A X.xe (some (OA (.Name y py) X.env)) (λ_ s'=>SP X pins D .next s') acc C) hc Sc hg hif he c1 c2 I2 T st2 f2 q2 λA C σ' H' s' hC J q=>?_
 obtain ⟨m,hn,_⟩:=J.loc;have I3:Inv X pins σ H' s':=QW I2 J hC f2 (lK ..);have hHC:H' C=none:=J.free
 have hcell:∀x c,X.env.cells.lookup x=some c->c≠C:=λx c e z=>by
  obtain ⟨v,q⟩:=I2.cell x c e;exact zX (AZ q.lt (by rw [z];exact hC)) (Ee _)
 have hloc':C≠X.env.locals:=Nb (AZ I2.lt hC);show Aq _ X.A (OA (.Name y py) X.env (.ref A)) _ _ s';refine i5 (QE (v:=.ref A) I3 hN hy hloc rfl (λs4 I4 ⟨a,sb,ha⟩=>?_) hf)
 have haC:C≠a:=by
  rcases ha with e | e
  ·rw [e];exact hloc'
  ·exact Bx (hcell _ _ e)
 refine ⟨m,hn.sameBut sb haC,λh' sb'=>⟨_,H',?_,q⟩⟩
 refine I4.turned (t':=s4.toks) (it:=C) (λb o hb e=>(sb'.2 b hb).trans e) hHC hloc' (.inr (A0 I2.sz hC)) hcell λp hp z=>?_
 exact zX (AZ (Ad (I2.pin p hp).1) (by rw [z];exact hC)) (Ee _)
end
def FN (v:Hv) (g:MG) (c:MT) (m:ME):Nat->Nat->Lo->Sto->List D->Res (List D)
 | k,i,e,S,acc=>match v S with
  | none=>.bad
  | some ds=>match ds[i]? with
   | none=>.ok acc S
   | some d=>match k with
    | 0=>.bad
    | k+1=>if acc.length < sizeLine then (okR (g d e S)).bind λe1 S1=>(okR (c e1 S1)).bind λb S2=>if b=true then (okR (m e1 S2)).bind λy S3=>FN v g c m k (i+1) e1 S3 (acc++[y]) else FN v g c m k (i+1) e1 S2 acc else .bad
def FI (n:Nat) (mi:MI) (g:MG) (c:MT) (m:ME):ML:=λe S=>(mi e S).bind λv S1=>FN v g c m (Cm v S1) 0 (BU n none++e) S1 []
def G3:MT:=λ_ S=>.ok true S
section
variable {X:Cx} {E:EW} {scope:IB} {own N':List Str} {elt iter target:Expr} {ifs:List Expr} {pos:Pos} {mi:MI} {g:MG} {c:MT} {m:ME}
abbrev dr (X:Cx) (E:EW) (ifs:List Expr) (c:MT):Prop:=Us X ifs (gT X.K E c)
theorem G1:dr X E [] G3:=λpins s σ H Q I ⟨ρ,l,S,hl,hs,hm⟩=>by
 exact Yu pins s σ H Q I (hm ρ H .refl hs)
theorem O2 {e:Expr} (h:GT X E e c):dr X E [e] c:=Yt h
theorem FQ.grow {K:AA} {ρ:List AK} {H:Hp} {e:Lo} {σ:St} (n:Nat) (h:FQ K ρ H e σ):FQ K ρ H (BU n none++e) (BU n none++σ):=by
 refine ⟨by simp [h.len],λi d q=>?_⟩
 by_cases hi:i < n
 ·rw [Ab (by simpa using hi),Cy,qX hi] at q
  cases q
 ·rw [BE (by simpa using hi)] at q ⊢
  simp only [KP] at q ⊢;exact h.at' _ d q
theorem B7.ok_of {α:Type} {K:AA} {E:EH} {ρ:List AK} {H:Hp} {r:Res α} {k:α->Sto->Prop} {a:α} {S:Sto} (e:r=.ok a S) (h:k a S):B7 K E ρ H r k:=by
 subst e;exact h
theorem Om {α β:Type} {r:Res α} {F:α->Sto->Res β} {b:β} {S:Sto} (h:(okR r).bind F=.ok b S):∃a S1,r=.ok a S1/\F a S1=.ok b S:=by
 cases r with
 | ok a S1=>exact ⟨a,S1,rfl,h⟩
 | err c S1=>cases h
 | bad=>cases h
theorem TQ {v:Hv} {g:MG} {c:MT} {m:ME} {er:AK} {S':Sto}:∀(k i:Nat) (e:Lo) (S:Sto) (acc:List D),FN v g c m k i e S acc≠.err er S':=by
 intro k
 induction k with
 | zero=>
  intro i e S acc h;unfold FN at h;split at h
  ·cases h
  ·split at h <;> cases h
 | succ k ih=>
  intro i e S acc h;unfold FN at h;split at h
  ·cases h
  ·split at h
   ·cases h
   ·dsimp only at h
    split at h
    ·cases h1:g _ e S with
     | ok e1 S1=>
      rw [h1] at h;dsimp only [okR,Res.bind] at h
      cases h2:c e1 S1 with
      | ok b S2=>
       rw [h2] at h;dsimp only [okR,Res.bind] at h
       cases b with
       | true=>
        rw [qX rfl] at h
        cases h3:m e1 S2 with
        | ok y S3=>rw [h3] at h;exact ih _ _ _ _ h
        | err _ _=>rw [h3] at h;cases h
        | bad=>rw [h3] at h;cases h
       | false=>
        rw [qY AX] at h;exact ih _ _ _ _ h
      | err _ _=>rw [h2] at h;cases h
      | bad=>rw [h2] at h;cases h
     | err _ _=>rw [h1] at h;cases h
     | bad=>rw [h1] at h;cases h
    ·cases h
theorem SK {K:AA} {n:Nat} {σ:St} {H:Hp} {Q:VK} (h:gL K E (FI n mi g c m) σ H Q):YS n (gI K E mi) (gG K g) (gT K noE c) (gE K noE m) σ H Q:=by
 obtain ⟨ρ,l,S,hl,hs,hm⟩:=h;refine ⟨ρ,l,S,hl,hs,hm.seq λv S1 hm ρ1 H1 J l1 s1 vo p hp=>?_⟩
 obtain ⟨ds,S',hm,k⟩:∃ds S',FN v g c m (Cm v S1) 0 (BU n none++l) S1 []=.ok ds S'/\∀ρ' H' p xs,Le K ρ H ρ' H'->B4 K ρ' S' H'->Au K ρ' H' ds xs->H' p=some (.lst xs)->(∀n:Nat,ρ'[n]?≠some p)->H p=none->Q (.ref p) H':=by
  cases hc:FN v g c m (Cm v S1) 0 (BU n none++l) S1 [] with
  | ok ds S'=>rw [hc] at hm;exact ⟨ds,S',rfl,hm⟩
  | err c S'=>exact (TQ _ _ _ _ _ hc).elim
  | bad=>rw [hc] at hm;exact hm.elim
 obtain ⟨s1',l1'⟩:=II (ho:=.lst []) s1 hp;have hp0:H p=none:=l1.back hs s1 hp
 refine ⟨λi j σ2 H2 xs=>∃ρ2 e2 S2 acc,Le K ρ1 H1 ρ2 H2/\FQ K ρ2 H2 e2 σ2/\B4 K ρ2 S2 H2/\Au K ρ2 H2 acc xs/\H2 p=some (.lst xs)/\(∀q:Nat,ρ2[q]?≠some p)/\FN v g c m j i e2 S2 acc=.ok ds S',
  ⟨Cm v S1,ρ1,_,S1,[],l1',(hl.mono (l1.trans l1')).grow n,s1',.nil,Bg,λq e=>s1.notIn hp e,hm⟩,?_⟩
 rintro i j σ2 H2 xs ⟨ρ2,e2,S2,acc,l2,r2,s2,ra,hp2,hn2,hm2⟩;refine ⟨hp2,?_⟩;unfold FN at hm2
 cases hv:v S2 with
 | none=>rw [hv] at hm2;cases hm2
 | some vs=>
  rw [hv] at hm2;dsimp only at hm2;obtain ⟨v1,v2⟩:=vo ρ2 H2 S2 vs i l2 s2 hv
  cases hd:vs[i]? with
  | none=>
   rw [hd] at hm2;cases hm2;exact .inl ⟨v1 hd,k ρ2 H2 p xs (l1.trans l2) s2 ra hp2 hn2 hp0⟩
  | some d=>
   rw [hd] at hm2;dsimp only at hm2;obtain ⟨go,yl⟩:=v2 d hd
   cases j with
   | zero=>cases hm2
   | succ j=>
    dsimp only at hm2;split at hm2
    ·rename_i hz
     obtain ⟨e3,S3,h3,hm2⟩:=Om hm2;obtain ⟨b,S4,h4,hm2⟩:=Om hm2;refine .inr ⟨go,by rw [<-ra.length];exact hz,λx H' y=>?_⟩;obtain ⟨ρ3,l3,s3,rd⟩:=yl x H' y;obtain ⟨hp3,hn3⟩:=l3.oth p _ hp2 hn2;refine ⟨ρ3,e2,S2,d,rd,r2.mono l3,s3,B7.ok_of h3 λρ4 H4 σ4 l4 s4 r4=>?_⟩;obtain ⟨hp4,hn4⟩:=l4.oth p _ hp3 hn3;refine ⟨ρ4,e3,S3,r4,s4,B7.ok_of h4 λρ5 H5 l5 s5=>?_⟩;obtain ⟨hp5,hn5⟩:=l5.oth p _ hp4 hn4
     cases b with
     | false=>
      rw [qY AX] at hm2 ⊢;exact ⟨j,DM j,ρ5,e3,S4,acc,l2.trans (l3.trans (l4.trans l5)),r4.mono l5,s5,ra.mono (l3.trans (l4.trans l5)),hp5,hn5,hm2⟩
     | true=>
      rw [qX rfl] at hm2 ⊢;obtain ⟨yv,S5,h5,hm2⟩:=Om hm2;refine ⟨ρ5,e3,S4,r4.mono l5,s5,B7.ok_of h5 λρ6 H6 y6 l6 s6 r6=>?_⟩;obtain ⟨hp6,hn6⟩:=l6.oth p _ hp5 hn5
      have l7:∀xs',Le K ρ6 H6 ρ6 (upd H6 p (.lst xs'))->True:=λ_ _=>trivial
      have up7:∀xs':List V,B4 K ρ6 S5 (upd H6 p (.lst xs'))/\(∀a o,EZ K ρ6 H6 a o->a≠p->EZ K ρ6 (upd H6 p (.lst xs')) a o)/\∀e' w',Bs K ρ6 H6 e' w'->Bs K ρ6 (upd H6 p (.lst xs')) e' w':=λxs'=>by
       have kk:=Fp (H:=H6) (p:=p) (ho:=.lst xs') (.inr (by rw [hp6];trivial))
       have mono:∀e' w',Bs K ρ6 H6 e' w'->Bs K ρ6 (upd H6 p (.lst xs')) e' w':=λe' w' r=>r.keep kk.1 kk.2
       have mob:∀a o,EZ K ρ6 H6 a o->a≠p->EZ K ρ6 (upd H6 p (.lst xs')) a o:=λa o r ne=>r.keep kk.1 kk.2 (BW ne)
       exact ⟨⟨s6.len,s6.nd,λn o a q1 q2=>mob a o (s6.ob n o a q1 q2) λz=>hn6 n (by rw [<-z];exact q2)⟩,mob,mono⟩
      obtain ⟨u1,u2,u3⟩:=up7 (xs++[y6]);refine ⟨hp6,j,DM j,ρ6,e3,S5,acc++[yv],?_,?_,u1,?_,Bg,hn6,hm2⟩
      ·have lx:=l2.trans (l3.trans (l4.trans (l5.trans l6)))
       have kk:=Fp (H:=H6) (p:=p) (ho:=.lst (xs++[y6])) (.inr (by rw [hp6];trivial))
       exact ⟨lx.pre,λa zs q=>kk.1 a zs (lx.tup a zs q),λa o u q=>kk.2 a o u (lx.frz a o u q),λa o q z=>by
        have nap:a≠p:=CF q hp;obtain ⟨z1,z2⟩:=lx.oth a o q z
        exact ⟨by rw [BW nap];exact z1,z2⟩⟩
      ·have rr:=r4.mono (l5.trans l6)
       exact ⟨rr.len,λq d' hq=>by
        obtain ⟨w',z1,z2⟩:=rr.at' q d' hq
        exact ⟨w',z1,u3 _ _ z2⟩⟩
      ·have ra6:=ra.mono (l3.trans (l4.trans (l5.trans l6)))
       have kk:=Fp (H:=H6) (p:=p) (ho:=.lst (xs++[y6])) (.inr (by rw [hp6];trivial));exact (ra6.keep kk.1 kk.2).append (.cons (u3 _ _ r6) .nil)
    ·cases hm2
theorem JV (hc:X.calm=true) (Sc:LP X scope own N') (hi:GI X E target iter mi)
  (hg:∀cl C s₁ H₁ ex pn,GG (Da X scope N' cl C s₁ H₁ ex pn) target g) (hif:∀cl C s₁ H₁ ex pn,dr (Da X scope N' cl C s₁ H₁ ex pn) noE ifs c) (he:∀cl C s₁ H₁ ex pn,GE (Da X scope N' cl C s₁ H₁ ex pn) noE elt m)
  (hs:∀x,FD iter X.env x=pure x:=by intro _;rfl):GL X E (.ListComp elt [⟨target,iter,ifs,0⟩] scope pos) (FI own.length mi g c m):=
 (cH (g:=gG X.K g) (tc:=gT X.K noE c) (te:=gE X.K noE m) hc Sc hi hg hif he hs).imp λ_ _ _ h=>SK h
theorem N3 {i:Nat} {y:Str} {py spos:Pos} (hc:X.calm=true) (hsw:Fh (.ListComp elt [⟨target,iter,ifs,0⟩] scope pos) (some (.Name y py)) spos.line X.env=pure true)
  (hN:X.N.Nodup) (hy:X.N[i]?=some y) (hloc:Loc X.env.scope y) (Sc:LP X scope own N') (hi:GI X E target iter mi)
  (hg:∀cl C s₁ H₁ ex pn,GG (Da X scope N' cl C s₁ H₁ ex pn) target g) (hif:∀cl C s₁ H₁ ex pn,dr (Da X scope N' cl C s₁ H₁ ex pn) noE ifs c) (he:∀cl C s₁ H₁ ex pn,GE (Da X scope N' cl C s₁ H₁ ex pn) noE elt m)
  (hs:∀x,FD iter X.env x=pure x:=by intro _;rfl) (hf:X.fn y=true∨X.env.scope.names.lookup y=some .local:=by first | exact .inl rfl | exact .inr rfl | assumption) :
  GS X E (.Assign [.Name y py] (.ListComp elt [⟨target,iter,ifs,0⟩] scope pos) spos) (Bk i (DT (FI own.length mi g c m))):=by
 refine (bp (g:=gG X.K g) (tc:=gT X.K noE c) (te:=gE X.K noE m) hc hsw hN hy hloc Sc hi hg hif he hs hf).imp λD σ H ⟨ρ,l,S,hl,hs,hm⟩=>?_
 refine SK (E:=E) (Q:=λx H'=>D.nx (σ.set i (some x)) H') ⟨ρ,l,S,hl,hs,B7.seq (F:=λds S1=>Res.ok (L2.D.ref S1.length) (S1++[Ob.lst ds])) (k:=λd S2=>B7 X.K noH ρ H ((tgN i d l S2).bind λe1 S2=>.ok (.nx e1) S2) λfl S'=>No X.K E ρ H S' D fl) (B7.lift hm hl .refl λd S2 h=>h) λds S1 hm ρ1 H1 p xs l1 s1 r1 hp hn hp0=>?_⟩
 have l0:∀(n:Nat) a,ρ1[n]?=some a->(ρ1++[p])[n]?=some a:=λn a h=>by rw [Ab (AD.mp h).1];exact h
 obtain ⟨s2,at2⟩:=s1.adopt (o:=.lst ds) hn ⟨xs,hp,r1.more l0⟩
 have l2:Le X.K ρ H (ρ1++[p]) H1:=⟨λn a h=>l0 n a (l1.pre n a h),l1.tup,l1.frz,λa o e h=>⟨(l1.oth a o e h).1,λn q=>by
  rcases Hl q with ⟨q,_⟩ | ⟨_,q⟩
  ·exact (l1.oth a o e h).2 n q
  ·exact CF e hp0 q⟩⟩
 exact hm _ _ _ l2 s2 ((hl.mono l2).set (.ref at2) i)
end
end L2
namespace L2
open PySem PySem.Spec PyProof.Rows PySem.SeqAt
def Ja:D->D->Option Bool
 | .non,.non=>some true
 | .bl a,.bl b=>some (a==b)
 | .int a,.int b=>some (a==b)
 | .str a,.str b=>some (a==b)
 | .non,.int _=>some false
 | .non,.str _=>some false
 | .non,.bl _=>some false
 | .non,.tup _=>some false
 | .int _,.non=>some false
 | .str _,.non=>some false
 | .bl _,.non=>some false
 | .tup _,.non=>some false
 | .int _,.tup _=>some false
 | .tup _,.int _=>some false
 | _,_=>none
def eqL (f:D->D->Option Bool):List D->List D->Option Bool
 | [],[]=>some true
 | [],_ :: _=>some false
 | _ :: _,[]=>some false
 | x :: xs,y :: ys=>match f x y,eqL f xs ys with
  | some a,some b=>some (a&&b)
  | _,_=>none
def eqP:Nat->D->D->Option Bool
 | 0,x,y=>Ja x y
 | n+1,x,y=>match x,y with
  | .tup xs,.tup ys=>eqL (eqP n) xs ys
  | x,y=>Ja x y
theorem KJ {f:D->D->Option Bool} {x y:D} {xs ys:List D} {b:Bool} (h:eqL f (x :: xs) (y :: ys)=some b):∃a c,f x y=some a/\eqL f xs ys=some c/\b=(a&&c):=by
 unfold eqL at h;split at h
 ·rename_i a c h1 h2
  cases h;exact ⟨a,c,h1,h2,rfl⟩
 ·cases h
theorem Vx {f:D->D->Option Bool}:∀ {xs ys:List D} {b:Bool},eqL f xs ys=some b->(∀(j:Nat) x y,xs[j]?=some x->ys[j]?=some y->∃c,f x y=some c) /\
  b=((BN (min xs.length ys.length)).all (λj=>match xs[j]?,ys[j]? with | some x,some y=>(f x y).getD false | _,_=>false)&&xs.length==ys.length)
 | [],[],b,h=>by cases h;exact ⟨λj x y h=>by simp at h,by simp⟩
 | [],y :: ys,b,h=>by cases h;exact ⟨λj x y h=>by simp at h,by simp⟩
 | x :: xs,[],b,h=>by cases h;exact ⟨λj x y _ h=>by simp at h,by simp⟩
 | x :: xs,y :: ys,b,h=>by
  obtain ⟨a,c,h1,h2,rfl⟩:=KJ h;obtain ⟨i1,i2⟩:=Vx h2;refine ⟨λj x' y' e1 e2=>?_,?_⟩
  ·cases j with
   | zero=>simp at e1 e2;subst e1;subst e2;exact ⟨a,h1⟩
   | succ j=>exact i1 j x' y' (by simpa using e1) (by simpa using e2)
  ·rw [i2,A8,A8,show min (xs.length+1) (ys.length+1)=min xs.length ys.length+1 by lia,List.range_succ_eq_map,Rv,Te]
   simp only [List.getElem?_cons_zero,h1,Xs,Function.comp_def,List.getElem?_cons_succ];rw [Bool.and_assoc]
   congr 1
   congr 1
   rw [Bool.eq_iff_iff];simp
section
variable {K:AA} {ρ:List AK} {H:Hp}
theorem Vu (n k:Nat) (y:D):eqP n (.ref k) y=none:=by cases n <;> cases y <;> rfl
theorem Vv (n:Nat) (ds:List D) (y:D):eqP n (.fro ds) y=none:=by cases n <;> cases y <;> rfl
theorem Vw (n:Nat) (c:AK) (y:D):eqP n (.exc c) y=none:=by cases n <;> cases y <;> rfl
theorem Lr {x x':D} {v:V} (r1:Bs K ρ H x v) (r2:Bs K ρ H x' v):x=x'∨(∃ds ds' vs,x=.tup ds/\x'=.tup ds'/\Au K ρ H ds vs/\Au K ρ H ds' vs)∨(∀n y,eqP n x y=none)∨∀n y,eqP n x' y=none:=by
 cases r1 with
 | non=>cases r2;exact .inl rfl
 | bl b=>cases r2;exact .inl rfl
 | int b=>cases r2;exact .inl rfl
 | str b=>cases r2;exact .inl rfl
 | fro _ _=>exact .inr (.inr (.inl λn y=>Vv n _ y))
 | ref _=>exact .inr (.inr (.inl λn y=>Vu n _ y))
 | exc _ _=>exact .inr (.inr (.inl λn y=>Vw n _ y))
 | tup u1 u2=>
  cases r2 with
  | fro _ _=>exact .inr (.inr (.inr λn y=>Vv n _ y))
  | ref _=>exact .inr (.inr (.inr λn y=>Vu n _ y))
  | exc _ _=>exact .inr (.inr (.inr λn y=>Vw n _ y))
  | tup w1 w2=>
   rw [u1] at w1;cases w1;exact .inr (.inl ⟨_,_,_,rfl,rfl,u2,w2⟩)
theorem dO:∀(n:Nat) {x x' y:D} {v:V} {b b':Bool},Bs K ρ H x v->Bs K ρ H x' v->eqP n x y=some b->eqP n x' y=some b'->b=b':=by
 intro n
 induction n with
 | zero=>
  intro x x' y v b b' r1 r2 h h'
  rcases Lr r1 r2 with rfl | ⟨ds,ds',vs,rfl,rfl,_,_⟩ | q | q
  ·rw [h] at h';cases h';rfl
  ·have:eqP 0 (.tup ds) y=eqP 0 (.tup ds') y:=by cases y <;> rfl
   rw [<-this,h] at h';cases h';rfl
  ·rw [q] at h;cases h
  ·rw [q] at h';cases h'
 | succ n ih=>
  intro x x' y v b b' r1 r2 h h'
  have lists:∀ {xs:List D} {vs:List V} {xs' ys:List D} {b b':Bool},Au K ρ H xs vs->Au K ρ H xs' vs->eqL (eqP n) xs ys=some b->eqL (eqP n) xs' ys=some b'->b=b':=by
   intro xs
   induction xs with
   | nil=>
    intro vs xs' ys b b' q1 q2 g g';cases q1;cases q2;rw [g] at g';cases g';rfl
   | cons d ds ihl=>
    intro vs xs' ys b b' q1 q2 g g'
    cases q1 with
    | cons a1 a2=>
     cases q2 with
     | cons c1 c2=>
      cases ys with
      | nil=>cases g;cases g';rfl
      | cons y ys=>
       obtain ⟨p,q,g1,g2,rfl⟩:=KJ g;obtain ⟨p',q',g1',g2',rfl⟩:=KJ g';rw [ih a1 c1 g1 g1',ihl a2 c2 g2 g2']
  rcases Lr r1 r2 with rfl | ⟨ds,ds',vs,rfl,rfl,q1,q2⟩ | q | q
  ·rw [h] at h';cases h';rfl
  ·by_cases c:∃ys,y=.tup ys
   ·obtain ⟨ys,rfl⟩:=c
    exact lists q1 q2 h h'
   ·have:eqP (n+1) (.tup ds) y=eqP (n+1) (.tup ds') y:=by
     cases y <;> first | rfl | exact (c ⟨_,rfl⟩).elim
    rw [<-this,h] at h';cases h';rfl
  ·rw [q] at h;cases h
  ·rw [q] at h';cases h'
theorem D0 {x:D} {b:Bool} (h:Ja x x=some b):b=true:=by
 cases x <;> first | (cases h;done) | (cases h;simp)
theorem O7:∀(n:Nat) {x:D} {b:Bool},eqP n x x=some b->b=true
 | 0,_,_,h=>D0 h
 | n+1,x,b,h=>by
  have lists:∀ {xs:List D} {b:Bool},eqL (eqP n) xs xs=some b->b=true:=by
   intro xs
   induction xs with
   | nil=>intro b g;cases g;rfl
   | cons d ds ih=>
    intro b g;obtain ⟨p,q,g1,g2,rfl⟩:=KJ g;rw [O7 n g1,ih g2];rfl
  cases x with
  | tup xs=>exact lists h
  | non=>exact D0 (x:=.non) h
  | bl c=>exact D0 (x:=.bl c) h
  | int c=>exact D0 (x:=.int c) h
  | str c=>exact D0 (x:=.str c) h
  | ref c=>exact D0 (x:=.ref c) h
  | fro c=>exact D0 (x:=.fro c) h
  | exc c=>exact D0 (x:=.exc c) h
theorem KY {x y:D} (hy:(∃f,y=.fro f)∨(∃r,y=.ref r)∨∃c,y=.exc c) (n:Nat):eqP n x y=none:=by
 rcases hy with ⟨f,rfl⟩ | ⟨r,rfl⟩ | ⟨c,rfl⟩ <;> (cases n <;> cases x <;> rfl)
theorem Zs (n:Nat) {x y:D} {v:V} {b:Bool} (h1:Bs K ρ H x v) (h2:Bs K ρ H y v) (h:eqP n x y=some b):b=true:=by
 induction n generalizing x y v b with
 | zero=>
  rcases Lr h1 h2 with rfl | ⟨ds,ds',vs,rfl,rfl,_,_⟩ | q | q
  ·exact O7 0 h
  ·cases h
  ·rw [q] at h;cases h
  ·cases h2 with
   | fro _ _=>rw [KY (.inl ⟨_,rfl⟩)] at h;cases h
   | ref _=>rw [KY (.inr (.inl ⟨_,rfl⟩))] at h;cases h
   | exc _ _=>rw [KY (.inr (.inr ⟨_,rfl⟩))] at h;cases h
   | non=>cases (q 0 .non)
   | bl b=>cases (q 0 (.bl b))
   | int b=>cases (q 0 (.int b))
   | str b=>cases (q 0 (.str b))
   | tup _ _=>cases (q 0 .non)
 | succ n ih=>
  have lists:∀ {xs ys:List D} {vs:List V} {b:Bool},Au K ρ H xs vs->Au K ρ H ys vs->eqL (eqP n) xs ys=some b->b=true:=by
   intro xs
   induction xs with
   | nil=>intro ys vs b q1 q2 g;cases q1;cases q2;cases g;rfl
   | cons d ds ihl=>
    intro ys vs b q1 q2 g
    cases q1 with
    | cons a1 a2=>
     cases q2 with
     | cons c1 c2=>
      obtain ⟨p,q,g1,g2,rfl⟩:=KJ g;rw [ih a1 c1 g1,ihl a2 c2 g2];rfl
  rcases Lr h1 h2 with rfl | ⟨ds,ds',vs,rfl,rfl,q1,q2⟩ | q | q
  ·exact O7 (n+1) h
  ·exact lists q1 q2 h
  ·rw [q] at h;cases h
  ·cases h2 with
   | fro _ _=>rw [KY (.inl ⟨_,rfl⟩)] at h;cases h
   | ref _=>rw [KY (.inr (.inl ⟨_,rfl⟩))] at h;cases h
   | exc _ _=>rw [KY (.inr (.inr ⟨_,rfl⟩))] at h;cases h
   | non=>cases (q 0 .non)
   | bl b=>cases (q 0 (.bl b))
   | int b=>cases (q 0 (.int b))
   | str b=>cases (q 0 (.str b))
   | tup _ _=>cases (q 0 .non)
end
section
variable {X:Cx} {pins:List (AK×Obj)} {σ:St} {H:Hp} {s:AG} {ρ:List AK}
theorem GY (A:BB):A.in1.units=A.units+1:=rfl
theorem Bi.at_ {vs:List V} {its:List AC} (r:Bi vs its) {j:Nat} (h:j < its.toArray.size):∃v,vs[j]?=some v/\RelV v its.toArray[j]:=by
 have hj:j < its.length:=by simpa using h
 have hv:j < vs.length:=by rw [r.length];exact hj
 obtain ⟨u,h1,h2⟩:=r.get (i:=j) (x:=vs[j]) (by simp [hv]);refine ⟨vs[j],by simp [hv],?_⟩
 have:its.toArray[j]=u:=by
  have:=AD.mp h1;obtain ⟨_,e⟩:=this;simpa using e
 rw [this];exact h2
theorem Q3 {n:Nat} {A:BB} (ih:∀(x y:D) (b:Bool) (xv yv:V) (u v:AC),eqP n x y=some b->Bs X.K ρ H x xv->Bs X.K ρ H y yv->RelV xv u->RelV yv v->EqAt A s u v b)
  {xs ys:List D} {vs ws:List V} {us zs:List AC} {b:Bool} (h:eqL (eqP n) xs ys=some b) (r1:Au X.K ρ H xs vs) (r2:Au X.K ρ H ys ws) (q1:Bi vs us) (q2:Bi ws zs) :
  ∃e:Nat->Bool,(∀j (h1:j < us.toArray.size) (h2:j < zs.toArray.size),EqAt A s us.toArray[j] zs.toArray[j] (e j))/\b=((BN (min us.toArray.size zs.toArray.size)).all e&&us.toArray.size==zs.toArray.size):=by
 obtain ⟨i1,i2⟩:=Vx h;refine ⟨λj=>match xs[j]?,ys[j]? with | some x,some y=>(eqP n x y).getD false | _,_=>false,λj h1 h2=>?_,?_⟩
 ·obtain ⟨v,e1,rv⟩:=Bi.at_ q1 h1
  obtain ⟨w,e2,rw'⟩:=Bi.at_ q2 h2;obtain ⟨x,e3,rx⟩:=r1.get' e1;obtain ⟨y,e4,ry⟩:=r2.get' e2;obtain ⟨c,hc⟩:=i1 j x y e3 e4;have:=ih x y c v w _ _ hc rx ry rv rw';simp only [e3,e4,hc,Xs];exact this
 ·rw [i2,r1.length,r2.length,q1.length,q2.length]
  simp
theorem M9 {A:BB} {x y:D} {b:Bool} {xv yv:V} {u v:AC} (I:Inv X pins σ H s) (hu:A.units < Ed) (h:Ja x y=some b) (r1:Bs X.K ρ H x xv) (r2:Bs X.K ρ H y yv) (q1:RelV xv u) (q2:RelV yv v) :
  EqAt A s u v b/\RcAt A s u v b/\RcNeAt A s u v (!b):=by
 cases r1 with
 | non=>
  cases q1
  cases r2 with
  | non=>cases q2;cases h;exact ⟨EqAt.same _,RcAt.none_none,RcNeAt.none_none⟩
  | bl c=>cases q2;cases h;exact ⟨EqAt.none_bool _,RcAt.none_bool _,RcNeAt.none_bool _⟩
  | int i=>obtain ⟨t,rfl⟩:=q2;cases h;exact ⟨EqAt.none_int _ _,RcAt.none_int _ _,RcNeAt.none_int _ _⟩
  | str z=>obtain ⟨t,rfl⟩:=q2;cases h;exact ⟨EqAt.none_str _ _,RcAt.none_str _ _,RcNeAt.none_str _ _⟩
  | tup a1 a2=>
   cases q2;cases h;obtain ⟨its,_,p,_⟩:=I.tuple (.inl (.inl a1));exact ⟨EqAt.none_tuple p hu,RcAt.none_tuple p hu,RcNeAt.none_tuple p hu⟩
  | _=>cases h
 | bl a=>
  cases q1
  cases r2 with
  | non=>cases q2;cases h;exact ⟨EqAt.bool_none _,RcAt.bool_none _,RcNeAt.bool_none _⟩
  | bl c=>cases q2;cases h;exact ⟨EqAt.bool_bool _ _,RcAt.bool_bool _ _,RcNeAt.bool_bool _ _⟩
  | _=>cases h
 | int a=>
  obtain ⟨t,rfl⟩:=q1
  cases r2 with
  | non=>cases q2;cases h;exact ⟨EqAt.int_none _ _,RcAt.int_none _ _,RcNeAt.int_none _ _⟩
  | int i=>obtain ⟨t',rfl⟩:=q2;cases h;exact ⟨EqAt.int_int _ _ _ _,RcAt.int_int _ _ _ _,RcNeAt.int_int _ _ _ _⟩
  | tup a1 a2=>
   cases q2;cases h;obtain ⟨its,_,p,_⟩:=I.tuple (.inl (.inl a1));exact ⟨EqAt.int_tuple _ _ p hu,RcAt.int_tuple _ _ p hu,RcNeAt.int_tuple _ _ p hu⟩
  | _=>cases h
 | str a=>
  obtain ⟨t,rfl⟩:=q1
  cases r2 with
  | non=>cases q2;cases h;exact ⟨EqAt.str_none _ _,RcAt.str_none _ _,RcNeAt.str_none _ _⟩
  | str i=>obtain ⟨t',rfl⟩:=q2;cases h;exact ⟨EqAt.str_str _ _ _ _,RcAt.str_str _ _ _ _,RcNeAt.str_str _ _ _ _⟩
  | _=>cases h
 | tup a1 a2=>
  cases q1;obtain ⟨its,_,p,_⟩:=I.tuple (.inl (.inl a1))
  cases r2 with
  | non=>cases q2;cases h;exact ⟨EqAt.tuple_none p hu,RcAt.tuple_none p hu,RcNeAt.tuple_none p hu⟩
  | int i=>obtain ⟨t',rfl⟩:=q2;cases h;exact ⟨EqAt.tuple_int _ _ p hu,RcAt.tuple_int _ _ p hu,RcNeAt.tuple_int _ _ p hu⟩
  | _=>cases h
 | _=>cases h
theorem Ud (I:Inv X pins σ H s):∀(n:Nat) (A:BB) (x y:D) (b:Bool) (xv yv:V) (u v:AC),A.units+n < Ed->eqP n x y=some b->Bs X.K ρ H x xv->Bs X.K ρ H y yv->RelV xv u->RelV yv v->EqAt A s u v b:=by
 intro n
 induction n with
 | zero=>exact λA x y b xv yv u v hu h r1 r2 q1 q2=>(M9 I (by omega) h r1 r2 q1 q2).1
 | succ n ih=>
  intro A x y b xv yv u v hu h r1 r2 q1 q2
  by_cases ht:∃xs ys,x=.tup xs/\y=.tup ys
  ·obtain ⟨xs,ys,rfl,rfl⟩:=ht
   cases r1 with
   | @tup _ a vs a1 a2=>
    cases r2 with
    | @tup _ c ws b1 b2=>
     cases q1;cases q2
     by_cases hac:a=c
     ·subst hac
      rw [Zs (n+1) (.tup a1 a2) (.tup b1 b2) h];exact EqAt.same _
     ·obtain ⟨its,rv,p,_⟩:=I.tuple (.inl (.inl a1))
      obtain ⟨its2,rw',p2,_⟩:=I.tuple (.inl (.inl b1));obtain ⟨e,he,rfl⟩:=Q3 (A:=A.in1) (λx y b xv yv u v g1 g2 g3 g4 g5=>ih A.in1 x y b xv yv u v (by rw [GY];lia) g1 g2 g3 g4 g5) h a2 b2 rv rw';exact EqAt.of_refs hac (jQ p p2 (by lia) he)
  ·have hf:Ja x y=some b:=by
    cases x <;> cases y <;> first | exact h | exact (ht ⟨_,_,rfl,rfl⟩).elim
   exact (M9 I (by lia) hf r1 r2 q1 q2).1
def Ow (d:D) (S:Sto):Option (List D):=match d with
 | .fro ds=>some ds
 | .ref n=>match S[n]? with
  | some (.lst ds)=>some ds
  | _=>none
 | _=>none
def eqB (x y:D) (S:Sto):Option Bool:=match Ow x S,Ow y S with
 | some xs,some ys=>if xs.length=ys.length then eqL (eqP 8) xs ys else some false
 | none,none=>eqP 8 x y
 | some _,none=>match y with
  | .tup _=>some false
  | .non=>some false
  | _=>none
 | none,some _=>match x with
  | .tup _=>some false
  | .non=>some false
  | _=>none
def eqD (neg:Bool) (x y:D) (S:Sto):Res D:=match eqB x y S with
 | some b=>.ok (.bl (if neg then !b else b)) S
 | none=>.bad
theorem KU {K:AA} {S:Sto} {d:D} {x:V} {ds:List D} (hs:B4 K ρ S H) (r:Bs K ρ H d x) (h:Ow d S=some ds):∃p xs,x=.ref p/\Au K ρ H ds xs/\SqL K H p xs:=by
 cases r with
 | fro h1 h2=>cases h;exact ⟨_,_,rfl,h2,h1.sq⟩
 | @ref n a hn=>
  obtain ⟨o,ho,ro⟩:=hs.there hn;unfold Ow at h;simp only [ho] at h
  cases o with
  | lst es=>cases h;obtain ⟨vs,e,rr⟩:=ro;exact ⟨_,_,rfl,rr,.inl (.inl e)⟩
  | _=>cases h
 | _=>cases h
theorem Zv {S:Sto} {x y:D} {b:Bool} {xv yv:V} {u v:AC} (I:Inv X pins σ H s) (hu:X.A.units+64 < Ed) (hs:B4 X.K ρ S H) (r1:Bs X.K ρ H x xv) (r2:Bs X.K ρ H y yv) (q1:RelV xv u) (q2:RelV yv v) (h:eqB x y S=some b) :
  RcAt X.A s u v b/\RcNeAt X.A s u v (!b):=by
 unfold eqB at h;split at h
 ·rename_i xs ys h1 h2
  obtain ⟨p,vs,rfl,rr,sq⟩:=KU hs r1 h1;obtain ⟨p',vs',rfl,rr',sq'⟩:=KU hs r2 h2;cases q1;cases q2;obtain ⟨its,rv,pl,_⟩:=I.list sq;obtain ⟨its2,rv2,pl2,_⟩:=I.list sq';split at h
  ·rename_i hlen
   obtain ⟨e,he,rfl⟩:=Q3 (A:=X.A.in1) (λx y b xv yv u v g1 g2 g3 g4 g5=>Ud I 8 X.A.in1 x y b xv yv u v (by rw [GY];lia) g1 g2 g3 g4 g5) h rr rr' rv rv2
   have hsz:its.toArray.size=its2.toArray.size:=by
    simp only [AY];rw [<-rv.length,<-rv2.length,<-rr.length,<-rr'.length];exact hlen
   have e1:((BN (min its.toArray.size its2.toArray.size)).all e&&its.toArray.size==its2.toArray.size)=(BN its.toArray.size).all e:=by
    rw [<-hsz,Nat.min_self,beq_self_eq_true,e8]
   rw [e1];exact ⟨RcAt.lists pl.isList pl2.isList hsz (by lia) he,RcNeAt.lists pl.isList pl2.isList hsz (by lia) he⟩
  ·rename_i hlen
   cases h
   have hsz:(its.toArray.size != its2.toArray.size)=true:=by
    simp only [AY];rw [<-rv.length,<-rv2.length,<-rr.length,<-rr'.length];simpa using hlen
   exact ⟨RcAt.lists_lengths pl.isList pl2.isList hsz (by lia),RcNeAt.lists_lengths pl.isList pl2.isList hsz (by lia)⟩
 ·by_cases ht:∃xs ys,x=.tup xs/\y=.tup ys
  ·obtain ⟨xs,ys,rfl,rfl⟩:=ht
   cases r1 with
   | tup a1 a2=>
    cases r2 with
    | tup b1 b2=>
     cases q1;cases q2;obtain ⟨its,rv,p,_⟩:=I.tuple (.inl (.inl a1));obtain ⟨its2,rw',p2,_⟩:=I.tuple (.inl (.inl b1));obtain ⟨e,he,rfl⟩:=Q3 (n:=7) (A:=X.A.in1) (λx y b xv yv u v g1 g2 g3 g4 g5=>Ud I 7 X.A.in1 x y b xv yv u v (by rw [GY];lia) g1 g2 g3 g4 g5) h a2 b2 rv rw';exact ⟨jQ p p2 (by lia) he,RcNeAt.tuples p p2 (by lia) he⟩
  ·have hf:Ja x y=some b:=by
    cases x <;> cases y <;> first | exact h | exact (ht ⟨_,_,rfl,rfl⟩).elim
   exact (M9 I (by lia) hf r1 r2 q1 q2).2
 ·rename_i xs h1 h2
  obtain ⟨p,vs,rfl,rr,sq⟩:=KU hs r1 h1;cases q1;obtain ⟨its,rv,pl,_⟩:=I.list sq;split at h
  ·cases h
   cases r2 with
   | tup b1 b2=>
    cases q2;obtain ⟨its2,rw',p2,_⟩:=I.tuple (.inl (.inl b1));exact ⟨RcAt.list_tuple pl.isList p2 (by lia),RcNeAt.list_tuple pl.isList p2 (by lia)⟩
  ·cases h
   cases r2;cases q2;exact ⟨RcAt.list_none pl.isList (by lia),RcNeAt.list_none pl.isList (by lia)⟩
  ·cases h
 ·rename_i xs h1 h2
  obtain ⟨p,vs,rfl,rr,sq⟩:=KU hs r2 h2;cases q2;obtain ⟨its,rv,pl,_⟩:=I.list sq;split at h
  ·cases h
   cases r1 with
   | tup b1 b2=>
    cases q1;obtain ⟨its2,rw',p2,_⟩:=I.tuple (.inl (.inl b1));exact ⟨RcAt.tuple_list p2 pl.isList (by lia),RcNeAt.tuple_list p2 pl.isList (by lia)⟩
  ·cases h
   cases r1;cases q1;exact ⟨RcAt.none_list pl.isList (by lia),RcNeAt.none_list pl.isList (by lia)⟩
  ·cases h
theorem Hi (hu:X.A.units+64 < Ed):OpR X (Bd .Eq) (rD X.K (eqD false)):=by
 intro pins s σ H x y v u Q I rx ry h;obtain ⟨ρ,S,a,b,d,S',hs,ra,rb,hm,k⟩:=h;unfold eqD at hm;split at hm
 ·rename_i c hc
  cases hm;exact (Zv I hu hs ra rb rx ry hc).1 _ _ _ _ ⟨.bl c,H,I,rfl,k ρ H _ .refl hs (.bl _)⟩
 ·cases hm
theorem QJ (hu:X.A.units+64 < Ed):OpR X (Bd .NotEq) (rD X.K (eqD true)):=by
 intro pins s σ H x y v u Q I rx ry h;obtain ⟨ρ,S,a,b,d,S',hs,ra,rb,hm,k⟩:=h;unfold eqD at hm;split at hm
 ·rename_i c hc
  cases hm;exact (Zv I hu hs ra rb rx ry hc).2 _ _ _ _ ⟨.bl (!c),H,I,rfl,k ρ H _ .refl hs (.bl _)⟩
 ·cases hm
def Jl (x:D):List D->Option Bool
 | []=>some false
 | d :: ds=>match eqP 8 d x,Jl x ds with
  | some a,some b=>some (a||b)
  | _,_=>none
def inD (neg:Bool) (x y:D) (S:Sto):Res D:=match Eu y S with
 | some ds=>match Jl x ds with
  | some b=>.ok (.bl (if neg then !b else b)) S
  | none=>.bad
 | none=>.bad
theorem Uo {x d:D} {ds:List D} {b:Bool} (h:Jl x (d :: ds)=some b):∃a c,eqP 8 d x=some a/\Jl x ds=some c/\b=(a||c):=by
 unfold Jl at h;split at h
 ·rename_i a c h1 h2
  cases h;exact ⟨a,c,h1,h2,rfl⟩
 ·cases h
open Classical in
theorem MM {x:D} {xv:V} {v:AC} (I:Inv X pins σ H s) {A:BB} (hu:A.units+8 < Ed) (rx:Bs X.K ρ H x xv) (qx:RelV xv v):∀ {ds:List D} {vs:List V} {us:List AC} {b:Bool},Au X.K ρ H ds vs->Bi vs us->Jl x ds=some b ->
  ∃e:AC->Bool,(∀y∈us,EqAt A s y v (e y))/\b=us.any e:=by
 intro ds vs us b r q h
 let e:AC->Bool:=λy=>decide (∃d w,d∈ds/\Bs X.K ρ H d w/\RelV w y/\eqP 8 d x=some true)
 have all:∀ {ds':List D} {vs':List V} {us':List AC} {b':Bool},(∀d∈ds',d∈ds)->Au X.K ρ H ds' vs'->Bi vs' us'->Jl x ds'=some b'->(∀y∈us',EqAt A s y v (e y))/\b'=us'.any e:=by
  intro ds'
  induction ds' with
  | nil=>intro vs' us' b' _ r q h;cases r;cases q;cases h;exact ⟨(λ_ z=>nomatch z),rfl⟩
  | cons d ds' ih=>
   intro vs' us' b' hsub r q h
   cases r with
   | cons r1 r2=>
    cases q with
    | @cons w y _ _ q1 q2=>
     obtain ⟨a,c,h1,h2,rfl⟩:=Uo h;obtain ⟨i1,i2⟩:=ih (λz hz=>hsub z (Ag _ hz)) r2 q2 h2
     have ha:e y=a:=by
      by_cases hq:∃d w,d∈ds/\Bs X.K ρ H d w/\RelV w y/\eqP 8 d x=some true
      ·obtain ⟨d',w',_,g1,g2,g3⟩:=id hq
       rw [RelV.inj g2 q1] at g1;have:=dO 8 g1 r1 g3 h1;rw [<-this];exact wX hq
      ·have:a=false:=by
        cases a with
        | false=>rfl
        | true=>exact (hq ⟨d,_,hsub d A1,r1,q1,h1⟩).elim
       rw [this];exact wY hq
     refine ⟨λz hz=>?_,by rw [G9,ha,<-i2]⟩
     rcases Ay.mp hz with rfl | hz
     ·rw [ha]
      exact Ud I 8 A d x a _ _ _ _ hu h1 r1 rx q1 qx
     ·exact i1 z hz
 obtain ⟨e1,e2⟩:=all (λ_ h=>h) r q h;exact ⟨e,e1,e2⟩
theorem eD (hu:X.A.units+64 < Ed):OpR X (Bd .In) (rD X.K (inD false)):=by
 intro pins s σ H x y v u Q I rx ry h;obtain ⟨ρ,S,a,b,d,S',hs,ra,rb,hm,k⟩:=h;unfold inD at hm;split at hm
 ·rename_i ds hq
  split at hm
  ·rename_i c hc
   cases hm;obtain ⟨p,xs,rfl,rr,sq⟩:=Lm hs rb hq;cases ry
   rcases sq with sq | sq
   ·obtain ⟨its,rv,pl,_⟩:=I.list sq
    obtain ⟨e,he,rfl⟩:=MM I (A:=X.A.in1) (by rw [GY];lia) ra rx rr rv hc;exact in_listAt e pl.isList (λz hz=>he z (by simpa using hz)) ⟨.bl (its.toArray.any e),H,I,rfl,by rw [Jh];exact k ρ H _ .refl hs (.bl _)⟩
   ·obtain ⟨its,rv,pl,_⟩:=I.tuple sq
    obtain ⟨e,he,rfl⟩:=MM I (A:=X.A.in1) (by rw [GY];lia) ra rx rr rv hc;exact in_tupleAt e pl (λz hz=>he z (by simpa using hz)) ⟨.bl (its.toArray.any e),H,I,rfl,by rw [Jh];exact k ρ H _ .refl hs (.bl _)⟩
  ·cases hm
 ·cases hm
theorem Y6 (hu:X.A.units+64 < Ed):OpR X (Bd .NotIn) (rD X.K (inD true)):=by
 intro pins s σ H x y v u Q I rx ry h;obtain ⟨ρ,S,a,b,d,S',hs,ra,rb,hm,k⟩:=h;unfold inD at hm;split at hm
 ·rename_i ds hq
  split at hm
  ·rename_i c hc
   cases hm;obtain ⟨p,xs,rfl,rr,sq⟩:=Lm hs rb hq;cases ry
   rcases sq with sq | sq
   ·obtain ⟨its,rv,pl,_⟩:=I.list sq
    obtain ⟨e,he,rfl⟩:=MM I (A:=X.A.in1) (by rw [GY];lia) ra rx rr rv hc;exact notIn_listAt e pl.isList (λz hz=>he z (by simpa using hz)) ⟨.bl (!its.toArray.any e),H,I,rfl,by rw [Jh];exact k ρ H _ .refl hs (.bl _)⟩
   ·obtain ⟨its,rv,pl,_⟩:=I.tuple sq
    obtain ⟨e,he,rfl⟩:=MM I (A:=X.A.in1) (by rw [GY];lia) ra rx rr rv hc;exact notIn_tupleAt e pl (λz hz=>he z (by simpa using hz)) ⟨.bl (!its.toArray.any e),H,I,rfl,by rw [Jh];exact k ρ H _ .refl hs (.bl _)⟩
  ·cases hm
 ·cases hm
end
end L2
namespace L2
open PySem PySem.Spec PyProof.Rows
def FY (mo ma:ME):ME:=λe S=>(mo e S).bind λd S1=>match d with
 | .ref n=>match S1[n]? with
  | some (.lst _)=>(ma e S1).bind λy S2=>match S2[n]? with
   | some (.lst xs)=>if xs.length < sizeLine then .ok .non (S2.set n (.lst (xs++[y]))) else .bad
   | _=>.bad
  | _=>.bad
 | _=>.bad
section
variable {X:Cx} {E:EW} {o e:Expr} {apos cpos:Pos} {mo ma:ME}
theorem VW {K:AA} {ρ:List AK} {S:Sto} {H:Hp} {n:Nat} {x:V} {xs:List D} (s:B4 K ρ S H) (r:Bs K ρ H (.ref n) x) (h:S[n]?=some (.lst xs)):∃a vs,x=.ref a/\ρ[n]?=some a/\H a=some (.lst vs)/\Au K ρ H xs vs:=by
 cases r with
 | ref hn=>
  obtain ⟨vs,e,rr⟩:=s.ob n _ _ h hn;exact ⟨_,vs,rfl,hn,e,rr⟩
theorem Dt (ho:GE X E o mo) (ha:GE X E e ma) (hbase:CV o "append" X.env (Br o X.env)=Br o X.env:=by rfl)
  (hfew:((DQ cpos (AS [e] X.env)).all (λx=>!x.1)&&(Tl cpos (MZ [] X.env)).all (λx=>x.1.isSome)
    &&decide ([e].length+([]:List Io).length+(if ([]:List Io).isEmpty then 0 else 1) < 30))=true:=by rfl)
  (hline:(apos.endLine==cpos.line)=true:=by rfl) (hs:AS [e] X.env=(false,Br e X.env) :: AS [] X.env:=by rfl) (hplain:(DQ cpos (AS [] X.env)).any (·.1)=false:=by rfl) :
  GE X E (.Call (.Attribute o "append" apos) [e] [] cpos) (FY mo ma):=(Y0 Dk PySem.F.slot_list_append PySem.F.type_list_append QK ho (E2 ha HC hs) hbase hfew hline hs hplain).imp λσ H Q ⟨ρ,l,S,hl,hs,hm⟩=>by
 refine ⟨ρ,l,S,hl,hs,hm.seq λx S1 hm ρ1 H1 v l1 s1 r1=>?_⟩
 cases x <;> first | exact hm.elim | skip
 rename_i n;dsimp only at hm;split at hm
 ·rename_i xs0 h0
  obtain ⟨a,vs,rfl,hn,e0,_⟩:=VW s1 r1 h0;refine ⟨.inl ⟨rfl,vs,.inl (.inl e0)⟩,ρ1,l,S1,hl.mono l1,s1,(hm.later l1).seq λy S2 hm ρ2 H2 u l2 s2 r2=>?_⟩;split at hm
  ·rename_i xs h3
   split at hm
   ·rename_i hz
    have hn2:=l2.pre n a hn;obtain ⟨ws,e3,rr⟩:=s2.ob n _ _ h3 hn2;have le:Le X.K ρ2 H2 ρ2 (upd H2 a (.lst (ws++[u]))):=Le.write hn2 (by rw [e3];trivial);obtain ⟨s3,l3⟩:=s2.write (ho:=.lst (ws++[u])) (o:=.lst (xs++[y])) hn2 ⟨_,Bg,(rr.append (.cons r2 .nil)).mono le⟩ le;exact ⟨a,ws,u,rfl,rfl,e3,by rw [<-rr.length];exact hz,hm ρ2 _ _ (l1.trans (l2.trans l3)) s3 .non⟩
   ·exact hm.elim
  ·exact hm.elim
 ·exact hm.elim
end
def Av {κ β:Type} [DecidableEq κ] (kvs:List (κ×β)) (k:κ):Option β:=(kvs.find? λkv=>decide (kv.1=k)).map (·.2)
def B3 {κ β:Type} [DecidableEq κ] (kvs:List (κ×β)) (k:κ) (v:β):List (κ×β):=
 if (kvs.any λkv=>decide (kv.1=k))=true then kvs.map (λkv=>if kv.1=k then (kv.1,v) else kv) else kvs++[(k,v)]
section
variable {κ:Type} [DecidableEq κ] {K:AA} {ρ:List AK} {H:Hp}
theorem KVR.val (k:κ):∀ {x:List (κ×D)} {y:List (κ×V)},KVR K ρ H x y->(Av x k=none->JJ y k=none)/\∀d,Av x k=some d->∃v,JJ y k=some v/\Bs K ρ H d v
 | _,_,.nil=>⟨λ_=>rfl,λd h=>by cases h⟩
 | (g,a) :: x,(g',b) :: y,.cons r t=>by
  obtain ⟨r1,r2⟩:=r;dsimp only at r1 r2;subst r1;unfold Av JJ;rw [BP,BP]
  by_cases e:g=k
  ·simp only [e,decide_true]
   exact ⟨(λh=>nomatch h),(λd h=>by cases h;exact ⟨b,rfl,r2⟩)⟩
  ·simp only [e,decide_false]
   exact KVR.val k t
theorem KVR.any (k:κ):∀ {x:List (κ×D)} {y:List (κ×V)},KVR K ρ H x y->(x.any λkv=>decide (kv.1=k))=y.any λkv=>decide (kv.1=k)
 | _,_,.nil=>rfl
 | (g,a) :: x,(g',b) :: y,.cons r t=>by
  rw [G9,G9,KVR.any k t,show g=g' from r.1]
theorem KVR.repl (k:κ) {d:D} {v:V} (rd:Bs K ρ H d v):∀ {x:List (κ×D)} {y:List (κ×V)},KVR K ρ H x y->KVR K ρ H (x.map λkv=>if kv.1=k then (kv.1,d) else kv) (y.map λkv=>if kv.1=k then (kv.1,v) else kv)
 | _,_,.nil=>.nil
 | (g,a) :: x,(g',b) :: y,.cons r t=>by
  obtain ⟨r1,r2⟩:=r;dsimp only at r1 r2;subst r1;rw [Az,Az];refine .cons ?_ (KVR.repl k rd t)
  by_cases e:g=k
  ·rw [qX e,qX e];exact ⟨rfl,rd⟩
  ·rw [qY e,qY e];exact ⟨rfl,r2⟩
theorem KVR.put (k:κ) {d:D} {v:V} (rd:Bs K ρ H d v) {x:List (κ×D)} {y:List (κ×V)} (h:KVR K ρ H x y):KVR K ρ H (B3 x k d) (HB y k v):=by
 unfold B3 HB;rw [KVR.any k h];split
 ·exact KVR.repl k rd h
 ·exact Ta h ⟨rfl,rd⟩
end
def XE:D->Option Key
 | .int i=>some (.inl i)
 | .str x=>some (.inr x)
 | _=>none
def QM:List D->Option (List Key)
 | []=>some []
 | d :: ds=>match XE d,QM ds with
  | some k,some ks=>some (k :: ks)
  | _,_=>none
theorem MA {K:AA} {ρ:List AK} {H:Hp} {d:D} {v:V} {k:Key} (r:Bs K ρ H d v) (h:XE d=some k):v=kV k:=by
 cases r <;> first | (cases h;done) | (cases h;rfl)
theorem L8 {K:AA} {ρ:List AK} {H:Hp}:∀ {ds:List D} {vs:List V} {ks:List Key},Au K ρ H ds vs->QM ds=some ks->vs=ks.map kV
 | _,_,_,.nil,h=>by cases h;rfl
 | _,_,_,.cons r t,h=>by
  unfold QM at h;split at h
  ·rename_i k ks h1 h2
   cases h;rw [MA r h1,L8 t h2];rfl
  ·cases h
def Ke (x y:D) (S:Sto):Option (Option D):=match x with
 | .ref n=>match S[n]? with
  | some (.dK kvs)=>match XE y with
   | some k=>some (Av kvs k)
   | none=>none
  | some (.dT kvs)=>match y with
   | .tup ds=>match QM ds with
    | some ks=>some (Av kvs ks)
    | none=>none
   | _=>none
  | some (.fK kvs)=>match XE y with
   | some k=>some (Av kvs k)
   | none=>none
  | some (.fT kvs)=>match y with
   | .tup ds=>match QM ds with
    | some ks=>some (Av kvs ks)
    | none=>none
   | _=>none
  | _=>none
 | _=>none
theorem RW {K:AA} {ρ:List AK} {S:Sto} {H:Hp} {x y:D} {xv yv:V} {o:Option D} (s:B4 K ρ S H) (rx:Bs K ρ H x xv) (ry:Bs K ρ H y yv) (h:Ke x y S=some o) :
  ∃a o',xv=.ref a/\MQ H a yv o'/\(o=none->o'=none)/\∀d,o=some d->∃v,o'=some v/\Bs K ρ H d v:=by
 unfold Ke at h;split at h
 ·rename_i n
  cases rx with
  | @ref _ a hn=>
   split at h
   ·rename_i kvs h1
    split at h
    ·rename_i k hk
     cases h;obtain ⟨kvs',e,r⟩:=s.ob n _ _ h1 hn;rw [MA ry hk];obtain ⟨v1,v2⟩:=KVR.val k r;exact ⟨a,JJ kvs' k,rfl,MQ.k e,v1,v2⟩
    ·cases h
   ·rename_i kvs h1
    split at h
    ·rename_i ds
     split at h
     ·rename_i ks hk
      cases h;obtain ⟨kvs',e,r⟩:=s.ob n _ _ h1 hn
      cases ry with
      | tup b1 b2=>
       obtain ⟨v1,v2⟩:=KVR.val ks r;rw [L8 b2 hk] at b1;exact ⟨a,JJ kvs' ks,rfl,MQ.t e b1,v1,v2⟩
     ·cases h
    ·cases h
   ·rename_i kvs h1
    split at h
    ·rename_i k hk
     cases h;obtain ⟨ob,kvs',e,r⟩:=s.ob n _ _ h1 hn;rw [MA ry hk];obtain ⟨v1,v2⟩:=KVR.val k r;exact ⟨a,JJ kvs' k,rfl,(.inl ⟨_,_,.inr ⟨ob,e⟩,rfl,rfl⟩),v1,v2⟩
    ·cases h
   ·rename_i kvs h1
    split at h
    ·rename_i ds
     split at h
     ·rename_i ks hk
      cases h;obtain ⟨ob,kvs',e,r⟩:=s.ob n _ _ h1 hn
      cases ry with
      | tup b1 b2=>
       obtain ⟨v1,v2⟩:=KVR.val ks r;rw [L8 b2 hk] at b1;exact ⟨a,JJ kvs' ks,rfl,(.inr ⟨_,_,_,.inr ⟨ob,e⟩,rfl,b1,rfl⟩),v1,v2⟩
     ·cases h
    ·cases h
   ·cases h
 ·cases h
def Kt (x y:D) (S:Sto):Res D:=match Ke x y S with
 | some (some d)=>.ok d S
 | _=>.bad
def Jb (neg:Bool) (y x:D) (S:Sto):Res D:=match Ke x y S with
 | some o=>.ok (.bl (if neg then !o.isSome else o.isSome)) S
 | none=>.bad
section
variable {X:Cx} {E:EW} {o i value:Expr} {pos pos':Pos} {mo mi mv:ME}
theorem dE (hu:X.A.units+1 < Ed) (ho:GE X E o mo) (hi:GE X E i mi) (hs:iz i:=by intro _ _;rfl):GE X E (.Subscript o i pos) (m2 Kt mo mi):=(cG hu ho hi hs).imp λσ H Q h=>by
 refine (Ky h:tOp (rD X.K Kt) (gE X.K E mo) (gE X.K E mi) σ H Q) |> λt=>?_
 obtain ⟨ρ,l,S,hl,hs,k⟩:=t;refine ⟨ρ,l,S,hl,hs,k.imp λx S1 k ρ1 H1 u l1 s1 r1=>?_⟩;obtain ⟨ρ2,l2,S2,hl2,hs2,k2⟩:=k ρ1 H1 u l1 s1 r1;refine ⟨ρ2,l2,S2,hl2,hs2,k2.imp λy S3 k2 ρ3 H3 v l3 s3 r3=>?_⟩;obtain ⟨ρ4,S4,x4,y4,d,S5,s4,r4,r5,hm,k4⟩:=k2 ρ3 H3 v l3 s3 r3;unfold Kt at hm;split at hm
 ·rename_i d' hd
  cases hm;obtain ⟨a,o',rfl,g,_,g2⟩:=RW s4 r4 r5 hd;obtain ⟨w',rfl,rw'⟩:=g2 _ rfl;exact ⟨a,w',rfl,g,k4 ρ4 H3 w' .refl s4 rw'⟩
 ·cases hm
theorem VQ {σ:St} {H:Hp} {Q:VK} (h:gE X.K E (m2 (Jb false) mi mo) σ H Q):jh (gE X.K E mi) (gE X.K E mo) σ H Q:=by
 obtain ⟨ρ,l,S,hl,hs,k⟩:=(Ky h:tOp (rD X.K (Jb false)) (gE X.K E mi) (gE X.K E mo) σ H Q);refine ⟨ρ,l,S,hl,hs,k.imp λx S1 k ρ1 H1 u l1 s1 r1=>?_⟩;obtain ⟨ρ2,l2,S2,hl2,hs2,k2⟩:=k ρ1 H1 u l1 s1 r1;refine ⟨ρ2,l2,S2,hl2,hs2,k2.imp λy S3 k2 ρ3 H3 v l3 s3 r3=>?_⟩;obtain ⟨ρ4,S4,x4,y4,d,S5,s4,r4,r5,hm,k4⟩:=k2 ρ3 H3 v l3 s3 r3;unfold Jb at hm;split at hm
 ·rename_i o' hd
  cases hm;obtain ⟨a,o2,rfl,g,g1,g2⟩:=RW s4 r5 r4 hd;refine ⟨a,o2,rfl,g,?_⟩
  have:o2.isSome=o'.isSome:=by
   cases o' with
   | none=>rw [g1 rfl];rfl
   | some d=>obtain ⟨w',rfl,_⟩:=g2 d rfl;rfl
  rw [this];exact k4 ρ4 H3 _ .refl s4 (.bl _)
 ·cases hm
theorem T8 {σ:St} {H:Hp} {Q:VK} (h:gE X.K E (m2 (Jb true) mi mo) σ H Q):VP (gE X.K E mi) (gE X.K E mo) σ H Q:=by
 obtain ⟨ρ,l,S,hl,hs,k⟩:=(Ky h:tOp (rD X.K (Jb true)) (gE X.K E mi) (gE X.K E mo) σ H Q);refine ⟨ρ,l,S,hl,hs,k.imp λx S1 k ρ1 H1 u l1 s1 r1=>?_⟩;obtain ⟨ρ2,l2,S2,hl2,hs2,k2⟩:=k ρ1 H1 u l1 s1 r1;refine ⟨ρ2,l2,S2,hl2,hs2,k2.imp λy S3 k2 ρ3 H3 v l3 s3 r3=>?_⟩;obtain ⟨ρ4,S4,x4,y4,d,S5,s4,r4,r5,hm,k4⟩:=k2 ρ3 H3 v l3 s3 r3;unfold Jb at hm;split at hm
 ·rename_i o' hd
  cases hm;obtain ⟨a,o2,rfl,g,g1,g2⟩:=RW s4 r5 r4 hd;refine ⟨a,o2,rfl,g,?_⟩
  have:o2.isSome=o'.isSome:=by
   cases o' with
   | none=>rw [g1 rfl];rfl
   | some d=>obtain ⟨w',rfl,_⟩:=g2 d rfl;rfl
  rw [this];exact k4 ρ4 H3 _ .refl s4 (.bl _)
 ·cases hm
theorem iW (hu:X.A.units+1 < Ed) (hi:GE X E i mi) (ho:GE X E o mo) (h1:CG .In o=false:=by rfl):GE X E (.Compare i [.In] [o] pos) (m2 (Jb false) mi mo):=(ge (Y1 hu hi ho) h1).imp λ_ _ _ h=>VQ h
theorem ZN {K:AA} {m:ME} {σ:St} {H:Hp} {Q:Bool->Hp->Prop} (h:gT K E (mB m) σ H Q):gE K E m σ H λx H1=>∃c,x=.bl c/\Q c H1:=by
 obtain ⟨ρ,l,S,hl,hs,hm⟩:=h;refine ⟨ρ,l,S,hl,hs,hm.seq λd S1 hm ρ1 H1 x l1 s1 r1=>?_⟩
 cases d <;> first | exact hm.elim | skip
 cases r1;exact ⟨_,rfl,hm ρ1 H1 l1 s1⟩
theorem iN (hu:X.A.units+1 < Ed) (hi:GE X E i mi) (ho:GE X E o mo) (h1:CG .In o=false:=by rfl):GT X E (.Compare i [.In] [o] pos) (mB (m2 (Jb false) mi mo)):=(Ym (Y1 hu hi ho) h1).imp λ_ _ _ h=>VQ (ZN h)
theorem XR (hu:X.A.units+1 < Ed) (hi:GE X E i mi) (ho:GE X E o mo) (h1:CG .NotIn o=false:=by rfl):GT X E (.Compare i [.NotIn] [o] pos) (mB (m2 (Jb true) mi mo)):=(Ym (W5 hu hi ho) h1).imp λ_ _ _ h=>T8 (ZN h)
def Hj:ME:=λ_ S=>.ok (.ref S.length) (S++[.dK []])
def ZM:ME:=λ_ S=>.ok (.ref S.length) (S++[.dT []])
theorem KG:GE X E (.Dict [] [] pos) Hj:=(Yx (X:=X) (pos:=pos)).imp λσ H Q ⟨ρ,l,S,hl,hs,k⟩ p hp=>by
 obtain ⟨s2,l2,at2⟩:=hs.alloc (ho:=.dK []) (o:=.dK []) hp ⟨[],Bg,.nil⟩;exact k _ _ _ l2 s2 (.ref at2)
theorem Zk:GE X E (.Dict [] [] pos) ZM:=(Yw (X:=X) (pos:=pos)).imp λσ H Q ⟨ρ,l,S,hl,hs,k⟩ p hp=>by
 obtain ⟨s2,l2,at2⟩:=hs.alloc (ho:=.dT []) (o:=.dT []) hp ⟨[],Bg,.nil⟩;exact k _ _ _ l2 s2 (.ref at2)
def Py (x y v:D) (S:Sto):Option Sto:=match x with
 | .ref n=>match S[n]? with
  | some (.dK kvs)=>match XE y with
   | some k=>if kvs.length < sizeLine then some (S.set n (.dK (B3 kvs k v))) else none
   | none=>none
  | some (.dT kvs)=>match y with
   | .tup ds=>match QM ds with
    | some ks=>if kvs.length < sizeLine then some (S.set n (.dT (B3 kvs ks v))) else none
    | none=>none
   | _=>none
  | _=>none
 | _=>none
def DH (mo mi mv:ME):MS:=λe S=>(mv e S).lift e λv S1=>(mo e S1).lift e λx S2=>(mi e S2).lift e λy S3=>match Py x y v S3 with
 | some S4=>.ok (.nx e) S4
 | none=>.bad
theorem KW (hu:X.A.units+1 < Ed) (ho:GE X E o mo) (hi:GE X E i mi) (hv:GE X E value mv) (hs:Fh value (some (.Subscript o i pos')) pos.line X.env=pure false:=by rfl):GS X E (.Assign [.Subscript o i pos'] value pos) (DH mo mi mv):=(bo hu ho hi hv hs).imp λD σ H ⟨ρ,l,S,hl,hs,hm⟩=>by
 refine ⟨ρ,l,S,hl,hs,hm.lift hl .refl λv S1 hm ρ1 H1 vv l1 s1 r1=>⟨ρ1,l,S1,hl.mono l1,s1,(hm.later l1).lift (hl.mono l1) l1 λx S2 hm ρ2 H2 xv l2 s2 r2=>⟨ρ2,l,S2,hl.mono (l1.trans l2),s2,(hm.later l2).lift (hl.mono (l1.trans l2)) (l1.trans l2) λy S3 hm ρ3 H3 yv l3 s3 r3=>?_⟩⟩⟩;have r1':=r1.mono (l2.trans l3);have r2':=r2.mono l3;have hl3:=hl.mono (l1.trans (l2.trans l3));split at hm
 ·rename_i S4 hp
  unfold Py at hp;split at hp
  ·rename_i n
   cases r2' with
   | @ref _ a hn=>
    split at hp
    ·rename_i kvs h4
     split at hp
     ·rename_i ky hk
      split at hp
      ·rename_i hz
       cases hp;obtain ⟨kvs',e,r⟩:=s3.ob n _ _ h4 hn;rw [MA r3 hk];have le:Le X.K ρ3 H3 ρ3 (upd H3 a (.dK (HB kvs' ky vv))):=Le.write hn (by rw [e];trivial);obtain ⟨s5,l5⟩:=s3.write (ho:=.dK (HB kvs' ky vv)) (o:=.dK (B3 kvs ky v)) hn ⟨_,Bg,(KVR.put ky r1' r).mono le⟩ le;exact ⟨a,_,rfl,TY.k e (by rw [<-KVR.length r];exact hz),hm ρ3 _ σ (l1.trans (l2.trans (l3.trans l5))) s5 (hl3.mono l5)⟩
      ·cases hp
     ·cases hp
    ·rename_i kvs h4
     split at hp
     ·rename_i ds
      split at hp
      ·rename_i ks hk
       split at hp
       ·rename_i hz
        cases hp;obtain ⟨kvs',e,r⟩:=s3.ob n _ _ h4 hn
        cases r3 with
        | tup b1 b2=>
         rw [L8 b2 hk] at b1;have le:Le X.K ρ3 H3 ρ3 (upd H3 a (.dT (HB kvs' ks vv))):=Le.write hn (by rw [e];trivial);obtain ⟨s5,l5⟩:=s3.write (ho:=.dT (HB kvs' ks vv)) (o:=.dT (B3 kvs ks v)) hn ⟨_,Bg,(KVR.put ks r1' r).mono le⟩ le;exact ⟨a,_,rfl,TY.t e b1 (by rw [<-KVR.length r];exact hz),hm ρ3 _ σ (l1.trans (l2.trans (l3.trans l5))) s5 (hl3.mono l5)⟩
       ·cases hp
      ·cases hp
     ·cases hp
    ·cases hp
  ·cases hp
 ·exact hm.elim
end
section
variable {X:Cx} {E:EW} {a b c:Expr} {pos:Pos} {ma mb mc:ME}
theorem QD {K:AA} {f g:D->D->Sto->Res D} {σ:St} {H:Hp} {Q:VK} (h:gE K E (m3 f g ma mb mc) σ H Q):T9 (rD K f) (rD K g) (gE K E ma) (gE K E mb) (gE K E mc) σ H Q:=by
 obtain ⟨ρ,l,S,hl,hs,hm⟩:=h;refine ⟨ρ,l,S,hl,hs,hm.seq λx S1 hm ρ1 H1 u l1 s1 r1=>⟨ρ1,l,S1,hl.mono l1,s1,(hm.later l1).seq λy S2 hm ρ2 H2 v l2 s2 r2=>?_⟩⟩
 cases hf:f x y S2 with
 | bad=>rw [hf] at hm;exact hm.elim
 | err _ _=>rw [hf] at hm;exact hm.elim
 | ok z S3=>
  rw [hf] at hm;dsimp only [okR,Res.bind] at hm;refine ⟨ρ2,S2,x,y,z,S3,s2,r1.mono l2,r2,hf,λρ3 H3 w l3 s3 r3=>?_⟩
  cases z with
  | bl k=>
   cases r3;refine ⟨k,rfl,?_⟩
   cases k with
   | true=>
    rw [qX rfl];refine ⟨ρ3,l,S3,hl.mono (l1.trans (l2.trans l3)),s3,B7.seq (hm.later (l2.trans l3)) λw S4 hm ρ4 H4 wv l4 s4 r4=>?_⟩;obtain ⟨d,S',e,k⟩:=hm.okR;exact ⟨ρ4,S4,y,w,d,S',s4,r2.mono (l3.trans l4),r4,e,λρ' H' z l' s' r'=>k ρ' H' z (l1.trans (l2.trans (l3.trans (l4.trans l')))) s' r'⟩
   | false=>rw [qY AX];exact hm ρ3 H3 _ (l1.trans (l2.trans l3)) s3 (.bl false)
  | _=>exact hm.elim
theorem Zm {op op':Nt} {f g:D->D->Sto->Res D} (ho:OpR X (Bd op) (rD X.K f)) (ho':OpR X (Bd op') (rD X.K g)) (ha:GE X E a ma) (hb:GE X E b mb) (hc:GE X E c mc)
  (hm:Xn [op,op'] [b,c]=false:=by with_unfolding_all rfl):GE X E (.Compare a [op,op'] [b,c] pos) (m3 f g ma mb mc):=(Yy ho ho' ha hb hc hm).imp λ_ _ _ h=>QD h
theorem TB {op op':Nt} {f g:D->D->Sto->Res D} (ho:OpR X (Bd op) (rD X.K f)) (ho':OpR X (Bd op') (rD X.K g)) (ha:GE X E a ma) (hb:GE X E b mb) (hc:GE X E c mc)
  (hm:Xn [op,op'] [b,c]=false:=by with_unfolding_all rfl):GT X E (.Compare a [op,op'] [b,c] pos) (mB (m3 f g ma mb mc)):=(Yn ho ho' ha hb hc hm).imp λ_ _ _ h=>QD (ZN h)
def mNeg (m:ME):ME:=λe S=>(m e S).bind λd S1=>match d with
 | .int i=>.ok (.int (-i)) S1
 | _=>.bad
end
abbrev MO:=Lo->Sto->Res (Option Int)
def gO (K:AA) (E:EW) (m:MO):TO:=λσ H Q=>∃ρ e S,FQ K ρ H e σ/\B4 K ρ S H/\B7 K (λc=>E c σ) ρ H (m e S) λo S'=>∀ρ' H',Le K ρ H ρ' H'->B4 K ρ' S' H'->Q o H'
abbrev GO (X:Cx) (E:EW) (e:Option Expr) (m:MO):Prop:=PO X e (gO X.K E m)
def Va:MO:=λ_ S=>.ok none S
def On (m:ME):MO:=λe S=>(m e S).bind λd S1=>match d with
 | .int i=>.ok (some i) S1
 | _=>.bad
section
variable {X:Cx} {E:EW} {e:Expr} {lo hi:Option Expr} {pos p2:Pos} {m:ME} {ml mh:MO}
theorem PO.imp {o:Option Expr} {t t':TO} (h:PO X o t) (i:∀σ H Q,t' σ H Q->t σ H Q):PO X o t':=λpins s σ H Q I q=>h pins s σ H Q I (i σ H Q q)
theorem c7:GO X E none Va:=PO.imp bv λσ H Q ⟨ρ,l,S,hl,hs,hm⟩=>hm ρ H .refl hs
theorem Vj (h:GE X E e m):GO X E (some e) (On m):=PO.imp (bu h) λσ H Q ⟨ρ,l,S,hl,hs,hm⟩=>by
 refine ⟨ρ,l,S,hl,hs,hm.seq λd S1 hm ρ1 H1 x l1 s1 r1=>?_⟩
 cases d <;> first | exact hm.elim | skip
 cases r1;exact ⟨_,rfl,hm ρ1 H1 l1 s1⟩
end
section
variable {X:Cx} {E:EW} {e:Expr} {p pos:Pos} {m:ME} {ml:ML}
def FX (m:ME):ME:=λe S=>(m e S).bind λd S1=>match Eu d S1 with
 | some ds=>.ok (.tup ds) S1
 | none=>.bad
theorem Hm (hg:Gl X "tuple") (hm:X.mg "tuple" = none) (h:GE X E e m) (he:AS [e] X.env=(false,Br e X.env) :: AS [] X.env:=by rfl):GE X E (.Call (.Name "tuple" p) [e] [] pos) (FX m):=
 (QH Pz hg hm Hx (E2 h HC he) (by decide) (by decide) he rfl).imp λσ H Q ⟨ρ,l,S,hl,hs,hm⟩=>by
 refine ⟨ρ,l,S,hl,hs,hm.seq λd S1 hm ρ1 H1 x l1 s1 r1=>?_⟩
 cases hq:Eu d S1 with
 | none=>rw [hq] at hm;exact hm.elim
 | some ds=>
  rw [hq] at hm
  have newL:∀a vs,x=.ref a->SqL X.K H1 a vs->Au X.K ρ1 H1 ds vs->∃p ys,[x]=[.ref p]/\((SqL X.K H1 p ys/\∀l,H1 l=none->Q (.ref l) (upd H1 l (.tup ys)))∨(SqT X.K H1 p ys/\Q (.ref p) H1)):=λa vs e sq rr=>by
   subst e;refine ⟨a,vs,rfl,.inl ⟨sq,λq hq=>?_⟩⟩;obtain ⟨s2,l2⟩:=II (ho:=.tup vs) s1 hq;exact hm _ _ _ (l1.trans l2) s2 (.tup Bg (rr.mono l2))
  cases r1 with
  | @tup _ a vs h1 h2=>cases hq;exact ⟨a,vs,rfl,.inr ⟨.inl (.inl h1),hm ρ1 H1 _ l1 s1 (.tup h1 h2)⟩⟩
  | @fro _ a vs h1 h2=>cases hq;exact newL a vs rfl h1.sq h2
  | @ref n a hn=>
   obtain ⟨o,ho,ro⟩:=s1.there hn;unfold Eu at hq;simp only [ho] at hq
   cases o with
   | lst es=>cases hq;obtain ⟨vs,e,rr⟩:=ro;exact newL a vs rfl (.inl (.inl e)) rr
   | _=>cases hq
  | _=>cases hq
variable {o:Expr} {apos cpos:Pos} {mo ma:ME}
def atL (d:D) (S:Sto):Option (Nat×List D):=match d with
 | .ref n=>match S[n]? with
  | some (.lst xs)=>some (n,xs)
  | _=>none
 | _=>none
theorem LL {K:AA} {ρ:List AK} {S:Sto} {H:Hp} {d:D} {x:V} {n:Nat} {xs:List D} (s:B4 K ρ S H) (r:Bs K ρ H d x) (h:atL d S=some (n,xs)):d=.ref n/\S[n]?=some (.lst xs)/\∃a vs,x=.ref a/\ρ[n]?=some a/\H a=some (.lst vs)/\Au K ρ H xs vs:=by
 unfold atL at h;split at h
 ·split at h
  ·rename_i ds hd
   cases h;exact ⟨rfl,hd,VW s r hd⟩
  ·cases h
 ·cases h
theorem Ny {K:AA} {ρ:List AK} {S:Sto} {H:Hp} {n:Nat} {a:AK} {vs ws:List V} {ys:List D} (s:B4 K ρ S H) (hn:ρ[n]?=some a) (e:H a=some (.lst vs)) (r:Au K ρ H ys ws) :
  B4 K ρ (S.set n (.lst ys)) (upd H a (.lst ws))/\Le K ρ H ρ (upd H a (.lst ws)):=by
 have le:Le K ρ H ρ (upd H a (.lst ws)):=Le.write hn (by rw [e];trivial);exact s.write (ho:=.lst ws) (o:=.lst ys) hn ⟨_,Bg,r.mono le⟩ le
def ZI (mo:ME):ME:=λe S=>(mo e S).bind λd S1=>match atL d S1 with
 | some (n,xs)=>.ok .non (S1.set n (.lst xs.reverse))
 | none=>.bad
theorem UZ (ho:GE X E o mo) (hbase:CV o "reverse" X.env (Br o X.env)=Br o X.env:=by rfl) (hline:(apos.endLine==cpos.line)=true:=by rfl) :
  GE X E (.Call (.Attribute o "reverse" apos) [] [] cpos) (ZI mo):=(Yz Dk PySem.F.slot_list_reverse PySem.F.type_list_reverse UN ho hbase hline).imp λσ H Q ⟨ρ,l,S,hl,hs,hm⟩=>by
 refine ⟨ρ,l,S,hl,hs,hm.seq λd S1 hm ρ1 H1 v l1 s1 r1=>?_⟩
 cases hq:atL d S1 with
 | none=>rw [hq] at hm;exact hm.elim
 | some z=>
  obtain ⟨n,xs⟩:=z;rw [hq] at hm;obtain ⟨rfl,h0,a,vs,rfl,hn,e,rr⟩:=LL s1 r1 hq;obtain ⟨s2,l2⟩:=Ny s1 hn e rr.reverse;exact ⟨.inl ⟨rfl,vs,.inl (.inl e)⟩,a,vs,rfl,rfl,e,hm ρ1 _ _ (l1.trans l2) s2 .non⟩
def ZJ (mo:ME):ME:=λe S=>(mo e S).bind λd S1=>match atL d S1 with
 | some (n,xs)=>match xs[xs.length - 1]? with
  | some y=>.ok y (S1.set n (.lst xs.dropLast))
  | none=>.bad
 | none=>.bad
theorem Au.dropLast {K:AA} {ρ:List AK} {H:Hp} {ds:List D} {vs:List V} (r:Au K ρ H ds vs):Au K ρ H ds.dropLast vs.dropLast:=by
 rw [Tt,Tt,r.length];exact r.take _
theorem iU (ho:GE X E o mo) (hbase:CV o "pop" X.env (Br o X.env)=Br o X.env:=by rfl) (hline:(apos.endLine==cpos.line)=true:=by rfl) :
  GE X E (.Call (.Attribute o "pop" apos) [] [] cpos) (ZJ mo):=(Yz Dk PySem.F.slot_list_pop PySem.F.type_list_pop hV ho hbase hline).imp λσ H Q ⟨ρ,l,S,hl,hs,hm⟩=>by
 refine ⟨ρ,l,S,hl,hs,hm.seq λd S1 hm ρ1 H1 v l1 s1 r1=>?_⟩
 cases hq:atL d S1 with
 | none=>rw [hq] at hm;exact hm.elim
 | some z=>
  obtain ⟨n,xs⟩:=z;rw [hq] at hm;dsimp only at hm;obtain ⟨rfl,h0,a,vs,rfl,hn,e,rr⟩:=LL s1 r1 hq;split at hm
  ·rename_i y hy
   obtain ⟨s2,l2⟩:=Ny s1 hn e rr.dropLast;obtain ⟨w,hw,rw'⟩:=rr.get hy;exact ⟨.inl ⟨rfl,vs,.inl (.inl e)⟩,a,vs,w,rfl,rfl,e,by rw [<-rr.length];exact hw,hm ρ1 _ _ (l1.trans l2) s2 (rw'.mono l2)⟩
  ·exact hm.elim
end
section
variable {X:Cx} {E:EW}
theorem range_getD {α:Type} (d:α) (bs:List α):(BN bs.length).map (λi=>bs.getD i d)=bs:=by
 apply Cz
 intro i;rw [AO]
 by_cases h:i < bs.length
 ·rw [Bh h]
  simp [List.getD,h]
 ·rw [Bj.mpr (by simpa using h),Bj.mpr (by simpa using h)]
  rfl
theorem bJ {bs:List Bool} {its:List AC} (r:Bi (bs.map V.bl) its) {i:Nat} {v:AC} (h:its.toArray[i]?=some v):v=.bool (bs.getD i false):=by
 have h':its[i]?=some v:=by simpa using h
 obtain ⟨hi,e⟩:=AD.mp h'
 have hb:i < bs.length:=by have:=r.length;simp at this;lia
 obtain ⟨u,hu,ru⟩:=r.get (show (bs.map V.bl)[i]?=some (V.bl bs[i]) by simp [hb]);rw [h'] at hu;cases hu;rw [show v=LY bs[i] from ru];simp [List.getD,hb]
def Yj (K:AA) (f:List Bool->Bool):List V->Hp->VK->Prop:=λxs H Q=>∃p bs,xs=[.ref p]/\(SqL K H p (bs.map V.bl)∨SqT K H p (bs.map V.bl))/\Q (.bl (f bs)) H
theorem Ul {pins:List (AK×Obj)} {s:AG} {σ:St} {H:Hp} {p:AK} {bs:List Bool} {R:AC->AG->Prop} {E:AC->AG->Prop} (hc:X.calm=true) (I:Inv X pins σ H s) (hq:SqL X.K H p (bs.map V.bl)∨SqT X.K H p (bs.map V.bl))
  (h:∀itv s2,(∃I fp wr n P St tr,itv=A7 I/\Walks X.prog X.w X.A.in1 I fp wr n P St/\St 0 s2.heap/\TruthOf X.prog X.w X.A.in1 P tr/\(BN n).map tr=bs /\
   ∀(h':Bw) (tk:Nat),(∀b o,¬b∈wr->s2.heap.get? b=some o->h'.get? b=some o)->Inv X pins σ H { s2 with heap:=h',toks:=tk })->R itv s2) :
  Aq (Ac X.prog X.w) X.A.in1 (Th (.ref p)) R E s:=by
 have hh:X.A.in1.handled=none:=I.ok.hd hc
 have fin:∀(its:List AC),Bi (bs.map V.bl) its->(BN its.toArray.size).map (λi=>bs.getD i false)=bs:=λits r=>by
  have:its.toArray.size=bs.length:=by have:=r.length;simp at this;simpa using this.symm
  rw [this,range_getD]
 have tru:∀(its:List AC),Bi (bs.map V.bl) its->TruthOf X.prog X.w X.A.in1 (λi v=>its.toArray[i]?=some v) (λi=>bs.getD i false):=λits r i v s Q E hv q=>by
  rw [bJ r hv];exact CA q
 have kp:∀(ob:Obj) (h':Bw) (tk:Nat),(∀b o,¬b∈[s.heap.objs.size]->(s.heap.push ob).get? b=some o->h'.get? b=some o)->Inv X pins σ H { s with heap:=h',toks:=tk }:=λob h' tk k=>
  I.kept λb o e=>k b o (by simpa using Am (Ad e)) (AJ _ e)
 rcases hq with hq | hq
 ·obtain ⟨its,r',pl,hz⟩:=I.list hq
  refine i4 pl.isList (h _ _ ⟨s.heap.objs.size,_,_,_,_,_,_,rfl,Walks.list hh _ p (Am (Ad pl.isList.choose_spec.1)) its.toArray,⟨⟨_,Aj _ rfl,rfl,rfl⟩,?_⟩,tru its r',fin its r',kp _⟩)
  exact pl.isList.at λo e=>AJ _ e
 ·obtain ⟨its,r',pl,hz⟩:=I.tuple hq
  have pt:s.heap.IsTuple p its.toArray:=pl;refine Eh pt (h _ _ ⟨s.heap.objs.size,_,_,_,_,_,_,rfl,jC hh _ p (Am pl.lt) its.toArray,⟨⟨_,Aj _ rfl,rfl,rfl⟩,?_⟩,tru its r',fin its r',kp _⟩);obtain ⟨o,e,c⟩:=pt;exact ⟨o,AJ _ e,c⟩
theorem Xi (hc:X.calm=true):IN X (.builtin "all") (Yj X.K λbs=>bs.all id):=by
 intro pins s σ H xs us Q I r h;obtain ⟨p,bs,rfl,hq,q⟩:=h;obtain ⟨u,rfl,rx⟩:=vals1 r;cases rx;refine call_all_walk (Ul hc I hq λitv s2 ⟨J,fp,wr,n,P,St,tr,e,W,st,tru,eb,kp⟩=>⟨J,fp,wr,n,P,St,tr,e,W,st,tru,λh' tk k=>⟨.bl _,H,kp h' tk k,rfl,?_⟩⟩);rw [<-eb] at q;dsimp only at q;rw [Te] at q;exact q
def Um:List D->Option (List Bool)
 | []=>some []
 | .bl b :: ds=>(Um ds).map (b :: ·)
 | _ :: _=>none
theorem V1 {K:AA} {ρ:List AK} {H:Hp}:∀ {ds:List D} {vs:List V} {bs:List Bool},Au K ρ H ds vs->Um ds=some bs->vs=bs.map V.bl
 | _,_,_,.nil,h=>by cases h;rfl
 | .bl b :: ds,_,bs,.cons r t,h=>by
  unfold Um at h
  cases hq:Um ds with
  | none=>rw [hq] at h;cases h
  | some cs=>rw [hq] at h;cases h;cases r;rw [V1 t hq];rfl
 | .non :: _,_,_,.cons r t,h=>by cases h
 | .int _ :: _,_,_,.cons r t,h=>by cases h
 | .str _ :: _,_,_,.cons r t,h=>by cases h
 | .tup _ :: _,_,_,.cons r t,h=>by cases h
 | .fro _ :: _,_,_,.cons r t,h=>by cases h
 | .ref _ :: _,_,_,.cons r t,h=>by cases h
 | .exc _ :: _,_,_,.cons r t,h=>by cases h
def dc (f:List Bool->Bool) (ds:List D) (S:Sto):Res D:=match Um ds with
 | some bs=>.ok (.bl (f bs)) S
 | none=>.bad
theorem Yb {f:List Bool->Bool}:iw X.K (Yj X.K f) (dc f):=λρ H S ds q xs d S' Q hs rr sq hm k=>by
 unfold dc at hm;split at hm
 ·rename_i bs hb
  cases hm;rw [V1 rr hb] at sq;exact ⟨q,bs,rfl,sq,k ρ H _ .refl hs (.bl _)⟩
 ·cases hm
abbrev Xj:=dc λbs=>bs.all id
def bS:List Int->Int:=λns=>ef (λi=>ns.getD i 0) ns.length
theorem Ls {f g:Nat->Int}:∀(n:Nat),(∀i,i < n->f i=g i)->ef f n=ef g n
 | 0,_=>rfl
 | n+1,h=>by
  show ef f n+f n=ef g n+g n;rw [Ls n λi hi=>h i (by lia),h n (by lia)]
theorem Px {ns:List Int} {its:List AC} (r:Bi (ns.map V.int) its):∃xs:Array (Int×Tok),its.toArray=intItems xs/\xs.size=ns.length/\∀i,i < ns.length->numAt xs i=ns.getD i 0:=by
 induction ns generalizing its with
 | nil=>
  cases r;exact ⟨#[],by simp [intItems],rfl,λi hi=>zX hi (by simp)⟩
 | cons n ns ih=>
  cases r with
  | cons r1 r2=>
   obtain ⟨xs,e1,e2,e3⟩:=ih r2;obtain ⟨t,rfl⟩:=r1;refine ⟨#[(n,t)]++xs,?_,by simp [e2];lia,λi hi=>?_⟩
   ·unfold intItems at e1 ⊢
    rw [Array.map_append,<-e1];simp
   ·cases i with
    | zero=>
     unfold numAt;rw [Array.getElem?_append_left (by simp)];simp
    | succ i=>
     have:=e3 i (by simpa using hi);unfold numAt at this ⊢;rw [Array.getElem?_append_right (by simp)];simpa using this
def jq (K:AA) (f:List Int->Int):List V->Hp->VK->Prop:=λxs H Q=>∃p ns,xs=[.ref p]/\SqL K H p (ns.map V.int)/\Q (.int (f ns)) H
theorem Xe (hc:X.calm=true):IN X (.builtin "sum") (jq X.K bS):=by
 intro pins s σ H xs us Q I r h;obtain ⟨p,ns,rfl,hq,q⟩:=h;obtain ⟨u,rfl,rx⟩:=vals1 r;cases rx;obtain ⟨its,r',pl,hz⟩:=I.list hq;obtain ⟨xs,e1,e2,e3⟩:=Px r'
 refine sum_intListG (xs:=xs) (I.ok.hd hc) (by rw [<-e1];exact pl.isList) λh' tk t' kp=>⟨.int _,H,I.kept kp,⟨t',rfl⟩,?_⟩
 rw [e2,Ls _ e3];exact q
def G0:List D->Option (List Int)
 | []=>some []
 | .int b :: ds=>(G0 ds).map (b :: ·)
 | _ :: _=>none
theorem KC:∀ {ds:List D} {ns:List Int},G0 ds=some ns->ds=ns.map D.int
 | [],_,h=>by cases h;rfl
 | .int b :: ds,ns,h=>by
  unfold G0 at h
  cases hq:G0 ds with
  | none=>rw [hq] at h;cases h
  | some cs=>rw [hq] at h;cases h;rw [KC hq];rfl
 | .non :: _,_,h=>by cases h
 | .bl _ :: _,_,h=>by cases h
 | .str _ :: _,_,h=>by cases h
 | .tup _ :: _,_,h=>by cases h
 | .fro _ :: _,_,h=>by cases h
 | .ref _ :: _,_,h=>by cases h
 | .exc _ :: _,_,h=>by cases h
def UQ (m:ME):ME:=λe S=>(m e S).bind λd S1=>match Ow d S1 with
 | some ds=>match G0 ds with
  | some ns=>.ok (.int (bS ns)) S1
  | none=>.bad
 | none=>.bad
variable {e:Expr} {m:ME} {ml:ML} {p pos:Pos}
theorem iT (hc:X.calm=true) (hg:Gl X "sum") (hm:X.mg "sum" = none) (h:GE X E e m) (he:AS [e] X.env=(false,Br e X.env) :: AS [] X.env:=by rfl):GE X E (.Call (.Name "sum" p) [e] [] pos) (UQ m):=
 (J2 (Xe hc) hg hm kt (E2 h HC he) (by decide) (by decide) he rfl).imp λσ H Q ⟨ρ,l,S,hl,hs,hm⟩=>by
 refine ⟨ρ,l,S,hl,hs,hm.seq λd S1 hm ρ1 H1 x l1 s1 r1=>?_⟩
 cases hq:Ow d S1 with
 | none=>rw [hq] at hm;exact hm.elim
 | some ds=>
  rw [hq] at hm;dsimp only at hm
  cases hi:G0 ds with
  | none=>rw [hi] at hm;exact hm.elim
  | some ns=>
   rw [hi] at hm;obtain ⟨p,xs,rfl,rr,sq⟩:=KU s1 r1 hq;rw [KC hi] at rr;rw [rr.ints] at sq;exact ⟨p,ns,rfl,sq,hm ρ1 H1 _ l1 s1 (.int _)⟩
def tyD (d:D) (S:Sto):Option String:=match d with
 | .non=>some "NoneType"
 | .bl _=>some "bool"
 | .int _=>some "int"
 | .str _=>some "str"
 | .tup _=>some "tuple"
 | .ref n=>match S[n]? with
  | some (.lst _)=>some "list"
  | some (.dK _)=>some "dict"
  | some (.dT _)=>some "dict"
  | _=>none
 | .fro _=>none
 | .exc _=>none
theorem fS {K:AA} {ρ:List AK} {S:Sto} {H:Hp} {d:D} {x:V} {T:String} (s:B4 K ρ S H) (r:Bs K ρ H d x) (h:tyD d S=some T):MP K H x (.type T):=by
 cases r with
 | non=>cases h;exact .non
 | bl b=>cases h;exact .bl b
 | int i=>cases h;exact .int i
 | str i=>cases h;exact .str i
 | tup h1 _=>cases h;exact .tup h1
 | fro _ _=>cases h
 | exc _ _=>cases h
 | @ref n a hn=>
  obtain ⟨o,ho,ro⟩:=s.there hn;unfold tyD at h;simp only [ho] at h
  cases o with
  | lst es=>cases h;obtain ⟨vs,e,rr⟩:=ro;exact .lst e
  | dK es=>cases h;obtain ⟨vs,e,rr⟩:=ro;exact .dK e
  | dT es=>cases h;obtain ⟨vs,e,rr⟩:=ro;exact .dT e
  | ins _ _=>cases h
  | fK _=>cases h
  | fT _=>cases h
def eK (c T:String):Option Bool:=if T==c then some true else if T=="bool"&&c=="int" then some true else if ["NoneType", "bool", "int", "str", "tuple", "list", "dict"].contains T&&["bool", "int", "str", "tuple", "list", "dict"].contains c then some false else none
end
def FW {α:Type} (r r':Res α):Res α:=match r with
 | .bad=>r'
 | r=>r
theorem W8 {α:Type} (r r':Res α):FW r r'=r∨FW r r'=r':=by cases r <;> simp [FW]
def op2 (f g:D->D->Sto->Res D):D->D->Sto->Res D:=λx y S=>FW (f x y S) (g x y S)
theorem Vd (f g:D->D->Sto->Res D) (ma mb:ME) (l:Lo) (S:Sto):m2 (op2 f g) ma mb l S=m2 f ma mb l S∨m2 (op2 f g) ma mb l S=m2 g ma mb l S:=by
 unfold m2
 cases ma l S with
 | ok x S1=>
  dsimp only [Res.bind]
  cases mb l S1 with
  | ok y S2=>
   dsimp only [Res.bind];unfold op2
   rcases W8 (f x y S2) (g x y S2) with e | e <;> rw [e] <;> simp
  | err c S2=>exact .inl rfl
  | bad=>exact .inl rfl
 | err c S1=>exact .inl rfl
 | bad=>exact .inl rfl
section
variable {X:Cx} {E:EW} {e o i:Expr} {pos:Pos} {m m1 m2':ME}
theorem Zn {m m1 m2:ME} (h1:GE X E e m1) (h2:GE X E e m2) (h:∀l S,m l S=m1 l S∨m l S=m2 l S):GE X E e m:=λpins s σ H Q I ⟨ρ,l,S,hl,hs,a⟩=>by
 rcases h l S with q | q
 ·rw [q] at a;exact h1 pins s σ H Q I ⟨ρ,l,S,hl,hs,a⟩
 ·rw [q] at a;exact h2 pins s σ H Q I ⟨ρ,l,S,hl,hs,a⟩
theorem Zh {t t1 t2:MT} (h1:GT X E e t1) (h2:GT X E e t2) (h:∀l S,t l S=t1 l S∨t l S=t2 l S):GT X E e t:=λpins s σ H Q I ⟨ρ,l,S,hl,hs,a⟩=>by
 rcases h l S with q | q
 ·rw [q] at a;exact h1 pins s σ H Q I ⟨ρ,l,S,hl,hs,a⟩
 ·rw [q] at a;exact h2 pins s σ H Q I ⟨ρ,l,S,hl,hs,a⟩
theorem iS {tg:Expr} {t t1 t2:MI} (h1:GI X E tg e t1) (h2:GI X E tg e t2) (h:∀l S,t l S=t1 l S∨t l S=t2 l S):GI X E tg e t:=λpins s σ H R I ⟨ρ,l,S,hl,hs,a⟩=>by
 rcases h l S with q | q
 ·rw [q] at a;exact h1 pins s σ H R I ⟨ρ,l,S,hl,hs,a⟩
 ·rw [q] at a;exact h2 pins s σ H R I ⟨ρ,l,S,hl,hs,a⟩
theorem eI {m m1 m2:ME} (h:∀l S,m l S=m1 l S∨m l S=m2 l S) (l:Lo) (S:Sto):mB m l S=mB m1 l S∨mB m l S=mB m2 l S:=by
 unfold mB
 rcases h l S with q | q <;> rw [q] <;> simp
abbrev inA (neg:Bool):=op2 (inD neg) (Jb neg)
variable {mi mo:ME}
theorem kT (hu:X.A.units+64 < Ed) (hi:GE X E i mi) (ho:GE X E o mo) (h1:CG .In o=false:=by with_unfolding_all rfl):GE X E (.Compare i [.In] [o] pos) (m2 (inA false) mi mo):=
 Zn (LF (eD hu) hi ho h1) (iW (by lia) hi ho h1) λ_ _=>Vd _ _ _ _ _ _
theorem kQ (hu:X.A.units+64 < Ed) (hi:GE X E i mi) (ho:GE X E o mo) (h1:CG .In o=false:=by with_unfolding_all rfl):GT X E (.Compare i [.In] [o] pos) (mB (m2 (inA false) mi mo)):=
 Zh (DI (eD hu) hi ho h1) (iN (by lia) hi ho h1) (eI λ_ _=>Vd _ _ _ _ _ _)
theorem FJ (hu:X.A.units+64 < Ed) (hi:GE X E i mi) (ho:GE X E o mo) (h1:CG .NotIn o=false:=by with_unfolding_all rfl):GT X E (.Compare i [.NotIn] [o] pos) (mB (m2 (inA true) mi mo)):=
 Zh (DI (Y6 hu) hi ho h1) (XR (by lia) hi ho h1) (eI λ_ _=>Vd _ _ _ _ _ _)
abbrev ixA:=op2 ixD Kt
theorem D8 (hu:X.A.units+64 < Ed) (ho:GE X E o mo) (hi:GE X E i mi) (hs:Rp i:=by intro _ _;rfl):GE X E (.Subscript o i pos) (m2 ixA mo mi):=
 Zn (kS j6 ho hi hs) (dE (by lia) ho hi hs) λ_ _=>Vd _ _ _ _ _ _
def Em (d:D):Hv:=match d with
 | .tup ds=>Dc ds
 | d=>NI d
def E9 (m:ME):MI:=λe S=>(m e S).bind λd S1=>match Em d S1 with
 | some _=>.ok (Em d) S1
 | none=>.bad
theorem FA {tg:Expr} (h:GE X E e m):GI X E tg e (E9 m):=iS (iR h) (iQ h) λl S=>by
 unfold E9 kN eN
 cases m l S with
 | ok d S1=>
  dsimp only [Res.bind]
  cases d <;> first | exact .inl rfl | exact .inr rfl
 | err c S1=>exact .inl rfl
 | bad=>exact .inl rfl
def HD (m:ME):ME:=λe S=>(m e S).bind λd S1=>match Eu d S1 with
 | some ds=>.ok (.int ds.length) S1
 | none=>.bad
variable {p:Pos} {ml:ML} {es:List Expr}
theorem KF (hg:Gl X "len") (hm:X.mg "len" = none) (h:GE X E e m) (he:AS [e] X.env=(false,Br e X.env) :: AS [] X.env:=by rfl):GE X E (.Call (.Name "len" p) [e] [] pos) (HD m):=
 (Vl Re fo hg hm PySem.boot_len (Zi h) (by decide) (by decide) he).imp λσ H Q ⟨ρ,l,S,hl,hs,a⟩=>⟨ρ,l,S,hl,hs,by
  have q:mQ kI (Jo m) l S=HD m l S:=by
   unfold mQ Jo HD
   cases m l S with
   | ok d S1=>
    dsimp only [Res.bind]
    cases Eu d S1 <;> rfl
   | err c S1=>rfl
   | bad=>rfl
  rw [q];exact a⟩
theorem Vm {a b:Expr} (hc:X.calm=true) (hg:Gl X "min") (hm:X.mg "min" = none) (h:GA X E [a,b] ml) (he:AS [a,b] X.env=(false,Br a X.env) :: AS [b] X.env:=by rfl) (hpl:(DQ pos (AS [b] X.env)).any (·.1)=false:=by rfl):GE X E (.Call (.Name "min" p) [a,b] [] pos) (mQ NN ml):=
 Vp (Xg hc) dm hg hm kz h (by decide) (by decide) he hpl
theorem Vn {a b:Expr} (hc:X.calm=true) (hg:Gl X "max") (hm:X.mg "max" = none) (h:GA X E [a,b] ml) (he:AS [a,b] X.env=(false,Br a X.env) :: AS [b] X.env:=by rfl) (hpl:(DQ pos (AS [b] X.env)).any (·.1)=false:=by rfl):GE X E (.Call (.Name "max" p) [a,b] [] pos) (mQ NO ml):=
 Vp (Xh hc) dn hg hm lA h (by decide) (by decide) he hpl
theorem RT (hg:Gl X "list") (hm:X.mg "list" = none) (h:GE X E e m) (he:AS [e] X.env=(false,Br e X.env) :: AS [] X.env:=by rfl):GE X E (.Call (.Name "list" p) [e] [] pos) (DT (mN NQ (Jo m))):=
 ES (c8 Rc bW hg hm IE (Zi h) (by decide) (by decide) he)
theorem Ub (hc:X.calm=true) (hg:Gl X "all") (hm:X.mg "all" = none) (h:GE X E e m) (he:AS [e] X.env=(false,Br e X.env) :: AS [] X.env:=by rfl):GE X E (.Call (.Name "all" p) [e] [] pos) (mQ Xj (Jo m)):=
 Vl (Xi hc) Yb hg hm lE (Zi h) (by decide) (by decide) he
end
section
variable {X:Cx} {E:EW} {e a b:Expr} {es:List Expr} {pos:Pos} {m:ME} {mj:MJ}
end
def L3 (mo ma:ME):ME:=λe S=>(mo e S).bind λd S1=>match atL d S1 with
 | some (n,_)=>(ma e S1).bind λy S2=>match atL d S2,atL y S2 with
  | some (_,xs),some (k,ys)=>if k≠n/\xs.length+ys.length<=sizeLine then .ok .non (S2.set n (.lst (xs++ys))) else .bad
  | _,_=>.bad
 | none=>.bad
section
variable {X:Cx} {E:EW} {o e:Expr} {apos cpos:Pos} {mo ma:ME}
theorem XU (ho:GE X E o mo) (ha:GE X E e ma) (hbase:CV o "extend" X.env (Br o X.env)=Br o X.env:=by rfl)
  (hfew:((DQ cpos (AS [e] X.env)).all (λx=>!x.1)&&(Tl cpos (MZ [] X.env)).all (λx=>x.1.isSome)
    &&decide ([e].length+([]:List Io).length+(if ([]:List Io).isEmpty then 0 else 1) < 30))=true:=by rfl)
  (hline:(apos.endLine==cpos.line)=true:=by rfl) (hs:AS [e] X.env=(false,Br e X.env) :: AS [] X.env:=by rfl) (hplain:(DQ cpos (AS [] X.env)).any (·.1)=false:=by rfl) :
  GE X E (.Call (.Attribute o "extend" apos) [e] [] cpos) (L3 mo ma):=(Y0 Dk PY PX XA ho (E2 ha HC hs) hbase hfew hline hs hplain).imp λσ H Q ⟨ρ,l,S,hl,hs,hm⟩=>by
 refine ⟨ρ,l,S,hl,hs,hm.seq λd S1 hm ρ1 H1 v l1 s1 r1=>?_⟩
 cases hq:atL d S1 with
 | none=>rw [hq] at hm;exact hm.elim
 | some z=>
  obtain ⟨n,xs0⟩:=z;rw [hq] at hm;dsimp only at hm;obtain ⟨rfl,h0,a,vs0,rfl,hn,e0,_⟩:=LL s1 r1 hq;refine ⟨.inl ⟨rfl,vs0,.inl (.inl e0)⟩,ρ1,l,S1,hl.mono l1,s1,(hm.later l1).seq λy S2 hm ρ2 H2 u l2 s2 r2=>?_⟩;split at hm
  ·rename_i n' xs k ys h2 h3
   split at hm
   ·rename_i hz
    obtain ⟨e',h4,a',vs,ea,hn2,e2,rr⟩:=LL s2 (r1.mono l2) h2;cases e';cases ea;obtain ⟨ey,h5,p,ws,rfl,hk,e3,rw'⟩:=LL s2 r2 h3;obtain ⟨s3,l3⟩:=Ny s2 hn2 e2 (rr.append rw');exact ⟨a,p,vs,ws,rfl,rfl,e2,e3,by rw [<-rr.length,<-rw'.length];exact hz.2,hm ρ2 _ _ (l1.trans (l2.trans l3)) s3 .non⟩
   ·exact hm.elim
  ·exact hm.elim
end
def isB (t A:String):Option Bool:=if ["NoneType", "bool", "int", "str", "tuple", "list", "dict"].contains A then eK t A else none
def aw (sc:IB) (x:Str):Bool:=decide (sc.names.lookup x=some .local)||decide (sc.names.lookup x=some .cell)||decide (sc.names.lookup x=some .free)
def Z0 (X:Cx) (scope:IB) (own N':List Str):Bool:=
 decide (scope.kind=.function)&&scope.names.all (λy=>!decide (y.2=.cell))&&scope.names.all (λy=>!decide (y.2=.local)||decide (scope.names.lookup y.1=some .local)) &&
 scope.names.all (λy=>!decide (y.2=.free)||decide (X.env.kindOf y.1=some .cell)||decide (X.env.kindOf y.1=some .free))&&decide (N'.length=own.length+X.N.length) &&
 ((N'.drop own.length).zip X.N).all (λp=>!aw (Ij scope X.env) p.1||(decide (p.1=p.2)&&aw X.env.scope p.1&&(decide ((Ij scope X.env).names.lookup p.1=some .cell)||decide ((Ij scope X.env).names.lookup p.1=some .free))&&!decide (X.env.kindOf p.1=some .local))) &&
 (Ij scope X.env).names.all (λy=>(!decide (y.2=.cell)&&!decide (y.2=.free))||scope.names.any (λz=>decide (z=(y.1,IF))))
theorem R8 {sc:IB} {x:Str}:aw sc x=true↔Vis sc x:=by
 unfold aw Vis;simp [or_assoc]
theorem Fv {X:Cx} {scope:IB} {own N':List Str} (h:Z0 X scope own N'=true):LP X scope own N':=by
 unfold Z0 at h;simp only [Ji] at h;obtain ⟨⟨⟨⟨⟨⟨h1,h2⟩,h3⟩,h4⟩,h5⟩,h6⟩,h7⟩:=h;rw [G5] at h2 h3 h4 h6 h7;refine ⟨of_decide_eq_true h1,λy hy=>?_,λy hy e=>?_,λy hy e=>?_,of_decide_eq_true h5,λi x e v=>?_,λx hx=>?_⟩
 ·simpa using h2 y hy
 ·have:=h3 y hy
  simpa [e] using this
 ·have:=h4 y hy
  simpa [e] using this
 ·have hlen:=of_decide_eq_true h5
  have hi:own.length+i < N'.length:=(AD.mp e).1
  have hx:i < X.N.length:=by lia
  have hm:(x,X.N[i])∈(N'.drop own.length).zip X.N:=by
   rw [List.mem_iff_getElem?];refine ⟨i,?_⟩;rw [List.getElem?_zip_eq_some];exact ⟨by rw [Fi];exact e,by simp [hx]⟩
  have:=h6 _ hm;rw [R8.mpr v] at this;simp only [Lb,eu,Ji,Bool.or_eq_true,decide_eq_true_eq,Bool.not_eq_true',decide_eq_false_iff_not] at this;obtain ⟨⟨⟨z1,z2⟩,z3⟩,z4⟩:=this;exact ⟨by rw [z1];simp [hx],R8.mp z2,z3,z4⟩
 ·have key:∀k,(Ij scope X.env).names.lookup x=some k->(k=.cell∨k=.free)->(x,IF)∈scope.names:=λk e hk=>by
   have:=h7 _ (Du e)
   rcases hk with rfl | rfl
   ·simpa using this
   ·simpa using this
  rcases hx with e | e
  ·exact key _ e (.inl rfl)
  ·exact key _ e (.inr rfl)
structure Dfn (K:AA) (mg:Str->Option AC) (x qual:Str) (st:Cc) (ps:List Str) where
 f:AK
 fd:DN
 F:Fun K x qual st f fd
 b:Binds K fd ps []
 m:mg x=some (.ref f)
theorem Dfn.kp {K:AA} {mg:Str->Option AC} {x qual:Str} {st:Cc} {ps:List Str} (d:Dfn K mg x qual st ps):Fj K (.ref d.f)=true:=d.F.kp
structure Mtd (K:AA) (x qual:Str) (st:Cc) (ps:List Str) where
 f:AK
 fd:DN
 F:Fun K x qual st f fd
 b:Binds K fd ps []
structure Own (K:AA) (mg:Str->Option AC) (x:Str) (C f:AK):Prop where
 cl:Cls K C
 mk':Mk K C f
 m:mg x=some (.ref C)
abbrev wN:Nat:=1000000
section
variable {prog:Ak} {w:A9} {A:BB} {E:AC->AG->Prop} {s:AG} {K:AA} {a C:AK} {o:Obj}
end
section
variable {X:Cx} {E:EW} {e ce:Expr} {p pos:Pos} {m:ME} {c:V} {cv:AC} {tab:String->Option Bool} {tabC:AK->Option Bool}
end
end L2
namespace Srt
open PySem PyProof.Rows
structure Ord (U:Ao->Prop) (lt:Ao->Ao->Bool):Prop where
 asym:∀x y,U x->U y->lt x y=true->lt y x=false
 ntr:∀x y z,U x->U y->U z->lt y x=false->lt z y=false->lt z x=false
theorem Ord.irr {U:Ao->Prop} {lt:Ao->Ao->Bool} (o:Ord U lt) {x:Ao} (h:U x):lt x x=false:=by
 cases e:lt x x with
 | false=>rfl
 | true=>exact (o.asym x x h h e).symm.trans e |>.symm▸rfl
def ix (xs:Array Ao) (i:Nat):Ao:=xs.getD i (.none,.none)
theorem Ix {xs ys:Array Ao} {i j:Nat} (h:xs[i]?=ys[j]?):ix xs i=ix ys j:=by
 unfold ix;rw [Eg,Eg,h]
theorem C7 {xs:Array Ao} {i:Nat} (h:i < xs.size):xs[i]?=some (ix xs i):=by
 unfold ix;rw [Eg,getElem?_pos xs i h];rfl
theorem XF {xs:Array Ao} {src d:Nat} (hs:src < xs.size) (hd:d<=src) (k:Nat) :
  ix (ei xs src d) k=if k=src - d then ix xs src else if src - d < k/\k<=src then ix xs (k - 1) else ix xs k:=by
 have e:=getElem?_bubble hs d hd k;split
 ·rename_i h;rw [qX h] at e;exact Ix e
 ·rename_i h
  rw [qY h] at e;split
  ·rename_i h2;rw [qX h2] at e;exact Ix e
  ·rename_i h2;rw [qY h2] at e;exact Ix e
theorem Ds {xs:Array Ao} {i j:Nat} (hj:j<=xs.size) (k:Nat) :
  ix (JD xs i j ((j - i) / 2)) k=if i<=k/\k < j then ix xs (i+j - 1 - k) else ix xs k:=by
 have e:=getElem?_mirror_all (i:=i) hj k;split
 ·rename_i h;rw [qX h] at e;exact Ix e
 ·rename_i h;rw [qY h] at e;exact Ix e
section
variable {prog:Ak} {w:A9} {A:BB} {E:AC->AG->Prop} {s:AG} {a₀:Array Ao} {κ:FS} {lt:Ao->Ao->Bool}
def Jm (prog:Ak) (w:A9) (A:BB) (s:AG) (a₀:Array Ao) (κ:FS) (lt:Ao->Ao->Bool):Prop:=
 ∀x y,x∈a₀->y∈a₀->∀(Q:Bool->AG->Prop) (E:AC->AG->Prop),Q (lt x y) s->Aq (Ac prog w) A (keyLt' κ x.1 y.1) Q E s
structure Good (a₀:Array Ao) (κ:FS) (st:BK):Prop where
 perm:(AR st).Perm a₀
 kind:kindOf st=κ
 failed:IA st=none
theorem Good.size {st:BK} (g:Good a₀ κ st):(AR st).size=a₀.size:=g.perm.size_eq
theorem Good.mem {st:BK} (g:Good a₀ κ st) {i:Nat} (h:i < a₀.size):ix (AR st) i∈a₀:=by
 have h':i < (AR st).size:=by rw [g.size];exact h
 have e:=C7 h';have:=Ch e;exact BR.mp ((Et.mp g.perm).mem_iff.mp (BR.mpr this))
theorem Good.setArr {st:BK} (g:Good a₀ κ st) {xs:Array Ao} (hp:xs.Perm (AR st)):Good a₀ κ (setArr st xs):=⟨hp.trans g.perm,g.kind,g.failed⟩
theorem OF {st:BK} {x y:Ao} {Q:Option Bool->BK->Prop} (C:Jm prog w A s a₀ κ lt) (g:Good a₀ κ st) (hx:x∈a₀) (hy:y∈a₀) (h:Q (some (lt x y)) st):wpS (Ac prog w) A E s (lt' x y) Q st:=by
 rw [lt'_eq];refine AL (G6 ?_);rw [g.kind];refine AL (wpS_lift (Np ?_));refine C x y hx hy _ _ ⟨rfl,?_⟩;exact AM h
theorem Md {st:BK} {i j:Nat} {Q:Option Bool->BK->Prop} (C:Jm prog w A s a₀ κ lt) (g:Good a₀ κ st) (hi:i < a₀.size) (hj:j < a₀.size) (h:Q (some (lt (ix (AR st) i) (ix (AR st) j))) st) :
  wpS (Ac prog w) A E s (i9 i j) Q st:=by
 rw [ltAt'_eq];refine AL (G6 ?_);show wpS _ _ _ _ (do let x <-elem' (AR st) i;let y <-elem' (AR st) j;lt' x y) Q st;rw [aO,aO,C7 (by rw [g.size];exact hi),C7 (by rw [g.size];exact hj)];exact AL (AM (AL (AM (OF C g (g.mem hi) (g.mem hj) h))))
def Up (lt:Ao->Ao->Bool) (xs:Array Ao) (lo hi:Nat):Prop:=∀i j,lo<=i->i<=j->j < hi->lt (ix xs j) (ix xs i)=false
def Dn (lt:Ao->Ao->Bool) (xs:Array Ao) (lo hi:Nat):Prop:=∀i j,lo<=i->i<=j->j < hi->lt (ix xs i) (ix xs j)=false
def Out (xs ys:Array Ao) (lo hi:Nat):Prop:=∀i,(i < lo∨hi<=i)->ix ys i=ix xs i
theorem Out.refl {xs:Array Ao} {lo hi:Nat}:Out xs xs lo hi:=λ_ _=>rfl
theorem Out.trans {xs ys zs:Array Ao} {lo hi:Nat} (a:Out xs ys lo hi) (b:Out ys zs lo hi):Out xs zs lo hi:=λi h=>(b i h).trans (a i h)
theorem Up.out {xs ys:Array Ao} {lo hi l h:Nat} (u:Up lt xs l h) (o:Out xs ys lo hi) (d:h<=lo∨hi<=l):Up lt ys l h:=λi j h1 h2 h3=>by
 rw [o i (by lia),o j (by lia)];exact u i j h1 h2 h3
theorem Up.grow {st:BK} (O:Ord (·∈a₀) lt) (g:Good a₀ κ st) {lo hi:Nat} (hs:hi < a₀.size) (u:Up lt (AR st) lo hi) (h0:lo < hi) (h:lt (ix (AR st) hi) (ix (AR st) (hi - 1))=false):Up lt (AR st) lo (hi+1):=λi j h1 h2 h3=>by
 by_cases hj:j < hi
 ·exact u i j h1 h2 hj
 ·have:j=hi:=by lia
  subst this
  by_cases hi':i=j
  ·subst hi';exact O.irr (g.mem hs)
  ·exact O.ntr _ _ _ (g.mem (by lia)) (g.mem (show j - 1 < _ by omega)) (g.mem hs) (u i (j - 1) h1 (by lia) (by lia)) h
theorem wpS_binarySort {st:BK} {lo n ok:Nat} {Q:Bool->BK->Prop} (C:Jm prog w A s a₀ κ lt) (O:Ord (·∈a₀) lt) (hn:lo+n<=a₀.size) (hok:ok<=n) (g:Good a₀ κ st) (u:Up lt (AR st) lo (lo+ok))
  (h:∀st',Good a₀ κ st'->Up lt (AR st') lo (lo+n)->Out (AR st) (AR st') lo (lo+n)->AV st'=AV st->Q true st'):wpS (Ac prog w) A E s (binarySort' lo n ok) Q st:=by
 rw [binarySort'_eq]
 refine AL (C1 (Bz (I:=λk c st'=>c=(none,())/\Good a₀ κ st'/\Up lt (AR st') lo (lo+min k n)/\Out (AR st) (AR st') lo (lo+n)/\AV st'=AV st)
  (Q:=λc st'=>c=(none,())/\Good a₀ κ st'/\Up lt (AR st') lo (lo+n)/\Out (AR st) (AR st') lo (lo+n)/\AV st'=AV st) ?step ?fin ?init) ?post)
 case post=>
  rintro c st' ⟨rfl,g',u',o',p'⟩;exact AM (h st' g' u' o' p')
 case init=>
  refine ⟨rfl,g,λi j h1 h2 h3=>?_,.refl,rfl⟩
  by_cases h0:ok=0
  ·have:i=j:=by lia
   subst this;exact O.irr (g.mem (by omega))
  ·exact u i j h1 h2 (by lia)
 case fin=>
  rintro c st' ⟨hc,g',u',o',p'⟩;refine ⟨hc,g',?_,o',p'⟩;rwa [show min (max (max ok 1) n) n=n by lia] at u'
 case step=>
  rintro k c st1 hak hkn ⟨rfl,g1,u1,o1,p1⟩;rw [show min k n=k by lia] at u1
  have hk:lo+k < a₀.size:=by lia
  refine AL (C1 (Bz (I:=λx c st2=>st2=st1/\∃l r,c=(none,l,r)/\l<=r/\r<=k/\r - l<=k - x /\
    (∀i,i < l->lt (ix (AR st1) (lo+k)) (ix (AR st1) (lo+i))=false)/\(∀i,r<=i->i < k->lt (ix (AR st1) (lo+k)) (ix (AR st1) (lo+i))=true))
   (Q:=λc st2=>st2=st1/\∃l r,c=(none,l,r)/\l<=k /\
    (∀i,i < l->lt (ix (AR st1) (lo+k)) (ix (AR st1) (lo+i))=false)/\(∀i,l<=i->i < k->lt (ix (AR st1) (lo+k)) (ix (AR st1) (lo+i))=true)) ?istep ?ifin ?iinit) ?ipost)
  case iinit=>exact ⟨rfl,0,k,rfl,by lia,by lia,by lia,λi hi=>by lia,λi h1 h2=>by lia⟩
  case ifin=>
   rintro c st2 ⟨rfl,l,r,rfl,hlr,hrk,hm,hlo,hhi⟩
   have:l=r:=by lia
   subst this;exact ⟨rfl,l,l,rfl,hrk,hlo,hhi⟩
  case istep=>
   rintro x c st2 _ hxk ⟨rfl,l,r,rfl,hlr,hrk,hm,hlo,hhi⟩;dsimp only
   by_cases hge:l ≥ r
   ·rw [qX hge]
    have:l=r:=by lia
    subst this;exact AM ⟨rfl,l,l,rfl,hrk,hlo,hhi⟩
   ·rw [qY hge]
    refine AL (Md C g1 hk (by lia) ?_)
    cases hless:lt (ix (AR st2) (lo+k)) (ix (AR st2) (lo+(l+r) / 2)) with
    | true=>
     refine AM ⟨rfl,l,(l+r) / 2,rfl,by lia,by lia,by omega,hlo,λi h1 h2=>?_⟩
     cases e:lt (ix (AR st2) (lo+k)) (ix (AR st2) (lo+i)) with
     | true=>rfl
     | false=>
      have:=O.ntr _ _ _ (g1.mem (show lo+(l+r) / 2 < _ by lia)) (g1.mem (show lo+i < _ by lia)) (g1.mem hk) (u1 (lo+(l+r) / 2) (lo+i) (by lia) (by lia) (by lia)) e;rw [hless] at this;cases this
    | false=>
     refine AM ⟨rfl,(l+r) / 2+1,r,rfl,by lia,by omega,by omega,λi h1=>?_,hhi⟩;exact O.ntr _ _ _ (g1.mem (show lo+i < _ by lia)) (g1.mem (show lo+(l+r) / 2 < _ by lia)) (g1.mem hk) (u1 (lo+i) (lo+(l+r) / 2) (by lia) (by lia) (by lia)) hless
  case ipost=>
   rintro c st2 ⟨rfl,l,r,rfl,hlk,hlo,hhi⟩;show wpS _ _ _ _ (do moveDown' (lo+k) (lo+l);pure (Gt (none,()))) _ _;rw [moveDown'_eq]
   have hks:lo+k < (AR st2).size:=by rw [g1.size];exact hk
   have e:∀i,ix (ei (AR st2) (lo+k) (lo+k - (lo+l))) i=if i=lo+l then ix (AR st2) (lo+k) else if lo+l < i/\i<=lo+k then ix (AR st2) (i - 1) else ix (AR st2) i:=λi=>by
    rw [XF hks (by lia),show lo+k - (lo+k - (lo+l))=lo+l by lia]
   refine AL (DE (AM ⟨rfl,g1.setArr (bubble_perm _ _ _),?_,o1.trans λi hi=>?_,p1⟩))
   ·rw [show min (k+1) n=k+1 by lia]
    intro i j h1 h2 h3;show lt (ix (ei (AR st2) (lo+k) (lo+k - (lo+l))) j) (ix (ei (AR st2) (lo+k) (lo+k - (lo+l))) i)=false;rw [e,e]
    repeat' split
    all_goals first
     | (exfalso;lia)
     | exact O.irr (g1.mem hk)
     | (have q:=hlo (i - lo) (by lia);rw [show lo+(i - lo)=i by lia] at q;exact q)
     | (have q:=hhi (j - 1 - lo) (by omega) (by omega);rw [show lo+(j - 1 - lo)=j - 1 by lia] at q;exact O.asym _ _ (g1.mem hk) (g1.mem (by lia)) q)
     | exact u1 _ _ (by omega) (by omega) (by lia)
   ·show ix (ei (AR st2) (lo+k) (lo+k - (lo+l))) i=ix (AR st2) i
    rw [e,qY (by lia),qY (by lia)]
end
section
variable {prog:Ak} {w:A9} {A:BB} {E:AC->AG->Prop} {s:AG} {a₀:Array Ao} {κ:FS} {lt:Ao->Ao->Bool}
theorem Iq {σ:Type} {M:Model} {r:String} {Q:PUnit->σ->Prop} {st:σ} (h:Q ⟨⟩ st):wpS M A E s (liftM (rule r):StateT σ Sem PUnit) Q st:=wpS_lift (eW ⟨rfl,h⟩)
theorem Dn.flip {xs:Array Ao} {lo hi:Nat} (hs:hi<=xs.size) (d:Dn lt xs lo hi):Up lt (JD xs lo hi ((hi - lo) / 2)) lo hi:=λi j h1 h2 h3=>by
 rw [Ds hs,Ds hs,qX (by lia),qX (by lia)];exact d _ _ (by omega) (by omega) (by omega)
theorem Dn.part {xs:Array Ao} {lo hi m:Nat} (hs:hi<=xs.size) (hm:lo<=m) (hmh:m<=hi) (d:Dn lt xs lo hi) (e:Up lt xs m hi):Dn lt (JD xs m hi ((hi - m) / 2)) lo hi:=λi j h1 h2 h3=>by
 rw [Ds hs,Ds hs]
 by_cases hi':m<=i
 ·rw [qX (by lia),qX (by lia)]
  exact e _ _ (by omega) (by omega) (by omega)
 ·rw [qY (by lia)]
  split
  ·exact d _ _ (by omega) (by lia) (by omega)
  ·exact d _ _ (by omega) (by omega) (by omega)
theorem JN {xs:Array Ao} {i j lo hi:Nat} (hj:j<=xs.size) (h1:lo<=i) (h2:j<=hi):Out xs (JD xs i j ((j - i) / 2)) lo hi:=λk hk=>by
 rw [Ds hj,qY (by lia)]
theorem Dn.grow {st:BK} (O:Ord (·∈a₀) lt) (g:Good a₀ κ st) {lo hi:Nat} (hs:hi < a₀.size) (u:Dn lt (AR st) lo hi) (h0:lo < hi) (h:lt (ix (AR st) (hi - 1)) (ix (AR st) hi)=false):Dn lt (AR st) lo (hi+1):=λi j h1 h2 h3=>by
 by_cases hj:j < hi
 ·exact u i j h1 h2 hj
 ·have:j=hi:=by lia
  subst this
  by_cases hi':i=j
  ·subst hi';exact O.irr (g.mem hs)
  ·exact O.ntr _ _ _ (g.mem hs) (g.mem (show j - 1 < _ by omega)) (g.mem (by lia)) h (u i (j - 1) h1 (by lia) (by lia))
theorem T1 (O:Ord (·∈a₀) lt) {st:BK} (g:Good a₀ κ st) {lo:Nat} (h:lo < a₀.size):Up lt (AR st) lo (lo+1):=λi j h1 h2 h3=>by
 have e1:i=lo:=by lia
 have e2:j=lo:=by lia
 rw [e1,e2];exact O.irr (g.mem h)
theorem aZ {st:BK} {lo nrem n:Nat} {Q:Option Nat->BK->Prop} (C:Jm prog w A s a₀ κ lt) (O:Ord (·∈a₀) lt) (h1:1<=n) (h2:n<=nrem) (hn:lo+nrem<=a₀.size) (g:Good a₀ κ st) (u:Up lt (AR st) lo (lo+n))
  (h:∀n,1<=n->n<=nrem->Up lt (AR st) lo (lo+n)->Q (some n) st):wpS (Ac prog w) A E s (do
   let mut n:=n
   for _ in [n:nrem] do
    let some smaller <-i9 (lo+n) (lo+n - 1) | return none
    if smaller then break
    n:=n+1
   return some n) Q st:=by
 refine AL (C1 (Bz (I:=λx c st'=>st'=st/\c=(none,x)/\Up lt (AR st) lo (lo+x))
  (Q:=λc st'=>st'=st/\∃n,c=(none,n)/\1<=n/\n<=nrem/\Up lt (AR st) lo (lo+n)) ?step ?fin ⟨rfl,rfl,u⟩) ?post)
 case fin=>
  rintro c st' ⟨rfl,rfl,u⟩
  have e:max n nrem=nrem:=by lia
  rw [e] at u ⊢;exact ⟨rfl,nrem,rfl,by lia,AN _,u⟩
 case step=>
  rintro x c st' hx1 hx2 ⟨rfl,rfl,u⟩;dsimp only;refine AL (Md C g (by lia) (by lia) ?_)
  cases hq:lt (ix (AR st') (lo+x)) (ix (AR st') (lo+x - 1)) with
  | true=>exact AM ⟨rfl,x,rfl,by lia,by lia,u⟩
  | false=>exact AM ⟨rfl,rfl,Up.grow (hi:=lo+x) O g (by lia) u (by lia) hq⟩
 case post=>
  rintro c st' ⟨rfl,n,rfl,hn1,hn2,u⟩;exact AM (h n hn1 hn2 u)
theorem wpS_countRun {st:BK} {lo nrem:Nat} {Q:Option Nat->BK->Prop} (C:Jm prog w A s a₀ κ lt) (O:Ord (·∈a₀) lt) (h1:1<=nrem) (hn:lo+nrem<=a₀.size) (g:Good a₀ κ st)
  (h:∀st' n,Good a₀ κ st'->1<=n->n<=nrem->Up lt (AR st') lo (lo+n)->Out (AR st) (AR st') lo (lo+nrem)->AV st'=AV st->Q (some n) st'):wpS (Ac prog w) A E s (countRun' lo nrem) Q st:=by
 rw [countRun'_eq]
 refine AL (C1 (Bz (I:=λx c st'=>st'=st/\c=(none,x)/\Up lt (AR st) lo (lo+x))
  (Q:=λc st'=>st'=st/\∃n,c=(none,n)/\1<=n/\n<=nrem/\Up lt (AR st) lo (lo+n)/\(n=nrem∨lt (ix (AR st) (lo+n)) (ix (AR st) (lo+n - 1))=true)) ?step ?fin ?init) ?post)
 case init=>
  refine ⟨rfl,rfl,λi j a1 a2 a3=>?_⟩
  have:i=j:=by lia
  subst this;exact O.irr (g.mem (by lia))
 case fin=>
  rintro c st' ⟨rfl,rfl,u⟩
  have e:max 1 nrem=nrem:=by lia
  rw [e] at u ⊢;exact ⟨rfl,nrem,rfl,h1,AN _,u,.inl rfl⟩
 case step=>
  rintro x c st' hx1 hx2 ⟨rfl,rfl,u⟩;dsimp only;refine AL (Md C g (by lia) (by lia) ?_)
  cases hq:lt (ix (AR st') (lo+x)) (ix (AR st') (lo+x - 1)) with
  | true=>exact AM ⟨rfl,x,rfl,hx1,by lia,u,.inr hq⟩
  | false=>exact AM ⟨rfl,rfl,Up.grow (hi:=lo+x) O g (by lia) u (by lia) hq⟩
 case post=>
  rintro c st' ⟨rfl,n,rfl,hn1,hn2,u,hd⟩;dsimp only
  by_cases hnn:n=nrem
  ·rw [qX (by simpa using hnn)]
   exact AM (h st' n g hn1 hn2 u .refl rfl)
  ·rw [qY (by simpa using hnn)]
   have hd':=hd.resolve_left hnn
   have desc:∀(st1:BK),Good a₀ κ st1->Dn lt (AR st1) lo (lo+(n+1))->Out (AR st') (AR st1) lo (lo+nrem)->AV st1=AV st' ->
     wpS (Ac prog w) A E s (do
      liftM (rule "list.sort.descending-run")
      let mut n:=n+1
      let mut neq:=0
      for _ in [n:nrem] do
       let some smaller <-i9 (lo+n) (lo+n - 1) | return none
       if smaller then
        if neq > 0 then Nq (lo+n - (neq+1)) (lo+n)
        neq:=0
       else
        let some larger <-i9 (lo+n - 1) (lo+n) | return none
        if larger then break
        neq:=neq+1
       n:=n+1
      if neq > 0 then Nq (lo+n - (neq+1)) (lo+n)
      Nq lo (lo+n)
      for _ in [n:nrem] do
       let some smaller <-i9 (lo+n) (lo+n - 1) | return none
       if smaller then break
       n:=n+1
      return some n) Q st1:=by
    intro st1 g1 d1 o1 p1;refine AL (Iq ?_)
    refine AL (C1 (Bz (I:=λx c st2=>Good a₀ κ st2/\∃q,c=(none,x,q)/\q+1<=x/\Dn lt (AR st2) lo (lo+x)/\Up lt (AR st2) (lo+x - (q+1)) (lo+x)/\Out (AR st') (AR st2) lo (lo+nrem)/\AV st2=AV st')
     (Q:=λc st2=>Good a₀ κ st2/\∃n q,c=(none,n,q)/\n<=nrem/\q+1<=n/\Dn lt (AR st2) lo (lo+n)/\Up lt (AR st2) (lo+n - (q+1)) (lo+n)/\Out (AR st') (AR st2) lo (lo+nrem)/\AV st2=AV st') ?dstep ?dfin ?dinit) ?dpost)
    case dinit=>
     refine ⟨g1,0,rfl,by lia,d1,?_,o1,p1⟩;have:=T1 O g1 (lo:=lo+n) (by lia);rwa [show lo+(n+1) - (0+1)=lo+n by lia,show lo+(n+1)=lo+n+1 by lia]
    case dfin=>
     rintro c st2 ⟨g2,q,rfl,hq,d2,u2,o2,p2⟩
     have e:max (n+1) nrem=nrem:=by lia
     rw [e] at d2 u2 hq ⊢;exact ⟨g2,nrem,q,rfl,AN _,hq,d2,u2,o2,p2⟩
    case dstep=>
     rintro x c st2 hx1 hx2 ⟨g2,q,rfl,hq,d2,u2,o2,p2⟩;dsimp only;refine AL (Md C g2 (by lia) (by lia) ?_)
     cases hs:lt (ix (AR st2) (lo+x)) (ix (AR st2) (lo+x - 1)) with
     | true=>
      dsimp only;rw [qX rfl];have hlt:=O.asym _ _ (g2.mem (show lo+x < _ by lia)) (g2.mem (show lo+x - 1 < _ by lia)) hs
      by_cases hq0:q > 0
      ·rw [qX hq0,KZ]
       have hsz:lo+x<=(AR st2).size:=by rw [g2.size];lia
       have g3:Good a₀ κ (setArr st2 (JD (AR st2) (lo+x - (q+1)) (lo+x) ((lo+x - (lo+x - (q+1))) / 2))):=g2.setArr (Rs _ _ _ _);have d3:=Dn.part (lt:=lt) (lo:=lo) hsz (show lo<=lo+x - (q+1) by lia) (by omega) d2 u2;refine AL (DE (AM ⟨g3,0,rfl,by lia,?_,?_,o2.trans (JN hsz (by lia) (by lia)),p2⟩))
       ·refine Dn.grow (hi:=lo+x) O g3 (by lia) d3 (by lia) ?_
        show lt (ix (JD (AR st2) (lo+x - (q+1)) (lo+x) ((lo+x - (lo+x - (q+1))) / 2)) (lo+x - 1)) (ix (JD (AR st2) (lo+x - (q+1)) (lo+x) ((lo+x - (lo+x - (q+1))) / 2)) (lo+x))=false;rw [Ds hsz,Ds hsz,qX (by omega),qY (by lia)];exact O.ntr _ _ _ (g2.mem (by lia)) (g2.mem (show lo+x - 1 < _ by lia)) (g2.mem (by omega)) hlt (d2 _ _ (by lia) (by omega) (by lia))
       ·have:=T1 O g3 (lo:=lo+x) (by lia)
        rwa [show lo+(x+1) - (0+1)=lo+x by lia,show lo+(x+1)=lo+x+1 by lia]
      ·rw [qY hq0]
       refine AM ⟨g2,0,rfl,by lia,Dn.grow (hi:=lo+x) O g2 (by lia) d2 (by lia) hlt,?_,o2,p2⟩;have:=T1 O g2 (lo:=lo+x) (by lia);rwa [show lo+(x+1) - (0+1)=lo+x by lia,show lo+(x+1)=lo+x+1 by lia]
     | false=>
      dsimp only;rw [qY AX];refine AL (Md C g2 (by lia) (by lia) ?_)
      cases hl:lt (ix (AR st2) (lo+x - 1)) (ix (AR st2) (lo+x)) with
      | true=>exact AM ⟨g2,x,q,rfl,by lia,hq,d2,u2,o2,p2⟩
      | false=>
       refine AM ⟨g2,q+1,rfl,by lia,Dn.grow (hi:=lo+x) O g2 (by lia) d2 (by lia) hl,?_,o2,p2⟩;rw [show lo+(x+1) - (q+1+1)=lo+x - (q+1) by lia];exact Up.grow (hi:=lo+x) O g2 (by lia) u2 (by omega) hs
    case dpost=>
     rintro c st2 ⟨g2,m,q,rfl,hm,hq,d2,u2,o2,p2⟩;dsimp only
     have hsz:lo+m<=(AR st2).size:=by rw [g2.size];lia
     have last:∀st3,Good a₀ κ st3->Dn lt (AR st3) lo (lo+m)->Out (AR st') (AR st3) lo (lo+nrem)->AV st3=AV st'->∀(R:StateT BK Sem (Option Nat)),R=(do
        let mut n:=m
        for _ in [n:nrem] do
         let some smaller <-i9 (lo+n) (lo+n - 1) | return none
         if smaller then break
         n:=n+1
        return some n)->wpS (Ac prog w) A E s (do Nq lo (lo+m);R) Q st3:=by
      rintro st3 g3 d3 o3 p3 R rfl
      have hsz3:lo+m<=(AR st3).size:=by rw [g3.size];lia
      rw [KZ];refine AL (DE ?_);have g4:Good a₀ κ (setArr st3 (JD (AR st3) lo (lo+m) ((lo+m - lo) / 2))):=g3.setArr (Rs _ _ _ _)
      exact aZ C O (by lia) hm hn g4 (Dn.flip hsz3 d3) λk k1 k2 k3=>h _ k g4 k1 k2 k3 (o3.trans (JN hsz3 (by lia) (by lia))) p3
     by_cases hq0:q > 0
     ·rw [qX hq0,KZ]
      refine AL (DE ?_);exact last _ (g2.setArr (Rs _ _ _ _)) (Dn.part hsz (by lia) (by omega) d2 u2) (o2.trans (JN hsz (by lia) (by lia))) p2 _ rfl
     ·rw [qY hq0]
      exact last _ g2 d2 o2 p2 _ rfl
   have hlt:=O.asym _ _ (g.mem (show lo+n < _ by lia)) (g.mem (show lo+n - 1 < _ by omega)) hd'
   by_cases hn0:n > 1
   ·rw [qX hn0]
    refine AL (Md C g (by lia) (by omega) ?_)
    cases hr:lt (ix (AR st') lo) (ix (AR st') (lo+n - 1)) with
    | true=>exact AM (h st' n g hn1 hn2 u .refl rfl)
    | false=>
     dsimp only;rw [qY AX,KZ]
     have hsz:lo+n<=(AR st').size:=by rw [g.size];lia
     have g1:Good a₀ κ (setArr st' (JD (AR st') lo (lo+n) ((lo+n - lo) / 2))):=g.setArr (Rs _ _ _ _)
     have al:∀i j,lo<=i->i < lo+n->lo<=j->j < lo+n->lt (ix (AR st') i) (ix (AR st') j)=false:=λi j i1 i2 j1 j2=>by
      have q1:=u j (lo+n - 1) (by omega) (by lia) (by omega);have q2:=u lo i (by lia) (by omega) (by omega);exact O.ntr _ _ _ (g.mem (by lia)) (g.mem (show lo < _ by lia)) (g.mem (by lia)) (O.ntr _ _ _ (g.mem (by lia)) (g.mem (show lo+n - 1 < _ by lia)) (g.mem (by lia)) q1 hr) q2
     refine AL (DE ?_);refine desc _ g1 ?_ (JN hsz (by lia) (by lia)) rfl;refine Dn.grow (hi:=lo+n) O g1 (by lia) (λi j a1 a2 a3=>?_) (by lia) ?_
     ·show lt (ix (JD (AR st') lo (lo+n) ((lo+n - lo) / 2)) i) (ix (JD (AR st') lo (lo+n) ((lo+n - lo) / 2)) j)=false
      rw [Ds hsz,Ds hsz,qX (by lia),qX (by lia)];exact al _ _ (by omega) (by omega) (by omega) (by omega)
     ·show lt (ix (JD (AR st') lo (lo+n) ((lo+n - lo) / 2)) (lo+n - 1)) (ix (JD (AR st') lo (lo+n) ((lo+n - lo) / 2)) (lo+n))=false
      rw [Ds hsz,Ds hsz,qX (by omega),qY (by lia),show lo+(lo+n) - 1 - (lo+n - 1)=lo by omega];exact O.ntr _ _ _ (g.mem (by lia)) (g.mem (show lo+n - 1 < _ by lia)) (g.mem (by lia)) hlt hr
   ·rw [qY hn0]
    have e:n=1:=by lia
    subst e;refine desc _ g (Dn.grow (hi:=lo+1) O g (by lia) (λi j a1 a2 a3=>?_) (by lia) hlt) .refl rfl
    have e1:i=lo:=by lia
    have e2:j=lo:=by lia
    rw [e1,e2];exact O.irr (g.mem (by lia))
end
def kU:Bool->Ao->Array Ao->Nat->Nat->Nat->StateT BK Sem (Option Nat):=sortPriv% PySem.Builtin.gallop
section
variable {prog:Ak} {w:A9} {A:BB} {E:AC->AG->Prop} {s:AG} {a₀:Array Ao} {κ:FS} {lt:Ao->Ao->Bool}
abbrev BS:=Option (Option Nat)×Nat×Nat
theorem de {st:BK} {p:Nat->Bool} {n lo hi:Nat} {F:Nat->BS->StateT BK Sem (ForInStep BS)} {T:BS->StateT BK Sem (Option Nat)} {Q:Option Nat->BK->Prop} (hlh:lo<=hi) (hhn:hi<=n)
  (hlo:∀i,i < lo->p i=true) (hhi:∀i,hi<=i->i < n->p i=false) (mono:∀i j,i<=j->j < n->p j=true->p i=true)
  (hF:∀x l h (R:ForInStep BS->BK->Prop),l<=h->h<=n->(l ≥ h->R (.done (none,l,h)) st)->(l < h->p (l+(h - l) / 2)=true->R (.yield (none,l+(h - l) / 2+1,h)) st)->(l < h->p (l+(h - l) / 2)=false->R (.yield (none,l,l+(h - l) / 2)) st) ->
   wpS (Ac prog w) A E s (F x (none,l,h)) R st)
  (hT:∀l h,h<=n->(∀i,i < h->p i=true)->(∀i,h<=i->i < n->p i=false)->wpS (Ac prog w) A E s (T (none,l,h)) Q st):wpS (Ac prog w) A E s (forIn [0:n] (none,lo,hi) F >>= T) Q st:=by
 refine AL (C1 (Bz (I:=λx c st'=>st'=st/\∃l h,c=(none,l,h)/\l<=h/\h<=n/\h - l<=n - x/\(∀i,i < l->p i=true)/\(∀i,h<=i->i < n->p i=false))
  (Q:=λc st'=>st'=st/\∃l h,c=(none,l,h)/\h<=n/\(∀i,i < h->p i=true)/\(∀i,h<=i->i < n->p i=false)) ?step ?fin ⟨rfl,lo,hi,rfl,hlh,hhn,by lia,hlo,hhi⟩) ?post)
 case fin=>
  rintro c st' ⟨rfl,l,h,rfl,h1,h2,h3,h4,h5⟩
  have:l=h:=by lia
  subst this;exact ⟨rfl,l,l,rfl,h2,h4,h5⟩
 case step=>
  rintro x c st' _ hx ⟨rfl,l,h,rfl,h1,h2,h3,h4,h5⟩
  refine hF x l h _ h1 h2 (λhge=>?_) (λhlt hp=>?_) λhlt hp=>?_
  ·have:l=h:=by lia
   subst this;exact ⟨rfl,l,l,rfl,h2,h4,h5⟩
  ·exact ⟨rfl,_,_,rfl,by lia,h2,by omega,λi hi=>mono i (l+(h - l) / 2) (by lia) (by lia) hp,h5⟩
  ·refine ⟨rfl,_,_,rfl,by lia,by lia,by omega,h4,λi hi1 hi2=>?_⟩
   cases e:p i with
   | false=>rfl
   | true=>rw [mono _ i hi1 hi2 e] at hp;cases hp
 case post=>
  rintro c st' ⟨rfl,l,h,rfl,h2,h4,h5⟩;exact hT l h h2 h4 h5
theorem Vq {st:BK} {q:Nat->Bool} {n mx:Nat} {F:Nat->BS->StateT BK Sem (ForInStep BS)} {T:BS->StateT BK Sem (Option Nat)} {Q:Option Nat->BK->Prop} (hm:mx<=n) (q0:q 0=true)
  (hF:∀x a b (R:ForInStep BS->BK->Prop),a < b->(b ≥ mx->R (.done (none,a,b)) st)->(b < mx->q b=false->R (.done (none,a,b)) st)->(b < mx->q b=true->R (.yield (none,b,2 * b+1)) st)->wpS (Ac prog w) A E s (F x (none,a,b)) R st)
  (hT:∀a b,a < b->q a=true->(a=0∨a < mx)->(b < mx->q b=false)->wpS (Ac prog w) A E s (T (none,a,b)) Q st):wpS (Ac prog w) A E s (forIn [0:n] (none,0,1) F >>= T) Q st:=by
 refine AL (C1 (Bz (I:=λx c st'=>st'=st/\∃a b,c=(none,a,b)/\a < b/\x+1<=b/\q a=true/\(a=0∨a < mx))
  (Q:=λc st'=>st'=st/\∃a b,c=(none,a,b)/\a < b/\q a=true/\(a=0∨a < mx)/\(b < mx->q b=false)) ?step ?fin ⟨rfl,0,1,rfl,by lia,by lia,q0,.inl rfl⟩) ?post)
 case fin=>
  rintro c st' ⟨rfl,a,b,rfl,h1,h2,h3,h4⟩;exact ⟨rfl,a,b,rfl,h1,h3,h4,λh=>by lia⟩
 case step=>
  rintro x c st' _ hx ⟨rfl,a,b,rfl,h1,h2,h3,h4⟩
  refine hF x a b _ h1 (λhge=>?_) (λhlt hp=>?_) λhlt hp=>?_
  ·exact ⟨rfl,a,b,rfl,h1,h3,h4,λh=>by lia⟩
  ·exact ⟨rfl,a,b,rfl,h1,h3,h4,λ_=>hp⟩
  ·exact ⟨rfl,b,2 * b+1,rfl,by lia,by lia,hp,.inr hlt⟩
 case post=>
  rintro c st' ⟨rfl,a,b,rfl,h1,h3,h4,h5⟩;exact hT a b h1 h3 h4 h5
theorem El {st:BK} {left:Bool} {key:Ao} {arr:Array Ao} {base n hint:Nat} {Q:Option Nat->BK->Prop} (C:Jm prog w A s a₀ κ lt) (g:Good a₀ κ st) (p:Nat->Bool)
  (hkey:key∈a₀) (harr:∀i,i < n->base+i < arr.size/\ix arr (base+i)∈a₀) (hp:∀i,i < n->p i=if left=true then lt (ix arr (base+i)) key else !lt key (ix arr (base+i)))
  (mono:∀i j,i<=j->j < n->p j=true->p i=true) (hh:hint < n)
  (h:∀k,k<=n->(∀i,i < k->p i=true)->(∀i,k<=i->i < n->p i=false)->Q (some k) st):wpS (Ac prog w) A E s (kU left key arr base n hint) Q st:=by
 have bey:∀i,i < n->∀R:Option Bool->BK->Prop,R (some (p i)) st->wpS (Ac prog w) A E s (do let x <-elem' arr (base+i);if left=true then lt' x key else do let y <-lt' key x;pure (y.map (!·))) R st:=by
  intro i hi R hR;obtain ⟨h1,h2⟩:=harr i hi;rw [aO,C7 h1];refine AL (AM ?_);rw [hp i hi] at hR
  cases left with
  | true=>exact OF C g h2 hkey hR
  | false=>exact AL (OF C g hkey h2 (AM hR))
 refine (AL ?_:wpS _ _ _ _ (kU left key arr base n hint) Q st);refine bey hint hh _ ?_
 have fin:∀(lo hi:Nat) {F:Nat->BS->StateT BK Sem (ForInStep BS)} {T:BS->StateT BK Sem (Option Nat)},lo<=hi->hi<=n->(∀i,i < lo->p i=true)->(∀i,hi<=i->i < n->p i=false) ->
   (∀x l h' (R:ForInStep BS->BK->Prop),l<=h'->h'<=n->(l ≥ h'->R (.done (none,l,h')) st)->(l < h'->p (l+(h' - l) / 2)=true->R (.yield (none,l+(h' - l) / 2+1,h')) st)->(l < h'->p (l+(h' - l) / 2)=false->R (.yield (none,l,l+(h' - l) / 2)) st) ->
    wpS (Ac prog w) A E s (F x (none,l,h')) R st)->(∀l h',T (none,l,h')=pure (some h'))->wpS (Ac prog w) A E s (forIn [0:n] (none,lo,hi) F >>= T) Q st:=λlo hi F T h1 h2 h3 h4 hF hT=>
  de h1 h2 h3 h4 mono hF λl h' q1 q2 q3=>by rw [hT];exact AM (h h' q1 q2 q3)
 cases hq:p hint with
 | true=>
  dsimp only;rw [qX rfl]
  refine Vq (q:=λi=>decide (hint+i < n)&&p (hint+i)) (mx:=n - hint) (by lia) (by simp [hq,hh]) (λx a b R hab r1 r2 r3=>?_) λa b hab qa ha hb=>?_
  ·dsimp only
   by_cases hge:b ≥ n - hint
   ·rw [qX hge];exact AM (r1 hge)
   ·rw [qY hge]
    refine AL (bey (hint+b) (by lia) _ ?_);have hd:decide (hint+b < n)=true:=wX (by lia)
    cases e:p (hint+b) with
    | true=>exact AM (r3 (by lia) (by simp [hd,e]))
    | false=>exact AM (r2 (by lia) (by simp [hd,e]))
  ·dsimp only
   have pa:p (hint+a)=true:=by simp at qa;exact qa.2
   have han:hint+a < n:=by simp at qa;exact qa.1
   refine fin (hint+a+1) (hint+min b (n - hint)) (by omega) (by omega) (λi hi=>mono i (hint+a) (by lia) han pa) (λi h1 h2=>?_) (λx l h' R l1 l2 r1 r2 r3=>?_) λl h'=>rfl
   ·by_cases hbm:b < n - hint
    ·have:=hb hbm
     have hd:decide (hint+b < n)=true:=wX (by lia);rw [hd,et] at this
     cases e:p i with
     | false=>rfl
     | true=>rw [mono (hint+b) i (by lia) h2 e] at this;cases this
    ·omega
   ·dsimp only
    by_cases hge:l ≥ h'
    ·rw [qX hge];exact AM (r1 hge)
    ·rw [qY hge]
     refine AL (bey (l+(h' - l) / 2) (by lia) _ ?_)
     cases e:p (l+(h' - l) / 2) with
     | true=>exact AM (r2 (by lia) e)
     | false=>exact AM (r3 (by lia) e)
 | false=>
  dsimp only;rw [qY AX]
  refine Vq (q:=λi=>decide (i<=hint)&&!p (hint - i)) (mx:=hint+1) (by lia) (by simp [hq]) (λx a b R hab r1 r2 r3=>?_) λa b hab qa ha hb=>?_
  ·dsimp only
   by_cases hge:b ≥ hint+1
   ·rw [qX hge];exact AM (r1 hge)
   ·rw [qY hge]
    refine AL (bey (hint - b) (by omega) _ ?_);have hd:decide (b<=hint)=true:=wX (by lia)
    cases e:p (hint - b) with
    | true=>exact AM (r2 (by lia) (by simp [hd,e]))
    | false=>exact AM (r3 (by lia) (by simp [hd,e]))
  ·dsimp only
   have pa:p (hint - a)=false:=by simp at qa;exact qa.2
   have han:a<=hint:=by simp at qa;exact qa.1
   refine fin (hint+1 - min b (hint+1)) (hint - a) (by omega) (by omega) (λi hi=>?_) (λi h1 h2=>?_) (λx l h' R l1 l2 r1 r2 r3=>?_) λl h'=>rfl
   ·by_cases hbm:b < hint+1
    ·have:=hb hbm
     have hd:decide (b<=hint)=true:=wX (by lia);rw [hd,et] at this;exact mono i (hint - b) (by omega) (by lia) (by simpa using this)
    ·omega
   ·cases e:p i with
    | false=>rfl
    | true=>rw [mono (hint - a) i h1 h2 e] at pa;cases pa
   ·dsimp only
    by_cases hge:l ≥ h'
    ·rw [qX hge];exact AM (r1 hge)
    ·rw [qY hge]
     refine AL (bey (l+(h' - l) / 2) (by lia) _ ?_)
     cases e:p (l+(h' - l) / 2) with
     | true=>exact AM (r2 (by lia) e)
     | false=>exact AM (r3 (by lia) e)
end
structure MI (R:Ao->Ao->Prop) (T o ra rb:List Ao):Prop where
 perm:(o++(ra++rb)).Perm T
 srt:o.Pairwise R
 low:∀x∈o,∀y∈ra++rb,R x y
 sa:ra.Pairwise R
 sb:rb.Pairwise R
structure HW (R:Ao->Ao->Prop) (T r:List Ao):Prop where
 perm:r.Perm T
 srt:r.Pairwise R
section
variable {R:Ao->Ao->Prop} {T o ra rb xs:List Ao}
theorem MI.takeA (m:MI R T o (xs++ra) rb) (h:∀x∈xs,∀y∈rb,R x y):MI R T (o++xs) ra rb:=by
 have sa:=BV.mp m.sa;refine ⟨by simpa [BG] using m.perm,BV.mpr ⟨m.srt,sa.1,λx hx y hy=>m.low x hx y (by simp [hy])⟩,λx hx y hy=>?_,sa.2.1,m.sb⟩
 rcases Ai.mp hx with hx | hx
 ·exact m.low x hx y (by rcases Ai.mp hy with h | h <;> simp [h])
 ·rcases Ai.mp hy with hy | hy
  ·exact sa.2.2 x hx y hy
  ·exact h x hx y hy
theorem MI.takeB (m:MI R T o ra (xs++rb)) (h:∀x∈xs,∀y∈ra,R x y):MI R T (o++xs) ra rb:=by
 have sb:=BV.mp m.sb;refine ⟨?_,BV.mpr ⟨m.srt,sb.1,λx hx y hy=>m.low x hx y (by simp [hy])⟩,λx hx y hy=>?_,m.sa,sb.2.1⟩
 ·refine List.Perm.trans ?_ m.perm
  rw [BG];refine JF o ?_;rw [<-BG,<-BG];exact Pc rb Tr
 ·rcases Ai.mp hx with hx | hx
  ·exact m.low x hx y (by rcases Ai.mp hy with h | h <;> simp [h])
  ·rcases Ai.mp hy with hy | hy
   ·exact h x hx y hy
   ·exact sb.2.2 x hx y hy
theorem MI.endA (m:MI R T o ra []):HW R T (o++ra):=by
 refine ⟨by simpa using m.perm,BV.mpr ⟨m.srt,m.sa,λx hx y hy=>m.low x hx y (by simp [hy])⟩⟩
theorem MI.endB (m:MI R T o [] rb):HW R T (o++rb):=by
 refine ⟨by simpa using m.perm,BV.mpr ⟨m.srt,m.sb,λx hx y hy=>m.low x hx y (by simp [hy])⟩⟩
theorem MI.last (m:MI R T o ra rb) (h:∀y∈rb,∀x∈ra,R y x):HW R T (o++(rb++ra)):=by
 refine ⟨(JF o Tr).trans m.perm,BV.mpr ⟨m.srt,BV.mpr ⟨m.sb,m.sa,h⟩,λx hx y hy=>m.low x hx y (by rcases Ai.mp hy with h | h <;> simp [h])⟩⟩
end
theorem N5 {a:Array Ao} {i:Nat} (h:i < a.size):a.toList.drop i=ix a i :: a.toList.drop (i+1):=by
 rw [FF (by simpa using h)]
 congr 1
 have:=C7 h;rw [getElem?_pos a i h] at this;simpa using this
theorem Hq {a:Array Ao} {i k:Nat} (h:i+k<=a.size):a.toList.drop i=(a.extract i (i+k)).toList++a.toList.drop (i+k):=by
 have e:(a.extract i (i+k)).toList=(a.toList.drop i).take k:=by simp [NF]
 rw [e,<-P6,Ef]
theorem N0 {a:Array Ao} {i k:Nat} (h:i+k<=a.size) {x:Ao} (hx:x∈(a.extract i (i+k)).toList):∃j,j < k/\x=ix a (i+j):=by
 rw [BR,Nu] at hx;obtain ⟨j,hj,rfl⟩:=hx;refine ⟨j,by lia,?_⟩;have:=C7 (xs:=a) (i:=i+j) (by lia);rw [getElem?_pos a _ (by lia)] at this;simpa using this
theorem JZ (a:Array Ao) (i:Nat):(a.extract i a.size).toList=a.toList.drop i:=by
 simp [NF];exact EB (by simp)
theorem Fg {a:Array Ao} {i:Nat} {x:Ao} (hx:x∈a.toList.drop i):∃j,i<=j/\j < a.size/\x=ix a j:=by
 obtain ⟨k,hk,rfl⟩:=U2.mp hx;simp at hk;refine ⟨i+k,by lia,by omega,?_⟩;have:=C7 (xs:=a) (i:=i+k) (by omega);rw [getElem?_pos a _ (by omega)] at this;simpa using this
section
variable {prog:Ak} {w:A9} {A:BB} {E:AC->AG->Prop} {s:AG} {a₀:Array Ao} {κ:FS} {lt:Ao->Ao->Bool}
theorem Be {st:BK} {a:Array Ao} {i:Nat} {Q:Ao->BK->Prop} (h:i < a.size) (hq:Q (ix a i) st):wpS (Ac prog w) A E s (elem' a i) Q st:=by
 rw [aO,C7 h];exact AM hq
def mLo:Array Ao->Array Ao->StateT BK Sem (Array Ao):=sortPriv% PySem.Builtin.mergeLo
def mHi:Array Ao->Array Ao->StateT BK Sem (Array Ao):=sortPriv% PySem.Builtin.mergeHi
structure Jp (a₀:Array Ao) (κ:FS) (st st':BK):Prop where
 good:Good a₀ κ st'
 arr:AR st'=AR st
 pend:AV st'=AV st
theorem Jp.gal {st st':BK} (h:Jp a₀ κ st st') (n:Nat):Jp a₀ κ st (Gg (kindOf st') (AR st') (AV st') n (IA st')):=⟨⟨h.good.perm,h.good.kind,h.good.failed⟩,h.arr,h.pend⟩
abbrev Rl (lt:Ao->Ao->Bool) (x y:Ao):Prop:=lt y x=false
theorem SI (O:Ord (·∈a₀) lt) {a:Array Ao} (ma:∀i,i < a.size->ix a i∈a₀) (sa:a.toList.Pairwise (Rl lt)):∀i j,i<=j->j < a.size->Rl lt (ix a i) (ix a j):=λi j hij hj=>by
 by_cases e:i=j
 ·subst e;exact O.irr (ma i hj)
 ·have hd:=N5 (a:=a) (i:=i) (by lia)
  have:=sa.sublist (List.drop_sublist i a.toList);rw [hd] at this;refine (Xt.mp this).1 _ ?_;rw [show a.toList.drop (i+1)=(a.extract (i+1) (i+1+(j - (i+1)))).toList++a.toList.drop (i+1+(j - (i+1))) from Hq (by lia),show i+1+(j - (i+1))=j by lia,N5 hj];simp
theorem RJ {a:Array Ao} (ma:∀x∈a.toList,x∈a₀):∀i,i < a.size->ix a i∈a₀:=λi hi=>ma _ (BR.mpr (Ch (C7 hi)))
theorem Nv {st:BK} {n:Nat} {Q:Unit->BK->Prop} (h:Q () (Gg (kindOf st) (AR st) (AV st) n (IA st))):wpS (Ac prog w) A E s ((sortPriv% PySem.Builtin.setMinGallop) n) Q st:=DE h
abbrev L7:=Option (Array Ao)×Array Ao×Nat×Nat×Nat×Nat×Nat
theorem aX {st:BK} {a b:Array Ao} {Q:Array Ao->BK->Prop} (C:Jm prog w A s a₀ κ lt) (O:Ord (·∈a₀) lt) (g:Good a₀ κ st)
  (ma:∀x∈a.toList,x∈a₀) (mb:∀x∈b.toList,x∈a₀) (sa:a.toList.Pairwise (Rl lt)) (sb:b.toList.Pairwise (Rl lt)) (na:0 < a.size) (nb:0 < b.size)
  (h0:∀x∈a.toList,Rl lt (ix b 0) x) (h1:∀y∈b.toList,Rl lt y (ix a (a.size - 1)))
  (h:∀r st',Jp a₀ κ st st'->HW (Rl lt) (a.toList++b.toList) r.toList->Q r st'):wpS (Ac prog w) A E s (mLo a b) Q st:=by
 have ia0:=RJ ma;have ib0:=RJ mb;have ua:=SI O ia0 sa;have ub:=SI O ib0 sb
 have tr:∀x y z:Ao,x∈a₀->y∈a₀->z∈a₀->Rl lt x y->Rl lt y z->Rl lt x z:=λx y z hx hy hz h1 h2=>O.ntr x y z hx hy hz h1 h2
 let M (out:Array Ao) (ia ib:Nat):Prop:=MI (Rl lt) (a.toList++b.toList) out.toList (a.toList.drop ia) (b.toList.drop ib)
 have tA:∀out ia ib,M out ia ib->ia < a.size->(∀j,ib<=j->j < b.size->Rl lt (ix a ia) (ix b j))->M (out.push (ix a ia)) (ia+1) ib:=λout ia ib m hia hr=>by
  have m':MI (Rl lt) (a.toList++b.toList) out.toList ([ix a ia]++a.toList.drop (ia+1)) (b.toList.drop ib):=by rw [Gs,<-N5 hia];exact m
  have:=m'.takeA λx hx y hy=>by
   obtain ⟨j,j1,j2,rfl⟩:=Fg hy;rw [AQ.mp hx];exact hr j j1 j2
  simpa [M] using this
 have tB:∀out ia ib,M out ia ib->ib < b.size->(∀j,ia<=j->j < a.size->Rl lt (ix b ib) (ix a j))->M (out.push (ix b ib)) ia (ib+1):=λout ia ib m hib hr=>by
  have m':MI (Rl lt) (a.toList++b.toList) out.toList (a.toList.drop ia) ([ix b ib]++b.toList.drop (ib+1)):=by rw [Gs,<-N5 hib];exact m
  have:=m'.takeB λx hx y hy=>by
   obtain ⟨j,j1,j2,rfl⟩:=Fg hy;rw [AQ.mp hx];exact hr j j1 j2
  simpa [M] using this
 have sA:∀out ia ib k,M out ia ib->ia+k<=a.size->(∀i j,i < k->ib<=j->j < b.size->Rl lt (ix a (ia+i)) (ix b j))->M (out++a.extract ia (ia+k)) (ia+k) ib:=λout ia ib k m hk hr=>by
  have m':MI (Rl lt) (a.toList++b.toList) out.toList ((a.extract ia (ia+k)).toList++a.toList.drop (ia+k)) (b.toList.drop ib):=by rw [<-Hq hk];exact m
  have:=m'.takeA λx hx y hy=>by
   obtain ⟨j,j1,j2,rfl⟩:=Fg hy;obtain ⟨i,i1,rfl⟩:=N0 hk hx;exact hr i j i1 j1 j2
  show MI _ _ (out++a.extract ia (ia+k)).toList _ _;rw [BF];exact this
 have sB:∀out ia ib k,M out ia ib->ib+k<=b.size->(∀i j,i < k->ia<=j->j < a.size->Rl lt (ix b (ib+i)) (ix a j))->M (out++b.extract ib (ib+k)) ia (ib+k):=λout ia ib k m hk hr=>by
  have m':MI (Rl lt) (a.toList++b.toList) out.toList (a.toList.drop ia) ((b.extract ib (ib+k)).toList++b.toList.drop (ib+k)):=by rw [<-Hq hk];exact m
  have:=m'.takeB λx hx y hy=>by
   obtain ⟨j,j1,j2,rfl⟩:=Fg hy;obtain ⟨i,i1,rfl⟩:=N0 hk hx;exact hr i j i1 j1 j2
  show MI _ _ (out++b.extract ib (ib+k)).toList _ _;rw [BF];exact this
 have eB:∀out ia ib,M out ia ib->ib=b.size->HW (Rl lt) (a.toList++b.toList) (out++a.extract ia a.size++b.extract ib b.size).toList:=λout ia ib m e=>by
  subst e
  have m':MI (Rl lt) (a.toList++b.toList) out.toList (a.toList.drop ia) []:=by
   have:b.toList.drop b.size=[]:=by simp
   rw [<-this];exact m
  rw [BF,BF,JZ,JZ,show b.toList.drop b.size=[] by simp,BQ];exact m'.endA
 have eA:∀out ia ib,M out ia ib->ia=a.size->HW (Rl lt) (a.toList++b.toList) (out++a.extract ia a.size++b.extract ib b.size).toList:=λout ia ib m e=>by
  subst e
  have m':MI (Rl lt) (a.toList++b.toList) out.toList [] (b.toList.drop ib):=by
   have:a.toList.drop a.size=[]:=by simp
   rw [<-this];exact m
  rw [BF,BF,JZ,JZ,show a.toList.drop a.size=[] by simp,BQ];exact m'.endB
 have eL:∀out ia ib,M out ia ib->ia+1=a.size->HW (Rl lt) (a.toList++b.toList) (out++b.extract ib b.size++a.extract ia a.size).toList:=λout ia ib m e=>by
  have:=m.last λy hy x hx=>by
   obtain ⟨j,j1,j2,rfl⟩:=Fg hx;obtain ⟨i,i1,i2,rfl⟩:=Fg hy
   have:j=a.size - 1:=by lia
   subst this;exact h1 _ (BR.mpr (Ch (C7 i2)))
  rw [BF,BF,JZ,JZ,BG];exact this
 have m0:M #[] 0 0:=⟨by simp,by simp,by simp,by simpa using sa,by simpa using sb⟩
 have m1:M #[ix b 0] 0 1:=by
  have:=tB #[] 0 0 m0 nb λj _ hj=>h0 _ (BR.mpr (Ch (C7 hj)))
  simpa using this
 refine (AL (Iq ?_):wpS _ _ _ _ (mLo a b) Q st);refine AL (Be nb ?_)
 by_cases c1:1=b.size
 ·refine (show wpS (Ac prog w) A E s (if (1==b.size)=true then _ else _) Q st from ?_)
  rw [qX (by simpa using c1)];exact AM (h _ st ⟨g,rfl,rfl⟩ (eB _ _ _ m1 c1))
 refine (show wpS (Ac prog w) A E s (if (1==b.size)=true then _ else _) Q st from ?_);rw [qY (by simpa using c1)]
 by_cases c2:0+1=a.size
 ·rw [qX (by simpa using c2)]
  exact AM (h _ st ⟨g,rfl,rfl⟩ (eL _ _ _ m1 c2))
 rw [qY (by simpa using c2)];refine AL (G6 ?_)
 refine AL (C1 (Bz (I:=λx c st'=>Jp a₀ κ st st'/\∃out ia ib mg,c=(none,out,ia,ib,mg)/\M out ia ib/\ia+1 < a.size/\ib < b.size/\1+x<=ia+ib)
  (Q:=λc st'=>Jp a₀ κ st st'/\∃r z,c=(some r,z)/\HW (Rl lt) (a.toList++b.toList) r.toList) ?step ?fin ?init) ?post)
 case init=>exact ⟨⟨g,rfl,rfl⟩,_,_,_,_,rfl,m1,by lia,by lia,by lia⟩
 case fin=>
  rintro c st' ⟨_,out,ia,ib,mg,_,_,k1,k2,k3⟩
  lia
 case post=>
  rintro c st' ⟨s1,r,z,rfl,f⟩;exact AM (h r st' s1 f)
 case step=>
  rintro x c st1 _ _ ⟨s1,out,ia,ib,mg,rfl,m,k1,k2,k3⟩
  refine AL (C1 (Bz (I:=λy c st'=>st'=st1/\∃out' ia' ib' ac bc,c=(none,out',ia',ib',ac,bc)/\M out' ia' ib'/\ia'+1 < a.size/\ib' < b.size/\ia+ib+y<=ia'+ib')
   (Q:=λc st'=>st'=st1/\((∃r z,c=(some r,z)/\HW (Rl lt) (a.toList++b.toList) r.toList)∨∃out' ia' ib' ac bc,c=(none,out',ia',ib',ac,bc)/\M out' ia' ib'/\ia'+1 < a.size/\ib' < b.size/\ia+ib+1<=ia'+ib')) ?step1 ?fin1 ?init1) ?post1)
  case init1=>exact ⟨rfl,out,ia,ib,0,0,rfl,m,k1,k2,by lia⟩
  case fin1=>
   rintro c st' ⟨rfl,out',ia',ib',ac,bc,rfl,m',q1,q2,q3⟩;exact ⟨rfl,.inr ⟨out',ia',ib',ac,bc,rfl,m',q1,q2,by lia⟩⟩
  case step1=>
   rintro y c st' _ _ ⟨rfl,out',ia',ib',ac,bc,rfl,m',q1,q2,q3⟩;refine AL (Be (i:=ib') q2 ?_);refine AL (Be (i:=ia') (show ia' < a.size by lia) ?_);refine AL (OF C s1.good (ib0 _ q2) (ia0 _ (by lia)) ?_)
   cases e:lt (ix b ib') (ix a ia') with
   | true=>
    refine AL (Be q2 ?_);have r0:Rl lt (ix b ib') (ix a ia'):=O.asym _ _ (ib0 _ q2) (ia0 _ (by lia)) e
    have m2:=tB out' ia' ib' m' q2 λj j1 j2=>tr _ _ _ (ib0 _ q2) (ia0 _ (by lia)) (ia0 _ j2) r0 (ua ia' j j1 j2)
    refine (show wpS (Ac prog w) A E s (if (ib'+1==b.size)=true then _ else _) _ st' from ?_)
    by_cases d:ib'+1=b.size
    ·rw [qX (by simpa using d)]
     exact AM ⟨rfl,.inl ⟨_,_,rfl,eB _ _ _ m2 d⟩⟩
    ·rw [qY (by simpa using d)]
     split
     ·exact AM ⟨rfl,.inr ⟨_,ia',ib'+1,_,_,rfl,m2,by omega,by lia,by lia⟩⟩
     ·exact AM ⟨rfl,_,ia',ib'+1,_,_,rfl,m2,by omega,by lia,by lia⟩
   | false=>
    refine AL (Be (show ia' < a.size by lia) ?_)
    have m2:=tA out' ia' ib' m' (by lia) λj j1 j2=>tr _ _ _ (ia0 _ (by lia)) (ib0 _ q2) (ib0 _ j2) e (ub ib' j j1 j2)
    refine (show wpS (Ac prog w) A E s (if (ia'+1+1==a.size)=true then _ else _) _ st' from ?_)
    by_cases d:ia'+1+1=a.size
    ·rw [qX (by simpa using d)]
     exact AM ⟨rfl,.inl ⟨_,_,rfl,eL _ _ _ m2 d⟩⟩
    ·rw [qY (by simpa using d)]
     split
     ·exact AM ⟨rfl,.inr ⟨_,ia'+1,ib',_,_,rfl,m2,by lia,by omega,by lia⟩⟩
     ·exact AM ⟨rfl,_,ia'+1,ib',_,_,rfl,m2,by lia,by omega,by lia⟩
  case post1=>
   rintro c st' ⟨rfl,⟨r,z,rfl,f⟩ | ⟨out',ia',ib',ac,bc,rfl,m',q1,q2,q3⟩⟩
   ·exact AM ⟨s1,_,_,rfl,f⟩
   refine AL (Iq ?_)
   refine AL (C1 (Bz (I:=λy c st2=>Jp a₀ κ st st2/\∃out2 ia2 ib2 mg2 ac bc,c=(none,out2,ia2,ib2,mg2,ac,bc)/\M out2 ia2 ib2/\ia2+1 < a.size/\ib2 < b.size/\ia+ib+1<=ia2+ib2)
    (Q:=λc st2=>Jp a₀ κ st st2/\((∃r z,c=(some r,z)/\HW (Rl lt) (a.toList++b.toList) r.toList)∨∃out2 ia2 ib2 mg2 ac bc,c=(none,out2,ia2,ib2,mg2,ac,bc)/\M out2 ia2 ib2/\ia2+1 < a.size/\ib2 < b.size/\ia+ib+1<=ia2+ib2)) ?step2 ?fin2 ?init2) ?post2)
   case init2=>exact ⟨s1,out',ia',ib',mg+1,ac,bc,rfl,m',q1,q2,q3⟩
   case fin2=>
    rintro c st2 ⟨s2,out2,ia2,ib2,mg2,ac2,bc2,rfl,m2,p1,p2,p3⟩;exact ⟨s2,.inr ⟨out2,ia2,ib2,mg2,ac2,bc2,rfl,m2,p1,p2,p3⟩⟩
   case post2=>
    rintro c st2 ⟨s2,⟨r,z,rfl,f⟩ | ⟨out2,ia2,ib2,mg2,ac2,bc2,rfl,m2,p1,p2,p3⟩⟩
    ·exact AM ⟨s2,_,_,rfl,f⟩
    ·exact AL (Nv (AM ⟨s2.gal _,out2,ia2,ib2,mg2+1,rfl,m2,p1,p2,by lia⟩))
   case step2=>
    rintro y c st2 _ _ ⟨s2,out2,ia2,ib2,mg2,ac2,bc2,rfl,m2,p1,p2,p3⟩
    let P:ForInStep L7->BK->Prop:=λr st'=>match r with
     | .done c'=>Jp a₀ κ st st'/\((∃r z,c'=(some r,z)/\HW (Rl lt) (a.toList++b.toList) r.toList)∨∃out2 ia2 ib2 mg2 ac bc,c'=(none,out2,ia2,ib2,mg2,ac,bc)/\M out2 ia2 ib2/\ia2+1 < a.size/\ib2 < b.size/\ia+ib+1<=ia2+ib2)
     | .yield c'=>Jp a₀ κ st st'/\∃out2 ia2 ib2 mg2 ac bc,c'=(none,out2,ia2,ib2,mg2,ac,bc)/\M out2 ia2 ib2/\ia2+1 < a.size/\ib2 < b.size/\ia+ib+1<=ia2+ib2
    refine C1 (Q:=P) ?_ λr st' h=>by cases r <;> exact h
    refine (show wpS (Ac prog w) A E s (if mg2 > 1 then _ else _) P st2 from ?_);split
    all_goals
     refine AL (Nv ?_);refine AL (Be (i:=ib2) p2 ?_);refine AL (El (base:=ia2) (n:=a.size - ia2) (hint:=0) (arr:=a) (key:=ix b ib2) (left:=false) C (s2.gal _).good (λi=>!lt (ix b ib2) (ix a (ia2+i))) (ib0 _ p2) (λi hi=>⟨by lia,ia0 _ (by lia)⟩) (λi hi=>rfl) (λi j hij hj e=>?_) (by lia) λk hk k1 k2=>?_)
     ·have e':lt (ix b ib2) (ix a (ia2+j))=false:=by simpa using e
      have:=tr _ _ _ (ia0 _ (by lia)) (ia0 _ (by lia)) (ib0 _ p2) (ua (ia2+i) (ia2+j) (by lia) (by lia)) e';simpa using this
     ·have far:∀j,ia2+k<=j->j < a.size->Rl lt (ix b ib2) (ix a j):=λj j1 j2=>by
       have:=k2 (j - ia2) (by lia) (by lia);rw [show ia2+(j - ia2)=j by lia] at this;exact O.asym _ _ (ib0 _ p2) (ia0 _ j2) (by simpa using this)
      have m5:=sA out2 ia2 ib2 k m2 (by lia) λi j hi j1 j2=>tr _ _ _ (ia0 _ (by lia)) (ib0 _ p2) (ib0 _ j2) (by simpa using k1 i hi) (ub ib2 j j1 j2)
      refine (show wpS (Ac prog w) A E s (if k > 0 then _ else _) P _ from ?_)
      by_cases hk0:k > 0
      ·rw [qX hk0]
       refine (show wpS (Ac prog w) A E s (if (ia2+k+1==a.size)=true then _ else _) P _ from ?_)
       by_cases d1:ia2+k+1=a.size
       ·rw [qX (by simpa using d1)]
        exact AM ⟨s2.gal _,.inl ⟨_,_,rfl,eL _ _ _ m5 d1⟩⟩
       rw [qY (by simpa using d1)]
       by_cases d2:ia2+k=a.size
       ·rw [qX (by simpa using d2)]
        exact AM ⟨s2.gal _,.inl ⟨_,_,rfl,eA _ _ _ m5 d2⟩⟩
       rw [qY (by simpa using d2)]
       have c1:ia2+k+1 < a.size:=by lia
       have c3:ia+ib+1<=ia2+k+ib2:=by lia
       have m4:=tB _ _ _ m5 p2 far;refine AL (Be (i:=ib2) p2 ?_);refine (show wpS (Ac prog w) A E s (if (ib2+1==b.size)=true then _ else _) P _ from ?_)
       by_cases d:ib2+1=b.size
       ·rw [qX (by simpa using d)]
        exact AM ⟨s2.gal _,.inl ⟨_,_,rfl,eB _ _ _ m4 d⟩⟩
       rw [qY (by simpa using d)];refine AL (Be (i:=ia2+k) (by lia) ?_);refine AL (El (base:=ib2+1) (n:=b.size - (ib2+1)) (hint:=0) (arr:=b) (key:=ix a (ia2+k)) (left:=true) C (s2.gal _).good (λi=>lt (ix b (ib2+1+i)) (ix a (ia2+k))) (ia0 _ (by lia)) (λi hi=>⟨by lia,ib0 _ (by lia)⟩) (λi hi=>rfl) (λi j hij hj e=>?_) (by lia) λk3 hk3 k4 k5=>?_)
       ·cases e2:lt (ix b (ib2+1+i)) (ix a (ia2+k)) with
        | true=>rfl
        | false=>
         have:=tr _ _ _ (ia0 _ (by lia)) (ib0 _ (by lia)) (ib0 _ (by lia)) e2 (ub (ib2+1+i) (ib2+1+j) (by lia) (by lia));exact nomatch (show true=false from (show lt (ix b (ib2+1+j)) (ix a (ia2+k))=true from e).symm.trans this)
       ·have far2:∀j,ib2+1+k3<=j->j < b.size->Rl lt (ix a (ia2+k)) (ix b j):=λj j1 j2=>by
         have:=k5 (j - (ib2+1)) (by lia) (by omega);rwa [show ib2+1+(j - (ib2+1))=j by lia] at this
        have m6:=sB _ (ia2+k) (ib2+1) k3 m4 (by lia) λi j hi j1 j2=>tr _ _ _ (ib0 _ (by lia)) (ia0 _ (by lia)) (ia0 _ j2) (O.asym _ _ (ib0 _ (by lia)) (ia0 _ (by lia)) (k4 i hi)) (ua (ia2+k) j j1 j2)
        refine (show wpS (Ac prog w) A E s (if k3 > 0 then _ else _) P _ from ?_)
        by_cases hk3:k3 > 0
        ·rw [qX hk3]
         refine (show wpS (Ac prog w) A E s (if (ib2+1+k3==b.size)=true then _ else _) P _ from ?_)
         by_cases d2:ib2+1+k3=b.size
         ·rw [qX (by simpa using d2)]
          exact AM ⟨s2.gal _,.inl ⟨_,_,rfl,eB _ _ _ m6 d2⟩⟩
         rw [qY (by simpa using d2)];have m7:=tA _ _ _ m6 (by lia) far2;refine AL (Be (i:=ia2+k) (by lia) ?_);refine (show wpS (Ac prog w) A E s (if (ia2+k+1+1==a.size)=true then _ else _) P _ from ?_)
         by_cases d3:ia2+k+1+1=a.size
         ·rw [qX (by simpa using d3)]
          exact AM ⟨s2.gal _,.inl ⟨_,_,rfl,eL _ _ _ m7 d3⟩⟩
         rw [qY (by simpa using d3)];split
         ·exact AM ⟨s2.gal _,.inr ⟨_,ia2+k+1,ib2+1+k3,_,_,_,rfl,m7,by lia,by lia,by lia⟩⟩
         ·exact AM ⟨s2.gal _,_,ia2+k+1,ib2+1+k3,_,_,_,rfl,m7,by lia,by lia,by lia⟩
        ·rw [qY hk3]
         have:k3=0:=by lia
         subst this;have m7:=tA _ _ _ m4 (by lia) far2;refine AL (Be (i:=ia2+k) (by lia) ?_);refine (show wpS (Ac prog w) A E s (if (ia2+k+1+1==a.size)=true then _ else _) P _ from ?_)
         by_cases d3:ia2+k+1+1=a.size
         ·rw [qX (by simpa using d3)]
          exact AM ⟨s2.gal _,.inl ⟨_,_,rfl,eL _ _ _ m7 d3⟩⟩
         rw [qY (by simpa using d3)];split
         ·exact AM ⟨s2.gal _,.inr ⟨_,ia2+k+1,ib2+1,_,_,_,rfl,m7,by lia,by lia,by lia⟩⟩
         ·exact AM ⟨s2.gal _,_,ia2+k+1,ib2+1,_,_,_,rfl,m7,by lia,by lia,by lia⟩
      ·rw [qY hk0]
       have:k=0:=by lia
       subst this
       have c1:ia2+1 < a.size:=by omega
       have c3:ia+ib+1<=ia2+ib2:=by omega
       have m4:=tB _ _ _ m2 p2 far;refine AL (Be (i:=ib2) p2 ?_);refine (show wpS (Ac prog w) A E s (if (ib2+1==b.size)=true then _ else _) P _ from ?_)
       by_cases d:ib2+1=b.size
       ·rw [qX (by simpa using d)]
        exact AM ⟨s2.gal _,.inl ⟨_,_,rfl,eB _ _ _ m4 d⟩⟩
       rw [qY (by simpa using d)];refine AL (Be (i:=ia2) (by lia) ?_);refine AL (El (base:=ib2+1) (n:=b.size - (ib2+1)) (hint:=0) (arr:=b) (key:=ix a ia2) (left:=true) C (s2.gal _).good (λi=>lt (ix b (ib2+1+i)) (ix a ia2)) (ia0 _ (by lia)) (λi hi=>⟨by lia,ib0 _ (by lia)⟩) (λi hi=>rfl) (λi j hij hj e=>?_) (by lia) λk3 hk3 k4 k5=>?_)
       ·cases e2:lt (ix b (ib2+1+i)) (ix a ia2) with
        | true=>rfl
        | false=>
         have:=tr _ _ _ (ia0 _ (by lia)) (ib0 _ (by lia)) (ib0 _ (by lia)) e2 (ub (ib2+1+i) (ib2+1+j) (by lia) (by lia));exact nomatch (show true=false from (show lt (ix b (ib2+1+j)) (ix a ia2)=true from e).symm.trans this)
       ·have far2:∀j,ib2+1+k3<=j->j < b.size->Rl lt (ix a ia2) (ix b j):=λj j1 j2=>by
         have:=k5 (j - (ib2+1)) (by lia) (by omega);rwa [show ib2+1+(j - (ib2+1))=j by lia] at this
        have m6:=sB _ ia2 (ib2+1) k3 m4 (by lia) λi j hi j1 j2=>tr _ _ _ (ib0 _ (by lia)) (ia0 _ (by lia)) (ia0 _ j2) (O.asym _ _ (ib0 _ (by lia)) (ia0 _ (by lia)) (k4 i hi)) (ua ia2 j j1 j2)
        refine (show wpS (Ac prog w) A E s (if k3 > 0 then _ else _) P _ from ?_)
        by_cases hk3:k3 > 0
        ·rw [qX hk3]
         refine (show wpS (Ac prog w) A E s (if (ib2+1+k3==b.size)=true then _ else _) P _ from ?_)
         by_cases d2:ib2+1+k3=b.size
         ·rw [qX (by simpa using d2)]
          exact AM ⟨s2.gal _,.inl ⟨_,_,rfl,eB _ _ _ m6 d2⟩⟩
         rw [qY (by simpa using d2)];have m7:=tA _ _ _ m6 (by lia) far2;refine AL (Be (i:=ia2) (by lia) ?_);refine (show wpS (Ac prog w) A E s (if (ia2+1+1==a.size)=true then _ else _) P _ from ?_)
         by_cases d3:ia2+1+1=a.size
         ·rw [qX (by simpa using d3)]
          exact AM ⟨s2.gal _,.inl ⟨_,_,rfl,eL _ _ _ m7 d3⟩⟩
         rw [qY (by simpa using d3)];split
         ·exact AM ⟨s2.gal _,.inr ⟨_,ia2+1,ib2+1+k3,_,_,_,rfl,m7,by lia,by lia,by lia⟩⟩
         ·exact AM ⟨s2.gal _,_,ia2+1,ib2+1+k3,_,_,_,rfl,m7,by lia,by lia,by lia⟩
        ·rw [qY hk3]
         have:k3=0:=by lia
         subst this;have m7:=tA _ _ _ m4 (by lia) far2;refine AL (Be (i:=ia2) (by lia) ?_);refine (show wpS (Ac prog w) A E s (if (ia2+1+1==a.size)=true then _ else _) P _ from ?_)
         by_cases d3:ia2+1+1=a.size
         ·rw [qX (by simpa using d3)]
          exact AM ⟨s2.gal _,.inl ⟨_,_,rfl,eL _ _ _ m7 d3⟩⟩
         rw [qY (by simpa using d3)];split
         ·exact AM ⟨s2.gal _,.inr ⟨_,ia2+1,ib2+1,_,_,_,rfl,m7,by lia,by lia,by lia⟩⟩
         ·exact AM ⟨s2.gal _,_,ia2+1,ib2+1,_,_,_,rfl,m7,by lia,by lia,by lia⟩
end
theorem MI.last2 {R:Ao->Ao->Prop} {T o ra rb:List Ao} (m:MI R T o ra rb) (h:∀x∈ra,∀y∈rb,R x y):HW R T (o++(ra++rb)):=by
 refine ⟨m.perm,BV.mpr ⟨m.srt,BV.mpr ⟨m.sa,m.sb,h⟩,λx hx y hy=>m.low x hx y hy⟩⟩
theorem HW.rev {lt:Ao->Ao->Bool} {T r:List Ao} (f:HW (λx y=>Rl lt y x) T r):HW (Rl lt) T r.reverse:=⟨r.reverse_perm.trans f.perm,KO.mpr f.srt⟩
theorem VO {a:Array Ao} {i:Nat} (h:i < a.size):(a.toList.take (i+1)).reverse=ix a i :: (a.toList.take i).reverse:=by
 have:=C7 h;rw [getElem?_pos a i h] at this;rw [NE,show a.toList[i]?=some (ix a i) by simpa using C7 h];simp
theorem SJ {a:Array Ao} {i n:Nat} (h:i<=n) (hn:n<=a.size):(a.toList.take n).reverse=(a.extract i n).toList.reverse++(a.toList.take i).reverse:=by
 have e:(a.extract i n).toList=(a.toList.take n).drop i:=by simp [NF,List.drop_take]
 rw [e,<-List.reverse_append]
 congr 1
 have:=Ef i (a.toList.take n);rw [List.take_take,show min i n=i by lia] at this;exact this.symm
theorem Ff {a:Array Ao} {n:Nat} {x:Ao} (hx:x∈(a.toList.take n).reverse):∃j,j < n/\j < a.size/\x=ix a j:=by
 rw [aG] at hx;obtain ⟨k,hk,rfl⟩:=U2.mp hx;simp at hk;refine ⟨k,by lia,by lia,?_⟩;have:=C7 (xs:=a) (i:=k) (by lia);rw [getElem?_pos a _ (by lia)] at this;simpa using this
theorem Su {a:Array Ao} {i n:Nat} {x:Ao} (hx:x∈(a.extract i n).toList.reverse):∃j,i<=j/\j < n/\j < a.size/\x=ix a j:=by
 rw [aG,BR,Nu] at hx;obtain ⟨j,hj,rfl⟩:=hx;refine ⟨i+j,by lia,by omega,by omega,?_⟩;have:=C7 (xs:=a) (i:=i+j) (by omega);rw [getElem?_pos a _ (by omega)] at this;simpa using this
theorem Hb (a:Array Ao) (n:Nat):(a.extract 0 n).toList=a.toList.take n:=by simp [NF]
section
variable {prog:Ak} {w:A9} {A:BB} {E:AC->AG->Prop} {s:AG} {a₀:Array Ao} {κ:FS} {lt:Ao->Ao->Bool}
theorem aY {st:BK} {a b:Array Ao} {Q:Array Ao->BK->Prop} (C:Jm prog w A s a₀ κ lt) (O:Ord (·∈a₀) lt) (g:Good a₀ κ st)
  (ma:∀x∈a.toList,x∈a₀) (mb:∀x∈b.toList,x∈a₀) (sa:a.toList.Pairwise (Rl lt)) (sb:b.toList.Pairwise (Rl lt)) (pa:0 < a.size) (pb:0 < b.size)
  (h0:∀x∈a.toList,Rl lt (ix b 0) x) (h1:∀y∈b.toList,Rl lt y (ix a (a.size - 1)))
  (h:∀r st',Jp a₀ κ st st'->HW (Rl lt) (a.toList++b.toList) r.toList->Q r st'):wpS (Ac prog w) A E s (mHi a b) Q st:=by
 have ia0:=RJ ma;have ib0:=RJ mb;have ua:=SI O ia0 sa;have ub:=SI O ib0 sb
 have tr:∀x y z:Ao,x∈a₀->y∈a₀->z∈a₀->Rl lt x y->Rl lt y z->Rl lt x z:=λx y z hx hy hz h1 h2=>O.ntr x y z hx hy hz h1 h2
 let M (out:Array Ao) (na nb:Nat):Prop:=MI (λx y=>Rl lt y x) (a.toList++b.toList) out.toList (a.toList.take na).reverse (b.toList.take nb).reverse
 have tA0:∀out na nb,M out (na+1) nb->na < a.size->nb<=b.size->(∀j,j < nb->Rl lt (ix b j) (ix a na))->M (out.push (ix a na)) na nb:=λout na nb m hna hnb hr=>by
  have m':MI (λx y=>Rl lt y x) (a.toList++b.toList) out.toList ([ix a na]++(a.toList.take na).reverse) (b.toList.take nb).reverse:=by rw [Gs,<-VO hna];exact m
  have:=m'.takeA λx hx y hy=>by
   obtain ⟨j,j1,j2,rfl⟩:=Ff hy;rw [AQ.mp hx];exact hr j j1
  simpa [M] using this
 have tB0:∀out na nb,M out na (nb+1)->nb < b.size->na<=a.size->(∀j,j < na->Rl lt (ix a j) (ix b nb))->M (out.push (ix b nb)) na nb:=λout na nb m hnb hna hr=>by
  have m':MI (λx y=>Rl lt y x) (a.toList++b.toList) out.toList (a.toList.take na).reverse ([ix b nb]++(b.toList.take nb).reverse):=by rw [Gs,<-VO hnb];exact m
  have:=m'.takeB λx hx y hy=>by
   obtain ⟨j,j1,j2,rfl⟩:=Ff hy;rw [AQ.mp hx];exact hr j j1
  simpa [M] using this
 have tA:∀out na nb,M out na nb->0 < na->na<=a.size->nb<=b.size->(∀j,j < nb->Rl lt (ix b j) (ix a (na - 1)))->M (out.push (ix a (na - 1))) (na - 1) nb:=λout na nb m h0 hna hnb hr=>
  tA0 out (na - 1) nb (by rw [show na - 1+1=na by lia];exact m) (by omega) hnb hr
 have tB:∀out na nb,M out na nb->0 < nb->nb<=b.size->na<=a.size->(∀j,j < na->Rl lt (ix a j) (ix b (nb - 1)))->M (out.push (ix b (nb - 1))) na (nb - 1):=λout na nb m h0 hnb hna hr=>
  tB0 out na (nb - 1) (by rw [show nb - 1+1=nb by lia];exact m) (by omega) hna hr
 have sA:∀out na nb k,M out na nb->k<=na->na<=a.size->nb<=b.size->(∀i j,k<=i->i < na->j < nb->Rl lt (ix b j) (ix a i))->M (out++(a.extract k na).reverse) k nb:=λout na nb k m hk hna hnb hr=>by
  have m':MI (λx y=>Rl lt y x) (a.toList++b.toList) out.toList ((a.extract k na).toList.reverse++(a.toList.take k).reverse) (b.toList.take nb).reverse:=by rw [<-SJ hk hna];exact m
  have:=m'.takeA λx hx y hy=>by
   obtain ⟨j,j1,j2,rfl⟩:=Ff hy;obtain ⟨i,i1,i2,i3,rfl⟩:=Su hx;exact hr i j i1 i2 j1
  show MI _ _ (out++(a.extract k na).reverse).toList _ _;rw [BF,Es];exact this
 have sB:∀out na nb k,M out na nb->k<=nb->nb<=b.size->na<=a.size->(∀i j,k<=i->i < nb->j < na->Rl lt (ix a j) (ix b i))->M (out++(b.extract k nb).reverse) na k:=λout na nb k m hk hnb hna hr=>by
  have m':MI (λx y=>Rl lt y x) (a.toList++b.toList) out.toList (a.toList.take na).reverse ((b.extract k nb).toList.reverse++(b.toList.take k).reverse):=by rw [<-SJ hk hnb];exact m
  have:=m'.takeB λx hx y hy=>by
   obtain ⟨j,j1,j2,rfl⟩:=Ff hy;obtain ⟨i,i1,i2,i3,rfl⟩:=Su hx;exact hr i j i1 i2 j1
  show MI _ _ (out++(b.extract k nb).reverse).toList _ _;rw [BF,Es];exact this
 have eA:∀out na nb,M out na nb->na=0->HW (Rl lt) (a.toList++b.toList) (a.extract 0 na++b.extract 0 nb++out.reverse).toList:=λout na nb m e=>by
  subst e
  have m':MI (λx y=>Rl lt y x) (a.toList++b.toList) out.toList [] (b.toList.take nb).reverse:=by simpa [M] using m
  have:=m'.endB.rev;rw [BF,BF,Hb,Hb,Es];simpa using this
 have eB:∀out na nb,M out na nb->nb=0->HW (Rl lt) (a.toList++b.toList) (a.extract 0 na++b.extract 0 nb++out.reverse).toList:=λout na nb m e=>by
  subst e
  have m':MI (λx y=>Rl lt y x) (a.toList++b.toList) out.toList (a.toList.take na).reverse []:=by simpa [M] using m
  have:=m'.endA.rev;rw [BF,BF,Hb,Hb,Es];simpa using this
 have eF:∀out na nb,M out na nb->nb=1->HW (Rl lt) (a.toList++b.toList) (b.extract 0 nb++a.extract 0 na++out.reverse).toList:=λout na nb m e=>by
  have:=m.last2 λx hx y hy=>by
   obtain ⟨j,j1,j2,rfl⟩:=Ff hx;obtain ⟨i,i1,i2,rfl⟩:=Ff hy
   have:i=0:=by lia
   subst this;exact h0 _ (BR.mpr (Ch (C7 j2)))
  have:=this.rev;rw [BF,BF,Hb,Hb,Es];simpa using this
 have m0:M #[] a.size b.size:=by
  refine ⟨?_,by simp,by simp,?_,?_⟩
  ·rw [EB (by simp),EB (by simp)]
   simpa using List.Perm.append a.toList.reverse_perm b.toList.reverse_perm
  ·rw [EB (by simp)];exact KO.mpr sa
  ·rw [EB (by simp)];exact KO.mpr sb
 have m1:M #[ix a (a.size - 1)] (a.size - 1) b.size:=by
  have:=tA #[] a.size b.size m0 pa (AN _) (AN _) λj hj=>h1 _ (BR.mpr (Ch (C7 hj)))
  simpa using this
 refine (AL (Iq ?_):wpS _ _ _ _ (mHi a b) Q st);refine AL (Be (i:=a.size - 1) (by omega) ?_)
 by_cases c1:a.size - 1=0
 ·refine (show wpS (Ac prog w) A E s (if (a.size - 1==0)=true then _ else _) Q st from ?_)
  rw [qX (by simpa using c1)];exact AM (h _ st ⟨g,rfl,rfl⟩ (eA _ _ _ m1 c1))
 refine (show wpS (Ac prog w) A E s (if (a.size - 1==0)=true then _ else _) Q st from ?_);rw [qY (by simpa using c1)]
 by_cases c2:b.size=1
 ·rw [qX (by simpa using c2)]
  exact AM (h _ st ⟨g,rfl,rfl⟩ (eF _ _ _ m1 c2))
 rw [qY (by simpa using c2)];refine AL (G6 ?_)
 refine AL (C1 (Bz (I:=λx c st'=>Jp a₀ κ st st'/\∃out na nb mg,c=(none,na,nb,out,mg)/\M out na nb/\0 < na/\1 < nb/\na<=a.size/\nb<=b.size/\na+nb+1+x<=a.size+b.size)
  (Q:=λc st'=>Jp a₀ κ st st'/\∃r z,c=(some r,z)/\HW (Rl lt) (a.toList++b.toList) r.toList) ?step ?fin ?init) ?post)
 case init=>exact ⟨⟨g,rfl,rfl⟩,_,a.size - 1,b.size,_,rfl,m1,by lia,by lia,by omega,by lia,by lia⟩
 case fin=>
  rintro c st' ⟨_,out,na,nb,mg,_,_,k1,k2,k3,k4,k5⟩
  lia
 case post=>
  rintro c st' ⟨s1,r,z,rfl,f⟩;exact AM (h r st' s1 f)
 case step=>
  rintro x c st1 _ _ ⟨s1,out,na,nb,mg,rfl,m,k1,k2,k3,k4,k5⟩
  refine AL (C1 (Bz (I:=λy c st'=>st'=st1/\∃out' na' nb' ac bc,c=(none,na',nb',out',ac,bc)/\M out' na' nb'/\0 < na'/\1 < nb'/\na'<=a.size/\nb'<=b.size/\na'+nb'+y<=na+nb)
   (Q:=λc st'=>st'=st1/\((∃r z,c=(some r,z)/\HW (Rl lt) (a.toList++b.toList) r.toList)∨∃out' na' nb' ac bc,c=(none,na',nb',out',ac,bc)/\M out' na' nb'/\0 < na'/\1 < nb'/\na'<=a.size/\nb'<=b.size/\na'+nb'+1<=na+nb)) ?step1 ?fin1 ?init1) ?post1)
  case init1=>exact ⟨rfl,out,na,nb,0,0,rfl,m,k1,k2,k3,k4,by lia⟩
  case fin1=>
   rintro c st' ⟨rfl,out',na',nb',ac,bc,rfl,m',q1,q2,q3,q4,q5⟩;exact ⟨rfl,.inr ⟨out',na',nb',ac,bc,rfl,m',q1,q2,q3,q4,by lia⟩⟩
  case step1=>
   rintro y c st' _ _ ⟨rfl,out',na',nb',ac,bc,rfl,m',q1,q2,q3,q4,q5⟩;refine AL (Be (i:=nb' - 1) (by lia) ?_);refine AL (Be (i:=na' - 1) (by lia) ?_);refine AL (OF C s1.good (ib0 _ (by lia)) (ia0 _ (by lia)) ?_)
   cases e:lt (ix b (nb' - 1)) (ix a (na' - 1)) with
   | true=>
    refine AL (Be (i:=na' - 1) (by lia) ?_);have r0:Rl lt (ix b (nb' - 1)) (ix a (na' - 1)):=O.asym _ _ (ib0 _ (by lia)) (ia0 _ (by lia)) e
    have m2:=tA out' na' nb' m' q1 q3 q4 λj j1=>tr _ _ _ (ib0 _ (by lia)) (ib0 _ (by lia)) (ia0 _ (by lia)) (ub j (nb' - 1) (by lia) (by lia)) r0
    refine (show wpS (Ac prog w) A E s (if (na' - 1==0)=true then _ else _) _ st' from ?_)
    by_cases d:na' - 1=0
    ·rw [qX (by simpa using d)]
     exact AM ⟨rfl,.inl ⟨_,_,rfl,eA _ _ _ m2 d⟩⟩
    ·rw [qY (by simpa using d)]
     split
     ·exact AM ⟨rfl,.inr ⟨_,na' - 1,nb',_,_,rfl,m2,by lia,by omega,by lia,by omega,by lia⟩⟩
     ·exact AM ⟨rfl,_,na' - 1,nb',_,_,rfl,m2,by lia,by omega,by lia,by omega,by lia⟩
   | false=>
    refine AL (Be (i:=nb' - 1) (by lia) ?_)
    have m2:=tB out' na' nb' m' (by lia) q4 q3 λj j1=>tr _ _ _ (ia0 _ (by lia)) (ia0 _ (by lia)) (ib0 _ (by lia)) (ua j (na' - 1) (by lia) (by lia)) e
    refine (show wpS (Ac prog w) A E s (if (nb' - 1==1)=true then _ else _) _ st' from ?_)
    by_cases d:nb' - 1=1
    ·rw [qX (by simpa using d)]
     exact AM ⟨rfl,.inl ⟨_,_,rfl,eF _ _ _ m2 d⟩⟩
    ·rw [qY (by simpa using d)]
     split
     ·exact AM ⟨rfl,.inr ⟨_,na',nb' - 1,_,_,rfl,m2,by omega,by lia,by omega,by lia,by lia⟩⟩
     ·exact AM ⟨rfl,_,na',nb' - 1,_,_,rfl,m2,by omega,by lia,by omega,by lia,by lia⟩
  case post1=>
   rintro c st' ⟨rfl,⟨r,z,rfl,f⟩ | ⟨out',na',nb',ac,bc,rfl,m',q1,q2,q3,q4,q5⟩⟩
   ·exact AM ⟨s1,_,_,rfl,f⟩
   refine AL (Iq ?_)
   refine AL (C1 (Bz (I:=λy c st2=>Jp a₀ κ st st2/\∃out2 na2 nb2 mg2 ac bc,c=(none,na2,nb2,out2,mg2,ac,bc)/\M out2 na2 nb2/\0 < na2/\1 < nb2/\na2<=a.size/\nb2<=b.size/\na2+nb2+1<=na+nb)
    (Q:=λc st2=>Jp a₀ κ st st2/\((∃r z,c=(some r,z)/\HW (Rl lt) (a.toList++b.toList) r.toList)∨∃out2 na2 nb2 mg2 ac bc,c=(none,na2,nb2,out2,mg2,ac,bc)/\M out2 na2 nb2/\0 < na2/\1 < nb2/\na2<=a.size/\nb2<=b.size/\na2+nb2+1<=na+nb)) ?step2 ?fin2 ?init2) ?post2)
   case init2=>exact ⟨s1,out',na',nb',mg+1,ac,bc,rfl,m',q1,q2,q3,q4,q5⟩
   case fin2=>
    rintro c st2 ⟨s2,out2,na2,nb2,mg2,ac2,bc2,rfl,m2,p1⟩;exact ⟨s2,.inr ⟨out2,na2,nb2,mg2,ac2,bc2,rfl,m2,p1⟩⟩
   case post2=>
    rintro c st2 ⟨s2,⟨r,z,rfl,f⟩ | ⟨out2,na2,nb2,mg2,ac2,bc2,rfl,m2,p1,p2,p3,p4,p5⟩⟩
    ·exact AM ⟨s2,_,_,rfl,f⟩
    ·exact AL (Nv (AM ⟨s2.gal _,out2,na2,nb2,mg2+1,rfl,m2,p1,p2,p3,p4,by lia⟩))
   case step2=>
    rintro y c st2 _ _ ⟨s2,out2,na2,nb2,mg2,ac2,bc2,rfl,m2,p1,p2,p3,p4,p5⟩
    let P:ForInStep (Option (Array Ao)×Nat×Nat×Array Ao×Nat×Nat×Nat)->BK->Prop:=λr st'=>match r with
     | .done c'=>Jp a₀ κ st st'/\((∃r z,c'=(some r,z)/\HW (Rl lt) (a.toList++b.toList) r.toList)∨∃out2 na2 nb2 mg2 ac bc,c'=(none,na2,nb2,out2,mg2,ac,bc)/\M out2 na2 nb2/\0 < na2/\1 < nb2/\na2<=a.size/\nb2<=b.size/\na2+nb2+1<=na+nb)
     | .yield c'=>Jp a₀ κ st st'/\∃out2 na2 nb2 mg2 ac bc,c'=(none,na2,nb2,out2,mg2,ac,bc)/\M out2 na2 nb2/\0 < na2/\1 < nb2/\na2<=a.size/\nb2<=b.size/\na2+nb2+1<=na+nb
    refine C1 (Q:=P) ?_ λr st' h=>by cases r <;> exact h
    refine (show wpS (Ac prog w) A E s (if mg2 > 1 then _ else _) P st2 from ?_);split
    all_goals
     refine AL (Nv ?_);refine AL (Be (i:=nb2 - 1) (by lia) ?_);refine AL (El (base:=0) (n:=na2) (hint:=na2 - 1) (arr:=a) (key:=ix b (nb2 - 1)) (left:=false) C (s2.gal _).good (λi=>!lt (ix b (nb2 - 1)) (ix a (0+i))) (ib0 _ (by lia)) (λi hi=>⟨by lia,ia0 _ (by lia)⟩) (λi hi=>rfl) (λi j hij hj e=>?_) (by lia) λk hk k1 k2=>?_)
     ·have e':lt (ix b (nb2 - 1)) (ix a (0+j))=false:=by simpa using e
      have:=tr _ _ _ (ia0 _ (by lia)) (ia0 _ (by lia)) (ib0 _ (by lia)) (ua (0+i) (0+j) (by lia) (by lia)) e';simpa using this
     ·have near:∀j,j < k->Rl lt (ix a j) (ix b (nb2 - 1)):=λj j1=>by
       have:=k1 j j1;rw [GK] at this;simpa using this
      have m5:=sA out2 na2 nb2 k m2 hk p3 p4 λi j i1 i2 j1=>by
       have:=k2 i i1 i2;rw [GK] at this;exact tr _ _ _ (ib0 _ (by lia)) (ib0 _ (by lia)) (ia0 _ (by lia)) (ub j (nb2 - 1) (by lia) (by lia)) (O.asym _ _ (ib0 _ (by lia)) (ia0 _ (by lia)) (by simpa using this))
      refine (show wpS (Ac prog w) A E s (if na2 - k > 0 then _ else _) P _ from ?_)
      by_cases hk0:na2 - k > 0
      ·rw [qX hk0]
       refine (show wpS (Ac prog w) A E s (if (k==0)=true then _ else _) P _ from ?_)
       by_cases d1:k=0
       ·rw [qX (by simpa using d1)]
        exact AM ⟨s2.gal _,.inl ⟨_,_,rfl,eA _ _ _ m5 d1⟩⟩
       rw [qY (by simpa using d1)];have m4:=tB _ _ _ m5 (by lia) p4 (by lia) near;refine AL (Be (i:=nb2 - 1) (by lia) ?_);refine (show wpS (Ac prog w) A E s (if (nb2 - 1==1)=true then _ else _) P _ from ?_)
       by_cases d:nb2 - 1=1
       ·rw [qX (by simpa using d)]
        exact AM ⟨s2.gal _,.inl ⟨_,_,rfl,eF _ _ _ m4 d⟩⟩
       rw [qY (by simpa using d)];refine AL (Be (i:=k - 1) (by omega) ?_);refine AL (El (base:=0) (n:=nb2 - 1) (hint:=nb2 - 1 - 1) (arr:=b) (key:=ix a (k - 1)) (left:=true) C (s2.gal _).good (λi=>lt (ix b (0+i)) (ix a (k - 1))) (ia0 _ (by omega)) (λi hi=>⟨by lia,ib0 _ (by lia)⟩) (λi hi=>rfl) (λi j hij hj e=>?_) (by lia) λk3 hk3 k4 k5=>?_)
       ·cases e2:lt (ix b (0+i)) (ix a (k - 1)) with
        | true=>rfl
        | false=>
         have:=tr _ _ _ (ia0 _ (by lia)) (ib0 _ (by lia)) (ib0 _ (by lia)) e2 (ub (0+i) (0+j) (by lia) (by lia));exact nomatch (show true=false from (show lt (ix b (0+j)) (ix a (k - 1))=true from e).symm.trans this)
       ·have near2:∀j,j < k3->Rl lt (ix b j) (ix a (k - 1)):=λj j1=>by
         have:=k4 j j1;rw [GK] at this;exact O.asym _ _ (ib0 _ (by lia)) (ia0 _ (by omega)) this
        have m6:=sB _ k (nb2 - 1) k3 m4 hk3 (by lia) (by lia) λi j i1 i2 j1=>by
         have:=k5 i i1 i2;rw [GK] at this;exact tr _ _ _ (ia0 _ (by lia)) (ia0 _ (by lia)) (ib0 _ (by lia)) (ua j (k - 1) (by lia) (by lia)) this
        refine (show wpS (Ac prog w) A E s (if nb2 - 1 - k3 > 0 then _ else _) P _ from ?_)
        by_cases hk4:nb2 - 1 - k3 > 0
        ·rw [qX hk4]
         refine (show wpS (Ac prog w) A E s (if (k3==1)=true then _ else _) P _ from ?_)
         by_cases d2:k3=1
         ·rw [qX (by simpa using d2)]
          exact AM ⟨s2.gal _,.inl ⟨_,_,rfl,eF _ _ _ m6 d2⟩⟩
         rw [qY (by simpa using d2)]
         by_cases d4:k3=0
         ·rw [qX (by simpa using d4)]
          exact AM ⟨s2.gal _,.inl ⟨_,_,rfl,eB _ _ _ m6 d4⟩⟩
         rw [qY (by simpa using d4)];have m7:=tA _ _ _ m6 (by lia) (by lia) (by lia) near2;refine AL (Be (i:=k - 1) (by lia) ?_);refine (show wpS (Ac prog w) A E s (if (k - 1==0)=true then _ else _) P _ from ?_)
         by_cases d3:k - 1=0
         ·rw [qX (by simpa using d3)]
          exact AM ⟨s2.gal _,.inl ⟨_,_,rfl,eA _ _ _ m7 d3⟩⟩
         rw [qY (by simpa using d3)];split
         ·exact AM ⟨s2.gal _,.inr ⟨_,k - 1,k3,_,_,_,rfl,m7,by lia,by lia,by lia,by lia,by lia⟩⟩
         ·exact AM ⟨s2.gal _,_,k - 1,k3,_,_,_,rfl,m7,by lia,by lia,by lia,by lia,by lia⟩
        ·rw [qY hk4]
         have:k3=nb2 - 1:=by lia
         subst this;have m7:=tA _ _ _ m4 (by lia) (by lia) (by lia) near2;refine AL (Be (i:=k - 1) (by lia) ?_);refine (show wpS (Ac prog w) A E s (if (k - 1==0)=true then _ else _) P _ from ?_)
         by_cases d3:k - 1=0
         ·rw [qX (by simpa using d3)]
          exact AM ⟨s2.gal _,.inl ⟨_,_,rfl,eA _ _ _ m7 d3⟩⟩
         rw [qY (by simpa using d3)];split
         ·exact AM ⟨s2.gal _,.inr ⟨_,k - 1,nb2 - 1,_,_,_,rfl,m7,by lia,by lia,by lia,by lia,by lia⟩⟩
         ·exact AM ⟨s2.gal _,_,k - 1,nb2 - 1,_,_,_,rfl,m7,by lia,by lia,by lia,by lia,by lia⟩
      ·rw [qY hk0]
       have:k=na2:=by lia
       subst this;have m4:=tB _ _ _ m2 (by lia) p4 (by omega) near;refine AL (Be (i:=nb2 - 1) (by lia) ?_);refine (show wpS (Ac prog w) A E s (if (nb2 - 1==1)=true then _ else _) P _ from ?_)
       by_cases d:nb2 - 1=1
       ·rw [qX (by simpa using d)]
        exact AM ⟨s2.gal _,.inl ⟨_,_,rfl,eF _ _ _ m4 d⟩⟩
       rw [qY (by simpa using d)];refine AL (Be (i:=k - 1) (by lia) ?_);refine AL (El (base:=0) (n:=nb2 - 1) (hint:=nb2 - 1 - 1) (arr:=b) (key:=ix a (k - 1)) (left:=true) C (s2.gal _).good (λi=>lt (ix b (0+i)) (ix a (k - 1))) (ia0 _ (by lia)) (λi hi=>⟨by lia,ib0 _ (by lia)⟩) (λi hi=>rfl) (λi j hij hj e=>?_) (by lia) λk3 hk3 k4 k5=>?_)
       ·cases e2:lt (ix b (0+i)) (ix a (k - 1)) with
        | true=>rfl
        | false=>
         have:=tr _ _ _ (ia0 _ (by lia)) (ib0 _ (by lia)) (ib0 _ (by lia)) e2 (ub (0+i) (0+j) (by lia) (by lia));exact nomatch (show true=false from (show lt (ix b (0+j)) (ix a (k - 1))=true from e).symm.trans this)
       ·have near2:∀j,j < k3->Rl lt (ix b j) (ix a (k - 1)):=λj j1=>by
         have:=k4 j j1;rw [GK] at this;exact O.asym _ _ (ib0 _ (by lia)) (ia0 _ (by lia)) this
        have m6:=sB _ k (nb2 - 1) k3 m4 hk3 (by lia) (by omega) λi j i1 i2 j1=>by
         have:=k5 i i1 i2;rw [GK] at this;exact tr _ _ _ (ia0 _ (by lia)) (ia0 _ (by lia)) (ib0 _ (by lia)) (ua j (k - 1) (by lia) (by lia)) this
        refine (show wpS (Ac prog w) A E s (if nb2 - 1 - k3 > 0 then _ else _) P _ from ?_)
        by_cases hk4:nb2 - 1 - k3 > 0
        ·rw [qX hk4]
         refine (show wpS (Ac prog w) A E s (if (k3==1)=true then _ else _) P _ from ?_)
         by_cases d2:k3=1
         ·rw [qX (by simpa using d2)]
          exact AM ⟨s2.gal _,.inl ⟨_,_,rfl,eF _ _ _ m6 d2⟩⟩
         rw [qY (by simpa using d2)]
         by_cases d4:k3=0
         ·rw [qX (by simpa using d4)]
          exact AM ⟨s2.gal _,.inl ⟨_,_,rfl,eB _ _ _ m6 d4⟩⟩
         rw [qY (by simpa using d4)];have m7:=tA _ _ _ m6 (by omega) (by omega) (by lia) near2;refine AL (Be (i:=k - 1) (by lia) ?_);refine (show wpS (Ac prog w) A E s (if (k - 1==0)=true then _ else _) P _ from ?_)
         by_cases d3:k - 1=0
         ·rw [qX (by simpa using d3)]
          exact AM ⟨s2.gal _,.inl ⟨_,_,rfl,eA _ _ _ m7 d3⟩⟩
         rw [qY (by simpa using d3)];split
         ·exact AM ⟨s2.gal _,.inr ⟨_,k - 1,k3,_,_,_,rfl,m7,by lia,by lia,by lia,by lia,by lia⟩⟩
         ·exact AM ⟨s2.gal _,_,k - 1,k3,_,_,_,rfl,m7,by lia,by lia,by lia,by lia,by lia⟩
        ·rw [qY hk4]
         have:k3=nb2 - 1:=by lia
         subst this;have m7:=tA _ _ _ m4 (by omega) (by omega) (by lia) near2;refine AL (Be (i:=k - 1) (by lia) ?_);refine (show wpS (Ac prog w) A E s (if (k - 1==0)=true then _ else _) P _ from ?_)
         by_cases d3:k - 1=0
         ·rw [qX (by simpa using d3)]
          exact AM ⟨s2.gal _,.inl ⟨_,_,rfl,eA _ _ _ m7 d3⟩⟩
         rw [qY (by simpa using d3)];split
         ·exact AM ⟨s2.gal _,.inr ⟨_,k - 1,nb2 - 1,_,_,_,rfl,m7,by lia,by lia,by lia,by lia,by lia⟩⟩
         ·exact AM ⟨s2.gal _,_,k - 1,nb2 - 1,_,_,_,rfl,m7,by lia,by lia,by lia,by lia,by lia⟩
end
def wr (arr:Array Ao) (sa:Nat) (l:List (Ao×Nat)):Array Ao:=l.foldl (λa (x:Ao×Nat)=>match x with | (p,j)=>a.setIfInBounds (sa+j) p) arr
theorem Qs (sa:Nat):∀(l:List Ao) (k:Nat) (arr:Array Ao),sa+k+l.length<=arr.size->(wr arr sa (l.zipIdx k)).toList=arr.toList.take (sa+k)++l++arr.toList.drop (sa+k+l.length)
 | [],k,arr,h=>by simp [wr]
 | x :: l,k,arr,h=>by
  rw [A8] at h;have e:wr arr sa ((x :: l).zipIdx k)=wr (arr.setIfInBounds (sa+k) x) sa (l.zipIdx (k+1)):=rfl;rw [e,Qs sa l (k+1) _ (by simp;lia)]
  have hk:sa+k < arr.toList.length:=by simp;lia
  rw [Ph,A8,show sa+(k+1)=sa+k+1 by lia];rw [NE,List.take_set_of_le (AN _),Al hk,List.drop_set_of_lt (by lia)];simp [show sa+k+1+l.length=sa+k+(l.length+1) by lia]
theorem ix_list (a:Array Ao) (i:Nat):ix a i=(a.toList[i]?).getD (.none,.none):=by
 unfold ix;rw [Eg];simp
theorem ZV {arr m:Array Ao} {sa:Nat} (h:sa+m.size<=arr.size) (i:Nat):ix (wr arr sa m.toList.zipIdx) i=if i < sa then ix arr i else if i < sa+m.size then ix m (i - sa) else ix arr i:=by
 have e:=Qs sa m.toList 0 arr (by simpa using h);rw [ix_list,show m.toList.zipIdx=m.toList.zipIdx 0 from rfl,e,Tq]
 have hl:(arr.toList.take sa).length=sa:=by simp;lia
 split
 ·rename_i h1
  rw [BG,Ab (by lia),Ru h1,ix_list]
 ·rename_i h1
  split
  ·rename_i h2
   rw [BG,BE (by lia),hl,Ab (by simp;lia),ix_list]
  ·rename_i h2
   rw [BE (by simp;lia),Fi,ix_list]
   congr 2
   simp
   lia
theorem cB {arr m:Array Ao} {sa:Nat} (h:sa+m.size<=arr.size) (hp:m.toList.Perm (arr.extract sa (sa+m.size)).toList):(wr arr sa m.toList.zipIdx).Perm arr:=by
 rw [Et];have e:=Qs sa m.toList 0 arr (by simpa using h);rw [show m.toList.zipIdx=m.toList.zipIdx 0 from rfl,e,Tq]
 have e2:arr.toList=arr.toList.take sa++(arr.extract sa (sa+m.size)).toList++arr.toList.drop (sa+m.toList.length):=by
  rw [BG,BX,<-Hq h,Ef]
 conv=>rhs;rw [e2]
 exact Pc _ (JF _ hp)
theorem UU {a:Array Ao} {lo hi i:Nat} (h:hi<=a.size) (hi':i < hi - lo):ix (a.extract lo hi) i=ix a (lo+i):=by
 apply Ix
 rw [Array.getElem?_extract];simp
 lia
section
variable {prog:Ak} {w:A9} {A:BB} {E:AC->AG->Prop} {s:AG} {a₀:Array Ao} {κ:FS} {lt:Ao->Ao->Bool}
theorem YL {a:Array Ao} {lo hi:Nat} (h:hi<=a.size) (u:Up lt a lo hi):(a.extract lo hi).toList.Pairwise (Rl lt):=by
 rw [Qn];intro i j hi' hj hij;simp at hi' hj
 have e:∀k (hk:k < (a.extract lo hi).toList.length),(a.extract lo hi).toList[k]=ix a (lo+k):=λk hk=>by
  have hk':k < (a.extract lo hi).size:=by rw [BX] at hk;exact hk
  have:=C7 hk';rw [getElem?_pos (a.extract lo hi) k hk'] at this
  have hs:(a.extract lo hi).size=hi - lo:=by simp;lia
  rw [<-UU h (by lia)];simpa using this
 rw [e,e];exact u _ _ (by lia) (by lia) (by omega)
theorem aW {st st1:BK} {Q:PUnit->BK->Prop} (h:Q ⟨⟩ st1):wpS (Ac prog w) A E s (set st1:StateT BK Sem PUnit) Q st:=AM h
theorem R4 {st:BK} {i sa na pw sb nb pw2:Nat} {Q:Bool->BK->Prop} (C:Jm prog w A s a₀ κ lt) (O:Ord (·∈a₀) lt) (g:Good a₀ κ st)
  (e1:(AV st)[i]?=some (sa,na,pw)) (e2:(AV st)[i+1]?=some (sb,nb,pw2)) (hab:sb=sa+na) (hna:1<=na) (hnb:1<=nb) (hs:sb+nb<=a₀.size)
  (ua:Up lt (AR st) sa (sa+na)) (ub:Up lt (AR st) sb (sb+nb))
  (h:∀st',Good a₀ κ st'->AV st'=((AV st).setIfInBounds i (sa,na+nb,pw)).eraseIdxIfInBounds (i+1)->Up lt (AR st') sa (sa+(na+nb))->Out (AR st) (AR st') sa (sa+(na+nb))->Q true st') :
  wpS (Ac prog w) A E s (mergeAt' i) Q st:=by
 subst hab;have hsz:=g.size
 have mem:∀j,j < a₀.size->ix (AR st) j∈a₀:=λj hj=>g.mem hj
 have tr:∀x y z:Ao,x∈a₀->y∈a₀->z∈a₀->Rl lt x y->Rl lt y z->Rl lt x z:=λx y z hx hy hz h1 h2=>O.ntr x y z hx hy hz h1 h2
 refine (AL (G6 ?_):wpS _ _ _ _ (mergeAt' i) Q st);rw [show (sortPriv% PySem.Builtin.SortState.pending) st=AV st from rfl,e1,e2];refine AL (aW ?_);generalize hst1:((sortPriv% PySem.Builtin.SortState.mk) (kindOf st) (AR st) (((AV st).setIfInBounds i (sa,na+nb,pw)).eraseIdxIfInBounds (i+1)) (gallopOf st) (IA st))=st1
 have g1:Good a₀ κ st1:=by subst hst1;exact ⟨g.perm,g.kind,g.failed⟩
 have a1:AR st1=AR st:=by subst hst1;rfl
 have p1:AV st1=((AV st).setIfInBounds i (sa,na+nb,pw)).eraseIdxIfInBounds (i+1):=by subst hst1;rfl
 refine AL (Be (a:=AR st) (i:=sa+na) (by lia) ?_);refine AL (El (base:=sa) (n:=na) (hint:=0) (arr:=AR st) (key:=ix (AR st) (sa+na)) (left:=false) C g1 (λj=>!lt (ix (AR st) (sa+na)) (ix (AR st) (sa+j))) (mem _ (by lia)) (λj hj=>⟨by lia,mem _ (by lia)⟩) (λj hj=>rfl) (λx y hxy hy e=>?_) (by lia) λk hk k1 k2=>?_)
 ·have e':lt (ix (AR st) (sa+na)) (ix (AR st) (sa+y))=false:=by simpa using e
  have:=tr _ _ _ (mem _ (by lia)) (mem _ (by lia)) (mem _ (by lia)) (ua (sa+x) (sa+y) (by lia) (by lia) (by lia)) e';simpa using this
 have low:∀j,sa<=j->j < sa+k->Rl lt (ix (AR st) j) (ix (AR st) (sa+na)):=λj j1 j2=>by
  have:=k1 (j - sa) (by lia);rw [show sa+(j - sa)=j by lia] at this;simpa using this
 have lowb:∀i j,sa<=i->i < sa+k->sa+na<=j->j < sa+na+nb->Rl lt (ix (AR st) i) (ix (AR st) j):=λi j i1 i2 j1 j2=>tr _ _ _ (mem _ (by lia)) (mem _ (by lia)) (mem _ (by lia)) (low i i1 i2) (ub _ _ (by lia) (by omega) (by omega))
 have whole:(∀j,sa<=j->j < sa+na->Rl lt (ix (AR st) j) (ix (AR st) (sa+na)))->Up lt (AR st) sa (sa+(na+nb)):=λhh x y h1 h2 h3=>by
  by_cases c1:y < sa+na
  ·exact ua x y h1 h2 c1
  by_cases c2:x < sa+na
  ·exact tr _ _ _ (mem _ (by lia)) (mem _ (by lia)) (mem _ (by lia)) (hh x h1 c2) (ub _ _ (by lia) (by lia) (by lia))
  ·exact ub x y (by lia) h2 (by lia)
 refine (show wpS (Ac prog w) A E s (if (na - k==0)=true then _ else _) Q st1 from ?_)
 by_cases c1:na - k=0
 ·rw [qX (by simpa using c1)]
  refine AM (h st1 g1 p1 ?_ (by rw [a1];exact .refl));rw [a1]
  exact whole λj j1 j2=>low j j1 (by lia)
 rw [qY (by simpa using c1)];refine AL (Be (a:=AR st) (i:=sa+k+(na - k) - 1) (by omega) ?_);rw [show sa+k+(na - k) - 1=sa+na - 1 by lia];refine AL (El (base:=sa+na) (n:=nb) (hint:=nb - 1) (arr:=AR st) (key:=ix (AR st) (sa+na - 1)) (left:=true) C g1 (λj=>lt (ix (AR st) (sa+na+j)) (ix (AR st) (sa+na - 1))) (mem _ (by lia)) (λj hj=>⟨by lia,mem _ (by lia)⟩) (λj hj=>rfl) (λx y hxy hy e=>?_) (by omega) λk3 hk3 k4 k5=>?_)
 ·cases e2:lt (ix (AR st) (sa+na+x)) (ix (AR st) (sa+na - 1)) with
  | true=>rfl
  | false=>
   have:=tr _ _ _ (mem _ (by lia)) (mem _ (by lia)) (mem _ (by lia)) e2 (ub (sa+na+x) (sa+na+y) (by lia) (by lia) (by lia));exact nomatch (show true=false from (show lt (ix (AR st) (sa+na+y)) (ix (AR st) (sa+na - 1))=true from e).symm.trans this)
 have high:∀j,sa+na+k3<=j->j < sa+na+nb->Rl lt (ix (AR st) (sa+na - 1)) (ix (AR st) j):=λj j1 j2=>by
  have:=k5 (j - (sa+na)) (by lia) (by lia);rwa [show sa+na+(j - (sa+na))=j by lia] at this
 refine (show wpS (Ac prog w) A E s (if (k3==0)=true then _ else _) Q st1 from ?_)
 by_cases c2:k3=0
 ·rw [qX (by simpa using c2)]
  refine AM (h st1 g1 p1 ?_ (by rw [a1];exact .refl));rw [a1]
  exact whole λj j1 j2=>tr _ _ _ (mem _ (by lia)) (mem _ (by lia)) (mem _ (by lia)) (ua j (sa+na - 1) (by omega) (by lia) (by lia)) (high _ (by lia) (by lia))
 rw [qY (by simpa using c2)]
 let x:=(AR st).extract (sa+k) (sa+na)
 let y:=(AR st).extract (sa+na) (sa+na+k3)
 have xs:x.size=na - k:=by simp [x];lia
 have ys:y.size=k3:=by simp [y];lia
 have ixx:∀j,j < na - k->ix x j=ix (AR st) (sa+k+j):=λj hj=>UU (by lia) (by lia)
 have ixy:∀j,j < k3->ix y j=ix (AR st) (sa+na+j):=λj hj=>UU (by lia) (by lia)
 have memx:∀z∈x.toList,∃j,j < na - k/\z=ix (AR st) (sa+k+j):=λz hz=>by
  have hz:z∈((AR st).extract (sa+k) (sa+k+(na - k))).toList:=by rw [show sa+k+(na - k)=sa+na by lia];exact hz
  exact N0 (by lia) hz
 have memy:∀z∈y.toList,∃j,j < k3/\z=ix (AR st) (sa+na+j):=λz hz=>N0 (by lia) hz
 have fin:∀(r:Array Ao) (st':BK),Jp a₀ κ st1 st'->HW (Rl lt) (x.toList++y.toList) r.toList->∀st2:BK,AR st2=wr (AR st') (sa+k) r.toList.zipIdx->kindOf st2=kindOf st'->IA st2=IA st'->AV st2=AV st'->Q true st2:=by
  intro r st' sm f st2 q1 q2 q3 q4
  have hr:r.size=na - k+k3:=by
   have:=f.perm.length_eq;simp only [Ah,BX] at this
   lia
  have ha:AR st'=AR st:=sm.arr.trans a1;rw [ha] at q1
  have hb:sa+k+r.size<=(AR st).size:=by lia
  have mm:∀t,t < r.size->∃t',ix r t=ix (AR st) t'/\sa+k<=t'/\t' < sa+na+k3:=λt ht=>by
   have:ix r t∈r.toList:=BR.mpr (Ch (C7 ht))
   rcases Ai.mp (f.perm.mem_iff.mp this) with h | h
   ·obtain ⟨j,j1,e⟩:=memx _ h
    exact ⟨_,e,by lia,by lia⟩
   ·obtain ⟨j,j1,e⟩:=memy _ h
    exact ⟨_,e,by lia,by lia⟩
  have rs:=SI O (a:=r) (λt ht=>by
   obtain ⟨t',e,_,_⟩:=mm t ht;rw [e]
   exact mem _ (by lia)) f.srt
  refine h st2 ⟨?_,?_,?_⟩ (q4.trans (sm.pend.trans p1)) ?_ ?_
  ·rw [q1]
   refine (cB hb (f.perm.trans ?_)).trans g.perm
   have:(AR st).toList.drop (sa+k)=x.toList++(AR st).toList.drop (sa+na):=by
    have:=Hq (a:=AR st) (i:=sa+k) (k:=na - k) (by lia);rw [show sa+k+(na - k)=sa+na by lia] at this;exact this
   have h2:(AR st).toList.drop (sa+na)=y.toList++(AR st).toList.drop (sa+na+k3):=Hq (by lia);have h3:(AR st).toList.drop (sa+k)=((AR st).extract (sa+k) (sa+k+r.size)).toList++(AR st).toList.drop (sa+k+r.size):=Hq hb;rw [this,h2,<-BG,show sa+k+r.size=sa+na+k3 by lia] at h3;rw [show sa+k+r.size=sa+na+k3 by lia];exact U4 (List.append_cancel_right h3)
  ·rw [q2];exact sm.good.kind
  ·rw [q3];exact sm.good.failed
  ·rw [q1]
   intro i j h1 h2 h3;show Rl lt _ _;rw [ZV hb,ZV hb]
   by_cases i1:i < sa+k
   ·rw [qX i1]
    by_cases j1:j < sa+k
    ·rw [qX j1];exact ua i j h1 h2 (by lia)
    rw [qY j1]
    by_cases j2:j < sa+k+r.size
    ·rw [qX j2]
     obtain ⟨t,e,t1,t2⟩:=mm (j - (sa+k)) (by omega);rw [e]
     by_cases t3:t < sa+na
     ·exact ua i t h1 (by lia) t3
     ·exact lowb i t h1 i1 (by lia) (by lia)
    ·rw [qY j2];exact lowb i j h1 i1 (by lia) (by lia)
   rw [qY i1,qY (show ¬j < sa+k by lia)]
   by_cases i2:i < sa+k+r.size
   ·rw [qX i2]
    by_cases j2:j < sa+k+r.size
    ·rw [qX j2];exact rs _ _ (by lia) (by omega)
    ·rw [qY j2]
     obtain ⟨t,e,t1,t2⟩:=mm (i - (sa+k)) (by omega);rw [e]
     by_cases t3:t < sa+na
     ·exact tr _ _ _ (mem _ (by lia)) (mem _ (by lia)) (mem _ (by lia)) (ua t (sa+na - 1) (by lia) (by lia) (by lia)) (high j (by lia) (by lia))
     ·exact ub t j (by lia) (by lia) (by lia)
   ·rw [qY i2,qY (show ¬j < sa+k+r.size by lia)]
    exact ub i j (by lia) h2 (by lia)
  ·rw [q1]
   intro i hi;rw [ZV hb]
   by_cases i1:i < sa+k
   ·rw [qX i1]
   ·rw [qY i1,qY (by lia)]
 have args:∀ {P:Prop},((∀z∈x.toList,z∈a₀)->(∀z∈y.toList,z∈a₀)->x.toList.Pairwise (Rl lt)->y.toList.Pairwise (Rl lt)->0 < x.size->0 < y.size->(∀z∈x.toList,Rl lt (ix y 0) z)->(∀z∈y.toList,Rl lt z (ix x (x.size - 1)))->P)->P:=by
  intro P hP
  refine hP (λz hz=>?_) (λz hz=>?_) (YL (by lia) λi j h1 h2 h3=>ua i j (by lia) h2 h3) (YL (by lia) λi j h1 h2 h3=>ub i j h1 h2 (by lia)) (by lia) (by lia) (λz hz=>?_) λz hz=>?_
  ·obtain ⟨j,j1,rfl⟩:=memx z hz
   exact mem _ (by lia)
  ·obtain ⟨j,j1,rfl⟩:=memy z hz
   exact mem _ (by lia)
  ·obtain ⟨j,j1,rfl⟩:=memx z hz
   rw [ixy 0 (by lia)];have:=k2 (k+j) (by lia) (by lia);rw [show sa+(k+j)=sa+k+j by lia] at this;exact O.asym _ _ (mem _ (by lia)) (mem _ (by lia)) (by simpa using this)
  ·obtain ⟨j,j1,rfl⟩:=memy z hz
   rw [xs,ixx _ (by lia),show sa+k+(na - k - 1)=sa+na - 1 by lia];exact O.asym _ _ (mem _ (by lia)) (mem _ (by lia)) (k4 j j1)
 refine (show wpS (Ac prog w) A E s (if na - k<=k3 then mLo x y >>= _ else mHi x y >>= _) Q st1 from ?_);split
 ·refine AL (args λb1 b2 b3 b4 b5 b6 b7 b8=>aX C O g1 b1 b2 b3 b4 b5 b6 b7 b8 λr st' sm f=>?_)
  refine AL (DE (AL (G6 (AM ?_))));have q:=fin r st' sm f (setArr st' (wr (AR st') (sa+k) r.toList.zipIdx)) rfl rfl rfl rfl;rw [<-show (IA st').isNone=true by rw [sm.good.failed];rfl] at q;exact q
 ·refine AL (args λb1 b2 b3 b4 b5 b6 b7 b8=>aY C O g1 b1 b2 b3 b4 b5 b6 b7 b8 λr st' sm f=>?_)
  refine AL (DE (AL (G6 (AM ?_))));have q:=fin r st' sm f (setArr st' (wr (AR st') (sa+k) r.toList.zipIdx)) rfl rfl rfl rfl;rw [<-show (IA st').isNone=true by rw [sm.good.failed];rfl] at q;exact q
end
theorem ck {c:Prop} [Decidable c] {z:Nat} (h:1 < z):(if c then z - 2 - 1 else z - 2)+1 < z:=by split <;> omega
def Stk (lt:Ao->Ao->Bool) (arr:Array Ao):List (Nat×Nat×Nat)->Nat->Nat->Prop
 | [],lo,hi=>lo=hi
 | (s,n,_) :: r,lo,hi=>s=lo/\1<=n/\Up lt arr s (s+n)/\Stk lt arr r (s+n) hi
section
variable {lt:Ao->Ao->Bool} {arr arr':Array Ao}
theorem Stk.le:∀ {l:List (Nat×Nat×Nat)} {lo hi:Nat},Stk lt arr l lo hi->lo+l.length<=hi
 | [],lo,hi,h=>by cases h;simp
 | (s,n,_) :: r,lo,hi,⟨h1,h2,_,h4⟩=>by
  have:=Stk.le h4;rw [A8]
  lia
theorem Stk.app:∀ {l r:List (Nat×Nat×Nat)} {lo hi:Nat},Stk lt arr (l++r) lo hi↔∃mid,Stk lt arr l lo mid/\Stk lt arr r mid hi
 | [],r,lo,hi=>⟨λh=>⟨lo,rfl,h⟩,λ⟨_,e,h⟩=>by cases e;exact h⟩
 | (s,n,_) :: l,r,lo,hi=>by
  constructor
  ·rintro ⟨h1,h2,h3,h4⟩
   obtain ⟨mid,a,b⟩:=Stk.app.mp h4;exact ⟨mid,⟨h1,h2,h3,a⟩,b⟩
  ·rintro ⟨mid,⟨h1,h2,h3,h4⟩,b⟩
   exact ⟨h1,h2,h3,Stk.app.mpr ⟨mid,h4,b⟩⟩
theorem Stk.pw {f:Nat×Nat×Nat->Nat×Nat×Nat} (hf:∀x,(f x).1=x.1/\(f x).2.1=x.2.1):∀ {l:List (Nat×Nat×Nat)} {lo hi:Nat} (i:Nat),Stk lt arr l lo hi->Stk lt arr (l.modify i f) lo hi
 | [],lo,hi,i,h=>by cases i <;> exact h
 | (s,n,p) :: r,lo,hi,0,h=>by
  obtain ⟨e1,e2⟩:=hf (s,n,p);show Stk lt arr (f (s,n,p) :: r) lo hi;generalize f (s,n,p)=q at e1 e2;obtain ⟨s',n',p'⟩:=q;dsimp only at e1 e2;subst e1 e2;exact h
 | (s,n,p) :: r,lo,hi,i+1,⟨h1,h2,h3,h4⟩=>⟨h1,h2,h3,Stk.pw hf i h4⟩
theorem Stk.out:∀ {l:List (Nat×Nat×Nat)} {lo hi x y:Nat},Stk lt arr l lo hi->Out arr arr' x y->(hi<=x∨y<=lo)->Stk lt arr' l lo hi
 | [],lo,hi,x,y,h,o,d=>h
 | (s,n,_) :: r,lo,hi,x,y,⟨h1,h2,h3,h4⟩,o,d=>by
  have:=h4.le;exact ⟨h1,h2,h3.out o (by lia),Stk.out h4 o (by lia)⟩
end
section
variable {prog:Ak} {w:A9} {A:BB} {E:AC->AG->Prop} {s:AG} {a₀:Array Ao} {κ:FS} {lt:Ao->Ao->Bool}
theorem Out.wide {xs ys:Array Ao} {l h l' h':Nat} (o:Out xs ys l h) (h1:l'<=l) (h2:h<=h'):Out xs ys l' h':=λi hi=>o i (by lia)
theorem JH {st:BK} {i hi:Nat} {Q:Bool->BK->Prop} (C:Jm prog w A s a₀ κ lt) (O:Ord (·∈a₀) lt) (g:Good a₀ κ st) (k:Stk lt (AR st) (AV st).toList 0 hi) (hs:hi<=a₀.size) (hi1:i+1 < (AV st).size)
  (h:∀st',Good a₀ κ st'->Stk lt (AR st') (AV st').toList 0 hi->(AV st').size+1=(AV st).size->Out (AR st) (AR st') 0 hi->Q true st'):wpS (Ac prog w) A E s (mergeAt' i) Q st:=by
 obtain ⟨sa,na,pw,e1⟩:∃sa na pw,(AV st)[i]?=some (sa,na,pw):=⟨_,_,_,getElem?_pos (AV st) i (by lia)⟩
 obtain ⟨sb,nb,pw2,e2⟩:∃sa na pw,(AV st)[i+1]?=some (sa,na,pw):=⟨_,_,_,getElem?_pos (AV st) (i+1) hi1⟩
 obtain ⟨l,r,el,hl⟩:∃l r,(AV st).toList=l++(sa,na,pw) :: (sb,nb,pw2) :: r/\l.length=i:=by
  have a1:(AV st).toList[i]?=some (sa,na,pw):=by simpa using e1
  have a2:(AV st).toList[i+1]?=some (sb,nb,pw2):=by simpa using e2
  obtain ⟨b1,c1⟩:=AD.mp a1;obtain ⟨b2,c2⟩:=AD.mp a2;refine ⟨(AV st).toList.take i,(AV st).toList.drop (i+2),?_,by rw [Dy];lia⟩
  conv=>lhs;rw [<-Ef i (AV st).toList,FF b1,FF b2,c1,c2]
 rw [el] at k;obtain ⟨mid,k1,⟨q1,q2,q3,⟨q4,q5,q6,q7⟩⟩⟩:=Stk.app.mp k;have hle:=q7.le;have hle1:=k1.le
 refine R4 C O g e1 e2 q4 q2 q5 (by lia) q3 q6 λst' g' p' u' o'=>?_
 have pl:(AV st').toList=l++(sa,na+nb,pw) :: r:=by
  rw [p',Array.toList_eraseIdxIfInBounds,Ph,el];rw [List.set_append_right _ _ (by lia),hl,Nat.sub_self,List.set_cons_zero,List.eraseIdx_append_of_length_le (by lia),show i+1 - l.length=1 by lia];rfl
 refine h st' g' ?_ ?_ (o'.wide (by lia) (by lia))
 ·rw [pl]
  refine Stk.app.mpr ⟨mid,k1.out o' (.inl (by lia)),q1,by lia,u',?_⟩
  have e:sb+nb=sa+(na+nb):=by lia
  rw [e] at q7;exact q7.out o' (.inr (by lia))
 ·have z1:=congrArg Fk pl
  have z2:=congrArg Fk el;simp at z1 z2
  lia
theorem wpS_sortRuns {st:BK} {Q:Unit->BK->Prop} (C:Jm prog w A s a₀ κ lt) (O:Ord (·∈a₀) lt) (g:Good a₀ κ st) (hp:AV st = #[])
  (h:∀st',Good a₀ κ st'->Up lt (AR st') 0 a₀.size->Q () st'):wpS (Ac prog w) A E s sortRuns' Q st:=by
 rw [sortRuns'_eq];refine AL (G6 ?_);dsimp only;rw [g.size];generalize minRun' a₀.size a₀.size 0=mr
 refine AL (C1 (Bz (I:=λx c st'=>∃lo,c=(none,lo)/\Good a₀ κ st'/\Stk lt (AR st') (AV st').toList 0 lo/\lo<=a₀.size/\min x a₀.size<=lo)
  (Q:=λc st'=>c=(none,a₀.size)/\Good a₀ κ st'/\Stk lt (AR st') (AV st').toList 0 a₀.size) ?step ?fin ?init) ?post)
 case init=>exact ⟨0,rfl,g,by rw [hp];rfl,by lia,by lia⟩
 case fin=>
  rintro c st' ⟨lo,rfl,g',k',h1,h2⟩
  have:lo=a₀.size:=by lia
  subst this;exact ⟨rfl,g',k'⟩
 case step=>
  rintro x c st1 _ hx ⟨lo,rfl,g1,k1,h1,h2⟩;dsimp only
  by_cases hge:lo ≥ a₀.size
  ·rw [qX hge]
   have:lo=a₀.size:=by lia
   subst this;exact AM ⟨rfl,g1,k1⟩
  rw [qY hge];refine AL (wpS_countRun C O (by lia) (by lia) g1 λst2 n g2 n1 n2 u2 o2 p2=>?_);dsimp only
  have k2:Stk lt (AR st2) (AV st2).toList 0 lo:=by
   rw [p2];exact k1.out o2 (.inl (AN _))
  by_cases hm:n < mr
  ·rw [qX hm]
   refine AL (Iq ?_);refine AL (wpS_binarySort C O (by lia) (by omega) g2 u2 λst3 g3 u3 o3 p3=>?_)
   have k3:Stk lt (AR st3) (AV st3).toList 0 lo:=by
    rw [p3];exact k2.out o3 (.inl (AN _))
   rw [qY (by simp)];refine AL (G6 ?_)
   cases hb:(AV st3).back? with
   | none=>
    dsimp only;refine AL (DE (AM ⟨lo+min (a₀.size - lo) mr,rfl,⟨g3.perm,g3.kind,g3.failed⟩,?_,by lia,by lia⟩));show Stk lt (AR st3) ((AV st3).push (lo,min (a₀.size - lo) mr,0)).toList 0 (lo+min (a₀.size - lo) mr);rw [Ii];exact Stk.app.mpr ⟨lo,k3,rfl,by omega,u3,rfl⟩
   | some t=>
    obtain ⟨s1,n1,z⟩:=t;dsimp only;generalize power' a₀.size (2 * s1+n1) (2 * s1+n1+n1+min (a₀.size - lo) mr) a₀.size=pw
    refine AL (C1 (Bz (I:=λ_ c st4=>c=(none,())/\Good a₀ κ st4/\Stk lt (AR st4) (AV st4).toList 0 lo/\Up lt (AR st4) lo (lo+min (a₀.size - lo) mr))
     (Q:=λc st4=>c=(none,())/\Good a₀ κ st4/\Stk lt (AR st4) (AV st4).toList 0 lo/\Up lt (AR st4) lo (lo+min (a₀.size - lo) mr)) ?_ (λc st4 h=>h) ⟨rfl,g3,k3,u3⟩) ?_)
    ·rintro x' c' st4 _ _ ⟨rfl,g4,k4,u4⟩
     refine AL (G6 ?_)
     by_cases hz:(AV st4).size > 1
     ·rw [qX hz]
      obtain ⟨s2,n2,older,e2⟩:∃s2 n2 older,(AV st4)[(AV st4).size - 2]?=some (s2,n2,older):=⟨_,_,_,getElem?_pos (AV st4) ((AV st4).size - 2) (by lia)⟩
      rw [e2];dsimp only
      by_cases ho:older<=pw
      ·rw [qX ho]
       exact AM ⟨rfl,g4,k4,u4⟩
      ·rw [qY ho]
       refine AL (JH C O g4 k4 (by omega) (by lia) λst5 g5 k5 _ o5=>?_);exact AM ⟨rfl,g5,k5,u4.out o5 (.inr (by lia))⟩
     ·rw [qY hz]
      exact AM ⟨rfl,g4,k4,u4⟩
    ·rintro c' st4 ⟨rfl,g4,k4,u4⟩
     dsimp only;refine AL (DE (AL (DE (AM ⟨lo+min (a₀.size - lo) mr,rfl,⟨g4.perm,g4.kind,g4.failed⟩,?_,by lia,by lia⟩))));show Stk lt (AR st4) ((((AV st4).modify ((AV st4).size - 1) λx=>(x.fst,x.2.fst,pw))).push (lo,min (a₀.size - lo) mr,0)).toList 0 (lo+min (a₀.size - lo) mr);rw [Ii,U7];exact Stk.app.mpr ⟨lo,Stk.pw (f:=λx=>(x.fst,x.2.fst,pw)) (λx=>⟨rfl,rfl⟩) _ k4,rfl,by omega,u4,rfl⟩
  ·rw [qY hm]
   refine AL (G6 ?_)
   cases hb:(AV st2).back? with
   | none=>
    dsimp only;refine AL (DE (AM ⟨lo+n,rfl,⟨g2.perm,g2.kind,g2.failed⟩,?_,by lia,by lia⟩));show Stk lt (AR st2) ((AV st2).push (lo,n,0)).toList 0 (lo+n);rw [Ii];exact Stk.app.mpr ⟨lo,k2,rfl,by omega,u2,rfl⟩
   | some t=>
    obtain ⟨s1,n1,z⟩:=t;dsimp only;generalize power' a₀.size (2 * s1+n1) (2 * s1+n1+n1+n) a₀.size=pw
    refine AL (C1 (Bz (I:=λ_ c st4=>c=(none,())/\Good a₀ κ st4/\Stk lt (AR st4) (AV st4).toList 0 lo/\Up lt (AR st4) lo (lo+n))
     (Q:=λc st4=>c=(none,())/\Good a₀ κ st4/\Stk lt (AR st4) (AV st4).toList 0 lo/\Up lt (AR st4) lo (lo+n)) ?_ (λc st4 h=>h) ⟨rfl,g2,k2,u2⟩) ?_)
    ·rintro x' c' st4 _ _ ⟨rfl,g4,k4,u4⟩
     refine AL (G6 ?_)
     by_cases hz:(AV st4).size > 1
     ·rw [qX hz]
      obtain ⟨s2,n2,older,e2⟩:∃s2 n2 older,(AV st4)[(AV st4).size - 2]?=some (s2,n2,older):=⟨_,_,_,getElem?_pos (AV st4) ((AV st4).size - 2) (by lia)⟩
      rw [e2];dsimp only
      by_cases ho:older<=pw
      ·rw [qX ho]
       exact AM ⟨rfl,g4,k4,u4⟩
      ·rw [qY ho]
       refine AL (JH C O g4 k4 (by omega) (by lia) λst5 g5 k5 _ o5=>?_);exact AM ⟨rfl,g5,k5,u4.out o5 (.inr (by lia))⟩
     ·rw [qY hz]
      exact AM ⟨rfl,g4,k4,u4⟩
    ·rintro c' st4 ⟨rfl,g4,k4,u4⟩
     dsimp only;refine AL (DE (AL (DE (AM ⟨lo+n,rfl,⟨g4.perm,g4.kind,g4.failed⟩,?_,by lia,by lia⟩))));show Stk lt (AR st4) ((((AV st4).modify ((AV st4).size - 1) λx=>(x.fst,x.2.fst,pw))).push (lo,n,0)).toList 0 (lo+n);rw [Ii,U7];exact Stk.app.mpr ⟨lo,Stk.pw (f:=λx=>(x.fst,x.2.fst,pw)) (λx=>⟨rfl,rfl⟩) _ k4,rfl,by omega,u4,rfl⟩
 case post=>
  rintro c st1 ⟨rfl,g1,k1⟩;dsimp only
  refine AL (C1 (Bz (I:=λx c st4=>c=(none,())/\Good a₀ κ st4/\Stk lt (AR st4) (AV st4).toList 0 a₀.size/\((AV st4).size<=1∨(AV st4).size+x<=a₀.size))
   (Q:=λc st4=>c=(none,())/\Good a₀ κ st4/\Stk lt (AR st4) (AV st4).toList 0 a₀.size/\(AV st4).size<=1) ?_ ?_ ?_) ?_)
  ·rintro x c st4 _ _ ⟨rfl,g4,k4,d⟩
   refine AL (G6 ?_)
   by_cases hz:(AV st4).size<=1
   ·rw [qX hz]
    exact AM ⟨rfl,g4,k4,hz⟩
   ·rw [qY hz]
    refine AL (JH C O g4 k4 (AN _) (ck (by lia)) λst5 g5 k5 z5 o5=>?_);exact AM ⟨rfl,g5,k5,.inr (by lia)⟩
  ·rintro c st4 ⟨rfl,g4,k4,d⟩
   exact ⟨rfl,g4,k4,by lia⟩
  ·refine ⟨rfl,g1,k1,.inr ?_⟩
   have:=k1.le;simp at this;omega
  ·rintro c st4 ⟨rfl,g4,k4,d⟩
   refine AM (h st4 g4 ?_);generalize hl:(AV st4).toList=l at k4
   have hd:l.length<=1:=by rw [<-hl];simpa using d
   match l,k4,hd with
   | [],k4,_=>exact λi j h1 h2 h3=>by have:(0:Nat)=a₀.size:=k4;lia
   | [(s,n,_)],⟨e1,_,u,e2⟩,_=>
    have e2:s+n=a₀.size:=e2;rw [e2,e1] at u;exact u
end
def ltL:List Int->List Int->Bool
 | [],[]=>false
 | [],_ :: _=>true
 | _ :: _,[]=>false
 | x :: xs,y :: ys=>if x=y then ltL xs ys else decide (x < y)
theorem Ou:∀x y,ltL x y=true->ltL y x=false
 | [],[],h=>by cases h
 | [],_ :: _,_=>rfl
 | _ :: _,[],h=>by cases h
 | x :: xs,y :: ys,h=>by
  unfold ltL at h ⊢
  by_cases e:x=y
  ·rw [qX e] at h;rw [qX e.symm];exact Ou xs ys h
  ·rw [qY e] at h;rw [qY (Bx e)];simp at h ⊢;lia
theorem RG:∀x y z,ltL y x=false->ltL z y=false->ltL z x=false
 | [],y,[],_,_=>rfl
 | [],[],_ :: _,_,_=>rfl
 | [],_ :: _,_ :: _,_,_=>rfl
 | x :: xs,[],z,h,_=>by cases h
 | _,y :: ys,[],_,h=>by cases h
 | x :: xs,y :: ys,z :: zs,h1,h2=>by
  unfold ltL at h1 h2 ⊢
  by_cases e1:y=x
  ·rw [qX e1] at h1
   subst e1
   by_cases e2:z=y
   ·rw [qX e2] at h2 ⊢
    exact RG xs ys zs h1 h2
   ·rw [qY e2] at h2 ⊢;exact h2
  ·rw [qY e1] at h1
   by_cases e2:z=y
   ·subst e2;rw [qY e1];exact h1
   ·rw [qY e2] at h2
    by_cases e3:z=x
    ·subst e3;simp at h1 h2;lia
    ·rw [qY e3];simp at h1 h2 ⊢;lia
theorem Ve:∀x y,ltL x y=false->ltL y x=false->x=y
 | [],[],_,_=>rfl
 | [],_ :: _,h,_=>by cases h
 | _ :: _,[],_,h=>by cases h
 | x :: xs,y :: ys,h1,h2=>by
  unfold ltL at h1 h2
  by_cases e:x=y
  ·rw [qX e] at h1;rw [qX e.symm] at h2;rw [e,Ve xs ys h1 h2]
  ·rw [qY e] at h1;rw [qY (Bx e)] at h2;simp at h1 h2;lia
def ltK (f:AC->List Int) (x y:Ao):Bool:=ltL (f x.1) (f y.1)
theorem cL (f:AC->List Int) (U:Ao->Prop):Ord U (ltK f):=⟨λx y _ _ h=>Ou _ _ h,λx y z _ _ _ h1 h2=>RG _ _ _ h1 h2⟩
section
variable {prog:Ak} {w:A9} {A:BB} {E:AC->AG->Prop} {s:AG}
theorem UI {a b:Int} {t u:Tok} (o:Bool) {Q:Bool->AG->Prop} (h:Q (decide (a < b)) s):Aq (Ac prog w) A (oneLt' o (.int a t) (.int b u)) Q E s:=by
 cases o with
 | true=>exact oneLt_int h
 | false=>
  rw [oneLt'_eq];simp only [CU,if_false];exact AH (wpAny_lt_int (CA h))
def Ur (s:AG) (v:AC) (ns:List Int):Prop:=∃a its,v=.ref a/\s.heap.IsTuple a its/\IntsAre its.toList ns
def kZ (o:Bool):(AC×AC)×Nat->Option Bool×Unit->Sem (ForInStep (Option Bool×Unit)):=λe _=>match e with
 | ((p,q),i)=>eqBool p q >>= λc=>if (!c)=true then oneLt' (o&&i==0) p q >>= λb=>pure (.done (some b,())) else pure (.yield (none,()))
theorem ZU (o:Bool) (x y:AC):keyLt' (i6 o) x y=(IH x >>= λr=>IH y >>= λq=>forIn (r.toList.zip q.toList).zipIdx ((none,()):Option Bool×Unit) (kZ o) >>= λz=>match z.1 with
  | some b=>pure b
  | none=>pure (decide (r.size < q.size))):=by kernel_rfl
theorem Z2 (o:Bool) {n0:Nat}:∀ {is js:List AC} {ns ms:List Int} (k:Nat) {Q:Bool->AG->Prop},IntsAre is ns->IntsAre js ms->Q (ltL ns ms) s ->
  Aq (Ac prog w) A (forIn ((is.zip js).zipIdx k) ((none,()):Option Bool×Unit) (kZ o) >>= λz=>match z.1 with
   | some b=>pure b
   | none=>pure (decide (n0+is.length < n0+js.length))) Q E s:=by
 intro is
 induction is with
 | nil=>
  intro js ns ms k Q h1 h2 hq;cases h1;rw [List.zip_nil_left,aR,dy];refine AH (AW (AW ?_))
  cases h2 with
  | nil=>simpa [ltL] using hq
  | cons m t h=>simpa [ltL] using hq
 | cons v is ih=>
  intro js ns ms k Q h1 h2 hq
  cases h1 with
  | cons n t h1=>
   cases h2 with
   | nil=>
    rw [List.zip_nil_right,aR,dy];refine AH (AW (AW ?_));rw [wY (by rw [A8,HX];lia)];exact hq
   | cons m u h2=>
    rw [List.zip_cons_cons,List.zipIdx_cons,aS];rw [bind_assoc];unfold ltL at hq;refine AH ?_;refine AH (jN ?_)
    by_cases e:n=m
    ·rw [qX e] at hq
     rw [qY (by simp [e])];refine AW ?_;have:=ih (k+1) h1 h2 hq;simpa [Nat.add_lt_add_iff_left] using this
    ·rw [qY e] at hq
     rw [qX (by simp [e])];refine AH (UI _ (AW ?_));exact AH (AW (AW hq))
end
section
variable {prog:Ak} {w:A9} {A:BB} {E:AC->AG->Prop} {s:AG}
theorem Mj {v:AC} {ns:List Int} (h:Ur s v ns):∃its:Array AC,IntsAre its.toList ns/\s.TypeIs v "tuple"/\∀(E:AC->AG->Prop) (Q:Array AC->AG->Prop),Q its s->Aq (Ac prog w) A (IH v) Q E s:=by
 obtain ⟨a,its,rfl,⟨o,ho,hc,n,hd⟩,hi⟩:=h;exact ⟨its,hi,⟨o,ho,hc⟩,λE Q q=>listItems_at ho hd q⟩
theorem da {x y:AC} {ns ms:List Int} (o:Bool) (hx:Ur s x ns) (hy:Ur s y ms) {Q:Bool->AG->Prop} (h:Q (ltL ns ms) s):Aq (Ac prog w) A (keyLt' (i6 o) x y) Q E s:=by
 obtain ⟨r,hr,_,wr⟩:=Mj (prog:=prog) (w:=w) (A:=A) hx;obtain ⟨q,hq,_,wq⟩:=Mj (prog:=prog) (w:=w) (A:=A) hy;rw [ZU];refine AH (wr E _ (AH (wq E _ ?_)));have:=Z2 (prog:=prog) (w:=w) (A:=A) (E:=E) (n0:=0) o 0 hr hq h;simp only [GK,BX] at this;exact this
theorem XX {v:AC} {n:Int} {ns:List Int} (h:Ur s v (n :: ns)) {Q:Option AC->AG->Prop} (hq:∀t,Q (some (.int n t)) s):Aq (Ac prog w) A (WH v) Q E s:=by
 obtain ⟨r,hr,ty,wr⟩:=Mj (prog:=prog) (w:=w) (A:=A) h;refine (AH (wpAny_typeOf ty ?_):Aq _ _ (WH v) Q E s);refine (show Aq (Ac prog w) A (if (D7 "tuple" != D7 "tuple")=true then _ else _) Q E s from ?_);rw [qY (by simp)];refine AH (wr E _ (AW ?_));generalize hl:r.toList=l at hr
 cases hr with
 | cons _ t h2=>
  have:r[0]?=some (.int n t):=by
   rw [<-Ea,hl];rfl
  rw [this];exact hq t
theorem O5:∀ {vs:List AC},(∀v∈vs,∃n ns,Ur s v (n :: ns))->∀ {Q:List (Option AC)->AG->Prop},(∀is ns,IntsAre is ns->is.length=vs.length->Q (is.map some) s)->Aq (Ac prog w) A (vs.mapM WH) Q E s
 | [],_,Q,h=>by
  rw [List.mapM_nil];exact AW (h [] [] .nil rfl)
 | v :: vs,hv,Q,h=>by
  obtain ⟨n,ns,hn⟩:=hv v A1;rw [List.mapM_cons];refine AH (XX hn λt=>AH (O5 (λv hv'=>hv v (Ag _ hv')) λis ms h1 h2=>AW ?_));exact h (.int n t :: is) (n :: ms) (.cons n t h1) (by rw [A8,h2,A8])
theorem Q9 {is:List AC} {ns:List Int} (h:IntsAre is ns) (h0:is≠[]):oneTypeOnly' is.toArray=pure (some (.type "int")):=by
 rw [oneTypeOnly'_eq,X2,mapM_typeOf_ints h];simp only [map_pure,pure_bind]
 cases is with
 | nil=>exact zX rfl h0
 | cons v is=>
  have e0:(Kj (λ_=>D7 "int") (v :: is)).toArray[0]?=some (D7 "int"):=by simp
  have e1:((Kj (λ_=>D7 "int") (v :: is)).toArray.all λx=>x==D7 "int")=true:=by
   simp only [List.all_toArray,Te,G5]
   exact λ_ _=>rfl
  rw [e0];simp only [e1,if_true]
theorem ZT {vs:List AC} (hv:∀v∈vs,∃n ns,Ur s v (n :: ns)) (h0:vs≠[]) {Q:FS->AG->Prop} (h:Q (i6 true) s):Aq (Ac prog w) A (keyKind' vs.toArray) Q E s:=by
 rw [keyKind'_eq,X2];refine AH ?_;rw [map_eq_pure_bind];refine AH (O5 hv λis ns h1 h2=>AW ?_)
 have hall:((is.map some).toArray.all λx=>x.isSome)=true:=by simp
 rw [qX hall];refine AH (eW ?_)
 have hf:(is.map some).toArray.filterMap id=is.toArray:=by simp
 rw [hf,Q9 h1 (by intro e;subst e;cases vs with | nil=>exact h0 rfl | cons=>simp at h2)];refine AH (AW (AW ?_));exact h
end
section
variable {prog:Ak} {w:A9} {A:BB} {E:AC->AG->Prop} {s:AG}
theorem GV {vs:List AC} {x:Ao} (h:x∈Jr vs):x.1∈vs/\x.1=x.2:=by
 have:x∈(Jr vs).toList:=BR.mpr h;rw [pairsOf_toList] at this;exact ⟨(mem_zip_self this).2,(mem_zip_self this).1⟩
theorem W6 (vs:List AC):(Jr vs).map (·.2)=vs.toArray:=by
 apply Array.ext'
 rw [JG,pairsOf_toList];simp [List.map_snd_zip]
def Ri (prog:Ak) (w:A9) (A:BB) (s:AG) (vs:List AC) (f:AC->List Int):Prop:=
 ∃κ:FS,(∀(Q:FS->AG->Prop) (E:AC->AG->Prop),Q κ s->Aq (Ac prog w) A (keyKind' vs.toArray) Q E s)/\Jm prog w A s (Jr vs) κ (ltK f)
theorem Pw {a:AK} {vs:List AC} {n:Nat} {P:Fin->AG->Prop} {f:AC->List Int} (ho:s.heap.get? a=some (IP "list" vs.toArray n)) (hz:vs.length<=sizeLine)
  (hk:2<=vs.length->∀s':AG,(∀b o,b≠a->s.heap.get? b=some o->s'.heap.get? b=some o)->Ri prog w A s' vs f)
  (h:∀out:Array AC,out.toList.Perm vs->out.toList.Pairwise (λx y=>ltL (f y) (f x)=false)->P (.done (.ret .none)) { s with heap:=ee s.heap a vs out }) :
  Aq (Ac prog w) A (Builtin.«list.sort» ⟨[.ref a],[]⟩) P E s:=by
 have ha:a < s.heap.objs.size:=Ad ho
 have hsz:vs.toArray.size=vs.length:=by simp
 obtain ⟨e1,ho1⟩:∃e1,(s.heap.update a (G7 λ_=>#[])).get? a=some (IP "list" #[] e1):=⟨_,get?_update_seq ho (λ_=>#[])⟩
 have ho6:(((s.heap.update a (G7 λ_=>#[])).push (IP "tuple" vs.toArray 0)).push (IP "list" #[] 0)).get? a=some (IP "list" #[] e1):=
  AJ _ (AJ _ ho1)
 have old:∀b o,b≠a->s.heap.get? b=some o->(((s.heap.update a (G7 λ_=>#[])).push (IP "tuple" vs.toArray 0)).push (IP "list" #[] 0)).get? b=some o:=λb o hb hg=>
  AJ _ (AJ _ (by rw [WR _ _ _ _ hb];exact hg))
 have fin:∀st':BK,(AR st').Perm (Jr vs)->(AR st').toList.Pairwise (Rl (ltK f))->P (.done (.ret .none)) { s with heap:=ee s.heap a vs ((AR st').map (·.2)) }:=by
  intro st' hp hs
  have hmem:∀x∈(AR st').toList,x.1=x.2:=λx hx=>by
   have:x∈(Jr vs).toList:=(Et.mp hp).mem_iff.mp hx;exact (GV (BR.mp this)).2
  refine h _ ?_ ?_
  ·have:=(Et.mp hp).map (·.2)
   rw [<-JG,<-JG,W6] at this;simpa using this
  ·rw [JG,Bt]
   refine hs.imp_of_mem λ{x y} hx hy r=>?_
   rw [<-hmem x hx,<-hmem y hy];exact r
 have last:∀st':BK,(AR st').Perm (Jr vs)->IA st'=none->(AR st').toList.Pairwise (Rl (ltK f))->(((AR st').map (·.2)).size<=sizeLine+1):=λst' hp _ _=>by
  rw [Array.size_map,hp.size_eq,pairsOf_size]
  lia
 rw [list_sort_plain];refine AH (listItems_at ho rfl (AH (WG ho rfl (AH (aN ho1 rfl (AH (wpAny_newTuple (AH (wpAny_newList (WC ?_)))))) ) (by rw [hsz];exact hz) (Cg _))));show Aq (Ac prog w) A _ P E { s with heap:=((s.heap.update a (G7 λ_=>#[])).push (IP "tuple" vs.toArray 0)).push (IP "list" #[] 0) };dsimp only
 by_cases h2:vs.toArray.size < 2
 ·rw [qX h2,qX h2]
  refine AH (AW ?_);rw [StateT.run_pure]
  have hs0:(AR (Gg Tj (vs.toArray.zip vs.toArray) #[] 7 none)).toList.Pairwise (Rl (ltK f)):=by
   have:(AR (Gg Tj (vs.toArray.zip vs.toArray) #[] 7 none)).toList.length < 2:=by
    rw [BX];show (Jr vs).size < 2;rw [pairsOf_size];omega
   generalize (AR (Gg Tj (vs.toArray.zip vs.toArray) #[] 7 none)).toList=l at this
   match l,this with
   | [],_=>exact .nil
   | [x],_=>exact Jg _ _
   | _ :: _ :: _,h=>simp at h;lia
  refine AH (AW (AH (aN ho6 rfl (AH (WG ho6 rfl ?_ (Cg _) (last (Gg Tj (vs.toArray.zip vs.toArray) #[] 7 none) (MU _) rfl hs0))))));simp only [bne_self_eq_false,CU,if_false];exact AW (fin (Gg Tj (vs.toArray.zip vs.toArray) #[] 7 none) (MU _) hs0)
 ·rw [qY h2,qY h2]
  obtain ⟨κ,kk,C⟩:=hk (by lia) { s with heap:=((s.heap.update a (G7 λ_=>#[])).push (IP "tuple" vs.toArray 0)).push (IP "list" #[] 0) } old;refine AH (kk _ _ ?_)
  refine AH (GJ (Srt.wpS_sortRuns (a₀:=Jr vs) (st:=Gg κ (vs.toArray.zip vs.toArray) #[] 7 none)
   (Q:=λ_ st'=>(AR st').Perm (Jr vs)/\IA st'=none/\(AR st').toList.Pairwise (Rl (ltK f))) C (cL f _) ⟨MU _,rfl,rfl⟩ rfl λst' g u=>⟨g.perm,g.failed,?_⟩) ?_ λ_ _ e=>e)
  ·have:=YL (a:=AR st') (lo:=0) (hi:=(AR st').size) (AN _) (by rw [g.size];exact u)
   rwa [JZ,List.drop_zero] at this
  rintro ⟨⟨⟩,st'⟩ s' ⟨rfl,hp,hf,hs⟩;refine AH (aN ho6 rfl (AH (WG ho6 rfl ?_ (Cg _) (last st' hp hf hs))));rw [hf];simp only [bne_self_eq_false,CU,if_false];exact AW (fin st' hp hs)
theorem Wh {vs:List AC} {f:AC->List Int} (h:∀v∈vs,Ur s v (f v)/\f v≠[]) (h0:vs≠[]):Ri prog w A s vs f:=
 ⟨i6 true,λQ E q=>ZT (λv hv=>by
  obtain ⟨h1,h2⟩:=h v hv
  cases e:f v with
  | nil=>exact zX e h2
  | cons n ns=>exact ⟨n,ns,by rw [<-e];exact h1⟩) h0 q,λx y hx hy Q E q=>da true (h _ (GV hx).1).1 (h _ (GV hy).1).1 q⟩
def Y5 (v:AC):List Int:=[numOf v]
theorem Wi {vs:List AC} {ns:List Int} (h:IntsAre vs ns) (h2:2<=vs.length):Ri prog w A s vs Y5:=by
 refine ⟨oneType',λQ E q=>?_,λx y hx hy Q E q=>?_⟩
 ·match vs,h2,h with
  | v :: u :: r,_,h=>rw [keyKind_ints h];exact AW q
 ·obtain ⟨n,t,e1⟩:=h.all _ (GV hx).1
  obtain ⟨m,u,e2⟩:=h.all _ (GV hy).1;rw [keyLt'_oneType,e1,e2];refine oneLt_int ?_
  have:ltK Y5 x y=decide (n < m):=by
   unfold ltK Y5;rw [e1,e2];show (if n=m then false else decide (n < m))=_;split
   ·rename_i e;simp [e]
   ·rfl
  rw [<-this];exact q
end
def P0 (h:Bw) (d:AK) (es:Array He) (ep:Nat):Prop:=∃o,h.get? d=some o/\o.ExactDict/\o.data=.dict es ep
theorem P0.at' {h h':Bw} {d:AK} {es:Array He} {ep:Nat} (x:P0 h d es ep) (e:∀o,h.get? d=some o->h'.get? d=some o):P0 h' d es ep:=let ⟨o,ho,r⟩:=x;⟨o,e _ ho,r⟩
theorem P0.ty {s:AG} {d:AK} {es:Array He} {ep:Nat} (x:P0 s.heap d es ep):s.TypeIs (.ref d) "dict":=let ⟨o,ho,hc,_⟩:=x;⟨o,ho,hc.1⟩
section
variable {prog:Ak} {w:A9} {A:BB} {E:AC->AG->Prop} {s:AG} {d it:AK} {es:Array He} {ep i:Nat}
theorem Se {Q:AC->AG->Prop} (hd:(d==Cu)=false) (hm:P0 s.heap d es ep)
  (kq:Q (.ref s.heap.objs.size) { s with heap:=s.heap.push { cls:=.type "dict_keyiterator",data:=.fields #[.ref d,.int 0 0,.int es.size 0,.int ep 0] } }):Aq (Ac prog w) A (Th (.ref d)) Q E s:=by
 have hT:=hm.ty;obtain ⟨o,ho,hc,hdat⟩:=hm;refine wpAny_pyIter_slot hT Ql (EM Ql hT PySem.F.entry_dict_iter ?_ (PySem.F.args_dict_iter_1 _));unfold Builtin.«dict.__iter__»;refine AH ?_;unfold lL;refine AH (wpAny_notOrdered_dict hT (show Aq _ _ (pure (A7 d)) _ _ s from AW ?_));refine (show Aq _ _ (OE d >>= _) _ _ s from ?_);unfold OE;rw [qY (by simp [hd])];refine AH (AW (AH (PR ho hdat (AH (Ry ho hdat (AH (FC (AW ⟨_,rfl, "dict_keyiterator",_,⟨_,Aj _ rfl,rfl⟩,CN.lookup,?_⟩))))))));simpa [MY] using kq
theorem Sd {Q:Option AC->AG->Prop} (ki:s.heap.IsKeyIter it d i es.size ep) (hm:P0 s.heap d es ep) (hi:i < es.size)
  (kq:∀h',h'.IsKeyIter it d (i+1) es.size ep->EC it s.heap h'->Q (some es[i].key) { s with heap:=h' }):Aq (Ac prog w) A (Qi (.ref it)) Q E s:=by
 obtain ⟨o,ho,hc,hd⟩:=id ki;obtain ⟨od,hod,hcd,hdd⟩:=hm;unfold Qi;refine AH (Np (EN (name:=Jt "__next__") ki.typeIs CN (EM CN ki.typeIs Kg (AH (AW (AH (AH ?_)))) (Ka _))))
 first | refine AH (Ec ki.typeIs (AW (AH (MW ho hd ?_)))) | refine AH (GB ki.typeIs (AW (AH (MW ho hd ?_))))
 simp only [show Js "dict_keyiterator" = false by decide,CU,if_false];refine (show Aq _ _ (if (A7 d==Cb)=true then _ else _) _ _ s from ?_);rw [qY (λz:(A7 d==Cb)=true=>AX z)];refine AH (AW (AH (PR hod hdd ?_)));rw [qY (by simp)];refine AH (AW (AH (Ry hod hdd ?_)));rw [qY (by simp)];refine AW ?_;simp only [show ¬((i:Int) < 0) by lia,if_false,B9,P8 hi];refine AH ?_
 first | refine AH (Ec ki.typeIs (AW (AH (LX ki.typeIs ?_)))) | refine AH (GB ki.typeIs (AW (AH (LX ki.typeIs ?_))))
 refine (show Aq _ _ (setField (.ref it) 1 (MY ((i:Int)+1)) >>= _) _ _ s from ?_);have ki':(s.heap.update it (jH (·.setIfInBounds 1 (MY ((i:Int)+1))))).IsKeyIter it d (i+1) es.size ep:=⟨_,Tu _ ho (U0 (IR hd _)),(aE ..).trans hc,by rw [IR hd];simp [MY]⟩;refine AH (MV ho hd (by simp) (AH (WC (AH (LX (s:={ s with heap:=s.heap.update it (jH (·.setIfInBounds 1 (MY ((i:Int)+1)))) }) ki'.typeIs ?_)))));exact (show Aq _ _ (pure es[i].key) _ _ _ from AW (AW ⟨_,rfl,AW (kq _ ki' (GN ..))⟩))
theorem VY {Q:Option AC->AG->Prop} (h0:A.handled=none) (ki:s.heap.IsKeyIter it d i es.size ep) (hm:P0 s.heap d es ep) (hi:es.size<=i)
  (kq:∀h',U5 it s.heap h'->Q none { s with heap:=h' }):Aq (Ac prog w) A (Qi (.ref it)) Q E s:=by
 obtain ⟨o,ho,hc,hd⟩:=id ki;obtain ⟨od,hod,hcd,hdd⟩:=hm;unfold Qi;refine AH (Np (EN (name:=Jt "__next__") ki.typeIs CN (EM CN ki.typeIs Kg (AH (AW (AH (AH ?_)))) (Ka _))))
 first | refine AH (Ec ki.typeIs (AW (AH (MW ho hd ?_)))) | refine AH (GB ki.typeIs (AW (AH (MW ho hd ?_))))
 simp only [show Js "dict_keyiterator" = false by decide,CU,if_false];refine (show Aq _ _ (if (A7 d==Cb)=true then _ else _) _ _ s from ?_);rw [qY (λz:(A7 d==Cb)=true=>AX z)];refine AH (AW (AH (PR hod hdd ?_)));rw [qY (by simp)];refine AH (AW (AH (Ry hod hdd ?_)));rw [qY (by simp)];refine AW ?_;simp only [show ¬((i:Int) < 0) by lia,if_false,B9,Array.getElem?_eq_none hi];refine AH ?_
 first | refine AH (Ec ki.typeIs (AW (show Aq _ _ (setField (.ref it) 0 .none >>= _) _ _ s from ?_))) | refine AH (GB ki.typeIs (AW (show Aq _ _ (setField (.ref it) 0 .none >>= _) _ _ s from ?_)))
 refine AH (MV ho hd (by simp) (show Aq _ _ (newExc (.type "StopIteration") [] >>= _) _ _ _ from AH ?_));simp only [newExc,newTuple];refine AH (FC (AH (m:=Ma _ _) (wpAny_of_eq (a:=Cb) (by first | rfl | (simp only [Ma];rfl)) (FC ?_ (by size_fits)))) (by size_fits));simp only [raiseNew];refine AH (wpAny_handled ?_);rw [show A.in1.handled=none from h0];refine AH (AW (wpAny_throw ?_));refine AH (jL (T:="StopIteration") (b:=true) ⟨_,Aj _ rfl,rfl⟩ isSubtype_stop (AW ?_));exact kq _ (((GN ..).extBut.push _).push _)
theorem Ww (h0:A.handled=none) (I:AK) (hne:d≠I):Walks prog w A I [I,d] [I] es.size (λi v=>∃h:i < es.size,v=es[i].key) (λi h=>h.IsKeyIter I d i es.size ep/\P0 h d es ep) where
 sub:=λx hx=>by simp at hx;simp [hx]
 frame:=λ_ _ _ st keep=>⟨st.1.at λo e=>keep I (by simp) o e,st.2.at' λo e=>keep d (by simp) o e⟩
 item:=λi s Q E hi st kq=>Sd st.1 st.2 hi λh' ki' hs'=>kq _ h' s.toks ⟨hi,rfl⟩ ⟨ki',st.2.at' λo e=>hs'.extBut d o hne e⟩ λb o hb e=>hs'.extBut b o (λh=>hb (by simp [h])) e
 done:=λs Q E st kq=>VY h0 st.1 st.2 (AN _) λh' he'=>kq h' s.toks λb o hb e=>he' b o (λh=>hb (by simp [h])) e
 self:=λ_ _ _ _ st kq=>aL st.1 kq
theorem VX (lo:(d==Cu)=false):PySem.W.KdlSrc prog w "dict" d d es.size (λi v=>∃h:i < es.size,v=es[i].key) (λh=>P0 h d es ep) where
 type:=λ_ hm=>hm.ty
 there:=λ_ hm=>⟨let ⟨_,ho,_⟩:=hm;Ad ho,let ⟨_,ho,_⟩:=hm;Ad ho⟩
 keep:=λ_ _ hm hk=>hm.at' λo e=>hk d (.inl rfl) o e
 notList:=by decide
 notTuple:=by decide
 hint:=λ_ _ _ _ hm hq=>PySem.W.kdl_hint_dict hm.ty hq
 iter:=λ_ _ h0 hm=>⟨_,_,(λ_ _ hq=>Se lo hm hq),Ww h0 _ (Am (let ⟨_,ho,_⟩:=hm;Ad ho)),⟨⟨_,Aj _ rfl,rfl,rfl⟩,hm.at' λo e=>AJ _ e⟩⟩
end
end Srt
namespace PySem.SetTable
end PySem.SetTable
namespace PySem
open SetTable
end PySem
namespace PySem
open Sem (wp)
open SetTable PyProof.Rows
section
variable {prog:Ak} {w:A9} {A:BB} {E:AC->AG->Prop} {s:AG}
end
section
variable {prog:Ak} {w:A9} {A:BB} {E:AC->AG->Prop} {s:AG} {a it T:AK} {es:Array (Int×AC)} {ep i:Nat} {t:SetTable}
end
section
variable {prog:Ak} {w:A9} {A:BB} {E:AC->AG->Prop} {s:AG} {a it T:AK} {es:Array (Int×AC)} {ep i:Nat} {t:SetTable}
end
section
variable {prog:Ak} {w:A9} {A:BB} {E:AC->AG->Prop} {s:AG} {a:AK} {es:Array (Int×AC)} {ep:Nat} {t:SetTable}
end
end PySem
namespace L2
open PySem PySem.Spec PyProof.Rows
open Srt (ltL)
theorem Si {α β:Type} {R:α->β->Prop} {l2 l2':List β} (p:l2.Perm l2'):∀ {l1:List α},E6 R l1 l2->∃l1',E6 R l1' l2'/\l1'.Perm l1:=by
 induction p with
 | nil=>intro l1 h;cases h;exact ⟨[],.nil,.refl _⟩
 | cons x _ ih=>
  intro l1 h
  cases h with
  | cons r t=>
   obtain ⟨l',h1,h2⟩:=ih t;exact ⟨_ :: l',.cons r h1,h2.cons _⟩
 | swap x y l=>
  intro l1 h
  cases h with
  | cons r t=>
   cases t with
   | cons r2 t=>exact ⟨_ :: _ :: _,.cons r2 (.cons r t),List.Perm.swap _ _ _⟩
 | trans _ _ ih1 ih2=>
  intro l1 h;obtain ⟨a,h1,h2⟩:=ih1 h;obtain ⟨b,h3,h4⟩:=ih2 h1;exact ⟨b,h3,h4.trans h2⟩
theorem Lv {α β γ:Type} {R:α->β->Prop} {f:α->γ} {g:β->γ}:∀ {l1:List α} {l2:List β},E6 R l1 l2->(∀a∈l1,∀b,R a b->g b=f a)->l2.map g=l1.map f
 | _,_,.nil,_=>rfl
 | _,_,.cons r t,h=>by rw [Az,Az,h _ A1 _ r,Lv t λa ha=>h a (Ag _ ha)]
theorem Of {α β:Type} {R:α->β->Prop}:∀ {l1:List α} {l2:List β} {b:β},E6 R l1 l2->b∈l2->∃a∈l1,R a b
 | _,_,_,.nil,h=>nomatch h
 | _,_,b,.cons r t,h=>by
  rcases Ay.mp h with h | h
  ·subst h;exact ⟨_,A1,r⟩
  ·obtain ⟨a,ha,e⟩:=Of t h
   exact ⟨a,Ag _ ha,e⟩
def Pv:V->Int
 | .int n=>n
 | _=>0
def Wr (H:Hp):AC->List Int
 | .int n _=>[n]
 | .ref b=>match H b with
  | some (.tup xs)=>xs.map Pv
  | _=>[]
 | _=>[]
theorem Mv (r:List Int):(r.map V.int).map Pv=r:=by
 rw [At];exact (B2 λa _=>rfl).trans (jJ r)
def ke (K:AA) (H:Hp) (p:AK) (G:List V->Prop):Prop:=
 (∃vs,(SqL K H p vs∨SqT K H p vs)/\G vs)∨(∃kvs,H p=some (.dK kvs)/\G (kvs.map λx=>kV x.1)) ∨
  ∃kvs,H p=some (.dT kvs)/\∀bs:List AK,E6 (λ(k:List Key×V) b=>H b=some (.tup (k.1.map kV))) kvs bs->G (bs.map V.ref)
def Qd (H:Hp) (f:V->List Int) (vs:List V):Prop:=(∀v∈vs,∃n,v=.int n/\f v=[n])∨∀v∈vs,∃b,v=.ref b/\H b=some (.tup ((f v).map V.int))/\f v≠[]
def jp (K:AA):List V->Hp->VK->Prop:=λxs H Q=>∃p,xs=[.ref p]/\ke K H p λvs=>∃f:V->List Int,Qd H f vs /\
 ∀out,out.Perm vs->out.Pairwise (λx y=>ltL (f y) (f x)=false)->∀l,H l=none->Q (.ref l) (upd H l (.lst out))
theorem Qd.rel {H:Hp} {f:V->List Int} {vs:List V} (h:Qd H f vs):∀v∈vs,∀u,RelV v u->Wr H u=f v:=λv hv u r=>by
 rcases h with h | h
 ·obtain ⟨n,rfl,e⟩:=h v hv
  obtain ⟨t,rfl⟩:=r;exact e.symm
 ·obtain ⟨b,rfl,e,_⟩:=h v hv
  cases r;show (match H b with | some (.tup xs)=>xs.map Pv | _=>[])=_;rw [e];exact Mv _
theorem SN {X:Cx} {pins:List (AK×Obj)} {s:AG} {σ:St} {H:Hp} {p:AK} {G:List V->Prop} (hc:X.calm=true) (I:Inv X pins σ H s) (h:ke X.K H p G) :
  ∃vs its,G vs/\Bi vs its/\its.length<=sizeLine/\∀(R:List AC->AG->Prop) (E:AC->AG->Prop),(∀(g:Bw) (tk:Nat),(∀b o,s.heap.get? b=some o->g.get? b=some o)->R its { s with heap:=g,toks:=tk })->Aq (Ac X.prog X.w) X.A.in1 (collect (.ref p)) R E s:=by
 have hh:X.A.handled=none:=I.ok.hd hc
 rcases h with ⟨vs,sq,g⟩ | ⟨kvs,e,g⟩ | ⟨kvs,e,g⟩
 ·rcases sq with sq | sq
  ·obtain ⟨its,rv,pl,hz⟩:=I.list sq
   refine ⟨vs,its,g,rv,by rw [<-rv.length];exact hz,λR E k=>collect_list pl.isList (k _ s.toks λb o e=>?_) (by rw [<-rv.length];exact hz)⟩;rw [WR _ _ _ _ (Am (Ad e))];exact AJ _ e
  ·obtain ⟨its,rv,⟨o,ho,hcl,n,hd⟩,hz⟩:=I.tuple sq
   have hz':its.length<=sizeLine:=by rw [<-rv.length];exact hz
   exact ⟨vs,its,g,rv,hz',λR E k=>wpAny_collect_seq p (.inr rfl) ho hcl hd (λh' kp=>by simpa using k h' s.toks kp) (by simpa using hz')⟩
 ·obtain ⟨hz,sm,us,kv,o,es,ep,g1,g2,g3,g5,g6,_⟩:=(show CM X.prog X.w H s.heap p (.dK kvs) from I.hok p _ e)
  have hlen:es.size=kvs.length:=by
   have a1:=g6.length;have a2:kvs.length=us.length:=Db kv;rw [BX] at a1
   lia
  have hv:Bi (kvs.map λx=>kV x.1) (es.toList.map (·.key)):=by
   have key:∀ {l:List He} {us:List (Key×AC)} {kvs:List (Key×V)},Pairs (Cn X.prog X.w) l us->KV kvs us->Bi (kvs.map λx=>kV x.1) (l.map (·.key)):=by
    intro l us kvs hp
    induction hp generalizing kvs with
    | nil=>intro h;cases h;exact .nil
    | cons q1 q2 _ ih=>
     intro h
     cases h with
     | cons r t=>
      refine .cons ?_ (ih t);dsimp only;rw [r.1]
      rcases Cp q1 with ⟨i,t,e1,e2⟩ | ⟨x,t,e1,e2⟩
      ·rw [e1,e2];exact ⟨t,rfl⟩
      ·rw [e1,e2];exact ⟨t,rfl⟩
   exact key g6 kv
  refine ⟨_,es.toList.map (·.key),g,hv,by rw [AE,BX,hlen];exact hz,λR E k=>?_⟩
  refine TZ (Srt.VX (es:=es) (ep:=ep) sm) hh ⟨o,g1,g2,g3⟩ (by rw [hlen];exact hz) λg' tk acc kp ac=>?_
  have:acc.toList=es.toList.map (·.key):=by
   apply Cz
   intro j
   by_cases hj:j < es.size
   ·have hj2:j < acc.size:=by rw [ac.1];exact hj
    obtain ⟨_,e2⟩:=ac.2 j acc[j] (by simp [hj2]);simp [hj,hj2,e2]
   ·have hj2:¬j < acc.size:=by rw [ac.1];exact hj
    simp [hj,hj2]
  rw [this];exact k g' tk kp
 ·obtain ⟨hz,sm,xs,rr,o,es,ep,g1,g2,g3,g4,_⟩:=(show CM X.prog X.w H s.heap p (.dT kvs) from I.hok p _ e)
  have hlen:es.size=kvs.length:=by
   have a1:=congrArg Fk g4;have a2:kvs.length=xs.length:=Db rr;rw [BX,AE] at a1
   lia
  have hb:E6 (λ(k:List Key×V) b=>H b=some (.tup (k.1.map kV))) kvs (xs.map (·.2.1)):=by
   have key:∀ {kvs:List (List Key×V)} {xs:List (List Key×AK×AC)},E6 (λ(p:List Key×V) (q:List Key×AK×AC)=>p.1=q.1/\H q.2.1=some (.tup (p.1.map kV))/\RelV p.2 q.2.2) kvs xs->E6 (λ(k:List Key×V) b=>H b=some (.tup (k.1.map kV))) kvs (xs.map (·.2.1)):=by
    intro kvs xs h
    induction h with
    | nil=>exact .nil
    | cons r _ ih=>exact .cons r.2.1 ih
   exact key rr
  have hk:es.toList.map (·.key)=(xs.map (·.2.1)).map A7:=by
   rw [g4,At,At];rfl
  have hv:∀l:List AK,Bi (l.map V.ref) (l.map A7):=λl=>by
   induction l with
   | nil=>exact .nil
   | cons a l ih=>exact .cons rfl ih
  refine ⟨_,(xs.map (·.2.1)).map A7,g _ hb,hv _,by rw [AE,AE,<-Db rr];exact hz,λR E k=>?_⟩
  refine TZ (Srt.VX (es:=es) (ep:=ep) sm) hh ⟨o,g1,g2,g3⟩ (by rw [hlen];exact hz) λg' tk acc kp ac=>?_
  have:acc.toList=(xs.map (·.2.1)).map A7:=by
   rw [<-hk]
   apply Cz
   intro j
   by_cases hj:j < es.size
   ·have hj2:j < acc.size:=by rw [ac.1];exact hj
    obtain ⟨_,e2⟩:=ac.2 j acc[j] (by simp [hj2]);simp [hj,hj2,e2]
   ·have hj2:¬j < acc.size:=by rw [ac.1];exact hj
    simp [hj,hj2]
  rw [this];exact k g' tk kp
theorem SX {X:Cx} {s:AG} {H:Hp} {f:V->List Int} {vs:List V} {its:List AC} (I:∀b xs,H b=some (.tup xs)->∃is:List AC,Bi xs is/\IsTup s.heap b is.toArray) (h:Qd H f vs) (rv:Bi vs its) (h2:2<=its.length) {A:BB}:Srt.Ri X.prog X.w A s its (Wr H):=by
 rcases id h with hi | ht
 ·have:∃ns,IntsAre its ns:=by
   have key:∀ {vs:List V} {its:List AC},Bi vs its->(∀v∈vs,∃n,v=.int n/\f v=[n])->∃ns,IntsAre its ns:=by
    intro vs its r
    induction r with
    | nil=>exact λ_=>⟨[],.nil⟩
    | cons r _ ih=>
     intro hv
     obtain ⟨ns,hns⟩:=ih λv hv'=>hv v (Ag _ hv')
     obtain ⟨n,rfl,_⟩:=hv _ A1;obtain ⟨t,rfl⟩:=r;exact ⟨n :: ns,.cons n t hns⟩
   exact key rv hi
  obtain ⟨ns,hns⟩:=this;obtain ⟨κ,k1,k2⟩:=Srt.Wi (prog:=X.prog) (w:=X.w) (A:=A) (s:=s) hns h2;refine ⟨κ,k1,λx y hx hy Q E q=>k2 x y hx hy Q E ?_⟩;obtain ⟨n,t,e1⟩:=hns.all _ (Srt.GV hx).1;obtain ⟨m,u,e2⟩:=hns.all _ (Srt.GV hy).1
  have e:Srt.ltK Srt.Y5 x y=Srt.ltK (Wr H) x y:=by
   unfold Srt.ltK Srt.Y5;rw [e1,e2];rfl
  rw [e];exact q
 ·refine Srt.Wh (λu hu=>?_) (by intro e;subst e;simp at h2)
  obtain ⟨v,hv,r⟩:=Of rv hu;rw [h.rel v hv u r];obtain ⟨b,rfl,e,ne⟩:=ht v hv;cases r;refine ⟨⟨b,?_⟩,ne⟩;obtain ⟨is,r,o,ho,hcl,n,hd⟩:=I b _ e;exact ⟨is.toArray,rfl,⟨o,ho,hcl,n,hd⟩,by simpa using intsAre_of r⟩
theorem Xf {X:Cx} (hc:X.calm=true):IN X (.builtin "sorted") (jp X.K):=by
 intro pins s σ H xs us Q I r h;obtain ⟨p,rfl,src⟩:=h;obtain ⟨u,rfl,rx⟩:=vals1 r;cases rx;obtain ⟨vs,its,⟨f,rows,q⟩,rv,hz,col⟩:=SN hc I src;refine Calls.call_function_entry kind_sorted plain_sorted entry_sorted (args_sorted1 _) ?_;unfold Builtin.«sorted»;refine AH (m:=checkCount "sorted" 1 1 _) (AW (AH (col _ _ λg tk kp=>?_)));refine AH (wpAny_newList ?_ hz);have I1:Inv X pins σ H { s with heap:=g,toks:=tk }:=I.kept kp;have hl:(g.push (IP "list" its.toArray 0)).get? g.objs.size=some (IP "list" its.toArray 0):=Aj _ rfl;refine AH (WC (EM slot_list_sort ⟨_,hl,rfl⟩ entry_list_sort (Srt.Pw (f:=Wr H) hl hz (λh2 s' keep=>?_) λout po so=>⟨_,rfl,AW ⟨_,rfl,?_⟩⟩) (args_list_sort _)))
 ·refine SX (λb xs e=>?_) rows rv h2
  obtain ⟨_,is,r,o,ho,hcl,n,hd⟩:=(show CM X.prog X.w H g b (.tup xs) from I1.hok b _ e);exact ⟨is,r,o,keep b o (Am (Ad ho)) (AJ _ ho),hcl,n,hd⟩
 ·obtain ⟨vo,ro,pv⟩:=Si po.symm rv
  have so':vo.Pairwise (λx y=>ltL (f y) (f x)=false):=by
   have e:out.toList.map (Wr H)=vo.map f:=Lv ro λa ha b rb=>rows.rel a (pv.mem_iff.mp ha) b rb
   have:=(Bt (f:=Wr H) (R:=λx y=>ltL y x=false)).mpr so;rw [e] at this;exact Bt.mp this
  obtain ⟨k,hk⟩:=sortedHeap_at (out:=out) hl
  have hlen:vo.length<=sizeLine:=by rw [pv.length_eq,rv.length];exact hz
  have I2:=I1.laid (a:=g.objs.size) (o:=.lst vo) (t':=tk) (h':=ee (g.push (IP "list" its.toArray 0)) g.objs.size its out)
   (λb u z=>by
    have lt:b < g.objs.size:=Ad z;rw [sortedHeap_old (Am lt) (by rw [size_push'];exact GM lt)]
    exact AJ _ z) (AN _) ⟨hlen,out.toList,k,ro,hk⟩
  exact ⟨.ref g.objs.size,_,I2,rfl,q vo pv so' _ (I1.hok.fresh (AN _))⟩
def Dm (ns:List Int):List Int:=ns.mergeSort (λa b=>decide (a<=b))
@[simp] theorem Wj:Dm []=[]:=by unfold Dm;simp
theorem D5 (ns:List Int):(Dm ns).Perm ns:=WK ns _
theorem Jx (ns:List Int):(Dm ns).Pairwise (·<=·):=by
 have:=R3 (le:=λa b:Int=>decide (a<=b)) (by intro a b c h1 h2;simp at h1 h2 ⊢;lia) (by intro a b;simp;lia) ns
 exact this.imp λh=>by simpa using h
def Gw (rs:List (List Int)):List (List Int):=rs.mergeSort (λa b=>!ltL b a)
theorem D6 (rs:List (List Int)):(Gw rs).Perm rs:=WK rs _
theorem Jy (rs:List (List Int)):(Gw rs).Pairwise (λa b=>ltL b a=false):=by
 have:=R3 (le:=λa b:List Int=>!ltL b a) (by intro a b c h1 h2;simp at h1 h2 ⊢;exact Srt.RG _ _ _ h1 h2) (by
  intro a b
  cases e:ltL b a with
  | false=>simp
  | true=>simp [Srt.Ou _ _ e]) rs
 exact this.imp λh=>by simpa using h
theorem Mn {l l':List (List Int)} (p:l.Perm l') (h:l.Pairwise (λa b=>ltL b a=false)) (h':l'.Pairwise (λa b=>ltL b a=false)):l=l':=
 p.eq_of_pairwise (λa b _ _ h1 h2=>Srt.Ve a b h2 h1) h h'
def UT:Key->D
 | .inl i=>.int i
 | .inr x=>.str x
def HF (d:D) (S:Sto):Option (List D):=match d with
 | .fro ds=>some ds
 | .tup ds=>some ds
 | .ref n=>match S[n]? with
  | some (.lst ds)=>some ds
  | some (.dK kvs)=>some (kvs.map λx=>UT x.1)
  | some (.dT kvs)=>some (kvs.map λx=>.tup (x.1.map UT))
  | _=>none
 | _=>none
def CS (r:List Int):D:=.tup (r.map D.int)
def Km:List D->Option (List (List Int))
 | []=>some []
 | .tup ds :: r=>match G0 ds,Km r with
  | some (n :: ns),some rs=>some ((n :: ns) :: rs)
  | _,_=>none
 | _ :: _=>none
def J1 (ds:List D):Option (List D):=match G0 ds with
 | some ns=>some ((Dm ns).map D.int)
 | none=>match Km ds with
  | some rs=>some ((Gw rs).map CS)
  | none=>none
def Di (m:ME):ME:=λe S=>(m e S).bind λd S1=>match HF d S1 with
 | some ds=>match J1 ds with
  | some es=>.ok (.ref S1.length) (S1++[.lst es])
  | none=>.bad
 | none=>.bad
section
variable {X:Cx} {E:EW} {e:Expr} {p pos:Pos} {m:ME}
theorem cZ (x y:Int):ltL [y] [x]=decide (y < x):=by
 show (if y=x then false else decide (y < x))=_;split
 ·rename_i e;simp [e]
 ·rfl
def Pr (H:Hp):V->List Int
 | .int n=>[n]
 | .ref b=>match H b with
  | some (.tup xs)=>xs.map Pv
  | _=>[]
 | _=>[]
theorem SY {K:AA} {ρ:List AK} {H:Hp}:∀ {ds:List D} {rs:List (List Int)} {vs:List V},Km ds=some rs->Au K ρ H ds vs->vs.map (Pr H)=rs/\∀v∈vs,∃b,v=.ref b/\H b=some (.tup ((Pr H v).map V.int))/\Pr H v≠[]
 | [],_,_,h,.nil=>by cases h;exact ⟨rfl,λv hv=>nomatch hv⟩
 | .tup ts :: ds,rs,_,h,.cons r t=>by
  unfold Km at h;split at h
  ·rename_i n ns rs' h1 h2
   cases h;obtain ⟨i1,i2⟩:=SY h2 t
   cases r with
   | @tup _ b ws hb rr=>
    have:=KC h1;subst this;have:=rr.ints;subst this
    have e:Pr H (.ref b)=n :: ns:=by
     show (match H b with | some (.tup xs)=>xs.map Pv | _=>[])=_;rw [hb];exact Mv _
    refine ⟨by rw [Az,e,i1],λv hv=>?_⟩
    rcases Ay.mp hv with hv | hv
    ·subst hv
     refine ⟨b,rfl,?_,?_⟩
     ·rw [e];exact hb
     ·rw [e];exact List.cons_ne_nil _ _
    ·exact i2 v hv
  ·cases h
 | .non :: _,_,_,h,_=>by cases h
 | .bl _ :: _,_,_,h,_=>by cases h
 | .int _ :: _,_,_,h,_=>by cases h
 | .str _ :: _,_,_,h,_=>by cases h
 | .fro _ :: _,_,_,h,_=>by cases h
 | .ref _ :: _,_,_,h,_=>by cases h
 | .exc _ :: _,_,_,h,_=>by cases h
theorem Sa {K:AA} {ρ:List AK} {H:Hp}:∀ {vs:List V},(∀v∈vs,∃b,v=.ref b/\H b=some (.tup ((Pr H v).map V.int))/\Pr H v≠[])->Au K ρ H ((vs.map (Pr H)).map CS) vs
 | [],_=>.nil
 | v :: vs,h=>by
  obtain ⟨b,e,hb,_⟩:=h v A1;refine .cons ?_ (Sa λu hu=>h u (Ag _ hu));subst e;exact .tup hb (Au.of_ints _)
theorem YW {K:AA} {ρ:List AK} {H:Hp} {ds es:List D} {vs:List V} (h:J1 ds=some es) (r:Au K ρ H ds vs) :
  ∃f:V->List Int,Qd H f vs/\∀out,out.Perm vs->out.Pairwise (λx y=>ltL (f y) (f x)=false)->Au K ρ H es out:=by
 unfold J1 at h;split at h
 ·rename_i ns hz
  cases h;have:=KC hz;subst this;have:=r.ints;subst this;refine ⟨λv=>[Pv v],.inl λv hv=>?_,λout po so=>?_⟩
  ·obtain ⟨n,_,rfl⟩:=Af.mp hv
   exact ⟨n,rfl,rfl⟩
  ·have e1:out=(out.map Pv).map V.int:=by
    rw [At]
    conv=>lhs;rw [<-Ki out]
    refine B2 λv hv=>?_
    obtain ⟨n,_,rfl⟩:=Af.mp (po.mem_iff.mp hv);rfl
   have e2:out.map Pv=Dm ns:=by
    have p1:(out.map Pv).Perm (Dm ns):=by
     have:=po.map Pv;rw [Mv] at this;exact this.trans (D5 ns).symm
    refine p1.eq_of_pairwise (λa b _ _ h1 h2=>Pd h1 h2) ?_ (Jx ns);rw [Bt]
    refine so.imp λ{x y} hxy=>?_
    rw [cZ] at hxy;simp at hxy;exact hxy
   rw [e1,e2];exact Au.of_ints _
 ·split at h
  ·rename_i rs hr
   cases h;obtain ⟨i1,i2⟩:=SY hr r;refine ⟨Pr H,.inr i2,λout po so=>?_⟩
   have e2:out.map (Pr H)=Gw rs:=by
    refine Mn ?_ (Bt.mpr so) (Jy rs);have:=po.map (Pr H);rw [i1] at this;exact this.trans (D6 rs).symm
   rw [<-e2]
   exact Sa λv hv=>i2 v (po.mem_iff.mp hv)
  ·cases h
theorem Oy {K:AA} {ρ:List AK} {H:Hp}:∀ks:List Key,Au K ρ H (ks.map UT) (ks.map kV)
 | []=>.nil
 | .inl i :: ks=>.cons (.int i) (Oy ks)
 | .inr x :: ks=>.cons (.str x) (Oy ks)
theorem L6 {K:AA} {ρ:List AK} {H:Hp}:∀ {kvs:List (Key×D)} {kvs':List (Key×V)},KVR K ρ H kvs kvs'->Au K ρ H (kvs.map λx=>UT x.1) (kvs'.map λx=>kV x.1)
 | _,_,.nil=>.nil
 | (k,_) :: _,(k',_) :: _,.cons r t=>by
  have e:k=k':=r.1;subst e
  cases k with
  | inl i=>exact .cons (.int i) (L6 t)
  | inr x=>exact .cons (.str x) (L6 t)
theorem Ox {K:AA} {ρ:List AK} {H:Hp}:∀ {kvs:List (List Key×D)} {kvs':List (List Key×V)} {bs:List AK},KVR K ρ H kvs kvs'->E6 (λ(k:List Key×V) b=>H b=some (.tup (k.1.map kV))) kvs' bs->Au K ρ H (kvs.map λx=>.tup (x.1.map UT)) (bs.map V.ref)
 | _,_,_,.nil,.nil=>.nil
 | (k,_) :: _,(k',_) :: _,_,.cons r t,.cons r2 t2=>by
  have e:k=k':=r.1;subst e;exact .cons (.tup r2 (Oy k)) (Ox t t2)
theorem Ga (hc:X.calm=true) (hg:Gl X "sorted") (hm:X.mg "sorted" = none) (h:GE X E e m) (he:AS [e] X.env=(false,Br e X.env) :: AS [] X.env:=by rfl):GE X E (.Call (.Name "sorted" p) [e] [] pos) (Di m):=
 (J2 (Xf hc) hg hm ku (E2 h HC he) (by decide) (by decide) he rfl).imp λσ H Q ⟨ρ,l,S,hl,hs,hm⟩=>by
 refine ⟨ρ,l,S,hl,hs,hm.seq λd S1 hm ρ1 H1 x l1 s1 r1=>?_⟩
 cases hq:HF d S1 with
 | none=>rw [hq] at hm;exact hm.elim
 | some ds=>
  rw [hq] at hm;dsimp only at hm
  cases hi:J1 ds with
  | none=>rw [hi] at hm;exact hm.elim
  | some es=>
   rw [hi] at hm
   have fin:∀vs:List V,Au X.K ρ1 H1 es vs->∀q,H1 q=none->Q (.ref q) (upd H1 q (.lst vs)):=λvs rr q hq=>by
    have le:Le X.K ρ1 H1 (ρ1++[q]) (upd H1 q (.lst vs)):=Le.alloc hq;obtain ⟨s4,l4,at4⟩:=s1.alloc (ho:=.lst vs) (o:=.lst es) hq ⟨_,Bg,rr.mono le⟩;exact hm _ _ _ (l1.trans l4) s4 (.ref at4)
   have out:∀vs,Au X.K ρ1 H1 ds vs->∃f:V->List Int,Qd H1 f vs/\∀out,out.Perm vs->out.Pairwise (λx y=>ltL (f y) (f x)=false)->∀l,H1 l=none->Q (.ref l) (upd H1 l (.lst out)):=λvs rr=>by
    obtain ⟨f,k1,k2⟩:=YW hi rr;exact ⟨f,k1,λout po so=>fin out (k2 out po so)⟩
   cases r1 with
   | fro h1 h2=>cases hq;exact ⟨_,rfl,.inl ⟨_,.inl h1.sq,out _ h2⟩⟩
   | tup h1 h2=>cases hq;exact ⟨_,rfl,.inl ⟨_,.inr (.inl (.inl h1)),out _ h2⟩⟩
   | @ref n a hn=>
    obtain ⟨o,ho,ro⟩:=s1.there hn;unfold HF at hq;simp only [ho] at hq
    cases o with
    | lst ys=>cases hq;obtain ⟨vs,e,rr⟩:=ro;exact ⟨_,rfl,.inl ⟨vs,.inl (.inl (.inl e)),out _ rr⟩⟩
    | dK kvs=>cases hq;obtain ⟨vs,e,rr⟩:=ro;exact ⟨_,rfl,.inr (.inl ⟨vs,e,out _ (L6 rr)⟩)⟩
    | dT kvs=>cases hq;obtain ⟨vs,e,rr⟩:=ro;exact ⟨_,rfl,.inr (.inr ⟨vs,e,λbs hb=>out _ (Ox rr hb)⟩)⟩
    | ins C fs=>cases hq
    | fK _=>cases hq
    | fT _=>cases hq
   | _=>cases hq
end
end L2
namespace L2
open PySem PySem.Spec PyProof.Rows
theorem RL {K:AA} {t:String} (h:∀A∈["NoneType", "bool", "int", "str", "tuple", "list", "dict"],DG K (.type A) (.type t)=eK t A):∀A b,isB t A=some b->DG K (.type A) (.type t)=some b:=λA b e=>by
 unfold isB at e;split at e
 ·rename_i hA
  rw [h A (by simpa using hA)];exact e
 ·cases e
theorem QQ {K:AA}:∀A b,isB "tuple" A=some b->DG K (.type A) (.type "tuple")=some b:=RL λA h=>by
 simp only [Ay,CD,or_false] at h
 rcases h with rfl | rfl | rfl | rfl | rfl | rfl | rfl <;> kernel_rfl
theorem ZZ {K:AA}:∀A b,isB "list" A=some b->DG K (.type A) (.type "list")=some b:=RL λA h=>by
 simp only [Ay,CD,or_false] at h
 rcases h with rfl | rfl | rfl | rfl | rfl | rfl | rfl <;> kernel_rfl
theorem cp {K:AA}:∀A b,isB "int" A=some b->DG K (.type A) (.type "int")=some b:=RL λA h=>by
 simp only [Ay,CD,or_false] at h
 rcases h with rfl | rfl | rfl | rfl | rfl | rfl | rfl <;> kernel_rfl
theorem Za {K:AA}:∀A b,isB "bool" A=some b->DG K (.type A) (.type "bool")=some b:=RL λA h=>by
 simp only [Ay,CD,or_false] at h
 rcases h with rfl | rfl | rfl | rfl | rfl | rfl | rfl <;> kernel_rfl
def YV (K:AA):Sp:=λvs H Q _=>∃(a:AK) (ns:List Int),vs=[.ref a]/\P2 K H a (ns.map V.int)/\ns.length<=63/\∀H',Q (.bl true) H'
theorem ZR {P:Ak} {w:A9} {K:AA} {mg:Str->Option AC} {base:Bw} {k:Nat} {fa:AK} {fd:DN} {f:List D->Sto->Res D} (F:DX P w K mg base (CXG P w) k fa fd ["script"] (spM K 1 f))
  (h:∀ns:List Int,ns.length<=63->∃S',f [.fro (ns.map D.int)] []=.ok (.bl true) S'):DX P w K mg base (CXG P w) k fa fd ["script"] (YV K):=F.imp λvs H Q E ⟨a,ns,e,hS,hl,q⟩=>by
 subst e;obtain ⟨S',e⟩:=h ns hl;refine ⟨[],[.fro (ns.map D.int)],[],rfl,.cons (.fro hS (Au.of_ints ns)) .nil,⟨rfl,λi j a hi=>by simp at hi,λn o a hn=>by simp at hn⟩,?_⟩;rw [e]
 exact λρ' H' x _ _ r=>by cases r;exact q H'
theorem iY {K:AA} {H:Hp} {a:AK} {ns:List Int} (hO:dq H) (hS:SqL K H a (ns.map V.int)):P2 K H a (ns.map V.int):=by
 rcases hS with (h | h) | h
 ·rcases hO a with z | ⟨o,xs,z⟩ <;> rw [z] at h <;> cases h
 ·exact .inl h
 ·exact .inr h
theorem im {P:Ak} {w:A9} {H:Hp} {s:AG} {e:AC} {s':AG} (h:CXG P w [] H s (λ_ _ _=>False) e s'):False:=by
 obtain ⟨_,_,_,_,_,_,_,_,_,z⟩:=h;exact z
end L2
namespace L2
open PySem
def eV (I:Lo->Sto->Prop) (R:Fl->Sto->Prop) (f:Fl) (S:Sto):Prop:=match f with
 | .nx e=>I e S
 | .ct e=>I e S
 | .bk e=>R (.nx e) S
 | .rt d=>R (.rt d) S
 | .ex c e=>R (.ex c e) S
theorem dG {v:Hv} {g:MG} {b:MS} {xs:List D} (I:Nat->Lo->Sto->Prop) (R:Fl->Sto->Prop) (hv:∀i e S,I i e S->v S=some xs)
  (step:∀i d e S,xs[i]?=some d->I i e S->∃e1 S1,g d e S=.ok e1 S1/\∃f S2,b e1 S1=.ok f S2/\eV (I (i+1)) R f S2)
  (fin:∀e S,I xs.length e S->R (.nx e) S):∀(k i:Nat) (e:Lo) (S:Sto),I i e S->i<=xs.length->xs.length<=i+k->∃f S',JA v g b k i e S=.ok f S'/\R f S':=by
 intro k
 induction k with
 | zero=>
  intro i e S h h1 h2
  have:i=xs.length:=by lia
  subst this;refine ⟨.nx e,S,?_,fin e S h⟩;unfold JA;rw [hv _ e S h];simp
 | succ k ih=>
  intro i e S h h1 h2;unfold JA;rw [hv _ e S h];dsimp only
  by_cases hi:i < xs.length
  ·have hd:xs[i]?=some xs[i]:=by simp [hi]
   rw [hd];dsimp only;obtain ⟨e1,S1,q1,f,S2,q2,t⟩:=step i _ e S hd h;rw [q1];dsimp only [Res.bind];rw [q2];dsimp only [Res.bind]
   cases f with
   | nx e2=>exact ih (i+1) e2 S2 t (by lia) (by lia)
   | ct e2=>exact ih (i+1) e2 S2 t (by lia) (by lia)
   | bk e2=>exact ⟨_,_,rfl,t⟩
   | rt d=>exact ⟨_,_,rfl,t⟩
   | ex c e2=>exact ⟨_,_,rfl,t⟩
  ·have:i=xs.length:=by lia
   subst this;rw [show xs[xs.length]?=none by simp];exact ⟨.nx e,S,rfl,fin e S h⟩
theorem FZ {v:Hv} {g:MG} {b:MS} {xs:List D} {e:Lo} {S:Sto} (I:Nat->Lo->Sto->Prop) (R:Fl->Sto->Prop) (h0:I 0 e S) (hv:∀i e S,I i e S->v S=some xs)
  (step:∀i d e S,xs[i]?=some d->I i e S->∃e1 S1,g d e S=.ok e1 S1/\∃f S2,b e1 S1=.ok f S2/\eV (I (i+1)) R f S2)
  (fin:∀e S,I xs.length e S->R (.nx e) S):∃f S',JA v g b (Cm v S) 0 e S=.ok f S'/\R f S':=by
 have hl:Cm v S=xs.length:=by unfold Cm;rw [hv 0 e S h0]
 rw [hl];exact dG I R hv step fin _ _ _ _ h0 (Cg _) (by lia)
theorem Zz {v:Hv} {g:MG} {c:MT} {m:ME} {xs:List D} (I:Nat->Lo->Sto->List D->Prop) (hv:∀i e S acc,I i e S acc->v S=some xs)
  (step:∀i d e S acc,xs[i]?=some d->I i e S acc->acc.length < sizeLine/\∃e1 S1,g d e S=.ok e1 S1/\∃b S2,c e1 S1=.ok b S2/\((b=true/\∃y S3,m e1 S2=.ok y S3/\I (i+1) e1 S3 (acc++[y]))∨(b=false/\I (i+1) e1 S2 acc))) :
  ∀(k i:Nat) (e:Lo) (S:Sto) (acc:List D),I i e S acc->i<=xs.length->xs.length<=i+k->∃r S',FN v g c m k i e S acc=.ok r S'/\∃e',I xs.length e' S' r:=by
 intro k
 induction k with
 | zero=>
  intro i e S acc h h1 h2
  have:i=xs.length:=by lia
  subst this;refine ⟨acc,S,?_,e,h⟩;unfold FN;rw [hv _ e S acc h];simp
 | succ k ih=>
  intro i e S acc h h1 h2;unfold FN;rw [hv _ e S acc h];dsimp only
  by_cases hi:i < xs.length
  ·have hd:xs[i]?=some xs[i]:=by simp [hi]
   rw [hd];dsimp only;obtain ⟨hz,e1,S1,q1,b,S2,q2,t⟩:=step i _ e S acc hd h;rw [qX hz,q1];dsimp only [okR,Res.bind];rw [q2];dsimp only [okR,Res.bind]
   rcases t with ⟨rfl,y,S3,q3,t⟩ | ⟨rfl,t⟩
   ·rw [qX rfl,q3]
    exact ih (i+1) e1 S3 _ t (by lia) (by lia)
   ·rw [qY AX]
    exact ih (i+1) e1 S2 acc t (by lia) (by lia)
  ·have:i=xs.length:=by lia
   subst this;rw [show xs[xs.length]?=none by simp];exact ⟨acc,S,rfl,e,h⟩
theorem RX {v:Hv} {g:MG} {c:MT} {m:ME} {xs:List D} {e:Lo} {S:Sto} (I:Nat->Lo->Sto->List D->Prop) (h0:I 0 e S []) (hv:∀i e S acc,I i e S acc->v S=some xs)
  (step:∀i d e S acc,xs[i]?=some d->I i e S acc->acc.length < sizeLine/\∃e1 S1,g d e S=.ok e1 S1/\∃b S2,c e1 S1=.ok b S2/\((b=true/\∃y S3,m e1 S2=.ok y S3/\I (i+1) e1 S3 (acc++[y]))∨(b=false/\I (i+1) e1 S2 acc))) :
  ∃r S',FN v g c m (Cm v S) 0 e S []=.ok r S'/\∃e',I xs.length e' S' r:=by
 have hl:Cm v S=xs.length:=by unfold Cm;rw [hv 0 e S [] h0]
 rw [hl];exact Zz I hv step _ _ _ _ _ h0 (Cg _) (by lia)
theorem iB {j:Int} (h:-1000000<=j):-(2 ^ 62)<=j:=Int.le_trans (by decide) h
theorem iL {j:Int} (h:j<=1000000):j < 2 ^ 62:=X6 h (by decide)
theorem LD {ml:ML} {e:Lo} {S S1:Sto} {j:Int} (h:ml e S=.ok [.int j] S1) (h0:-1000000<=j) (h1:j<=1000000):iR1 ml e S=.ok (Dc (DA 0 j.toNat)) S1:=by
 unfold iR1;rw [h];dsimp only [Res.bind];rw [qX ⟨iB h0,iL h1⟩]
theorem iK {ml:ML} {e:Lo} {S S1:Sto} {i j:Int} (h:ml e S=.ok [.int i,.int j] S1) (h0:-1000000<=i) (h1:i<=1000000) (h2:-1000000<=j) (h3:j<=1000000):iR2 ml e S=.ok (Dc (DA i (j - i).toNat)) S1:=by
 unfold iR2;rw [h];dsimp only [Res.bind];rw [qX ⟨iB h0,iL h1,iB h2,iL h3⟩]
theorem Ha (lo:Int) (n:Nat):(DA lo n).length=n:=by simp [DA]
theorem Iv {lo:Int} {n i:Nat} {d:D} (h:(DA lo n)[i]?=some d):i < n/\d=.int (lo+i):=by
 rw [Mq] at h;split at h
 ·rename_i hi
  cases h;exact ⟨hi,rfl⟩
 ·cases h
theorem O6 {i j:Int} {S:Sto} (h:0 < j) (h1:j<=1000000):MC (.int i) (.int j) S=.ok (.int (i / j)) S:=by
 show (if du i j then _ else _)=_;rw [qX ⟨h,by lia⟩]
theorem Dh {i j:Int} {S:Sto} (h:0 < j):Dg (.int i) (.int j) S=.ok (.int (i % j)) S:=by
 show (if 0 < j then _ else _)=_;rw [qX h]
theorem BL {f:D->D->Sto->Res D} {ma mb:ME} {e:Lo} {S S1 S2 S3:Sto} {x y d:D} (ha:ma e S=.ok x S1) (hb:mb e S1=.ok y S2) (hf:f x y S2=.ok d S3):m2 f ma mb e S=.ok d S3:=by
 unfold m2;rw [ha];dsimp only [Res.bind];rw [hb];dsimp only [Res.bind];rw [hf];rfl
theorem C4 {m:ME} {e:Lo} {S S1:Sto} {d:D} {i:Nat} (h:m e S=.ok d S1):Bk i m e S=.ok (.nx (e.set i (some d))) S1:=by
 unfold Bk Wo;rw [h];rfl
theorem HA {m:ME} {e:Lo} {S S1:Sto} {d:D} (h:m e S=.ok d S1):C5 m e S=.ok (.rt d) S1:=by
 unfold C5;rw [h];rfl
theorem C9 {m:ME} {e:Lo} {S S1:Sto} {d:D} (h:m e S=.ok d S1):CB m e S=.ok (.nx e) S1:=by
 unfold CB;rw [h];rfl
theorem Dd {t:MT} {a b:MS} {e:Lo} {S S1:Sto} {c:Bool} (h:t e S=.ok c S1):sIf t a b e S=if c=true then a e S1 else b e S1:=by
 unfold sIf;rw [h];rfl
theorem ET {m:MI} {g:MG} {b:MS} {e:Lo} {S S1:Sto} {v:Hv} (h:m e S=.ok v S1):GD m g b e S=JA v g b (Cm v S1) 0 e S1:=by
 unfold GD;rw [h];rfl
theorem By {n:Nat} {f:List D->Sto->Res D} {m:ML} {e:Lo} {S S1:Sto} {ds:List D} (h:m e S=.ok ds S1) (hn:ds.length=n):BH n f m e S=f ds S1:=by
 unfold BH;rw [h];dsimp only [Res.bind];rw [qX hn]
theorem A3 {a b:MS} {e e1:Lo} {S S1:Sto} (h:a e S=.ok (.nx e1) S1):BI a b e S=b e1 S1:=by unfold BI;rw [h];rfl
theorem Mo {a b:MS} {e:Lo} {S S1:Sto} {d:D} (h:a e S=.ok (.rt d) S1):BI a b e S=.ok (.rt d) S1:=by unfold BI;rw [h];rfl
def Keeps (S S':Sto):Prop:=S.length<=S'.length/\∀j,j < S.length->S'[j]?=S[j]?
theorem Keeps.refl (S:Sto):Keeps S S:=⟨AN _,λ_ _=>rfl⟩
theorem Keeps.trans {S S1 S2:Sto} (a:Keeps S S1) (b:Keeps S1 S2):Keeps S S2:=⟨A0 a.1 b.1,λj h=>(b.2 j (AZ h a.1)).trans (a.2 j h)⟩
theorem Keeps.app (S:Sto) (G:Sto):Keeps S (S++G):=⟨by simp,λj h=>Ab h⟩
theorem Keeps.set {S S1:Sto} (a:Keeps S S1) {m:Nat} (h:S.length<=m) (o:Ob):Keeps S (S1.set m o):=⟨by simpa using a.1,λj hj=>by rw [AT (by lia)];exact a.2 j hj⟩
theorem Keeps.at {S S1:Sto} (a:Keeps S S1) {j:Nat} {o:Ob} (h:S[j]?=some o):S1[j]?=some o:=by
 rw [a.2 j (AD.mp h).1];exact h
theorem Hs {mo ma:ME} {e:Lo} {S S1 S2:Sto} {n:Nat} {xs xs2:List D} {y:D} (h1:mo e S=.ok (.ref n) S1) (h2:S1[n]?=some (.lst xs)) (h3:ma e S1=.ok y S2) (h4:S2[n]?=some (.lst xs2)) (h5:xs2.length < sizeLine) :
  FY mo ma e S=.ok .non (S2.set n (.lst (xs2++[y]))):=by
 unfold FY;rw [h1];dsimp only [Res.bind];rw [h2];dsimp only;rw [h3];dsimp only [Res.bind];rw [h4];dsimp only;rw [qX h5]
theorem XY {mo ma:ME} {e:Lo} {S S1 S2:Sto} {n k:Nat} {xs xs2 ys:List D} (h1:mo e S=.ok (.ref n) S1) (h2:S1[n]?=some (.lst xs)) (h3:ma e S1=.ok (.ref k) S2) (h4:S2[n]?=some (.lst xs2)) (h5:S2[k]?=some (.lst ys)) (hk:k≠n) (h6:xs2.length+ys.length<=sizeLine) :
  L3 mo ma e S=.ok .non (S2.set n (.lst (xs2++ys))):=by
 unfold L3;rw [h1];dsimp only [Res.bind]
 have a1:atL (.ref n) S1=some (n,xs):=by unfold atL;dsimp only;rw [h2]
 have a2:atL (.ref n) S2=some (n,xs2):=by unfold atL;dsimp only;rw [h4]
 have a3:atL (.ref k) S2=some (k,ys):=by unfold atL;dsimp only;rw [h5]
 rw [a1];dsimp only;rw [h3];dsimp only [Res.bind];rw [a2,a3];dsimp only;rw [qX ⟨hk,h6⟩]
theorem ED {n:Nat} {S:Sto} {xs:List D} (h:S[n]?=some (.lst xs)):Em (.ref n) S=some xs:=by
 unfold Em NI;dsimp only;rw [h]
theorem Hk {m:ME} {e:Lo} {S S1:Sto} {n:Nat} {xs:List D} (h:m e S=.ok (.ref n) S1) (hx:S1[n]?=some (.lst xs)):E9 m e S=.ok (Em (.ref n)) S1:=by
 unfold E9;rw [h];dsimp only [Res.bind];rw [ED hx]
theorem MB {m:ME} {e:Lo} {S S1:Sto} {xs:List D} (h:m e S=.ok (.tup xs) S1):E9 m e S=.ok (Dc xs) S1:=by
 unfold E9;rw [h];rfl
theorem Mz {ml:ML} {e:Lo} {S S1:Sto} {ds:List D} (h:ml e S=.ok ds S1):DT ml e S=.ok (.ref S1.length) (S1++[.lst ds]):=by
 unfold DT;rw [h];rfl
theorem B1 (S:Sto) (o:Ob):(S++[o])[S.length]?=some o:=by simp
theorem Ce {n:Nat} {S:Sto} {ds:List D} (h:S[n]?=some (.lst ds)):Eu (.ref n) S=some ds:=by
 unfold Eu;dsimp only;rw [h]
theorem LC {n:Nat} {S:Sto} {ds:List D} (h:S[n]?=some (.lst ds)):HF (.ref n) S=some ds:=by
 unfold HF;dsimp only;rw [h]
theorem HY {m:ME} {e:Lo} {S S1:Sto} {d:D} {ds es:List D} (h:m e S=.ok d S1) (hi:HF d S1=some ds) (hs:J1 ds=some es):Di m e S=.ok (.ref S1.length) (S1++[.lst es]):=by
 unfold Di;rw [h];dsimp only [Res.bind];rw [hi];dsimp only;rw [hs]
theorem Hg {m:ME} {e:Lo} {S S1:Sto} {d:D} {ds:List D} (h:m e S=.ok d S1) (hq:Eu d S1=some ds):FX m e S=.ok (.tup ds) S1:=by
 unfold FX;rw [h];dsimp only [Res.bind];rw [hq]
theorem JQ {m:ME} {e:Lo} {S S1:Sto} {d:D} {ds:List D} (h:m e S=.ok d S1) (hq:Eu d S1=some ds):HD m e S=.ok (.int ds.length) S1:=by
 unfold HD;rw [h];dsimp only [Res.bind];rw [hq]
theorem Q2 {C:AK} {f:Str} {mo mv:ME} {e:Lo} {S S1 S2:Sto} {n:Nat} {fs:List (Str×D)} {v:D} (hv:mv e S=.ok v S1) (ho:mo e S1=.ok (.ref n) S2) (hs:S2[n]?=some (.ins C fs)) (hl:fs.length < 1000) :
  QG C f mo mv e S=.ok (.nx e) (S2.set n (.ins C (Nj f v fs))):=by
 unfold QG;rw [hv];dsimp only [Res.lift];rw [ho];dsimp only [Res.lift];rw [hs];dsimp only;rw [qX ⟨rfl,hl⟩]
theorem O4 {C:AK} {f:Str} {m:ME} {e:Lo} {S S1:Sto} {n:Nat} {fs:List (Str×D)} {v:D} (h:m e S=.ok (.ref n) S1) (hs:S1[n]?=some (.ins C fs)) (hl:fs.lookup f=some v):HE C f m e S=.ok v S1:=by
 unfold HE;rw [h];dsimp only [Res.bind];rw [hs];dsimp only;rw [qX rfl,hl]
theorem cX {C:AK} {n:Nat} {f:List D->Sto->Res D} {ml:ML} {e:Lo} {S S1 S2:Sto} {ds:List D} (h:ml e S=.ok ds S1) (hn:ds.length+1=n) (hf:f (.ref S1.length :: ds) (S1++[.ins C []])=.ok .non S2):Os C n f ml e S=.ok (.ref S1.length) S2:=by
 unfold Os;rw [h];dsimp only [Res.bind];rw [qX hn,hf]
theorem Bc {m:ME} {r:ML} {e:Lo} {S S1 S2:Sto} {d:D} {ds:List D} (h:m e S=.ok d S1) (hr:r e S1=.ok ds S2):AI m r e S=.ok (d :: ds) S2:=by
 unfold AI;rw [h];dsimp only [Res.bind];rw [hr]
theorem N7 {n:Nat} {mi:MI} {g:MG} {c:MT} {m:ME} {e:Lo} {S S1:Sto} {v:Hv} (h:mi e S=.ok v S1):FI n mi g c m e S=FN v g c m (Cm v S1) 0 (BU n none++e) S1 []:=by
 unfold FI;rw [h];rfl
theorem Gf {m:ME} {e:Lo} {S S1:Sto} {b:Bool} (h:m e S=.ok (.bl b) S1):mB m e S=.ok b S1:=by
 unfold mB;rw [h];rfl
theorem ZO {f g:D->D->Sto->Res D} {ma mb mc:ME} {e:Lo} {S S1 S2 S3 S4 S5:Sto} {x y w d:D} (ha:ma e S=.ok x S1) (hb:mb e S1=.ok y S2) (hf:f x y S2=.ok (.bl true) S3) (hc:mc e S3=.ok w S4) (hg:g y w S4=.ok d S5):m3 f g ma mb mc e S=.ok d S5:=by
 unfold m3;rw [ha];dsimp only [Res.bind];rw [hb];dsimp only [Res.bind];rw [hf];dsimp only [Res.bind,okR];rw [hc];dsimp only [Res.bind];rw [hg]
theorem kF {f g:D->D->Sto->Res D} {ma mb mc:ME} {e:Lo} {S S1 S2 S3:Sto} {x y:D} (ha:ma e S=.ok x S1) (hb:mb e S1=.ok y S2) (hf:f x y S2=.ok (.bl false) S3):m3 f g ma mb mc e S=.ok (.bl false) S3:=by
 unfold m3;rw [ha];dsimp only [Res.bind];rw [hb];dsimp only [Res.bind];rw [hf];rfl
theorem UR {i j:Int} {S:Sto} {b:Bool} (h:decide (i<=j)=b):leD (.int i) (.int j) S=.ok (.bl b) S:=by subst h;rfl
theorem Ov {i j:Int} {S:Sto} {b:Bool} (h:decide (i < j)=b):ltD (.int i) (.int j) S=.ok (.bl b) S:=by subst h;rfl
theorem iX {i j:Int} {S:Sto} {b:Bool} (h:decide (j<=i)=b):geD (.int i) (.int j) S=.ok (.bl b) S:=by subst h;rfl
theorem LG {i j:Int} {S:Sto} {b:Bool} (h:decide (i=j)=b):eqD false (.int i) (.int j) S=.ok (.bl b) S:=by
 subst h;show Res.ok (D.bl (i==j)) S=_;rfl
theorem ZC {i j:Int} {S:Sto} {b:Bool} (h:decide (i≠j)=b):eqD true (.int i) (.int j) S=.ok (.bl b) S:=by
 subst h;show Res.ok (D.bl (!(i==j))) S=_
 by_cases e:i=j <;> simp [e]
theorem Oo {m:MT} {e:Lo} {S S1:Sto} {b:Bool} (h:m e S=.ok b S1):Kc m e S=.ok (!b) S1:=by
 unfold Kc;rw [h];rfl
theorem Mi {ml:ML} {e:Lo} {S S1:Sto} {ds:List D} (h:ml e S=.ok ds S1) (hl:ds.length<=1000):Gz ml e S=.ok (.tup ds) S1:=by
 unfold Gz;rw [h];dsimp only [Res.bind];rw [qX (A0 hl (by decide))]
theorem gg {ta tb:MT} {e:Lo} {S S1:Sto} (h:ta e S=.ok true S1):mOr ta tb e S=.ok true S1:=by
 unfold mOr;rw [h];rfl
theorem Q8 {ta tb:MT} {e:Lo} {S S1:Sto} (h:ta e S=.ok false S1):mOr ta tb e S=tb e S1:=by
 unfold mOr;rw [h];rfl
theorem V7 {ta tb:MT} {e:Lo} {S S1:Sto} (h:ta e S=.ok true S1):M5 ta tb e S=tb e S1:=by
 unfold M5;rw [h];rfl
theorem V6 {ta tb:MT} {e:Lo} {S S1:Sto} (h:ta e S=.ok false S1):M5 ta tb e S=.ok false S1:=by
 unfold M5;rw [h];rfl
theorem VU {m:ME} {e:Lo} {S S1:Sto} {d:D} {ds:List D} (h:m e S=.ok d S1) (hq:Eu d S1=some ds):Jo m e S=.ok ds S1:=by
 unfold Jo;rw [h];dsimp only [Res.bind];rw [hq]
theorem Yk {f:List D->Sto->Res D} {ml:ML} {e:Lo} {S S1 S2:Sto} {ds:List D} {d:D} (h:ml e S=.ok ds S1) (hf:f ds S1=.ok d S2):mQ f ml e S=.ok d S2:=by
 unfold mQ;rw [h];dsimp only [Res.bind];rw [hf];rfl
def WB:D->Prop
 | .tup ds=>∃ns:List Int,ds=ns.map D.int
 | _=>False
theorem O9 (n:Nat):∀ns:List Int,eqL (eqP n) (ns.map D.int) (ns.map D.int)=some true
 | []=>rfl
 | x :: ns=>by
  rw [Az];unfold eqL;rw [O9 n ns]
  have:eqP n (.int x) (.int x)=some true:=by cases n <;> simp [eqP,Ja]
  rw [this];rfl
theorem Zt (n:Nat) {d:D} (h:WB d):eqP (n+1) d d=some true:=by
 cases d with
 | tup ds=>
  obtain ⟨ns,rfl⟩:=h;exact O9 n ns
 | _=>cases h
theorem TK (n:Nat):∀ds:List D,(∀d∈ds,WB d)->eqL (eqP (n+1)) ds ds=some true
 | [],_=>rfl
 | d :: ds,h=>by
  unfold eqL;rw [TK n ds λx hx=>h x (Ag _ hx),Zt n (h d A1)];rfl
theorem J8 {n:Nat} {S:Sto} {ds:List D} (h:S[n]?=some (.lst ds)):Ow (.ref n) S=some ds:=by
 unfold Ow;dsimp only;rw [h]
end L2
namespace L2
open PySem PySem.Spec PyProof.Rows
section
variable {X:Cx} {E:EW} {e:Expr} {tg:Expr}
end
section
variable {X:Cx} {E:EW} {e:Expr} {es:List Expr} {p pos p2:Pos} {x1:Nat} {m:ME} {c:V} {cs:List V} {Cs:List AK} {tabC:AK->Option Bool}
end
def pickG {α:Type} (xs:List α) (lo hi st:Option Int):List α:=(sliceRange (aM lo hi st xs.length).1 (aM lo hi st xs.length).2.1 (aM lo hi st xs.length).2.2).filterMap (xs[·]?)
theorem W0 {α β:Type} (f:α->β) (xs:List α) (lo hi st:Option Int):pickG (xs.map f) lo hi st=(pickG xs lo hi st).map f:=by
 unfold pickG;rw [AE,List.map_filterMap]
 congr 1
 funext i
 rw [AO]
theorem Kl (its:List AC) (lo hi st:Option Int):slicePick its.toArray lo hi st=(pickG its lo hi st).toArray:=by
 unfold slicePick pickG;simp only [AY,List.getElem?_toArray]
theorem Bi.pickIx {xs:List V} {us:List AC} (r:Bi xs us):∀is:List Nat,Bi (is.filterMap (xs[·]?)) (is.filterMap (us[·]?))
 | []=>.nil
 | i :: is=>by
  have ih:=Bi.pickIx r is
  cases hx:xs[i]? with
  | none=>
   have hu:us[i]?=none:=by
    rw [Bj] at hx ⊢;rw [<-r.length];exact hx
   rw [Fb (by simpa using hx),Fb (by simpa using hu)];exact ih
  | some x=>
   obtain ⟨u,hu,ru⟩:=r.get hx;rw [Fa (by simpa using hx),Fa (by simpa using hu)];exact .cons ru ih
theorem Bi.pickG {xs:List V} {us:List AC} (r:Bi xs us) (lo hi st:Option Int):Bi (L2.pickG xs lo hi st) (L2.pickG us lo hi st):=by
 unfold L2.pickG;rw [r.length];exact r.pickIx _
theorem Au.pickIx {K:AA} {ρ:List AK} {H:Hp} {ds:List D} {vs:List V} (r:Au K ρ H ds vs):∀is:List Nat,Au K ρ H (is.filterMap (ds[·]?)) (is.filterMap (vs[·]?))
 | []=>.nil
 | i :: is=>by
  have ih:=Au.pickIx r is
  cases hx:ds[i]? with
  | none=>
   have hu:vs[i]?=none:=by
    rw [Bj] at hx ⊢;rw [<-r.length];exact hx
   rw [Fb (by simpa using hx),Fb (by simpa using hu)];exact ih
  | some x=>
   obtain ⟨u,hu,ru⟩:=r.get hx;rw [Fa (by simpa using hx),Fa (by simpa using hu)];exact .cons ru ih
theorem Au.pickG {K:AA} {ρ:List AK} {H:Hp} {ds:List D} {vs:List V} (r:Au K ρ H ds vs) (lo hi st:Option Int):Au K ρ H (L2.pickG ds lo hi st) (L2.pickG vs lo hi st):=by
 unfold L2.pickG;rw [r.length];exact r.pickIx _
section
variable {X:Cx} {E:EW} {e st:Expr} {te:TE} {lo hi:Option Expr} {tl th ts:TO} {pos p2:Pos} {m:ME} {ml mh ms:MO}
def tSlS (K:AA) (te:TE) (tl th ts:TO):TE:=λσ H Q=>te σ H λx H1=>tl σ H1 λl H2=>th σ H2 λu H3=>ts σ H3 λc H4=>
 ∃a xs,x=.ref a/\SqL K H4 a xs/\c≠some 0/\∀p,H4 p=none->Q (.ref p) (upd H4 p (.lst (pickG xs l u c)))
theorem W3 (he:PE X e te) (hl:PO X lo tl) (hu:PO X hi th) (hst:PO X (some st) ts):PE X (.Subscript e (.Slice lo hi (some st) p2) pos) (tSlS X.K te tl th ts):=by
 intro pins s σ H Q I h;refine ej (thn (he pins s σ H _ I h) λv s1 ⟨x,H1,I1,r1,q1⟩=>?_);refine wpAny_Slice (thn (hl pins s1 σ H1 _ I1 q1) λvl s2 ⟨l,H2,I2,pl,q2⟩=>thn (hu pins s2 σ H2 _ I2 q2) λvu s3 ⟨u,H3,I3,pu,q3⟩=>?_)
 refine thn (hst pins s3 σ H3 _ I3 q3) λvc s3 ⟨c,H3,I3,pc,q3⟩=>?_
 have I4:Inv X pins σ H3 { s3 with heap:=s3.heap.push { cls:=.type "slice",data:=.fields #[vl,vu,vc] } }:=I3.kept (t':=s3.toks) λb ob q=>AJ _ q
 obtain ⟨a,xs,rfl,hx,hc,q⟩:=q3;cases r1;obtain ⟨its,r,ht,hz⟩:=I4.list hx;show Aq (Ac X.prog X.w) X.A (WE e (.Slice lo hi (some st) p2) (.ref a) (.ref s3.heap.objs.size)) (EP X pins σ Q) X.xe { s3 with heap:=s3.heap.push { cls:=.type "slice",data:=.fields #[vl,vu,vc] } };refine tail_any (ops:=[.ref a,.ref s3.heap.objs.size]) ht.isList.typeIs i8.lookup ?_ (by with_unfolding_all rfl);have hlen:=r.length;refine wpAny_getItem_list_slice ht.isList (jK ..) pl pu pc hc ?_ (by rw [AY] <;> lia);rw [Kl]
 have hle:(pickG xs l u c).length<=xs.length:=by
  have:=slicePick_size_le its.toArray l u c;rw [Kl,AY,AY,<-(r.pickG l u c).length,<-hlen] at this;exact this
 refine ⟨.ref _,_,I4.laid (t':=s3.toks) (o:=.lst (pickG xs l u c)) (λb ob q=>AJ _ q) (AN _) ?_,rfl,q _ (I4.hok.fresh (AN _))⟩;exact ⟨A0 hle hz,_,0,r.pickG l u c,Aj _ rfl⟩
def N1 (m:ME) (ml mh ms:MO):ME:=λe S=>(m e S).bind λd S1=>(ml e S1).bind λlo S2=>(mh e S2).bind λhi S3=>(ms e S3).bind λst S4=>match Ow d S4 with
 | some ds=>if st=some 0 then .bad else .ok (.ref S4.length) (S4++[.lst (pickG ds lo hi st)])
 | none=>.bad
theorem XT (he:GE X E e m) (hl:GO X E lo ml) (hu:GO X E hi mh) (hst:GO X E (some st) ms):GE X E (.Subscript e (.Slice lo hi (some st) p2) pos) (N1 m ml mh ms):=(W3 he hl hu hst).imp λσ H Q ⟨ρ,l,S,hl,hs,hm⟩=>by
 refine ⟨ρ,l,S,hl,hs,hm.seq λd S1 hm ρ1 H1 x l1 s1 r1=>⟨ρ1,l,S1,hl.mono l1,s1,(hm.later l1).seq λlo S2 hm ρ2 H2 l2 s2=>⟨ρ2,l,S2,hl.mono (l1.trans l2),s2,(hm.later l2).seq λhi S3 hm ρ3 H3 l3 s3=>⟨ρ3,l,S3,hl.mono (l1.trans (l2.trans l3)),s3,(hm.later l3).seq λst S4 hm ρ4 H4 l4 s4=>?_⟩⟩⟩⟩;have r4:=r1.mono (l2.trans (l3.trans l4))
 cases hq:Ow d S4 with
 | none=>rw [hq] at hm;exact hm.elim
 | some ds=>
  rw [hq] at hm;dsimp only at hm;split at hm
  ·exact hm.elim
  ·rename_i hc
   obtain ⟨p,xs,rfl,rr,sq⟩:=KU s4 r4 hq;refine ⟨p,xs,rfl,sq,hc,λq hq=>?_⟩;have le:Le X.K ρ4 H4 (ρ4++[q]) (upd H4 q (.lst (pickG xs lo hi st))):=Le.alloc hq;obtain ⟨s5,l5,at5⟩:=s4.alloc (ho:=.lst (pickG xs lo hi st)) (o:=.lst (pickG ds lo hi st)) hq ⟨_,Bg,(rr.pickG lo hi st).mono le⟩;exact hm _ _ _ (l1.trans (l2.trans (l3.trans (l4.trans l5)))) s5 (.ref at5)
end
section
variable {X:Cx} {E:EW} {e:Expr} {p pos:Pos} {m:ME}
end
end L2
namespace PySem
open Sem (wp)
open AutoSeq1 (wpAny_loadPart')
theorem J6 (l:AK) (items:Array AC) (n:Nat) (dct:Option AK) (sl:Array (Option AC)) :
  Meets (Builtin.«enumerate.__new__» ⟨[.type "enumerate",.ref l],[]⟩) (λ_ R s=>s.heap.get? l=some { cls:=.type "tuple",dict:=dct,data:=.seq items n,slots:=sl } /\
   R (.ok (.ret (.ref (s.heap.push { cls:=.type "tuple_iterator",data:=.fields #[.ref l,.int 0 0] }).objs.size)))
    { s with heap:=(s.heap.push { cls:=.type "tuple_iterator",data:=.fields #[.ref l,.int 0 0] }).push { cls:=.type "enumerate",data:=.fields #[.none,.bool false,.ref s.heap.objs.size,MY 0,.none,.none] } }):=
 .of_wp λprog w A R s h=>by
  obtain ⟨hp,g,d,tk,os⟩:=s;obtain ⟨hl,h⟩:=h;have hsub:=sub_enumerate;have hL:Bw.IsTuple (AG.heap ⟨hp,g,d,tk,os⟩) l items:=⟨_,hl,rfl,n,rfl⟩
  wp_walk using GF hl
  refine wpAny_stack_any λst=>AW ?_
  split
  ·rename_i c _ _ _ _ _
   cases (c==D7 "enumerate")
   ·wp_walk using GF hl,Eh hL
    exact ⟨_,rfl,h⟩
   ·wp_walk using GF hl,Eh hL
    exact ⟨_,rfl,h⟩
  ·wp_walk using GF hl,Eh hL
   exact ⟨_,rfl,h⟩
section
variable {prog:Ak} {w:A9} {A:BB} {E:AC->AG->Prop} {s:AG}
theorem KM {l:AK} {items:Array AC} {Q:AC->AG->Prop} (hL:s.heap.IsTuple l items)
  (h:∀h',Qp h' (s.heap.objs.size+1) s.heap.objs.size 0 .none->h'.IsTupleIter s.heap.objs.size l 0->h'.objs.size=s.heap.objs.size+2 ->
   (∀b o,s.heap.get? b=some o->h'.get? b=some o)->Q (.ref (s.heap.objs.size+1)) { s with heap:=h' }) :
  Aq (Ac prog w) A (call (.type "enumerate") [.ref l]) Q E s:=by
 obtain ⟨⟨c,dct,dt,sl⟩,hl,hc,n,hd⟩:=hL
 replace hc:c=.type "tuple":=hc
 replace hd:dt=.seq items n:=hd
 subst hc hd
 refine callType_new F.called_enumerate (by decide) (F.typeCall_enumerate_1 _) (F.newCall_enumerate_1 _) (λobj=>F.args_object_init_2 obj _) F.entry_enumerate_new
  (J6 l items n dct sl) ⟨hl,?_⟩
 have hz:(s.heap.push { cls:=.type "tuple_iterator",data:=.fields #[.ref l,.int 0 0] }).objs.size=s.heap.objs.size+1:=DO ..;show _/\_;rw [hz]
 have he:Qp ((s.heap.push { cls:=.type "tuple_iterator",data:=.fields #[.ref l,.int 0 0] }).push
   { cls:=.type "enumerate",data:=.fields #[.none,.bool false,.ref s.heap.objs.size,MY 0,.none,.none] }) (s.heap.objs.size+1) s.heap.objs.size 0 .none:=by
  have:=Aj (s.heap.push { cls:=.type "tuple_iterator",data:=.fields #[.ref l,.int 0 0] })
   (o:={ cls:=.type "enumerate",data:=.fields #[.none,.bool false,.ref s.heap.objs.size,MY 0,.none,.none] }) rfl
  rw [hz] at this;exact this
 refine ⟨⟨_,he,rfl⟩,h _ he ⟨_,AJ _ (Aj _ rfl),rfl,rfl⟩ (by rw [DO,hz]) λb o x=>AJ _ (AJ _ x)⟩
theorem Lz {it t:AK} {i:Nat} {items} {x:AC} {Q:AC->AG->Prop} (hit:s.heap.IsTupleIter it t i)
  (ht:s.heap.IsTuple t items) (hx:items[i]?=some x)
  (hQ:∀h',h'.IsTupleIter it t (i+1)->EC it s.heap h'->Q x { s with heap:=h' }) :
  Aq (Ac prog w) A (D4 (.ref it)) Q E s:=by
 obtain ⟨o,ho,hc,hd⟩:=id hit;obtain ⟨ol,hol,_,nl,hdl⟩:=ht;unfold D4
 refine AH (EN (name:=Jt "__next__") hit.typeIs FG
  (EM FG hit.typeIs Rw ?_ (Qr _)))
 show Aq _ _ (field (.ref it) 0 >>= _) _ _ s;refine AH (MX ho hd (x:=.ref t) rfl ?_);show Aq _ _ (if (A7 t==Cb)=true then _ else _) _ _ s;rw [qY (show ¬((A7 t==Cb)=true) from AX)];show Aq _ _ (field (.ref it) 1 >>= _) _ _ s;refine AH (MX ho hd (x:=.int i 0) rfl ?_);show Aq _ _ (seqItems? (.ref t) >>= _) _ _ s;refine AH (wpAny_seqItems hol hdl ?_);simp only [B9,hx];refine AH (MV ho hd (by simp) (AW ⟨x,rfl,AW (hQ _ ?_ (GN ..))⟩))
 exact ⟨_,Tu _ ho (U0 (IR hd _)),(aE ..).trans hc,by
  rw [IR hd];simp [MY]⟩
theorem Iw {it t:AK} {i:Nat} {items} {Q:AC->AG->Prop} (hh:A.handled=none)
  (hit:s.heap.IsTupleIter it t i) (ht:s.heap.IsTuple t items) (hx:items[i]?=none)
  (hE:∀h' e,U5 it s.heap h'->(∃o,h'.get? e=some o/\o.cls=.type "StopIteration")->E (.ref e) { s with heap:=h' }) :
  Aq (Ac prog w) A (D4 (.ref it)) Q E s:=by
 obtain ⟨o,ho,hc,hd⟩:=id hit;obtain ⟨ol,hol,_,nl,hdl⟩:=ht;unfold D4
 refine AH (EN (name:=Jt "__next__") hit.typeIs FG
  (EM FG hit.typeIs Rw ?_ (Qr _)))
 show Aq _ _ (field (.ref it) 0 >>= _) _ _ s;refine AH (MX ho hd (x:=.ref t) rfl ?_);show Aq _ _ (if (A7 t==Cb)=true then _ else _) _ _ s;rw [qY (show ¬((A7 t==Cb)=true) from AX)];show Aq _ _ (field (.ref it) 1 >>= _) _ _ s;refine AH (MX ho hd (x:=.int i 0) rfl ?_);show Aq _ _ (seqItems? (.ref t) >>= _) _ _ s;refine AH (wpAny_seqItems hol hdl ?_);simp only [B9,hx];refine AH (eW (AH (MV ho hd (by simp) ?_)));show Aq _ _ (newExc (.type "StopIteration") [] >>= _) _ _ _;refine AH ?_;simp only [newExc,newTuple];refine AH (FC ?_ (by size_fits));refine AH (m:=Ma _ _) (wpAny_of_eq (a:=Cb) (by first | rfl | (simp only [Ma];rfl)) ?_);refine FC ?_ (by size_fits);simp only [raiseNew];refine AH (wpAny_handled ?_)
 first | rw [show A.in1.handled=none from hh] | rw [hh]
 refine AH (AW (wpAny_throw ?_));exact hE _ _ (((GN ..).extBut.push _).push _) ⟨_,Aj _ rfl,rfl⟩
theorem TX {prog:Ak} {w:A9} {A:BB} (hh:A.handled=none) (it l:AK) (hne:l≠it) (items:Array AC) :
  Draws prog w A it [it,l] items.size (λi v=>items[i]?=some v) (λi h=>h.IsTupleIter it l i/\h.IsTuple l items) where
 live:=λ_ _ st=>let ⟨o,ho,_⟩:=st.1;⟨o,ho⟩
 frame:=λ_ _ _ st hk=>⟨st.1.at λo e=>hk it (by simp) o e,let ⟨o,ho,r⟩:=st.2;⟨o,hk l (by simp) o ho,r⟩⟩
 item:=λi s Q E hi st hQ=>by
  refine Lz st.1 st.2 (x:=items[i]) (by simp [hi]) λh' hit' hs'=>?_
  exact hQ _ h' s.toks (by simp [hi]) ⟨hit',st.2.extBut hs'.extBut hne⟩ hs'
 done:=λs Q E st hE=>Iw hh st.1 st.2 (by simp) hE
theorem Kb {e it l:AK} {i:Nat} {items:Array AC} {old:AC} {Q:Option AC->AG->Prop} (hh:A.handled=none)
  (he:Qp s.heap e it i old) (hit:s.heap.IsTupleIter it l i) (hl:s.heap.IsTuple l items) (hx:items[i]?=none)
  (hQ:∀h',U5 it s.heap h'->Q none { s with heap:=h' }):Aq (Ac prog w) A (Qi (.ref e)) Q E s:=by
 have hT:s.TypeIs (.ref e) "enumerate":=⟨_,he,rfl⟩;unfold Qi
 refine AH (Np (EN (name:=Jt "__next__") hT Xv
  (EM Xv hT F.entry_enumerate_next ?_ (F.args_enumerate_next_1 _))))
 show Aq _ _ (field (.ref e) 2 >>= _) _ _ _;refine AH (MX he rfl (x:=.ref it) rfl ?_);refine AH (Iw hh hit hl hx λh' x he' hx'=>?_);obtain ⟨o,ho,hc⟩:=hx';refine AH (jL (T:="StopIteration") (b:=true) ⟨o,ho,hc⟩ isSubtype_stop ?_);exact AW (hQ _ he')
end
end PySem
namespace L2
open PySem PySem.Spec PyProof.Rows
theorem Inv.turned2 {X:Cx} {pins:List (AK×Obj)} {σ:List (Option V)} {H:Hp} {s:AG} {h':Bw} {t':Nat} {e it a:AK} {o:HO} (I:Inv X pins σ H s) (k:∀b u,b≠e->b≠it->s.heap.get? b=some u->h'.get? b=some u)
  (fe:LO X pins H e) (fi:LO X pins H it) (ha:s.heap.objs.size<=a) (new:CM X.prog X.w (upd H a o) h' a o):Inv X pins σ (upd H a o) { s with heap:=h',toks:=t' }:=by
 have hn:=I.hok.fresh ha
 have nit:∀b u,H b=some u->b≠e/\b≠it:=λb u q=>⟨λz=>(by rw [z,fe.1] at q;cases q),λz=>(by rw [z,fi.1] at q;cases q)⟩
 have out:∀b:AK,b∉[e,it]->b≠e/\b≠it:=λb hb=>⟨λz=>hb (by simp [z]),λz=>hb (by simp [z])⟩
 refine I.step (g':=s.gens) (d':=s.drawn) (ch:=[e,it]) (λb hb=>?_) (λb o _ _ hc q _=>k b o (out b hc).1 (out b hc).2 q) (λb o _ _ hc q _=>⟨o.slots,k b o (out b hc).1 (out b hc).2 q⟩) (λb o _ q n=>?_)
  (λb o hc q=>⟨o,k b o (out b hc).1 (out b hc).2 q⟩) (λb xs q=>by rw [BW (CF q hn)];exact q) (λb o u q=>by rw [BW (CF q hn)];exact q) (λb ps q=>⟨#[],by rw [BW (CF q hn),q];simp⟩) (λm hm=>?_) (λb u q=>?_) I.bare
 ·have hb':b=e∨b=it:=by simpa using hb
  rcases hb' with z | z
  ·subst z;exact ⟨fe.2.2.2.1,fe.2.1,fe.2.2.2.2.1,fe.2.2.2.2.2⟩
  ·subst z;exact ⟨fi.2.2.2.1,fi.2.1,fi.2.2.2.2.1,fi.2.2.2.2.2⟩
 ·rw [BW (Am (AZ (Ad q) ha))];exact n
 ·obtain ⟨o,es,ep,ho,r⟩:=hm
  exact ⟨o,es,ep,k _ o (Bx fe.2.1) (Bx fi.2.1) ho,r⟩
 ·by_cases hb:b=a
  ·subst hb;rw [Bg] at q;cases q;exact new
  ·rw [BW hb] at q
   refine (I.hok b u q).stay (λc v hc r=>?_) (λc r=>by rw [BW (CF r hn)];exact r) λc xs r=>by rw [BW (CF r hn)];exact r
   have:c≠e/\c≠it:=by
    rcases hc with z | z
    ·rw [z];exact nit b u q
    ·exact nit c _ z
   exact k c v this.1 this.2 r
def Ite (sq:Hp->List V->Prop):It:=
 ⟨λi H=>∃xs x,sq H xs/\xs[i]?=some x,λi H y H'=>∃p x,H p=none/\y=.ref p/\H'=upd H p (.tup [.int i,x])/\∀xs,sq H xs->xs[i]?=some x,λi H=>∃xs,sq H xs/\xs.length<=i⟩
section
variable {P:Ak} {w:A9} {K:AA} {elts:List Expr} {x1:Nat} {pos:Pos}
theorem QT {X:Cx} {pins:List (AK×Obj)} {σ:St} {H:Hp} {s:AG} {E:AC->AG->Prop} {sq:Hp->List V->Prop} {e it:AK} {i:Nat} {x:V} {u:AC} {tk:Nat} {h':Bw} {tn:Nat->Bw->Prop}
  (I:Inv X pins σ H s) (hne:e≠it) (hf:∀b∈[e,it],LO X pins H b) (le:e < s.heap.objs.size) (li:it < s.heap.objs.size) (ru:RelV x u) (hx:∀xs,sq H xs->xs[i]?=some x)
  (ho:IsEnumOut h' e it ((i:Int)+1) u s.heap.objs.size) (hT:h'.get? s.heap.objs.size=some { cls:=.type "tuple",data:=.seq #[.int i tk,u] }) (hk:∀b o,b≠e->b≠it->s.heap.get? b=some o->h'.get? b=some o)
  (ht:∀h2,EC e h' h2->(∃old,Qp h2 e it ((i+1:Nat):Int) old)->tn (i+1) h2) :
  Aq (Ac X.prog X.w) X.A (LR (.Tuple elts x1 pos) (.ref e) (.ref s.heap.objs.size)) (λ_ s2=>∃y H',Inv X pins σ H' s2/\RelV y (.ref s.heap.objs.size)/\(Ite sq).yld i H y H'/\tn (i+1) s2.heap/\∀b∈[e,it],H' b=none) E { s with heap:=h',toks:=tk+1 }:=by
 have fe:=hf e (by simp);have fi:=hf it (by simp);have ne:e≠s.heap.objs.size:=Am le;have ni:it≠s.heap.objs.size:=Am li
 have new:CM X.prog X.w (upd H s.heap.objs.size (.tup [.int i,x])) h' s.heap.objs.size (.tup [.int i,x]):=
  ⟨⟨A0 (show 2<=1000 by decide) (by decide),_,hT,rfl⟩,[.int i tk,u],.cons ⟨tk,rfl⟩ (.cons ru .nil),_,hT,rfl,_,rfl⟩
 have I1:=I.turned2 (t':=tk+1) hk fe fi (AN _) new
 refine wpAny_letOwnedTupleGo_enum (s:={ s with heap:=h',toks:=tk+1 }) ho λh2 he2 hs2=>?_
 have hs2':EC e h' h2:=hs2;have I2:=I1.turned (t':=tk+1) (h':=h2) (it:=e) (λb o hb q=>(hs2'.2 b hb).trans q) (by rw [BW ne];exact fe.1) fe.2.1 fe.2.2.2.1 fe.2.2.2.2.1 fe.2.2.2.2.2;refine ⟨.ref s.heap.objs.size,_,I2,rfl,⟨s.heap.objs.size,x,I.hok.fresh (AN _),rfl,rfl,hx⟩,ht h2 hs2' ⟨u,by rw [dz,Int.natCast_one];exact he2⟩,λb hb=>?_⟩
 have hb':b=e∨b=it:=by simpa using hb
 rcases hb' with z | z
 ·rw [z,BW ne];exact fe.1
 ·rw [z,BW ni];exact fi.1
theorem T6 (a e it:AK) (hne:e≠it):Rh P w K (.Tuple elts x1 pos) (Ite λH xs=>SqL K H a xs) [e,it] e (λi h=>(∃old,Qp h e it i old)/\h.IsListIter it a i) where
 mem:=by simp
 obj:=λi h st b hb=>by
  have hb':b=e∨b=it:=by simpa using hb
  rcases hb' with z | z
  ·subst z
   obtain ⟨⟨old,he⟩,_⟩:=st
   exact ⟨_,he,λv z=>by
    have z':U6 _=aK v:=z
    cases z'⟩
  ·subst z
   obtain ⟨_,o,e,c,d⟩:=st;exact ⟨o,e,λv z=>by rw [d] at z;cases z⟩
 keep:=λi h h' st k=>⟨st.1.imp λold he=>k e (by simp) _ he,st.2.at λo q=>k it (by simp) o q⟩
 item:=by
  intro X hP hw hK hc i pins s σ H E I hf st hg;subst hP hw hK;obtain ⟨xs,x,hq,hx⟩:=hg;obtain ⟨its,rv,p,hz⟩:=I.list hq;obtain ⟨u,hu,ru⟩:=rv.get hx;obtain ⟨⟨old,he⟩,hit⟩:=st
  have li:it < s.heap.objs.size:=by obtain ⟨o,q,_⟩:=hit;exact Ad q
  refine wpAny_pyNext_enum_item he hit p.isList (x:=u) (by simpa using hu) hne λh' ho hit' hT hsz hk=>?_
  exact ⟨_,rfl,QT (sq:=λH xs=>SqL X.K H a xs) (tn:=λi h=>(∃old,Qp h e it i old)/\h.IsListIter it a i) I hne hf (Ad he) li ru (λys hy=>by rw [I.list_inj hy hq];exact hx) ho hT hk λh2 hs2 he2=>⟨he2,hit'.at λo q=>(hs2.2 it (Bx hne)).trans q⟩⟩
 done:=by
  intro X hP hw hK hc i pins s σ H E I hf st hg;subst hP hw hK;obtain ⟨xs,hq,hx⟩:=hg;obtain ⟨its,rv,p,hz⟩:=I.list hq;obtain ⟨⟨old,he⟩,hit⟩:=st;obtain ⟨f0,f1,f2,f3,f4,f5⟩:=hf it (by simp);have hl:=rv.length
  exact wpAny_pyNext_enum_end (I.ok.hd hc) he hit p.isList (by simp;lia) λh' eb=>⟨rfl,I.turned (t':=s.toks) (λb o hb e=>eb b o hb e) f0 f1 f3 f4 f5⟩
 self:=λ_ _ _ _ _ st h=>by
  obtain ⟨⟨old,he⟩,_⟩:=st;exact Jq he h
theorem T5 (a e it:AK) (hne:e≠it) (hae:a≠it) (hef:e≠a):Rh P w K (.Tuple elts x1 pos) (Ite λH xs=>SqT K H a xs) [e,it] e (λi h=>(∃old,Qp h e it i old)/\h.IsTupleIter it a i) where
 mem:=by simp
 obj:=λi h st b hb=>by
  have hb':b=e∨b=it:=by simpa using hb
  rcases hb' with z | z
  ·subst z
   obtain ⟨⟨old,he⟩,_⟩:=st
   exact ⟨_,he,λv z=>by
    have z':U6 _=aK v:=z
    cases z'⟩
  ·subst z
   obtain ⟨_,o,e,c,d⟩:=st;exact ⟨o,e,λv z=>by rw [d] at z;cases z⟩
 keep:=λi h h' st k=>⟨st.1.imp λold he=>k e (by simp) _ he,st.2.at λo q=>k it (by simp) o q⟩
 item:=by
  intro X hP hw hK hc i pins s σ H E I hf st hg;subst hP hw hK;obtain ⟨xs,x,hq,hx⟩:=hg;obtain ⟨its,rv,p,hz⟩:=I.tuple hq;have p':s.heap.IsTuple a its.toArray:=p;obtain ⟨u,hu,ru⟩:=rv.get hx
  have hlt:i < its.toArray.size:=by
   have:=(AD.mp hu).1;simpa using this
  obtain ⟨⟨old,he⟩,hit⟩:=st
  have li:it < s.heap.objs.size:=by obtain ⟨o,q,_⟩:=hit;exact Ad q
  refine wpAny_pyNext_enum_itemD (TX (A:=X.A.in1) (I.ok.hd hc) it a hae its.toArray) he ⟨hit,p'⟩ hlt hne (by simp [hne,hef]) λu' h' tk hu' ho hst' hT hsz hk=>?_
  have:u'=u:=by
   have hu2:its[i]?=some u':=by simpa using hu'
   rw [hu] at hu2;cases hu2;rfl
  subst this;exact ⟨_,rfl,QT (sq:=λH xs=>SqT X.K H a xs) (tn:=λi h=>(∃old,Qp h e it i old)/\h.IsTupleIter it a i) I hne hf (Ad he) li ru (λys hy=>by rw [I.tuple_inj hy hq];exact hx) ho hT hk λh2 hs2 he2=>⟨he2,hst'.1.at λo q=>(hs2.2 it (Bx hne)).trans q⟩⟩
 done:=by
  intro X hP hw hK hc i pins s σ H E I hf st hg;subst hP hw hK;obtain ⟨xs,hq,hx⟩:=hg;obtain ⟨its,rv,p,hz⟩:=I.tuple hq;obtain ⟨⟨old,he⟩,hit⟩:=st;obtain ⟨f0,f1,f2,f3,f4,f5⟩:=hf it (by simp);have hl:=rv.length
  exact Kb (I.ok.hd hc) he hit (show s.heap.IsTuple a its.toArray from p) (by simp;lia) λh' eb=>⟨rfl,I.turned (t':=s.toks) (λb o hb e=>eb b o hb e) f0 f1 f3 f4 f5⟩
 self:=λ_ _ _ _ _ st h=>by
  obtain ⟨⟨old,he⟩,_⟩:=st;exact Jq he h
end
section
variable {X:Cx} {E:EW} {e:Expr} {elts:List Expr} {x1:Nat} {p pos ptg:Pos} {m:ME} {ta:TA}
def kP (K:AA) (ta:TA):TI:=λσ H R=>ta σ H λvs H1=>∃a,vs=[.ref a]/\(((∃xs,SqL K H1 a xs)/\R (Ite λH xs=>SqL K H a xs) H1)∨((∃xs,SqT K H1 a xs)/\R (Ite λH xs=>SqT K H a xs) H1))
theorem bx (hg:Gl X "enumerate") (hm:X.mg "enumerate" = none) (ha:PA X [e] ta) (hs:AS [e] X.env=[(false,Br e X.env)]:=by rfl):PI X (.Tuple elts x1 ptg) (.Call (.Name "enumerate" p) [e] [] pos) (kP X.K ta):=by
 intro pins s σ H R I h;refine Call_ (JR I hg hm boot_enumerate (CL (thn (ha pos pins s σ H _ I h) λus s1 ⟨vs,H1,I1,r1,q1⟩=>?_) hs rfl));obtain ⟨a,rfl,q1⟩:=q1;obtain ⟨u,rfl,ru⟩:=vals1 r1;cases ru
 have fp:∀ {h':Bw} (b:AK),b∈[s1.heap.objs.size+1,s1.heap.objs.size]->LO X pins H1 b:=λb hb=>by
  have hb':b=s1.heap.objs.size+1∨b=s1.heap.objs.size:=by simpa using hb
  rcases hb' with z | z
  ·rw [z];exact I1.fpOk (HJ _) (I1.hok.fresh (HJ _))
  ·rw [z];exact I1.fpOk (AN _) (I1.hok.fresh (AN _))
 rcases q1 with ⟨⟨xs,sq⟩,q⟩ | ⟨⟨xs,sq⟩,q⟩
 ·obtain ⟨its,rv,pl,hz⟩:=I1.list sq
  refine call_enumerate_list pl.isList λh' he hit hsz hk=>Jq he ?_
  exact ⟨_,[s1.heap.objs.size+1,s1.heap.objs.size],_,_,H1,rfl,I1.kept (t':=s1.toks) hk,T6 a _ _ (aP _),⟨⟨_,he⟩,hit⟩,fp (h':=h'),q⟩
 ·obtain ⟨its,rv,pl,hz⟩:=I1.tuple sq
  have pl':s1.heap.IsTuple a its.toArray:=pl
  have la:a < s1.heap.objs.size:=by obtain ⟨o,q,_⟩:=pl';exact Ad q
  refine KM pl' λh' he hit hsz hk=>Jq he ?_
  exact ⟨_,[s1.heap.objs.size+1,s1.heap.objs.size],_,_,H1,rfl,I1.kept (t':=s1.toks) hk,T5 a _ _ (aP _) (Am la) (Nb (GM la)),⟨⟨_,he⟩,hit⟩,fp (h':=h'),q⟩
def NB (ds:List D):List D:=ds.zipIdx.map λx=>.tup [.int x.2,x.1]
def VH (v:Hv):Hv:=λS=>(v S).map NB
def M7 (m:ME):MI:=λe S=>(m e S).bind λd S1=>match Em d S1 with
 | some _=>.ok (VH (Em d)) S1
 | none=>.bad
theorem PB (ds:List D) (i:Nat):(NB ds)[i]?=(ds[i]?).map λd=>.tup [.int i,d]:=by
 unfold NB;rw [AO,U3]
 cases ds[i]? <;> simp
theorem NH {K:AA} {ρ:List AK} {H:Hp} {J:It} {v:Hv} {sq:Hp->List V->Prop} (hJ:LM K ρ H J v) (h1:∀i H,J.go i H->∃xs x,sq H xs/\xs[i]?=some x) (h2:∀i H,J.stop i H->∃xs,sq H xs/\xs.length<=i)
  (h3:∀i H x,(∀xs,sq H xs->xs[i]?=some x)->J.yld i H x H):LM K ρ H (Ite sq) (VH v):=by
 intro ρ2 H2 S ds i l s hv;unfold VH at hv
 cases hd:v S with
 | none=>rw [hd] at hv;cases hv
 | some ds0=>
  rw [hd] at hv;cases hv;obtain ⟨a1,a2⟩:=hJ ρ2 H2 S ds0 i l s hd;refine ⟨λhn=>?_,λd hd'=>?_⟩
  ·rw [PB] at hn
   refine h2 i H2 (a1 ?_)
   cases hq:ds0[i]? with
   | none=>rfl
   | some d=>rw [hq] at hn;cases hn
  ·rw [PB] at hd'
   cases hq:ds0[i]? with
   | none=>rw [hq] at hd';cases hd'
   | some d0=>
    rw [hq] at hd';cases hd';obtain ⟨b1,b2⟩:=a2 d0 hq;refine ⟨h1 i H2 b1,λy H' hy=>?_⟩;obtain ⟨p,x,hp,rfl,rfl,hx⟩:=hy;obtain ⟨ρ3,l3,s3,r3⟩:=b2 x H2 (h3 i H2 x hx);obtain ⟨s4,l4⟩:=II (ho:=.tup [.int i,x]) s3 hp;exact ⟨ρ3,l3.trans l4,s4,.tup Bg (.cons (.int _) (.cons (r3.mono l4) .nil))⟩
theorem RQ (hg:Gl X "enumerate") (hm:X.mg "enumerate" = none) (h:GE X E e m) (he:AS [e] X.env=[(false,Br e X.env)]:=by rfl):GI X E (.Tuple elts x1 ptg) (.Call (.Name "enumerate" p) [e] [] pos) (M7 m):=
 (bx hg hm (E2 h HC he) he).imp λσ H R ⟨ρ,l,S,hl,hs,hm⟩=>by
 refine ⟨ρ,l,S,hl,hs,hm.seq λd S1 hm ρ1 H1 x l1 s1 r1=>?_⟩
 cases d with
 | tup ds=>
  have hm':=hm
  cases r1 with
  | @tup _ a vs q1 q2=>
   exact ⟨a,rfl,.inr ⟨⟨vs,.inl (.inl q1)⟩,hm' ρ1 H1 _ l1 s1 (NH (OH q1 q2) (λi H z=>z) (λi H z=>z) λi H x z=>⟨rfl,z⟩)⟩⟩
 | _=>
  cases hv:Em _ S1 with
  | none=>rw [hv] at hm;exact hm.elim
  | some ds=>
   rw [hv] at hm
   have:∃a,x=.ref a:=by
    cases r1 <;> first | exact ⟨_,rfl⟩ | (cases hv;done)
   obtain ⟨a,rfl⟩:=this;obtain ⟨xs,sq,_⟩:=OL s1 r1 hv;exact ⟨a,rfl,.inl ⟨⟨xs,sq⟩,hm ρ1 H1 _ l1 s1 (NH (OJ r1) (λi H z=>z) (λi H z=>z) λi H x z=>⟨rfl,z⟩)⟩⟩
end
section
variable {X:Cx}
variable {E:EW} {e:Expr} {p pos:Pos} {m:ME}
end
end L2
namespace PySem
open Sem (wp)
open AutoSeq1 (wpAny_loadPart')
namespace F
end F
section
variable {prog:Ak} {w:A9} {A:BB} {E:AC->AG->Prop} {s:AG} {I:AK} {fp wr:List AK} {G:Array Pf->Array Pf->Prop} {n:Nat} {P:Nat->AC->Prop} {St:Nat->AG->Prop}
end
end PySem
namespace L2
open PySem PySem.Spec PyProof.Rows
section
variable {X:Cx} {E:EW} {e:Expr} {p p2 pos pos2:Pos} {m:ME} {te:TE}
end
end L2
namespace L2
open PySem
theorem Z8 {α:Type} {xs:List α} {j:Int} {x:α} (h0:0<=j) (h:xs[j.toNat]?=some x):atI xs j=some x:=by
 have hlt:=(AD.mp h).1;unfold atI ixN;rw [qX (by omega),qX (by lia)];simpa using h
theorem RK {d:D} {S:Sto} {ds:List D} {j:Int} {z:D} (hd:Eu d S=some ds) (h0:0<=j) (h:ds[j.toNat]?=some z):ixA d (.int j) S=.ok z S:=by
 show FW (ixD d (.int j) S) _=_
 have:ixD d (.int j) S=.ok z S:=by
  unfold ixD;rw [hd];dsimp only;rw [Z8 h0 h]
 rw [this];rfl
theorem ZW {S:Sto} {n:Nat} {ds:List D} {j:Int} {z:D} (hn:S[n]?=some (.lst ds)) (h0:0<=j) (h:ds[j.toNat]?=some z):ixA (.ref n) (.int j) S=.ok z S:=RK (Ce hn) h0 h
theorem ig {n k:Nat} {S:Sto} {ds:List D} (neg:Bool) (h1:S[n]?=some (.lst ds)) (h2:S[k]?=some (.lst [])):eqD neg (.ref n) (.ref k) S=.ok (.bl (if neg then !ds.isEmpty else ds.isEmpty)) S:=by
 unfold eqD eqB;rw [J8 h1,J8 h2]
 cases ds with
 | nil=>rfl
 | cons x xs=>rfl
theorem Nm {α:Type}:∀ {l:List α},l.length=1->∃x1,l=[x1]
 | [a],_=>⟨a,rfl⟩
theorem L5 {α:Type}:∀ {l:List α},l.length=2->∃x1 x2,l=[x1,x2]
 | y :: _,q=>by
  obtain ⟨x2,rfl⟩:=Nm (LS q);exact ⟨y,x2,rfl⟩
theorem ZQ {α:Type}:∀ {l:List α},l.length=3->∃x1 x2 x3,l=[x1,x2,x3]
 | y :: _,q=>by
  obtain ⟨x2,x3,rfl⟩:=L5 (LS q);exact ⟨y,x2,x3,rfl⟩
theorem len4 {α:Type}:∀ {l:List α},l.length=4->∃x1 x2 x3 x4,l=[x1,x2,x3,x4]
 | y :: _,q=>by
  obtain ⟨x2,x3,x4,rfl⟩:=ZQ (LS q);exact ⟨y,x2,x3,x4,rfl⟩
theorem len5 {α:Type}:∀ {l:List α},l.length=5->∃x1 x2 x3 x4 x5,l=[x1,x2,x3,x4,x5]
 | y :: _,q=>by
  obtain ⟨x2,x3,x4,x5,rfl⟩:=len4 (LS q);exact ⟨y,x2,x3,x4,x5,rfl⟩
end L2
namespace L2
open PySem PySem.Spec PyProof.Rows
section
variable {X:Cx} {E:EW} {e:Expr} {m:ME} {pos:Pos}
end
section
variable {X:Cx} {E:EW} {tg e a b:Expr} {p p2 pos pos2:Pos} {m:ME} {ml:ML} {ta:TA}
end
end L2
namespace PySem
open Sem (wp)
open PyProof.Rows (IntsAre)
section
variable {prog:Ak} {w:A9} {A:BB} {E:AC->AG->Prop} {s:AG}
end
end PySem
namespace L2
open PySem PySem.Spec PyProof.Rows
section
variable {X:Cx} {E:EW} {a b:Expr} {p p2 pos pos2:Pos} {ml:ML} {ta:TA}
theorem Sb {K:AA} {ρ:List AK} {H:Hp}:∀ {ns:List Int} {vs:List V},Au K ρ H (ns.map D.int) vs->vs=ns.map V.int
 | [],_,.nil=>rfl
 | n :: ns,_,.cons r t=>by
  cases r;rw [Sb t];rfl
end
end L2
namespace PySem
open Sem (wp)
open AutoSeq1 (wpAny_loadPart')
section
variable {prog:Ak} {w:A9} {A:BB} {E:AC->AG->Prop} {s:AG}
end
end PySem
namespace PySem
section
variable {prog:Ak} {w:A9} {A:BB} {E:AC->AG->Prop} {s:AG}
end
end PySem
namespace L2
open PySem PySem.Spec PyProof.Rows
section
variable {P:Ak} {w:A9} {K:AA} {elts:List Expr} {x1:Nat} {pos:Pos}
end
section
variable {X:Cx} {E:EW} {e:Expr} {elts:List Expr} {x1:Nat} {p pos ptg kp vp:Pos} {j1:Nat} {m:ME} {ta:TA}
end
end L2
namespace PySem
open Sem (wp)
section
variable {prog:Ak} {w:A9} {A:BB} {E:AC->AG->Prop} {s:AG}
theorem Rb {l:AK} {items:Array AC} {ns:List Int} {Q:AC->AG->Prop} (hh:A.handled=none) (hl:s.heap.IsTuple l items) (hi:lG items.toList ns) (hb:items.size+1 < Qh)
  (h:∀(h':Bw) (tk:Nat),h'.SetOf (Xy prog w) s.heap.objs.size (λk'=>(Dv (λi=>ns.getD i 0) items.size).any (·==k')) (Dv (λi=>ns.getD i 0) items.size).length ->
   (∀b o,b < s.heap.objs.size->s.heap.get? b=some o->h'.get? b=some o)->Q (.ref s.heap.objs.size) { s with heap:=h',toks:=tk }):Aq (Ac prog w) A (call (.type "set") [.ref l]) Q E s:=by
 obtain ⟨c,tl,hmro⟩:=FT.mro;have hmade:=FT.made;have hsub:=FT.sub;refine eX (codeAny_of_tree ?_);show Aq _ _ (callAny (.type "set") _) _ _ _;refine AW ⟨Code.quiet_builtin _ (by decide +kernel),codeAny_builtin F.entry_type_call ?_⟩;rw [BB.under_plain (weight_type_call_type "set" [.ref l] []) rfl];have h1:=FT.notType;have h2:=FT.canCreate;have hct:=F.typeCall_set_1 (.ref l);(repeat (any_goals (first | assumption | wp_step)))
 refine Ik (code_set_new_1 (.ref l) (E:=E) (Q₁:=λobj s₁=>∃led:Bool,obj=.ref s.heap.objs.size/\s₁={ s with heap:=s.heap.push { cls:=.type "set",dict:=none,data:=.set #[] 0 (.fresh 0 0 led) } }) λled=>⟨led,rfl,rfl⟩) λr s₁ hr=>?_
 cases r with
 | error e=>exact hr
 | ok fl=>
  cases fl with
  | ret obj=>
   obtain ⟨led,rfl,rfl⟩:=hr;have hS:(s.heap.push { cls:=.type "set",dict:=none,data:=.set #[] 0 (.fresh 0 0 led) }).get? s.heap.objs.size=some { cls:=.type "set",dict:=none,data:=.set #[] 0 (.fresh 0 0 led) }:=Aj _ rfl;have hT:AG.TypeIs { s with heap:=s.heap.push { cls:=.type "set",dict:=none,data:=.set #[] 0 (.fresh 0 0 led) } } (.ref s.heap.objs.size) "set":=⟨_,hS,rfl⟩;have hli:=FT.init.lookup;have hbi:=FT.init.bind (.ref s.heap.objs.size);(repeat (any_goals (first | assumption | wp_step)))
   refine Ik (codeAny_call_builtin (R:=wants (λr s₂=>r=.none/\∃h' tk,s₂={ s with heap:=h',toks:=tk } /\
     h'.SetOf (Xy prog w) s.heap.objs.size (λk'=>(Dv (λi=>ns.getD i 0) items.size).any (·==k')) (Dv (λi=>ns.getD i 0) items.size).length /\
     (∀b o,b < s.heap.objs.size->s.heap.get? b=some o->h'.get? b=some o)) E) FT.init.plain F.entry_set_init (check_set_init_1 hT ?_)) λr₂ s₂ hr₂=>?_
   ·obtain ⟨ol,hol,hcl,nl,hdl⟩:=hl
    obtain ⟨ocls,odict,odata,oslots⟩:=ol;simp only at hcl hdl;subst hcl;subst hdl;have hol':(s.heap.push { cls:=.type "set",dict:=none,data:=.set #[] 0 (.fresh 0 0 led) }).get? l=some { cls:=.type "tuple",dict:=odict,data:=.seq items nl,slots:=oslots }:=AJ _ hol
    have hsls:isSubtype (.type "tuple") (.type "set")=pure false:=by rw [isSubtype_type];kernel_rfl
    have hslf:isSubtype (.type "tuple") (.type "frozenset")=pure false:=by rw [isSubtype_type];kernel_rfl
    have hne:(D7 "tuple"==D7 "dict")=false:=by decide
    have hl1:(s.heap.push { cls:=.type "set",dict:=none,data:=.set #[] 0 (.fresh 0 0 led) }).IsTuple l items:=⟨_,hol',rfl,nl,rfl⟩;unfold Builtin.«set.__init__» noKeywords aV;generalize hPI:Th=PI
    wp_walk
    subst hPI;refine Eh hl1 (AH (wpAny_runValue ?_));have hlS:l < s.heap.objs.size:=Ad hol
    have hh3:A.in1.in1.in1.handled=none:=by simp [hh]
    have hneI:l≠(s.heap.push { cls:=.type "set",dict:=none,data:=.set #[] 0 (.fresh 0 0 led) }).objs.size:=by
     rw [DO];exact Am (GM hlS)
    have hSf:s.heap.objs.size∉[(s.heap.push { cls:=.type "set",dict:=none,data:=.set #[] 0 (.fresh 0 0 led) }).objs.size,l]:=by
     rw [DO];simp only [Ay,AQ,CD,or_false,not_or];exact ⟨Am (DM _),Nb hlS⟩
    have hval:∀(i:Nat) (v:AC),items[i]?=some v->∃t,v=.int ((λi=>ns.getD i 0) i) t:=λi v hv=>
     Xr hi i v (by rw [Ea];exact hv)
    refine kr ((jC hh3 _ l hneI items).toS) s.heap.objs.size hSf (λi=>ns.getD i 0) hval hb (items.size - 0) 0 _ (by lia) (Cg _)
     ⟨⟨_,Aj _ rfl,rfl,rfl⟩,(hl1.push _)⟩ ?hS0 ?hR
    case hS0=>
     have hget:((s.heap.push { cls:=.type "set",dict:=none,data:=.set #[] 0 (.fresh 0 0 led) }).push { cls:=.type "tuple_iterator",data:=.fields #[.ref l,.int 0 0] }).get? s.heap.objs.size
       = some { cls:=.type "set",dict:=none,data:=.set #[] 0 (.fresh 0 0 led) }:=AJ _ hS
     exact lF ((km (knd:=Xy prog w) led).setOf hget (by unfold Qh;lia)) (λ_=>rfl) rfl
    case hR=>
     intro s' hm hS';obtain ⟨h',g',d',tk',os'⟩:=s';have eg:g'=s.gens:=hm.gens;have ed:d'=s.drawn:=hm.drawn;have eo:os'=s.os:=hm.os;subst eg;subst ed;subst eo;show Aq _ _ _ _ _ _;refine AW ?_;show Aq _ _ (ret Cb) _ _ _;refine AW ⟨rfl,h',tk',rfl,hS',λb o hb e=>?_⟩;have hb1:b≠s.heap.objs.size:=Am hb
     have hb2:b≠(s.heap.push { cls:=.type "set",dict:=none,data:=.set #[] 0 (.fresh 0 0 led) }).objs.size:=by
      rw [DO];exact Am (GM hb)
     exact hm.heap b o (by simp only [Ay,AQ,CD,or_false,not_or];exact ⟨hb1,hb2⟩) (AJ _ (AJ _ e))
   ·cases r₂ with
    | error e=>exact hr₂
    | ok fl₂=>
     cases fl₂ with
     | ret r=>
      obtain ⟨rfl,h',tk,rfl,hS',hk'⟩:=hr₂;(repeat (any_goals (first | assumption | wp_step)));exact h _ _ hS' hk'
     | _=>exact hr₂.elim
  | _=>exact hr.elim
end
end PySem
namespace L2
open PySem PySem.Spec PyProof.Rows
def Kz (ns:List Int):Nat:=(firstMet (λi=>ns.getD i 0) ns.length).length
section
variable {X:Cx} {E:EW} {e a b c:Expr} {p p2 pos pos2:Pos} {m:ME} {te:TE} {ml:ML} {ta:TA} {tg:Expr}
def bQ (K:AA) (te:TE):TE:=λσ H Q=>te σ H λx H1=>∃q ns,x=.ref q/\(SqT K H1 q (Kj V.int ns)∨SqL K H1 q (ns.map V.int))/\ns.length<=4000/\Q (.int (Kz ns)) H1
theorem W4 (hc:X.calm=true) (hg:Gl X "len") (hm:X.mg "len" = none) (hg2:Gl X "set") (hm2:X.mg "set" = none) (h:PE X e te)
  (he:AS [e] X.env=(false,Br e X.env) :: AS [] X.env:=by rfl) (he2:AS [.Call (.Name "set" p2) [e] [] pos2] X.env=(false,Br (.Call (.Name "set" p2) [e] [] pos2) X.env) :: AS [] X.env:=by rfl) :
  PE X (.Call (.Name "len" p) [.Call (.Name "set" p2) [e] [] pos2] [] pos) (bQ X.K te):=by
 intro pins s σ H Q I hq;refine DY (JR I hg hm boot_len ?_ (by decide) (by decide));refine Kh ?_ he2 rfl;rw [he2];show Aq _ _ (Xx ((false,Br (.Call (.Name "set" p2) [e] [] pos2) X.env) :: DQ pos (AS [] X.env))) _ _ s;refine IC ?_;refine DY (JR I hg2 hm2 kx ?_ (by decide) (by decide));refine CL (thn (E2 h HC he pos2 pins s σ H (λvs H1=>match vs with | [x]=>∃q ns,x=.ref q/\(SqT X.K H1 q (Kj V.int ns)∨SqL X.K H1 q (ns.map V.int))/\ns.length<=4000/\Q (.int (Kz ns)) H1 | _=>False) I hq) λus s1 ⟨vs,H1,I1,r1,q1⟩=>?_) he rfl
 match vs,r1,q1 with
 | [x],r1,q1=>
  obtain ⟨q,ns,rfl,sq,hl,k⟩:=q1;obtain ⟨u,rfl,ru⟩:=vals1 r1;cases ru
  have fin:∀(n:Nat),n=ns.length->∀(h':Bw) (tk:Nat),h'.SetOf (Xy X.prog X.w) s1.heap.objs.size (λk'=>(firstMet (λi=>ns.getD i 0) n).any (·==k')) (firstMet (λi=>ns.getD i 0) n).length ->
    (∀b o,b < s1.heap.objs.size->s1.heap.get? b=some o->h'.get? b=some o)->Aq (Ac X.prog X.w) X.A (Xx (DQ pos (AS [] X.env))) (λvs s₁=>Aq (Ac X.prog X.w) X.A (call (.builtin "len") (.ref s1.heap.objs.size :: vs)) (EP X pins σ Q) X.xe s₁) X.xe { s1 with heap:=h',toks:=tk }:=λn hn h' tk hS hk=>by
   refine Ih ?_;obtain ⟨o,es,ep,t,ho,hex,hd,_,_,hsc,hf,hsz⟩:=hS;have hz:(es.size:Int) < 2 ^ 63:=X5 (show (es.size:Int) < 4096 by unfold Qh at hsc;lia) (by decide);refine call_len_set (s:={ s1 with heap:=h',toks:=tk }) ho hex hd hf hz ?_
   have I2:Inv X pins σ H1 { s1 with heap:=h',toks:=tk+1+1 }:=I1.kept λb o e=>hk b o (Ad e) e
   refine ⟨.int (Kz ns),H1,I2,⟨tk+1,?_⟩,k⟩;rw [hsz,hn];rfl
  rcases sq with sq | sq
  ·obtain ⟨its,rv,pl,hz⟩:=I1.tuple sq
   have hlen:=rv.length;rw [AE] at hlen;exact Rb (I.ok.hd hc) (show s1.heap.IsTuple q its.toArray from pl) (by simpa using intsAre_of rv) (by rw [AY];unfold Qh;lia) (fin its.toArray.size (by rw [AY];lia))
  ·obtain ⟨its,rv,pl,hz⟩:=I1.list sq
   have hlen:=rv.length;rw [AE] at hlen;exact PySem.call_set_list (I.ok.hd hc) pl.isList (by simpa using intsAre_of rv) (by rw [AY];unfold Qh;lia) (fin its.toArray.size (by rw [AY];lia))
def JP (m:ME):ME:=λe S=>(m e S).bind λd S1=>match Eu d S1 with
 | some ds=>match G0 ds with
  | some ns=>if ns.length<=4000 then .ok (.int (Kz ns)) S1 else .bad
  | none=>.bad
 | none=>.bad
theorem QR (hc:X.calm=true) (hg:Gl X "len") (hm:X.mg "len" = none) (hg2:Gl X "set") (hm2:X.mg "set" = none) (h:GE X E e m)
  (he:AS [e] X.env=(false,Br e X.env) :: AS [] X.env:=by rfl) (he2:AS [.Call (.Name "set" p2) [e] [] pos2] X.env=(false,Br (.Call (.Name "set" p2) [e] [] pos2) X.env) :: AS [] X.env:=by rfl) :
  GE X E (.Call (.Name "len" p) [.Call (.Name "set" p2) [e] [] pos2] [] pos) (JP m):=(W4 hc hg hm hg2 hm2 h he he2).imp λσ H Q ⟨ρ,l,S,hl,hs,hm⟩=>by
 refine ⟨ρ,l,S,hl,hs,hm.seq λd S1 hm ρ1 H1 x l1 s1 r1=>?_⟩
 cases hq:Eu d S1 with
 | none=>rw [hq] at hm;exact hm.elim
 | some ds=>
  rw [hq] at hm;dsimp only at hm
  cases hi:G0 ds with
  | none=>rw [hi] at hm;exact hm.elim
  | some ns=>
   rw [hi] at hm;dsimp only at hm;split at hm
   ·rename_i hn
    obtain ⟨q,xs,rfl,rr,sq⟩:=Lm s1 r1 hq;rw [KC hi] at rr;rw [Sb rr] at sq;exact ⟨q,ns,rfl,sq.symm,hn,hm ρ1 H1 _ l1 s1 (.int _)⟩
   ·exact hm.elim
end
section
variable {X:Cx} {E:EW} {a b c:Expr} {p pos:Pos} {ml:ML} {ta:TA} {tg:Expr}
end
section
variable {X:Cx} {E:EW} {e a b c:Expr} {p p2 pos pos2:Pos} {m:ME} {te:TE} {ml:ML} {ta:TA} {tg:Expr}
end
theorem iZ {P:Ak} {w:A9} {K:AA} {mg:Str->Option AC} {base:Bw} {CX:CXT} {k n:Nat} {f:AK} {fd:DN} {ps:List Str}:DX P w K mg base CX k f fd ps (spM K n λ_ _=>.bad):=
 ⟨λ_ _ _ _ ⟨_,_,_,_,_,_,h⟩=>h.elim,λ_ _ _ _ _ _ _ _ _ _ _ _ _ ⟨_,_,_,_,_,_,h⟩=>h.elim⟩
def Ot (mk mv:ME):ME:=λe S=>(mk e (S++[.dK []])).bind λx S1=>(mv e S1).bind λy S2=>match S2[S.length]?,XE x with
 | some (.dK []),some k=>.ok (.ref S.length) (S2.set S.length (.dK (B3 [] k y)))
 | _,_=>.bad
section
variable {X:Cx} {E:EW} {k v:Expr} {pos:Pos} {mk mv:ME}
theorem Zl (hk:GE X E k mk) (hv:GE X E v mv):GE X E (.Dict [some k] [v] pos) (Ot mk mv):=
 (cF (Ys hk hv bq) rfl rfl (by simp) (by simp)).imp λσ H Q ⟨ρ,l,S,hl,hs,hm⟩ p hp=>by
 obtain ⟨s0,l0,at0⟩:=hs.alloc (ho:=.dK []) (o:=.dK []) hp ⟨[],Bg,.nil⟩;refine ⟨ρ++[p],l,S++[.dK []],hl.mono l0,s0,(hm.later l0).seq λx S1 hm ρ1 H1 u l1 s1 r1=>⟨ρ1,l,S1,hl.mono (l0.trans l1),s1,(hm.later l1).seq λy S2 hm ρ2 H2 w l2 s2 r2=>?_⟩⟩;have r0:Bs X.K (ρ++[p]) (upd H p (.dK [])) (.ref S.length) (.ref p):=.ref at0;have r0':=r0.mono (l1.trans l2)
 show H2 p=some (.dK [])/\∃kvs:List (Key×V),[(u,w)]=kvs.map (λkv=>(kV kv.1,kv.2))/\kvs.length<=15/\Q (.ref p) (upd H2 p (.dK (IV [] kvs)))
 split at hm
 ·rename_i ky h4 hk'
  cases r0' with
  | @ref _ a hn=>
   obtain ⟨kvs',e,r⟩:=s2.ob S.length _ _ h4 hn;cases r;rw [MA (r1.mono l2) hk'];have le:Le X.K ρ2 H2 ρ2 (upd H2 p (.dK (HB [] ky w))):=Le.write hn (by rw [e];trivial);obtain ⟨s5,l5⟩:=s2.write (ho:=.dK (HB [] ky w)) (o:=.dK (B3 [] ky y)) hn ⟨_,Bg,(KVR.put ky r2 .nil).mono le⟩ le;exact ⟨e,[(ky,w)],rfl,by simp,hm ρ2 _ _ (l0.trans (l1.trans (l2.trans l5))) s5 ((r0.mono (l1.trans l2)).mono l5)⟩
 ·exact hm.elim
end
end L2
namespace PySem
open AutoSeq1 in
theorem LB (l:AK) (items:Array AC) (n:Nat) (b:AK) (items2:Array AC) (n2:Nat) (dct:Option AK) (sl:Array (Option AC)) (hs0:¬(!items.isEmpty&&DP (items.size+items2.size))=true) (hs1:items.size<=sizeLine) (hs2:items.size+items2.size<=sizeLine+1) :
  Meets (Builtin.«list.extend» ⟨[.ref l,.ref b],[]⟩) (λ_ R s=>s.heap.get? l=some { cls:=.type "list",dict:=none,data:=.seq items n,slots:=#[] }/\s.heap.get? b=some { cls:=.type "tuple",dict:=dct,data:=.seq items2 n2,slots:=sl }/\R (.ok (.ret Cb)) { s with heap:=s.heap.update l (G7 λx=>x++items2),toks:=s.toks }):=
 .of_wp λprog w A R s h=>by
  obtain ⟨hp,g,d,tk,os⟩:=s;obtain ⟨hl,hb,h⟩:=h;have f1:=idx_int;have f2:=sub_tuple_tuple;have f3:=sub_list_list;have f4:=sub_tuple_list;have f5:=sub_list_tuple;
  have hz':(items++items2).size<=sizeLine+1:=by rw [Array.size_append];exact hs2
  wp_walk using (wpAny_updateSeq hl rfl (hz:=hs1) (_hz':=hz')),GF hl,GF hb;exact ⟨_,rfl,h⟩
end PySem
namespace L2
open PySem PySem.Spec PyProof.Rows
def jr (K:AA):V->List V->Hp->VK->Prop:=λx vs H Q=>∃l b xs zs,x=.ref l/\vs=[.ref b]/\H l=some (.lst xs)/\SqT K H b zs/\xs.length+zs.length<=sizeLine/\Q .non (upd H l (.lst (xs++zs)))
theorem cW {X:Cx}:MtM X "list.extend" (jr X.K):=by
 intro pins s σ H x vs v us Q I rx rv h;obtain ⟨l,b,xs,zs,rfl,rfl,hH,hB,hz,q⟩:=h;cases rx;obtain ⟨u,rfl,ru⟩:=rv.one;cases ru;obtain ⟨z,its,n,r,hl,e⟩:=I.lstM hH;obtain ⟨its2,r2,⟨⟨c,dct,dt,sl⟩,e2,hc,n2,hd⟩,z2⟩:=I.tuple hB
 replace hc:c=.type "tuple":=hc
 replace hd:dt=.seq its2.toArray n2:=hd
 subst hc hd;have hl2:=r2.length
 have hsz:its.toArray.size+its2.toArray.size<=sizeLine:=by rw [AY,AY];lia
 have hlong:¬(!its.toArray.isEmpty&&DP (its.toArray.size+its2.toArray.size))=true:=by
  rw [Sn hsz,d8];exact AX
 refine N9 aU ⟨_,e,rfl⟩ aJ (X7 _ _)
  (LB l its.toArray n b its2.toArray n2 dct sl hlong (by rw [AY];lia) (by lia)) ⟨e,e2,?_⟩
 refine ⟨.non,_,I.lset (its':=its++its2) hH e (by simp) (r.append r2) ?_,rfl,q⟩;rw [Ah];omega
def Sv (mo ma:ME):ME:=λe S=>(mo e S).bind λd S1=>match atL d S1 with
 | some (n,_)=>(ma e S1).bind λy S2=>match atL d S2,y with
  | some (_,xs),.tup ys=>if xs.length+ys.length<=sizeLine then .ok .non (S2.set n (.lst (xs++ys))) else .bad
  | _,_=>.bad
 | none=>.bad
section
variable {X:Cx} {E:EW} {o e:Expr} {apos cpos:Pos} {mo ma:ME}
theorem dD (ho:GE X E o mo) (ha:GE X E e ma) (hbase:CV o "extend" X.env (Br o X.env)=Br o X.env:=by rfl)
  (hfew:((DQ cpos (AS [e] X.env)).all (λx=>!x.1)&&(Tl cpos (MZ [] X.env)).all (λx=>x.1.isSome)
    &&decide ([e].length+([]:List Io).length+(if ([]:List Io).isEmpty then 0 else 1) < 30))=true:=by rfl)
  (hline:(apos.endLine==cpos.line)=true:=by rfl) (hs:AS [e] X.env=(false,Br e X.env) :: AS [] X.env:=by rfl) (hplain:(DQ cpos (AS [] X.env)).any (·.1)=false:=by rfl) :
  GE X E (.Call (.Attribute o "extend" apos) [e] [] cpos) (Sv mo ma):=(Y0 Dk PY PX cW ho (E2 ha HC hs) hbase hfew hline hs hplain).imp λσ H Q ⟨ρ,l,S,hl,hs,hm⟩=>by
 refine ⟨ρ,l,S,hl,hs,hm.seq λd S1 hm ρ1 H1 v l1 s1 r1=>?_⟩
 cases hq:atL d S1 with
 | none=>rw [hq] at hm;exact hm.elim
 | some z=>
  obtain ⟨n,xs0⟩:=z;rw [hq] at hm;dsimp only at hm;obtain ⟨rfl,h0,a,vs0,rfl,hn,e0,_⟩:=LL s1 r1 hq;refine ⟨.inl ⟨rfl,vs0,.inl (.inl e0)⟩,ρ1,l,S1,hl.mono l1,s1,(hm.later l1).seq λy S2 hm ρ2 H2 u l2 s2 r2=>?_⟩;split at hm
  ·rename_i n' xs ys h2
   split at hm
   ·rename_i hz
    obtain ⟨e',h4,a',vs,ea,hn2,e2,rr⟩:=LL s2 (r1.mono l2) h2;cases e';cases ea
    cases r2 with
    | tup b1 b2=>
     obtain ⟨s3,l3⟩:=Ny s2 hn2 e2 (rr.append b2);exact ⟨a,_,vs,_,rfl,rfl,e2,.inl (.inl b1),by rw [<-rr.length,<-b2.length];exact hz,hm ρ2 _ _ (l1.trans (l2.trans l3)) s3 .non⟩
   ·exact hm.elim
  ·exact hm.elim
end
def jg (td ty:TE):TE:=λσ H Q=>td σ H λx H1=>∃a,x=.ref a/\IsD H1 a/\ty σ H1 λy H2=>∃b kvs more,y=.ref b/\a≠b/\H2 a=some (.dK kvs)/\H2 b=some (.dK more)/\kvs.length+more.length<=sizeLine/\Q .non (upd H2 a (.dK (IV kvs more)))
section
variable {X:Cx} {o e:Expr} {apos cpos:Pos} {td ty:TE}
theorem cE (ho:PE X o td) (he:PE X e ty) (m:M1 X o "update" apos e cpos):PE X (.Call (.Attribute o "update" apos) [e] [] cpos) (jg td ty):=by
 intro pins s σ H Q I h;refine wpAny_Call_method m.base m.few m.line P5 Pa PySem.F.type_dict_update (thn (ho pins s σ H _ I h) λu s1 ⟨x,H1,I1,rx,a,ex,d,q1⟩=>?_);subst ex;obtain rfl:u=A7 a:=rx;obtain ⟨t1,t2,_⟩:=ZY I1 d;refine ⟨t1,t2,?_⟩;rw [m.trees];refine GC rfl (Tv (IC (thn (he pins s1 σ H1 _ I1 q1) λiv s2 ⟨y,H2,I2,ry,b,kvs,more,ey,hab,ea,eb,hz,q2⟩=>Ih ?_)));subst ey;cases (show iv=A7 b from ry);obtain ⟨za,hda,vsa,ra,dda⟩:=Vy I2.hok ea;obtain ⟨zb,hdb,vsb,rb,ddb⟩:=Vy I2.hok eb;refine call_meetsIn Pa dda.typeIs PySem.F.entry_dict_update (PySem.F.args_dict_update_2 _ _) (meets_dict_update (Cn X.prog X.w) a b hab hdb) ⟨vsa,vsb,dda,ddb,by rw [<-ra.length,<-rb.length];exact hz,λh' d1 _ hs=>⟨.non,_,?_,rfl,q2⟩⟩
 have he':∃q,h'.get? a=some q:=let ⟨q,_,_,hq,_⟩:=d1;⟨q,hq⟩
 exact N6 I2 (by rw [ea];exact Co) hs he' (Ue (A0 (IW more kvs) hz) hda (rb.merge ra) d1)
end
def M3 {β:Type} (kvs more:List (Key×β)):List (Key×β):=more.foldl (λacc kv=>B3 acc kv.1 kv.2) kvs
theorem KVR.merge {K:AA} {ρ:List AK} {H:Hp}:∀ {more:List (Key×D)} {more':List (Key×V)} {kvs:List (Key×D)} {kvs':List (Key×V)},KVR K ρ H more more'->KVR K ρ H kvs kvs'->KVR K ρ H (M3 kvs more) (IV kvs' more')
 | _,_,_,_,.nil,q=>q
 | (g,a) :: x,(g',b) :: y,kvs,kvs',.cons r t,q=>by
  have e:g=g':=r.1;subst e;exact KVR.merge (kvs:=B3 kvs g a) (kvs':=HB kvs' g b) t (KVR.put g r.2 q)
def Kr (mo ma:ME):ME:=λe S=>(mo e S).bind λx S1=>match x with
 | .ref n=>match S1[n]? with
  | some (.dK _)=>(ma e S1).bind λy S2=>match y with
   | .ref m=>match S2[n]?,S2[m]? with
    | some (.dK kvs),some (.dK more)=>if n≠m/\kvs.length+more.length<=sizeLine then .ok .non (S2.set n (.dK (M3 kvs more))) else .bad
    | _,_=>.bad
   | _=>.bad
  | _=>.bad
 | _=>.bad
section
variable {X:Cx} {E:EW} {o e:Expr} {apos cpos:Pos} {mo ma:ME}
theorem Vo (ho:GE X E o mo) (ha:GE X E e ma) (m:M1 X o "update" apos e cpos:=by exact ⟨rfl,rfl,rfl,rfl⟩):GE X E (.Call (.Attribute o "update" apos) [e] [] cpos) (Kr mo ma):=(cE ho ha m).imp λσ H Q ⟨ρ,l,S,hl,hs,hm⟩=>by
 refine ⟨ρ,l,S,hl,hs,hm.seq λx S1 hm ρ1 H1 u l1 s1 r1=>?_⟩;split at hm
 ·rename_i n
  split at hm
  ·rename_i kv0 h1
   cases r1 with
   | @ref _ a hn=>
    obtain ⟨kv0',e0,_⟩:=s1.ob n _ _ h1 hn;refine ⟨a,rfl,.inl ⟨kv0',.inl e0⟩,ρ1,l,S1,hl.mono l1,s1,(hm.later l1).seq λy S2 hm ρ2 H2 v l2 s2 r2=>?_⟩;split at hm
    ·rename_i m
     split at hm
     ·rename_i kvs more h2 h3
      split at hm
      ·rename_i hc
       have r1':Bs X.K ρ2 H2 (.ref n) (.ref a):=(Bs.ref hn).mono l2
       cases r1' with
       | @ref _ _ hn2=>
        cases r2 with
        | @ref _ b hm2=>
         obtain ⟨kvs',ea,ra⟩:=s2.ob n _ _ h2 hn2;obtain ⟨more',eb,rb⟩:=s2.ob m _ _ h3 hm2;have le:Le X.K ρ2 H2 ρ2 (upd H2 a (.dK (IV kvs' more'))):=Le.write hn2 (by rw [ea];trivial);obtain ⟨s5,l5⟩:=s2.write (ho:=.dK (IV kvs' more')) (o:=.dK (M3 kvs more)) hn2 ⟨_,Bg,(KVR.merge rb ra).mono le⟩ le;exact ⟨b,kvs',more',rfl,λz=>hc.1 (s2.nd n m a hn2 (z▸hm2)),ea,eb,by rw [<-KVR.length ra,<-KVR.length rb];exact hc.2,hm ρ2 _ _ (l1.trans (l2.trans l5)) s5 .non⟩
      ·exact hm.elim
     ·exact hm.elim
    ·exact hm.elim
  ·exact hm.elim
 ·exact hm.elim
end
section
variable {X:Cx}
end
section
variable {X:Cx} {E:EW} {o e f:Expr} {apos cpos:Pos} {mo mi my:ME}
end
end L2
namespace PySem
open Sem (wp)
section
variable {prog:Ak} {w:A9} {A:BB} {E:AC->AG->Prop} {s:AG}
end
end PySem
namespace L2
open PySem PySem.Spec PyProof.Rows
section
variable {P:Ak} {w:A9} {K:AA} {elts:List Expr} {x1:Nat} {pos:Pos}
end
section
variable {X:Cx} {E:EW} {e1 e2:Expr} {elts:List Expr} {x1:Nat} {p pos ptg:Pos} {ml:ML} {ta:TA}
end
end L2
namespace HT
open PySem PySem.Spec PyProof.Rows
section
variable {prog:Ak} {w:A9} {A:BB} {E:AC->AG->Prop} {s:AG}
end
end HT
namespace L2
open PySem PySem.Spec PyProof.Rows
section
variable {X:Cx}
variable {E:EW} {e:Expr} {lo hi:Option Expr} {pos p2:Pos} {m:ME} {ml mh:MO}
end
section
variable {X:Cx}
instance (i j:Int):Decidable ((λ_ j:Int=>0<=j) i j):=inferInstanceAs (Decidable (0<=j))
abbrev fm:=intOp aC λi j=>.int (i * 2 ^ j.toNat)
abbrev bY:=intOp (λ_ j=>0<=j) λi j=>.int (i / 2 ^ j.toNat)
abbrev dk:=intOp (λ_ _=>True) λi j=>.int (Fm i j)
theorem g0:OpR X (Ca .LShift) (rD X.K fm):=Mu (λ_ _ _ _=>.int _) gj
theorem gz:OpR X (Ca .RShift) (rD X.K bY):=Mu (λ_ _ _ _=>.int _) gi
theorem g8:OpR X (Ca .BitAnd) (rD X.K dk):=Ly (λ_ _ _ _=>.int _) gr
end
section
variable {X:Cx} {E:EW} {CX:CXT} {k n:Nat} {f C:AK} {fd:DN} {ps:List Str} {m:Str} {pos apos:Pos} {o e:Expr} {es:List Expr} {mo:ME} {ml:ML} {g:List D->Sto->Res D}
end
section
variable {X:Cx} {E:EW} {o:Expr} {apos cpos:Pos} {mo:ME}
end
section
variable {X:Cx}
end
section
variable {X:Cx} {E:EW} {g:Str} {gp hpos pos:Pos} {G:AK} {cs:List AK} {body suite:List Cc} {b₀:Cc} {mb mh:MS}
end
end L2
namespace L2
open PySem PySem.Spec PyProof.Rows PySem.SeqAt
section
variable {X:Cx} {K:AA} {ρ:List AK} {H:Hp}
variable {pins:List (AK×Obj)} {σ:St} {s:AG}
end
section
variable {P:Ak} {w:A9} {K:AA} {mg:Str->Option AC} {base:Bw}
theorem GX {N ps:List Str} {sc:IB} (h1:N.Nodup:=by decide +kernel) (h2:∀x∈ps,sc.names.lookup x=some .local∨sc.names.lookup x=some .cell:=by decide +kernel) (h3:∀y∈sc.names,y.2≠.free:=by decide +kernel) (h4:sc.kind=.function:=by rfl) (h5:sc.isCoroutine=false:=by rfl) (h6:sc.isGenerator=false:=by rfl) (h7:N.take ps.length=ps:=by rfl):Bq N ps sc:=⟨h4,h5,h6,h1,h7,h2,h3⟩
end
section
variable {X:Cx} {E:EW} {e:Expr} {m:ME} {pos:Pos}
theorem Cd {x:Str} (i:Nat) (hN:X.N.Nodup) (hi:X.N[i]?=some x:=by rfl) (hx:Loc X.env.scope x:=by first | exact PM rfl | exact ND rfl) (hf:X.fn x=true∨X.env.scope.names.lookup x=some .local:=by first | exact .inl rfl | exact .inr rfl | assumption):GG X (.Name x pos) (tgN i):=dA (cA hN hi hx hf)
theorem CY {x:Str} {pos':Pos} (i:Nat) (hN:X.N.Nodup) (he:GE X E e m) (hi:X.N[i]?=some x:=by rfl) (hx:Loc X.env.scope x:=by first | exact PM rfl | exact ND rfl) (hs:Fh e (some (.Name x pos')) pos.line X.env=pure false:=by rfl)
  (hf:X.fn x=true∨X.env.scope.names.lookup x=some .local:=by first | exact .inl rfl | exact .inr rfl | assumption):GS X E (.Assign [.Name x pos'] e pos) (Bk i m):=iO hN hi hx he hs hf
end
end L2
namespace PySem
open Sem (wp)
section
variable {prog:Ak} {w:A9} {A:BB} {R:em->AG->Prop} {z B:AK} {fp wr:List AK} {n:Nat} {P:Nat->AC->Prop} {St:Nat->Bw->Prop} {bt:Nat->Nat->Bool} {J:Bw->Prop}
variable {E:AC->AG->Prop} {s:AG}
end
end PySem
namespace L2
open PySem PySem.Spec PyProof.Rows
section
variable {X:Cx} {E:EW} {e:Expr} {p pos:Pos} {m:ME}
end
end L2
namespace L2
open PySem PySem.Spec PyProof.Rows Srt
section
variable {X:Cx} {E:EW} {e a b c:Expr} {p p2 pos pos2:Pos} {m:ME} {te:TE} {ml:ML} {ta:TA} {tg:Expr}
end
end L2
namespace Srt
open PySem PyProof.Rows
section
variable {prog:Ak} {w:A9} {A:BB} {E:AC->AG->Prop} {s:AG}
end
end Srt
namespace L2
open PySem PySem.Spec PyProof.Rows
open Srt (ltL)
end L2
namespace PySem
open Sem (wp)
section
variable {prog:Ak} {w:A9} {A:BB} {E:AC->AG->Prop} {s:AG} {I:AK} {fp wr:List AK} {G:Array Pf->Array Pf->Prop} {n:Nat} {P:Nat->AC->Prop} {St:Nat->AG->Prop}
end
end PySem
namespace L2
open PySem PySem.Spec PyProof.Rows
section
variable {X:Cx} {E:EW} {e:Expr} {p p2 pos pos2:Pos} {m:ME} {te:TE}
end
section
variable {X:Cx} {E:EW} {a b c:Expr} {p pos:Pos} {ml:ML} {ta:TA} {tg:Expr}
end
end L2
namespace L2
open PySem PySem.Spec PyProof.Rows
open AutoSeq1 (wpAny_loadPart')
open MeetsSeq
section
variable {X:Cx}
variable {o e:Expr} {es:List Expr} {to:TE} {t:TA} {name:Str} {apos cpos:Pos} {id:String} {r:V->List V->Hp->VK->Prop}
end
section
variable {X:Cx} {E:EW} {o e:Expr} {mo mi:ME} {apos cpos:Pos}
end
section
variable {X:Cx} {E:EW} {e:Expr} {m:ME} {p pos:Pos}
end
end L2
namespace L2
open PySem PySem.Spec PyProof.Rows
section
variable {X:Cx} {E:EW} {e o f:Expr} {m mo mi:ME} {p pos apos cpos:Pos}
end
section
variable {X:Cx} {E:EW} {tg e:Expr} {m:ME} {te:TE}
end
end L2
namespace PySem
open Sem (wp)
open AutoSeq1 (wpAny_loadPart')
section
variable {prog:Ak} {w:A9} {A:BB} {E:AC->AG->Prop} {s:AG}
end
end PySem
namespace PySem
section
variable {prog:Ak} {w:A9} {A:BB} {E:AC->AG->Prop} {s:AG}
end
end PySem
namespace L2
open PySem PySem.Spec PyProof.Rows
section
variable {P:Ak} {w:A9} {K:AA} {elts:List Expr} {x1:Nat} {pos:Pos}
end
section
variable {X:Cx} {E:EW} {e:Expr} {elts:List Expr} {x1:Nat} {p pos ptg kp vp:Pos} {j1:Nat} {m:ME} {ta:TA}
end
section
variable {X:Cx} {E:EW} {tg e:Expr} {m:ME} {K:AA} {pins:List (AK×Obj)} {σ:St} {H:Hp} {s:AG}
def Itk (a:AK) (ob:Obj) (u:HO) (xs:List V):It:=
 ⟨λi H=>H a=some (.frz ob u)/\i < xs.length,λi H x H'=>H'=H/\xs[i]?=some x,λi H=>H a=some (.frz ob u)/\xs.length<=i⟩
theorem Wc {P:Ak} {w:A9} {a it:AK} {ob:Obj} {u:HO} {xs:List V} {es:Array He} {ep:Nat} (hx:ob.ExactDict) (hd:ob.data=.dict es ep) (hv:Bi xs (es.toList.map (·.key))):Rh P w K tg (Itk a ob u xs) [it] it (λi h=>h.IsKeyIter it a i es.size ep) where
 mem:=by simp
 obj:=λi h st b hb=>by
  have e:b=it:=by simpa using hb
  subst e;obtain ⟨o,e,c,d⟩:=st;exact ⟨o,e,λv z=>by rw [d] at z;cases z⟩
 keep:=λi h h' st k=>st.at λo e=>k it (by simp) o e
 item:=by
  intro X hP hw hK hc i pins s σ H E I hf st hg;subst hP hw hK;obtain ⟨ha,hi⟩:=hg;obtain ⟨g,_⟩:=(show CM X.prog X.w H s.heap a (.frz ob u) from I.hok a _ ha)
  have hs:xs.length=es.size:=by have:=hv.length;rw [AE,BX] at this;exact this
  have hi2:i < es.size:=by rw [<-hs];exact hi
  obtain ⟨v,h1,h2⟩:=hv.get (BM hi);rw [AO,Ea,P8 hi2] at h1;cases h1;obtain ⟨f0,f1,f2,f3,f4,f5⟩:=hf it (by simp)
  refine Srt.Sd st ⟨ob,g,hx,hd⟩ hi2 λh' st' sb=>?_
  have I1:Inv X pins σ H { s with heap:=h' }:=I.turned (t':=s.toks) (λb o hb e=>(sb.2 b hb).trans e) f0 f1 f3 f4 f5;obtain ⟨o,e,c,d⟩:=id st';exact ⟨_,rfl,Vk (s:={ s with heap:=h' }) e c d (by decide) ⟨_,H,I1,h2,⟨rfl,BM hi⟩,st',λb hb=>(hf b hb).1⟩⟩
 done:=by
  intro X hP hw hK hc i pins s σ H E I hf st hg;subst hP hw hK;obtain ⟨ha,hi⟩:=hg;obtain ⟨g,_⟩:=(show CM X.prog X.w H s.heap a (.frz ob u) from I.hok a _ ha)
  have hs:xs.length=es.size:=by have:=hv.length;rw [AE,BX] at this;exact this
  obtain ⟨f0,f1,f2,f3,f4,f5⟩:=hf it (by simp)
  exact Srt.VY (I.ok.hd hc) st ⟨ob,g,hx,hd⟩ (by rw [<-hs];exact hi) λh' eb=>⟨rfl,I.turned (t':=s.toks) (λb o hb e=>eb b o hb e) f0 f1 f3 f4 f5⟩
 self:=λ_ _ _ _ _ st h=>aL st h
theorem dS {P:Ak} {w:A9}:∀ {l:List He} {us:List (Key×AC)} {kvs:List (Key×V)},Pairs (Cn P w) l us->KV kvs us->Bi (kvs.map λx=>kV x.1) (l.map (·.key)):=by
 intro l us kvs hp
 induction hp generalizing kvs with
 | nil=>intro h;cases h;exact .nil
 | cons q1 q2 _ ih=>
  intro h
  cases h with
  | cons r t=>
   refine .cons ?_ (ih t);dsimp only;rw [r.1]
   rcases Cp q1 with ⟨i,t,e1,e2⟩ | ⟨x,t,e1,e2⟩
   ·rw [e1,e2];exact ⟨t,rfl⟩
   ·rw [e1,e2];exact ⟨t,rfl⟩
theorem Zw {H:Hp}:∀ {kvs:List (List Key×V)} {xs:List (List Key×AK×AC)},E6 (λ(p:List Key×V) (q:List Key×AK×AC)=>p.1=q.1/\H q.2.1=some (.tup (p.1.map kV))/\RelV p.2 q.2.2) kvs xs->E6 (λ(k:List Key×V) b=>H b=some (.tup (k.1.map kV))) kvs (xs.map (·.2.1)):=by
 intro kvs xs h
 induction h with
 | nil=>exact .nil
 | cons r _ ih=>exact .cons r.2.1 ih
theorem Wu (l:List AK):Bi (l.map V.ref) (l.map A7):=by
 induction l with
 | nil=>exact .nil
 | cons a l ih=>exact .cons rfl ih
def iDct (tl:TE):TI:=λσ H R=>tl σ H λx H1=>∃a ob,x=.ref a/\((∃kvs,H1 a=some (.frz ob (.dK kvs))/\R (Itk a ob (.dK kvs) (kvs.map λx=>kV x.1)) H1) ∨
 ∃kvs,H1 a=some (.frz ob (.dT kvs))/\∀bs,E6 (λ(k:List Key×V) b=>H1 b=some (.tup (k.1.map kV))) kvs bs->R (Itk a ob (.dT kvs) (bs.map V.ref)) H1)
theorem bz {l:Expr} {tl:TE} (hl:PE X l tl):PI X tg l (iDct tl):=by
 intro pins s σ H R I h
 refine thn (hl pins s σ H _ I h) λv s1 ⟨x,H1,I1,r1,q1⟩=>?_
 obtain ⟨a,ob,e,q⟩:=q1;subst e;cases r1
 have fin:∀ {u:HO} {xs:List V} {es:Array He} {ep:Nat},(a==Cu)=false->s1.heap.get? a=some ob->ob.ExactDict->ob.data=.dict es ep->Bi xs (es.toList.map (·.key))->R (Itk a ob u xs) H1 ->
   Aq (Ac X.prog X.w) X.A (Th (.ref a)) (PIE X pins σ tg R) X.xe s1:=λsm g g2 g3 hv q=>by
  refine Srt.Se sm ⟨ob,g,g2,g3⟩ ?_;refine ⟨s1.heap.objs.size,[s1.heap.objs.size],_,_,H1,rfl,I1.kept (t':=s1.toks) λb o e=>AJ _ e,Wc g2 g3 hv,⟨_,Aj _ rfl,rfl,rfl⟩,λb hb=>?_,q⟩
  have e:b=s1.heap.objs.size:=by simpa using hb
  subst e;exact I1.fpOk (AN _) (I1.hok.fresh (AN _))
 rcases q with ⟨kvs,ha,q⟩ | ⟨kvs,ha,q⟩
 ·obtain ⟨g,hz,sm,us,kv,o,es,ep,g1,g2,g3,g5,g6,_⟩:=(show CM X.prog X.w H1 s1.heap a (.frz ob (.dK kvs)) from I1.hok a _ ha)
  rw [g] at g1;cases g1;exact fin sm g g2 g3 (dS g6 kv) q
 ·obtain ⟨g,hz,sm,xs,rr,o,es,ep,g1,g2,g3,g4,_⟩:=(show CM X.prog X.w H1 s1.heap a (.frz ob (.dT kvs)) from I1.hok a _ ha)
  rw [g] at g1;cases g1
  have hk:es.toList.map (·.key)=(xs.map (·.2.1)).map A7:=by
   rw [g4,At,At];rfl
  exact fin sm g g2 g3 (by rw [hk];exact Wu _) (q _ (Zw rr))
def Sy (d:D) (S:Sto):Option (List D):=match d with
 | .ref n=>match S[n]? with
  | some (.fK kvs)=>some (kvs.map λx=>UT x.1)
  | some (.fT kvs)=>some (kvs.map λx=>.tup (x.1.map UT))
  | _=>none
 | _=>none
def Vi (m:ME):MI:=λe S=>(m e S).bind λd S1=>match Sy d S1 with
 | some ds=>.ok (Dc ds) S1
 | none=>.bad
theorem OK {ρ:List AK} {a:AK} {ob:Obj} {u:HO} {ds:List D} {xs:List V} (ha:H a=some (.frz ob u)) (h2:Au K ρ H ds xs):LM K ρ H (Itk a ob u xs) (Dc ds):=by
 intro ρ2 H2 S ds' i l s hv;cases hv;have rr:=h2.mono l;have ha2:=l.frz _ _ _ ha;refine ⟨λhn=>⟨ha2,by rw [<-rr.length];exact Bj.mp hn⟩,λd hd=>?_⟩;obtain ⟨x,hx,rx⟩:=rr.get hd;refine ⟨⟨ha2,(AD.mp hx).1⟩,λy H' ⟨e,hy⟩=>?_⟩;subst e;rw [hx] at hy;cases hy;exact ⟨ρ2,.refl,s,rx⟩
theorem c9 (h:GE X E e m):GI X E tg e (Vi m):=(bz h).imp λσ H R ⟨ρ,l,S,hl,hs,hm⟩=>by
 refine ⟨ρ,l,S,hl,hs,hm.seq λd S1 hm ρ1 H1 x l1 s1 r1=>?_⟩
 cases hq:Sy d S1 with
 | none=>rw [hq] at hm;exact hm.elim
 | some ds=>
  rw [hq] at hm
  cases r1 with
  | @ref n a hn=>
   obtain ⟨o,ho,ro⟩:=s1.there hn;unfold Sy at hq;simp only [ho] at hq
   cases o with
   | fK kvs=>
    cases hq;obtain ⟨ob,vs,e,rr⟩:=ro;exact ⟨a,ob,rfl,.inl ⟨vs,e,hm ρ1 H1 _ l1 s1 (OK e (L6 rr))⟩⟩
   | fT kvs=>
    cases hq;obtain ⟨ob,vs,e,rr⟩:=ro;exact ⟨a,ob,rfl,.inr ⟨vs,e,λbs hb=>hm ρ1 H1 _ l1 s1 (OK e (Ox rr hb))⟩⟩
   | _=>cases hq
  | _=>cases hq
theorem Inv.fz {a:AK} {ob:Obj} {u:HO} (I:Inv X pins σ H s) (hg:s.heap.get? a=some ob) (ha:H a=some u) (mu:Mut (some u)):Inv X pins σ (upd H a (.frz ob u)) s:=by
 have nn:∀b,H b=none->b≠a:=λb h z=>by subst z;rw [ha] at h;cases h
 have nm:∀b o,H b=some o->¬Mut (some o)->b≠a:=λb o h n z=>by subst z;rw [ha] at h;cases h;exact n mu
 have st:∀b o,CM X.prog X.w H s.heap b o->CM X.prog X.w (upd H a (.frz ob u)) s.heap b o:=λb o x=>
  x.stay (λ_ _ _ q=>q) (λc r=>by rw [BW (nm c _ r λz=>z)];exact r) λc xs r=>by rw [BW (nm c _ r λz=>z)];exact r
 refine ⟨I.ok,I.os,I.bare,⟨I.base.keep,I.base.slot,λb o q n hx=>?_,I.base.there,λb xs q=>?_,λb o xs q=>?_,λb ps q=>?_⟩,I.loc,I.cell,?_,λx c q=>?_,λp hp=>?_,λb o q=>?_,I.len⟩
 ·have:=I.base.free b o q n hx
  rw [BW (nn b this)];exact this
 ·have:=I.base.tups b xs q
  rw [BW (nm b _ this λz=>z)];exact this
 ·have:=I.base.frzs b o xs q
  rw [BW (nm b _ this λz=>z)];exact this
 ·obtain ⟨more,this⟩:=I.base.tbls b ps q
  exact ⟨more,by rw [BW (nm b _ this λz=>z)];exact this⟩
 ·rw [BW (nn _ I.free)];exact I.free
 ·rw [BW (nn _ (I.freeC x c q))];exact I.freeC x c q
 ·obtain ⟨h1,h2,h3⟩:=I.pin p hp
  exact ⟨h1,by rw [BW (nn _ h2)];exact h2,h3⟩
 ·by_cases hb:b=a
  ·subst hb
   rw [Bg] at q;cases q;exact ⟨hg,st b u (I.hok b u ha)⟩
  ·rw [BW hb] at q
   exact st b o (I.hok b o q)
def fzO:Ob->Option Ob
 | .dK kvs=>some (.fK kvs)
 | .dT kvs=>some (.fT kvs)
 | .fK kvs=>some (.fK kvs)
 | .fT kvs=>some (.fT kvs)
 | _=>none
def sFz (i:Nat):MS:=λe S=>match e[i]? with
 | some (some (.ref n))=>match S[n]? with
  | some o=>match fzO o with
   | some o'=>.ok (.nx e) (S.set n o')
   | none=>.bad
  | none=>.bad
 | _=>.bad
theorem SS {S:Sto} {n:Nat} {o:Ob} (h:S[n]?=some o):S.set n o=S:=by
 apply Cz
 intro j;rw [Ek];split
 ·rename_i c
  subst c;split
  ·exact h.symm
  ·rename_i c;rw [BO (G8.mp c)] at h;cases h
 ·rfl
theorem kR {i:Nat} {st:Cc} {ms:MS} (h:GS X E st ms):GS X E st (BI (sFz i) ms):=λpins s σ H D I ⟨ρ,l,S,hl,hs,hm⟩=>by
 cases hx:l[i]? with
 | none=>unfold BI sFz at hm;rw [hx] at hm;exact hm.elim
 | some x=>
  cases x with
  | none=>unfold BI sFz at hm;rw [hx] at hm;exact hm.elim
  | some d=>
   cases d with
   | ref n=>
    cases ho:S[n]? with
    | none=>unfold BI sFz at hm;rw [hx] at hm;dsimp only at hm;rw [ho] at hm;exact hm.elim
    | some o=>
     cases hf:fzO o with
     | none=>unfold BI sFz at hm;rw [hx] at hm;dsimp only at hm;rw [ho] at hm;dsimp only at hm;rw [hf] at hm;exact hm.elim
     | some o'=>
      have hm2:B7 X.K noH ρ H (ms l (S.set n o')) λfl S'=>No X.K E ρ H S' D fl:=by
       unfold BI sFz at hm;rw [hx] at hm;dsimp only at hm;rw [ho] at hm;dsimp only at hm;rw [hf] at hm;exact hm
      obtain ⟨a,hn,ro⟩:=hs.at ho
      have fr:∀u,H a=some u->Mut (some u)->(∃ob,s.heap.get? a=some ob)->(∀ob,EZ X.K ρ (upd H a (.frz ob u)) a o')->Aq (Ac X.prog X.w) X.A (exec st X.env) _ _ s:=λu ha mu ⟨ob,hg⟩ ra=>by
       have le:Le X.K ρ H ρ (upd H a (.frz ob u)):=Le.write hn (by rw [ha];exact mu);obtain ⟨s5,_⟩:=hs.write hn (ra ob) le;exact h pins s σ _ D (I.fz hg ha mu) ⟨ρ,l,_,hl.mono le,s5,hm2.go le λ_ _ k=>k.later le⟩
      cases o with
      | dK kvs=>
       cases hf;obtain ⟨vs,e,rr⟩:=ro
       refine fr _ e trivial ?_ λob=>⟨ob,vs,Bg,KVR.mono (Le.write hn (by rw [e];trivial)) rr⟩
       obtain ⟨_,_,_,_,o,_,_,e,_⟩:=(show CM X.prog X.w H s.heap a (.dK vs) from I.hok a _ e);exact ⟨o,e⟩
      | dT kvs=>
       cases hf;obtain ⟨vs,e,rr⟩:=ro
       refine fr _ e trivial ?_ λob=>⟨ob,vs,Bg,KVR.mono (Le.write hn (by rw [e];trivial)) rr⟩
       obtain ⟨_,_,_,_,o,_,_,e,_⟩:=(show CM X.prog X.w H s.heap a (.dT vs) from I.hok a _ e);exact ⟨o,e⟩
      | fK kvs=>cases hf;rw [SS ho] at hm2;exact h pins s σ H D I ⟨ρ,l,S,hl,hs,hm2⟩
      | fT kvs=>cases hf;rw [SS ho] at hm2;exact h pins s σ H D I ⟨ρ,l,S,hl,hs,hm2⟩
      | _=>cases hf
   | _=>unfold BI sFz at hm;rw [hx] at hm;exact hm.elim
end
section
variable {X:Cx} {E:EW} {e o f:Expr} {p pos apos cpos:Pos} {m mo me mf:ME} {te:TE}
def Wg (te:TE):TE:=λσ H Q=>te σ H λx H1=>∃a kvs,x=.ref a/\H1 a=some (.dK kvs)/\∀q,H1 q=none->Q (.ref q) (upd H1 q (.lst (kvs.map (·.2))))
theorem Vf:∀ {kvs:List (Key×V)} {us:List (Key×AC)},KV kvs us->Bi (kvs.map (·.2)) (us.map (·.2))
 | _,_,.nil=>.nil
 | _,_,.cons r t=>.cons r.2 (Vf t)
theorem Sh (hc:X.calm=true) (hg:Gl X "list") (hm:X.mg "list" = none) (h:PE X e te)
  (hbase:CV e "values" X.env (Br e X.env)=Br e X.env:=by rfl) (hline:(apos.endLine==cpos.line)=true:=by rfl)
  (he2:AS [.Call (.Attribute e "values" apos) [] [] cpos] X.env=(false,Br (.Call (.Attribute e "values" apos) [] [] cpos) X.env) :: AS [] X.env:=by rfl) :
  PE X (.Call (.Name "list" p) [.Call (.Attribute e "values" apos) [] [] cpos] [] pos) (Wg te):=by
 intro pins s σ H Q I hq;refine DY (JR I hg hm IE ?_ (by decide) (by decide));refine CL ?_ he2 rfl;rw [he2];show Aq _ _ (Xx ((false,Br (.Call (.Attribute e "values" apos) [] [] cpos) X.env) :: DQ pos (AS [] X.env))) _ _ s;refine IC ?_;refine Xm hbase hline (thn (h pins s σ H _ I hq) λv s1 ⟨x,H1,I1,r1,a,kvs,ex,ha,q⟩=>?_);subst ex;cases r1;obtain ⟨t1,t2,_⟩:=ZY I1 (.inl ⟨kvs,.inl ha⟩);obtain ⟨hz,sm,us,kv,dd⟩:=(show CM X.prog X.w H1 s1.heap a (.dK kvs) from I1.hok a _ ha);refine ⟨"dict", "dict.values",P5,PZ,PySem.F.type_dict_values,t1,t2,GC rfl (Uw ?_)⟩;refine call_meetsIn PZ t1 PySem.F.entry_dict_values (PySem.F.args_dict_values_1 _) (meets_dict_values (Cn X.prog X.w) a sm) ⟨⟨us,dd⟩,?_⟩;refine Ih ?_;obtain ⟨ep,hat⟩:=dd.dictAt;have hl:kvs.length=us.length:=Db kv
 refine PySem.W.kdl_call (PySem.W.kdl_values (knd:=Cn X.prog X.w) (kvs:=us) (ep:=ep)) (I.ok.hd hc) ⟨⟨_,Aj _ rfl,rfl,rfl⟩,hat.push _⟩ (by rw [<-hl];exact hz) λh' tk acc c hk hL hacc=>?_
 have k:∀b o,s1.heap.get? b=some o->h'.get? b=some o:=λb o e=>hk b o (AJ _ e)
 have ea:acc.toList=us.map (·.2):=PySem.W.kdl_vals_eq acc.toList (by rw [BX];exact hacc.1) λj v e=>hacc.2 j v (by rw [<-Ea];exact e)
 have hle:s1.heap.objs.size<=(s1.heap.push { cls:=.type "dict_values",data:=.fields #[.ref a] }).objs.size:=by rw [DO];exact HJ _
 refine ⟨.ref (s1.heap.push { cls:=.type "dict_values",data:=.fields #[.ref a] }).objs.size,upd H1 _ (.lst (kvs.map (·.2))),I1.laid (t':=tk) k hle ⟨by rw [AE];exact hz,acc.toList,c,by rw [ea];exact Vf kv,by rw [Array.toArray_toList];exact hL⟩,rfl,q _ (I1.hok.fresh hle)⟩
def KS (m:ME):ME:=λe S=>(m e S).bind λd S1=>match d with
 | .ref n=>match S1[n]? with
  | some (.dK kvs)=>.ok (.ref S1.length) (S1++[.lst (kvs.map (·.2))])
  | _=>.bad
 | _=>.bad
theorem Sx {K:AA} {ρ:List AK} {H:Hp}:∀ {kvs:List (Key×D)} {kvs':List (Key×V)},KVR K ρ H kvs kvs'->Au K ρ H (kvs.map (·.2)) (kvs'.map (·.2))
 | _,_,.nil=>.nil
 | _,_,.cons r t=>.cons r.2 (Sx t)
theorem TD (hc:X.calm=true) (hg:Gl X "list") (hm:X.mg "list" = none) (h:GE X E e m)
  (hbase:CV e "values" X.env (Br e X.env)=Br e X.env:=by rfl) (hline:(apos.endLine==cpos.line)=true:=by rfl)
  (he2:AS [.Call (.Attribute e "values" apos) [] [] cpos] X.env=(false,Br (.Call (.Attribute e "values" apos) [] [] cpos) X.env) :: AS [] X.env:=by rfl) :
  GE X E (.Call (.Name "list" p) [.Call (.Attribute e "values" apos) [] [] cpos] [] pos) (KS m):=(Sh hc hg hm h hbase hline he2).imp λσ H Q ⟨ρ,l,S,hl,hs,hm⟩=>by
 refine ⟨ρ,l,S,hl,hs,hm.seq λd S1 hm ρ1 H1 x l1 s1 r1=>?_⟩;split at hm
 ·rename_i n
  split at hm
  ·rename_i kvs hn
   cases r1 with
   | @ref _ a ha=>
    obtain ⟨vs,e,rr⟩:=s1.ob n _ _ hn ha;refine ⟨a,vs,rfl,e,λq hq=>?_⟩;have le:Le X.K ρ1 H1 (ρ1++[q]) (upd H1 q (.lst (vs.map (·.2)))):=Le.alloc hq;obtain ⟨s4,l4,at4⟩:=s1.alloc (ho:=.lst (vs.map (·.2))) (o:=.lst (kvs.map (·.2))) hq ⟨_,Bg,(Sx rr).mono le⟩;exact hm _ _ _ (l1.trans l4) s4 (.ref at4)
  ·exact hm.elim
 ·exact hm.elim
end
abbrev Cx.q (X:Cx):Cx:={ X with xe:=λ_ _=>False }
def ER (n:Nat) (mb:MS) (ds:List D) (S:Sto):Res D:=(okR (mb (Cv n ds) S)).bind λf S1=>match f with
 | .rt d=>.ok d S1
 | .nx _=>.ok .non S1
 | _=>.bad
section
variable {P:Ak} {w:A9} {K:AA} {mg:Str->Option AC} {base:Bw}
theorem dH {x qual:Str} {st:Cc} {f:AK} {fd:DN} {N ps:List Str} {k n:Nat} (F:Fun K x qual st f fd) (Sc:Bq N ps (An st)) (hn:ps.length=n) {mb:MS}
  (hbody:∀(cdv:AC) (A:BB) (outer:List Env) (s:AG) (H:Hp) (E:XK),HG k (A.deeper (Kv qual (An st) s.heap.objs.size f cdv))->GSs (Uh (CXG P w) P w K mg base N qual (An st) f cdv A outer s H E).q noE (Bm st) mb) :
  DX P w K mg base (CXG P w) (k+1) f fd ps (spM K n (ER N.length mb)):=by
 obtain ⟨oc,od,kV,doc,pm,an,cdv,ct,osl,rfl,lk,hcd⟩:=F.ex
 refine kX lk hcd Sc (λvs H Q E h=>by rw [hn];exact h.len) λA outer s H vs Q E hr h=>?_
 obtain ⟨ρ,ds,S,h1,h2,h3,h4⟩:=h;have hb:=hbody cdv A outer s H E hr;refine ⟨gS K noE mb,λpins s' σ H' D I q=>GJ (hb pins s' σ H' D (I.with _) q) (λfl s1 z=>?_) λe s1 z=>z.elim,ρ,_,S,UA h2,h3,?_⟩
 ·cases fl with
  | next=>obtain ⟨σ',H2,J,z⟩:=z;exact ⟨σ',H2,J.without,z⟩
  | brk=>obtain ⟨σ',H2,J,z⟩:=z;exact ⟨σ',H2,J.without,z⟩
  | cont=>obtain ⟨σ',H2,J,z⟩:=z;exact ⟨σ',H2,J.without,z⟩
  | ret u=>obtain ⟨v,σ',H2,J,r,z⟩:=z;exact ⟨v,σ',H2,J.without,r,z⟩
 ·unfold ER at h4
  cases hr:mb (Cv N.length ds) S with
  | bad=>rw [hr] at h4;exact h4.elim
  | err c S'=>rw [hr] at h4;exact h4.elim
  | ok fl S'=>
   rw [hr] at h4
   cases fl with
   | nx e'=>exact λρ' H' σ' l s' r=>h4 ρ' H' .non l s' .non
   | rt d=>exact h4
   | bk e'=>exact h4.elim
   | ct e'=>exact h4.elim
   | ex c e'=>exact h4.elim
end
def rIsQ (K:AA) (c:V) (cv:AC):List V->Hp->VK->Prop:=λxs H Q=>∃x t b,xs=[x,c]/\MP K H x t/\DG K t cv=some b/\Q (.bl b) H
section
variable {X:Cx} {E:EW} {e ce:Expr} {p pos:Pos} {m:ME} {c:V} {cv:AC} {tab:String->Option Bool}
theorem Z4 (hv:∀u,RelV c u->u=cv):IN X (.builtin "isinstance") (rIsQ X.K c cv):=by
 intro pins s σ H xs us Q I r h;obtain ⟨x,t,b,rfl,ty,e,q⟩:=h;obtain ⟨v,w,rfl,r1,r2⟩:=vals2 r;rw [hv w r2]
 exact XH I r1 ty e λtk=>⟨.bl b,H,I.tok tk,rfl,q⟩
def cY (tab:String->Option Bool) (m:ME):ME:=λe S=>(m e S).bind λd S1=>match tyD d S1 with
  | some T=>match tab T with
   | some b=>.ok (.bl b) S1
   | none=>.bad
  | none=>.bad
theorem O3 (hv:∀u,RelV c u->u=cv) (ht:∀T b,tab T=some b->DG X.K (.type T) cv=some b)
  (hg:Gl X "isinstance") (hm:X.mg "isinstance" = none) (h:GE X E e m) (hce:PE X ce (tC c))
  (he:AS [e,ce] X.env=(false,Br e X.env) :: AS [ce] X.env:=by rfl) (he2:AS [ce] X.env=(false,Br ce X.env) :: AS [] X.env:=by rfl) (hpl:(DQ pos (AS [ce] X.env)).any (·.1)=false:=by rfl) :
  GE X E (.Call (.Name "isinstance" p) [e,ce] [] pos) (cY tab m):=
 (J2 (Z4 hv) hg hm lB (E2 h (E2 hce HC he2) he) (by decide) (by decide) he hpl).imp λσ H Q ⟨ρ,l,S,hl,hs,hm⟩=>by
 refine ⟨ρ,l,S,hl,hs,hm.seq λd S1 hm ρ1 H1 x l1 s1 r1=>?_⟩
 cases hq:tyD d S1 with
 | none=>rw [hq] at hm;exact hm.elim
 | some T=>
  rw [hq] at hm;dsimp only at hm
  cases hb:tab T with
  | none=>rw [hb] at hm;exact hm.elim
  | some b=>
   rw [hb] at hm;exact ⟨x,_,b,rfl,fS s1 r1 hq,ht T b hb,hm ρ1 H1 _ l1 s1 (.bl _)⟩
end
end L2
namespace M
open PySem L2
abbrev oN(e:L2.Lo)(S:L2.Sto):L2.Res L2.Fl:=.ok (.nx e) S
abbrev sR(n:Nat):Option L2.D:=some (.ref n)
abbrev sI(i:Int):Option L2.D:=some (.int i)
abbrev sF(l:List Int):Option L2.D:=some (.fro (l.map L2.D.int))
theorem C6 {n:Nat} {mb:MS} {ds:List D} {S S1:Sto} {d:D} (h:mb (Cv n ds) S=.ok (.rt d) S1):ER n mb ds S=.ok d S1:=by unfold ER;rw [h];rfl
theorem UE {n:Nat} {mb:MS} {ds:List D} {S S1:Sto} {e:Lo} (h:mb (Cv n ds) S=.ok (.nx e) S1):ER n mb ds S=.ok .non S1:=by unfold ER;rw [h];rfl
abbrev mIs (tab:String->Option Bool) (_:AK->Option Bool) (m:ME):ME:=cY tab m
theorem eJ {tab:String->Option Bool} {tabC:AK->Option Bool} {m:ME} {e:Lo} {S S1:Sto} {d:D} {T:String} {b:Bool} (h:m e S=.ok d S1) (ht:tyD d S1=some T) (hb:tab T=some b):mIs tab tabC m e S=.ok (.bl b) S1:=by
 show cY tab m e S=_;unfold cY;rw [h];dsimp only [Res.bind];rw [ht];dsimp only;rw [hb]
end M
namespace L4
open PySem L2
inductive Cel where
 | no | fz (o:Ob) | ow (i:Nat)
abbrev Fz:=Nat->Cel
inductive Sl where
 | u | v (d:D) | z (o:Ob) | y (o:Ob) | w (i:Nat) (o:Ob) | q (P:(Nat->Option Ob)->D->Prop)
def Sl.ok (S0:Sto) (F:Fz) (S:Sto):Sl->Option D->Prop
 | .u,_=>True
 | .v d,x=>x=some d
 | .z o,x=>∃n,x=some (.ref n)/\F n=.fz o
 | .y o,x=>∃n,x=some (.ref n)/\F n=.fz o/\S0.length<=n
 | .w i o,x=>∃n,x=some (.ref n)/\F n=.ow i/\S[n]?=some o
 | .q P,x=>∃d,x=some d/\∀L:Nat->Option Ob,(∀n o,F n=.fz o->L n=some o)->P L d
structure Vs (S0:Sto) (A:List Sl) (e:Lo) (F:Fz) (S:Sto):Prop where
 kp:Keeps S0 S
 fz:∀n o,F n=.fz o->S[n]?=some o
 ow:∀n i,F n=.ow i->S0.length<=n/\n < S.length
 hi:∀n,S.length<=n->F n=.no
 sl:∀(i:Nat) (a:Sl),A[i]?=some a->∃x,e[i]?=some x/\a.ok S0 F S x
def Fle (F F':Fz):Prop:=∀n o,F n=.fz o->F' n=.fz o
theorem Fle.refl (F:Fz):Fle F F:=λ_ _ h=>h
theorem Fle.trans {F G H:Fz} (a:Fle F G) (b:Fle G H):Fle F H:=λn o h=>b n o (a n o h)
def NA (F:Fz) (S S':Sto):Fz:=λn=>if n < S.length then F n else match S'[n]? with
 | some o=>.fz o
 | none=>.no
section
variable {S0 S S':Sto} {A B:List Sl} {e:Lo} {F:Fz} {α β γ ρ σ τ:Type}
theorem Fu {n:Nat} (h:n < S.length):NA F S S' n=F n:=qX h
theorem Zr {n:Nat} {o:Ob} (h:S.length<=n) (ho:S'[n]?=some o):NA F S S' n=.fz o:=by
 unfold NA;rw [qY (G8.mpr h),ho]
theorem Bl {n:Nat} {o:Ob} (h:S[n]?=some o):n < S.length:=(AD.mp h).1
theorem Sl.mono {S0:Sto} {F F':Fz} {S S':Sto} {a:Sl} {x:Option D} (h:a.ok S0 F S x) (h1:∀n o,F n=.fz o->F' n=.fz o) (h2:∀n i o,F n=.ow i->S[n]?=some o->F' n=.ow i/\S'[n]?=some o):a.ok S0 F' S' x:=by
 cases a with
 | u=>trivial
 | v d=>exact h
 | z o=>obtain ⟨n,h3,h4⟩:=h;exact ⟨n,h3,h1 _ _ h4⟩
 | y o=>obtain ⟨n,h3,h4,h5⟩:=h;exact ⟨n,h3,h1 _ _ h4,h5⟩
 | w i o=>obtain ⟨n,h3,h4,h5⟩:=h;exact ⟨n,h3,h2 _ _ _ h4 h5⟩
 | q P=>obtain ⟨d,h3,h4⟩:=h;exact ⟨d,h3,λL hL=>h4 L λn o q=>hL n o (h1 n o q)⟩
theorem Vs.fle (h:Vs S0 A e F S) (S':Sto):Fle F (NA F S S'):=λn o q=>by rw [Fu (Bl (h.fz n o q))];exact q
theorem Vs.grow (h:Vs S0 A e F S) (k:Keeps S S'):Vs S0 A e (NA F S S') S':=by
 refine ⟨h.kp.trans k,λn o q=>?_,λn i q=>?_,λn hn=>?_,λi a ha=>?_⟩
 ·unfold NA at q
  split at q
  ·rename_i hn
   rw [k.2 n hn];exact h.fz n o q
  ·cases hs:S'[n]? with
   | none=>rw [hs] at q;cases q
   | some o'=>rw [hs] at q;cases q;rfl
 ·unfold NA at q
  split at q
  ·exact ⟨(h.ow n i q).1,AZ (h.ow n i q).2 k.1⟩
  ·cases hs:S'[n]? with
   | none=>rw [hs] at q;cases q
   | some o'=>rw [hs] at q;cases q
 ·unfold NA
  rw [qY (G8.mpr (A0 k.1 hn)),BO hn]
 ·obtain ⟨x,h1,h2⟩:=h.sl i a ha
  exact ⟨x,h1,Sl.mono h2 (h.fle S') λn i o q1 q2=>⟨by rw [Fu (Bl q2)];exact q1,by rw [k.2 n (Bl q2)];exact q2⟩⟩
theorem Vs.cons (h:Vs S0 A e F S) {a:Sl} {x:Option D} (hx:a.ok S0 F S x):Vs S0 (a :: A) (x :: e) F S:=
 ⟨h.kp,h.fz,h.ow,h.hi,λi b hb=>by
  cases i with
  | zero=>cases hb;exact ⟨x,rfl,hx⟩
  | succ i=>exact h.sl i b hb⟩
theorem Vs.set (h:Vs S0 A e F S) {a:Sl} {x:Option D} (i:Nat) (hx:a.ok S0 F S x):Vs S0 (A.set i a) (e.set i x) F S:=
 ⟨h.kp,h.fz,h.ow,h.hi,λj b hb=>by
  by_cases c:i=j
  ·subst c
   rw [Ek] at hb;rw [qX rfl] at hb;split at hb
   ·rename_i hl
    cases hb;obtain ⟨y,hy,_⟩:=h.sl i (A[i]) (BM hl);exact ⟨x,by rw [Ek];rw [qX rfl,qX (AD.mp hy).1],hx⟩
   ·cases hb
  ·rw [AT c] at hb ⊢
   exact h.sl j b hb⟩
inductive Wk:List Sl->List Sl->Prop where
 | nil:Wk [] []
 | same {a:Sl} {A B:List Sl}:Wk A B->Wk (a :: A) (a :: B)
 | drop {a:Sl} {A B:List Sl}:Wk A B->Wk (a :: A) (.u :: B)
 | less {o:Ob} {A B:List Sl}:Wk A B->Wk (.y o :: A) (.z o :: B)
theorem Wk.at:∀ {A B:List Sl},Wk A B->∀(i:Nat) (b:Sl),B[i]?=some b->∃a,A[i]?=some a/\(b=.u∨b=a∨∃o,a=.y o/\b=.z o)
 | _,_,.nil,i,b,h=>by simp at h
 | _,_,.same w,0,b,h=>by cases h;exact ⟨_,rfl,.inr (.inl rfl)⟩
 | _,_,.less w,0,b,h=>by cases h;exact ⟨_,rfl,.inr (.inr ⟨_,rfl,rfl⟩)⟩
 | _,_,.less w,i+1,b,h=>Wk.at w i b h
 | _,_,.drop w,0,b,h=>by cases h;exact ⟨_,rfl,.inl rfl⟩
 | _,_,.same w,i+1,b,h=>Wk.at w i b h
 | _,_,.drop w,i+1,b,h=>Wk.at w i b h
theorem Vs.weak (h:Vs S0 A e F S) (w:Wk A B):Vs S0 B e F S:=⟨h.kp,h.fz,h.ow,h.hi,λi b hb=>by
 obtain ⟨a,h1,h2⟩:=w.at i b hb;obtain ⟨x,h3,h4⟩:=h.sl i a h1
 rcases h2 with rfl | rfl | ⟨o,rfl,rfl⟩
 ·exact ⟨x,h3,trivial⟩
 ·exact ⟨x,h3,h4⟩
 ·obtain ⟨n,h5,h6,_⟩:=h4
  exact ⟨x,h3,n,h5,h6⟩⟩
def Sl.oth (i:Nat):Sl->Bool
 | .w k _=>!(Nat.beq k i)
 | _=>true
theorem Y4 {i j k:Nat} {o:Ob} (h:((A.set i .u).all (Sl.oth i))=true) (hj:j≠i) (ha:A[j]?=some (.w k o)):k≠i:=by
 have h1:(A.set i .u)[j]?=some (.w k o):=by rw [AT (Bx hj)];exact ha
 have:=G5.mp h _ (BD h1);intro e;subst e;have h2:(!(Nat.beq k k))=true:=this;rw [Nat.beq_refl] at h2;cases h2
theorem Vs.put (h:Vs S0 A e F S) {i n:Nat} {o o':Ob} (ht:((A.set i .u).all (Sl.oth i))=true) (ha:A[i]?=some (.w i o)) (hx:e[i]?=some (some (.ref n))) (hn:F n=.ow i):Vs S0 (A.set i (.w i o')) e F (S.set n o'):=by
 have hl:=h.ow n i hn;refine ⟨h.kp.set hl.1 o',λk q hq=>?_,λk j q=>by rw [C0];exact h.ow k j q,λk hk=>h.hi k (by rw [C0] at hk;exact hk),λj b hb=>?_⟩
 ·have:n≠k:=λc=>by subst c;rw [hn] at hq;cases hq
  rw [AT this];exact h.fz k q hq
 ·by_cases c:i=j
  ·subst c
   rw [Ek] at hb;rw [qX rfl] at hb;split at hb
   ·cases hb
    exact ⟨_,hx,n,rfl,hn,by rw [Ek];rw [qX rfl,qX hl.2]⟩
   ·cases hb
  ·rw [AT c] at hb
   obtain ⟨x,h1,h2⟩:=h.sl j b hb;refine ⟨x,h1,?_⟩
   cases b with
   | u=>trivial
   | v d=>exact h2
   | z q=>exact h2
   | y q=>exact h2
   | q P=>exact h2
   | w k q=>
    obtain ⟨m,h3,h4,h5⟩:=h2;refine ⟨m,h3,h4,?_⟩
    have:n≠m:=λz=>by
     subst z;rw [hn] at h4;cases h4;exact Y4 ht (λz=>c z.symm) hb rfl
    rw [AT this];exact h5
theorem Vs.freeze (h:Vs S0 A e F S) {i:Nat} {o:Ob} (ht:((A.set i .u).all (Sl.oth i))=true) (ha:A[i]?=some (.w i o)):∃F',Vs S0 (A.set i (.y o)) e F' S/\Fle F F':=by
 obtain ⟨x,hx,n,rfl,hn,ho⟩:=h.sl i _ ha
 have g:∀k,k≠n->(if k=n then Cel.fz o else F k)=F k:=λk hk=>qY hk
 have fl:Fle F (λk=>if k=n then Cel.fz o else F k):=λk q hq=>by
  have:k≠n:=λc=>by subst c;rw [hn] at hq;cases hq
  show (if k=n then Cel.fz o else F k)=_;rw [qY this];exact hq
 refine ⟨λk=>if k=n then .fz o else F k,⟨h.kp,λk q hq=>?_,λk j q=>?_,λk hk=>?_,λj b hb=>?_⟩,fl⟩
 ·split at hq
  ·rename_i c;cases hq;subst c;exact ho
  ·exact h.fz k q hq
 ·split at q
  ·cases q
  ·exact h.ow k j q
 ·have:k≠n:=λc=>by subst c;exact zX (Bl ho) (G8.mpr hk)
  show (if k=n then Cel.fz o else F k)=_;rw [qY this];exact h.hi k hk
 ·by_cases c:i=j
  ·subst c
   rw [Ek] at hb;rw [qX rfl] at hb;split at hb
   ·cases hb
    exact ⟨_,hx,n,rfl,qX rfl,(h.ow n i hn).1⟩
   ·cases hb
  ·rw [AT c] at hb
   obtain ⟨x,h1,h2⟩:=h.sl j b hb;refine ⟨x,h1,?_⟩
   cases b with
   | u=>trivial
   | v d=>exact h2
   | z q=>obtain ⟨m,h3,h4⟩:=h2;exact ⟨m,h3,fl _ _ h4⟩
   | y q=>obtain ⟨m,h3,h4,h5⟩:=h2;exact ⟨m,h3,fl _ _ h4,h5⟩
   | q P=>obtain ⟨d,h3,h4⟩:=h2;exact ⟨d,h3,λL hL=>h4 L λn o q=>hL n o (fl n o q)⟩
   | w k q=>
    obtain ⟨m,h3,h4,h5⟩:=h2;refine ⟨m,h3,?_,h5⟩
    have:m≠n:=λz=>by
     subst z;rw [hn] at h4;cases h4;exact Y4 ht (λz=>c z.symm) hb rfl
    show (if m=n then Cel.fz o else F m)=_;rw [qY this];exact h4
theorem Vs.own (h:Vs S0 A e F S) (k:Keeps S S') {i n:Nat} {o:Ob} (hn:S.length<=n) (ho:S'[n]?=some o):∃F',Vs S0 (A.set i (.w i o)) (e.set i (some (.ref n))) F' S'/\Fle F F':=by
 have g:=h.grow k;have hnl:=Bl ho
 have fl:Fle F (λj=>if j=n then Cel.ow i else NA F S S' j):=λj q hq=>by
  have:j≠n:=λc=>by subst c;exact zX (Bl (h.fz _ _ hq)) (G8.mpr hn)
  show (if j=n then Cel.ow i else _)=_;rw [qY this];exact h.fle S' _ _ hq
 refine ⟨λj=>if j=n then .ow i else NA F S S' j,(Vs.set (a:=.w i o) (x:=some (.ref n)) ⟨g.kp,λj q hq=>?_,λj q hq=>?_,λj hj=>?_,λj b hb=>?_⟩ i ⟨n,rfl,qX rfl,ho⟩),fl⟩
 ·split at hq
  ·cases hq
  ·exact g.fz j q hq
 ·split at hq
  ·rename_i c;subst c;exact ⟨A0 h.kp.1 hn,hnl⟩
  ·exact g.ow j q hq
 ·have:j≠n:=λc=>by subst c;exact zX hnl (G8.mpr hj)
  show (if j=n then Cel.ow i else _)=_;rw [qY this];exact g.hi j hj
 ·obtain ⟨x,h1,h2⟩:=h.sl j b hb
  refine ⟨x,h1,Sl.mono h2 fl λm j q q1 q2=>?_⟩;have hm:=Bl q2
  have:m≠n:=λc=>by subst c;exact zX hm (G8.mpr hn)
  refine ⟨?_,by rw [k.2 m hm];exact q2⟩;show (if m=n then Cel.ow i else _)=_;rw [qY this,Fu hm];exact q1
abbrev Rk (α:Type):=α->Sto->D->Sto->Prop
def rV (enc:α->D):Rk α:=λv _ d _=>d=enc v
def rO (ob:α->Ob):Rk α:=λv _ d S=>∃n,d=.ref n/\S[n]?=some (ob v)
def rN (ob:α->Ob):Rk α:=λv S0 d S=>∃n,d=.ref n/\S0.length<=n/\S[n]?=some (ob v)
def VE (A:List Sl) (m:ME) (R:Rk α) (p:Option α):Prop:=∀v,p=some v->∀S0 e F S,Vs S0 A e F S->∃d S',m e S=.ok d S'/\Keeps S S'/\R v S d S'
def VB (A:List Sl) (t:MT) (p:Option Bool):Prop:=∀v,p=some v->∀S0 e F S,Vs S0 A e F S->∃S',t e S=.ok v S'/\Keeps S S'
def VL (A:List Sl) (ml:ML) (enc:α->D) (p:Option (List α)):Prop:=∀v,p=some v->∀S0 e F S,Vs S0 A e F S->∃S',ml e S=.ok (v.map enc) S'/\Keeps S S'
def VK (A:List Sl) (mi:MI) (enc:α->D) (p:Option (List α)):Prop:=∀v,p=some v->∀S0 e F S,Vs S0 A e F S->∃w S',mi e S=.ok w S'/\Keeps S S'/\∀S'',Keeps S' S''->w S''=some (v.map enc)
def VI (A:List Sl) (mi:MI) (enc:α->D) (p:Option (List α)):Prop:=∀v,p=some v->∀S0 e F S,Vs S0 A e F S->∃w S',mi e S=.ok w S'/\Keeps S S'/\∀F'' S'',Fle (NA F S S') F''->(∀n o,F'' n=.fz o->S''[n]?=some o)->w S''=some (v.map enc)
theorem VI.k {mi:MI} {enc:α->D} {p:Option (List α)} (h:VI A mi enc p):VK A mi enc p:=λv hv S0 e F S hs=>by
 obtain ⟨w,S',h1,h2,h3⟩:=h v hv S0 e F S hs;have g:=hs.grow h2;exact ⟨w,S',h1,h2,λS'' k=>h3 _ S'' (g.fle S'') (g.grow k).fz⟩
def eT (enc:α->D) (l:List α):D:=.tup (l.map enc)
def eP (a:α->D) (b:β->D) (x:α×β):D:=.tup [a x.1,b x.2]
def eU (_:Unit):D:=.non
def eF (l:List Int):D:=.fro (l.map D.int)
def oL (enc:α->D) (l:List α):Ob:=.lst (l.map enc)
theorem fR {m:ME} {R R':Rk α} {p:Option α} (h:VE A m R p) (i:∀v S d S',R v S d S'->R' v S d S'):VE A m R' p:=λv hv S0 e F S hs=>by
 obtain ⟨d,S',h1,h2,h3⟩:=h v hv S0 e F S hs;exact ⟨d,S',h1,h2,i _ _ _ _ h3⟩
theorem Lf {m:ME} {ob:α->Ob} {p:Option α} (h:VE A m (rN ob) p):VE A m (rO ob) p:=fR h λv S d S' ⟨n,h1,_,h2⟩=>⟨n,h1,h2⟩
theorem Ba {enc:α->D} {v:α} {i:Nat} (h:A[i]?=some (.v (enc v))):VE A (AB i) (rV enc) (some v):=λ_ hv S0 e F S hs=>by
 cases hv;obtain ⟨x,h1,h2⟩:=hs.sl i _ h;cases h2;exact ⟨_,S,by unfold AB;rw [h1],Keeps.refl S,rfl⟩
theorem C2 {ob:α->Ob} {v:α} {i:Nat} (h:A[i]?=some (.z (ob v))):VE A (AB i) (rO ob) (some v):=λ_ hv S0 e F S hs=>by
 cases hv;obtain ⟨x,h1,n,rfl,h2⟩:=hs.sl i _ h;exact ⟨_,S,by unfold AB;rw [h1],Keeps.refl S,n,rfl,hs.fz _ _ h2⟩
theorem Nx {ob:α->Ob} {v:α} {i:Nat} (h:A[i]?=some (.y (ob v))):VE A (AB i) (rO ob) (some v):=λ_ hv S0 e F S hs=>by
 cases hv;obtain ⟨x,h1,n,rfl,h2,_⟩:=hs.sl i _ h;exact ⟨_,S,by unfold AB;rw [h1],Keeps.refl S,n,rfl,hs.fz _ _ h2⟩
theorem Ld {ob:α->Ob} {v:α} {i k:Nat} (h:A[i]?=some (.w k (ob v))):VE A (AB i) (rO ob) (some v):=λ_ hv S0 e F S hs=>by
 cases hv;obtain ⟨x,h1,n,rfl,h2,h3⟩:=hs.sl i _ h;exact ⟨_,S,by unfold AB;rw [h1],Keeps.refl S,n,rfl,h3⟩
theorem Lg {enc:α->D} {v:α} {d:D} (h:d=enc v):VE A (mC d) (rV enc) (some v):=λ_ hv S0 e F S hs=>by
 cases hv;exact ⟨d,S,rfl,Keeps.refl S,h⟩
theorem BJ {p:Option α} {q:α->Option β} {v:β} (h:p.bind q=some v):∃x,p=some x/\q x=some v:=Option.bind_eq_some_iff.mp h
theorem ON {f:D->D->Sto->Res D} {a b:ME} {ea:α->D} {eb:β->D} {ec:γ->D} {pa:Option α} {pb:Option β} {g:α->β->Option γ} (ha:VE A a (rV ea) pa) (hb:VE A b (rV eb) pb)
  (hf:∀x y z S,g x y=some z->f (ea x) (eb y) S=.ok (ec z) S):VE A (m2 f a b) (rV ec) (pa.bind λx=>pb.bind λy=>g x y):=λv hv S0 e F S hs=>by
 obtain ⟨x,h1,hv⟩:=BJ hv;obtain ⟨y,h2,h3⟩:=BJ hv;obtain ⟨d1,S1,q1,k1,rfl⟩:=ha x h1 S0 e F S hs;obtain ⟨d2,S2,q2,k2,rfl⟩:=hb y h2 S0 e _ S1 (hs.grow k1);exact ⟨_,S2,BL q1 q2 (hf x y v S2 h3),k1.trans k2,rfl⟩
theorem Tw {f:D->D->Sto->Res D} {a b:ME} {ea:α->D} {ob:β->Ob} {ec:γ->D} {pa:Option α} {pb:Option β} {g:α->β->Option γ} (ha:VE A a (rV ea) pa) (hb:VE A b (rO ob) pb)
  (hf:∀x y z S (n:Nat),S[n]?=some (ob y)->g x y=some z->f (ea x) (.ref n) S=.ok (ec z) S):VE A (m2 f a b) (rV ec) (pa.bind λx=>pb.bind λy=>g x y):=λv hv S0 e F S hs=>by
 obtain ⟨x,h1,hv⟩:=BJ hv;obtain ⟨y,h2,h3⟩:=BJ hv;obtain ⟨d1,S1,q1,k1,rfl⟩:=ha x h1 S0 e F S hs;obtain ⟨d2,S2,q2,k2,n,rfl,hn⟩:=hb y h2 S0 e _ S1 (hs.grow k1);exact ⟨_,S2,BL q1 q2 (hf x y v S2 n hn h3),k1.trans k2,rfl⟩
theorem T0 {f:D->D->Sto->Res D} {a b:ME} {ob:α->Ob} {eb:β->D} {ec:γ->D} {pa:Option α} {pb:Option β} {g:α->β->Option γ} (ha:VE A a (rO ob) pa) (hb:VE A b (rV eb) pb)
  (hf:∀x y z S (n:Nat),S[n]?=some (ob x)->g x y=some z->f (.ref n) (eb y) S=.ok (ec z) S):VE A (m2 f a b) (rV ec) (pa.bind λx=>pb.bind λy=>g x y):=λv hv S0 e F S hs=>by
 obtain ⟨x,h1,hv⟩:=BJ hv;obtain ⟨y,h2,h3⟩:=BJ hv;obtain ⟨d1,S1,q1,k1,n,rfl,hn⟩:=ha x h1 S0 e F S hs;obtain ⟨d2,S2,q2,k2,rfl⟩:=hb y h2 S0 e _ S1 (hs.grow k1);exact ⟨_,S2,BL q1 q2 (hf x y v S2 n (k2.at hn) h3),k1.trans k2,rfl⟩
theorem Jv {m:ME} {p:Option Bool} (h:VE A m (rV D.bl) p):VB A (mB m) p:=λv hv S0 e F S hs=>by
 obtain ⟨d,S',h1,h2,rfl⟩:=h v hv S0 e F S hs;exact ⟨S',Gf h1,h2⟩
theorem Lh:VB A G3 (some true):=λv hv S0 e F S hs=>by cases hv;exact ⟨S,rfl,Keeps.refl S⟩
theorem Mf {t:MT} {p:Option Bool} (h:VB A t p):VB A (Kc t) (p.bind λb=>some (!b)):=λv hv S0 e F S hs=>by
 obtain ⟨x,h1,h2⟩:=BJ hv;cases h2;obtain ⟨S',h3,h4⟩:=h x h1 S0 e F S hs;exact ⟨S',Oo h3,h4⟩
theorem YJ {t u:MT} {p q:Option Bool} (h:VB A t p) (hu:VB A u q):VB A (M5 t u) (p.bind λb=>if b=true then q else some false):=λv hv S0 e F S hs=>by
 obtain ⟨x,h1,h2⟩:=BJ hv;obtain ⟨S1,h3,h4⟩:=h x h1 S0 e F S hs
 cases x with
 | true=>
  obtain ⟨S2,h5,h6⟩:=hu v h2 S0 e _ S1 (hs.grow h4);exact ⟨S2,(V7 h3).trans h5,h4.trans h6⟩
 | false=>cases h2;exact ⟨S1,V6 h3,h4⟩
theorem SE {t u:MT} {p q:Option Bool} (h:VB A t p) (hu:VB A u q):VB A (mOr t u) (p.bind λb=>if b=true then some true else q):=λv hv S0 e F S hs=>by
 obtain ⟨x,h1,h2⟩:=BJ hv;obtain ⟨S1,h3,h4⟩:=h x h1 S0 e F S hs
 cases x with
 | false=>
  obtain ⟨S2,h5,h6⟩:=hu v h2 S0 e _ S1 (hs.grow h4);exact ⟨S2,(Q8 h3).trans h5,h4.trans h6⟩
 | true=>cases h2;exact ⟨S1,gg h3,h4⟩
theorem Od {enc:α->D}:∀(v:α) (S S1:Sto) (d:D) (S':Sto),S.length<=S1.length->rV enc v S1 d S'->rV enc v S d S':=λ_ _ _ _ _ _ h=>h
theorem Yi {ob:α->Ob}:∀(v:α) (S S1:Sto) (d:D) (S':Sto),S.length<=S1.length->rN ob v S1 d S'->rN ob v S d S':=λ_ _ _ _ _ l ⟨n,h1,h2,h3⟩=>⟨n,h1,A0 l h2,h3⟩
inductive Fw (ρ σ:Type) where
 | rt (r:ρ) | nx (s:σ) | bk (s:σ) | ct (s:σ)
def VG (S0:Sto) (F:Fz) (S':Sto) (R:Rk ρ) (B:σ->List Sl) (g:Fl):Fw ρ σ->Prop
 | .nx s=>∃e' F',g=.nx e'/\Vs S0 (B s) e' F' S'/\Fle F F'
 | .ct s=>∃e' F',g=.ct e'/\Vs S0 (B s) e' F' S'/\Fle F F'
 | .bk s=>∃e' F',g=.bk e'/\Vs S0 (B s) e' F' S'/\Fle F F'
 | .rt r=>∃d,g=.rt d/\R r S0 d S'/\Keeps S0 S'
def VS (A:List Sl) (b:MS) (R:Rk ρ) (p:Option (Fw ρ σ)) (B:σ->List Sl):Prop:=∀f,p=some f->∀S0 e F S,Vs S0 A e F S->∃g S',b e S=.ok g S'/\VG S0 F S' R B g f
def EA (p:Option (Fw ρ σ)) (q:σ->Option (Fw ρ τ)):Option (Fw ρ τ):=match p with
 | some (.nx s)=>q s
 | some (.rt r)=>some (.rt r)
 | _=>none
theorem VG.up {S0:Sto} {F F1:Fz} {S':Sto} {R:Rk ρ} {B:σ->List Sl} {g:Fl} {f:Fw ρ σ} (l:Fle F F1) (h:VG S0 F1 S' R B g f):VG S0 F S' R B g f:=by
 cases f with
 | rt r=>exact h
 | nx s=>obtain ⟨e',F',h1,h2,h3⟩:=h;exact ⟨e',F',h1,h2,l.trans h3⟩
 | bk s=>obtain ⟨e',F',h1,h2,h3⟩:=h;exact ⟨e',F',h1,h2,l.trans h3⟩
 | ct s=>obtain ⟨e',F',h1,h2,h3⟩:=h;exact ⟨e',F',h1,h2,l.trans h3⟩
theorem Dl {a b:MS} {R:Rk ρ} {p:Option (Fw ρ σ)} {q:σ->Option (Fw ρ τ)} {B:σ->List Sl} {C:τ->List Sl} (ha:VS A a R p B) (hb:∀s,VS (B s) b R (q s) C):VS A (BI a b) R (EA p q) C:=λf hf S0 e F S hs=>by
 cases p with
 | none=>cases hf
 | some w=>
  obtain ⟨g,S1,h1,h2⟩:=ha _ rfl S0 e F S hs
  cases w with
  | nx s=>
   obtain ⟨e1,F1,rfl,h2,h3⟩:=h2;obtain ⟨g2,S2,h4,h5⟩:=hb s f hf S0 e1 F1 S1 h2;exact ⟨g2,S2,(A3 h1).trans h4,h5.up h3⟩
  | rt r=>
   cases hf;obtain ⟨d,rfl,h2,h3⟩:=h2;exact ⟨_,S1,Mo h1,d,rfl,h2,h3⟩
  | bk s=>cases hf
  | ct s=>cases hf
theorem OG {R:Rk ρ} {B:σ->List Sl} {s:σ} (w:Wk A (B s)):VS A sNx R (some (.nx s)) B:=λf hf S0 e F S hs=>by
 cases hf;exact ⟨_,S,rfl,e,F,rfl,hs.weak w,Fle.refl F⟩
def M4 (g:σ->τ) (p:Option (Fw ρ σ)):Option (Fw ρ τ):=match p with
 | some (.nx s)=>some (.nx (g s))
 | some (.rt r)=>some (.rt r)
 | some (.bk s)=>some (.bk (g s))
 | some (.ct s)=>some (.ct (g s))
 | none=>none
theorem Kx {b:MS} {R:Rk ρ} {p:Option (Fw ρ σ)} {g:σ->τ} {B:σ->List Sl} {C:τ->List Sl} (h:VS A b R p B) (w:∀s,Wk (B s) (C (g s))):VS A b R (M4 g p) C:=λf hf S0 e F S hs=>by
 cases p with
 | none=>cases hf
 | some x=>
  obtain ⟨g,S1,h1,h2⟩:=h _ rfl S0 e F S hs
  cases x with
  | nx s=>cases hf;obtain ⟨e1,F1,rfl,h2,h3⟩:=h2;exact ⟨_,S1,h1,e1,F1,rfl,h2.weak (w s),h3⟩
  | rt r=>cases hf;exact ⟨_,S1,h1,h2⟩
  | bk s=>cases hf;obtain ⟨e1,F1,rfl,h2,h3⟩:=h2;exact ⟨_,S1,h1,e1,F1,rfl,h2.weak (w s),h3⟩
  | ct s=>cases hf;obtain ⟨e1,F1,rfl,h2,h3⟩:=h2;exact ⟨_,S1,h1,e1,F1,rfl,h2.weak (w s),h3⟩
theorem YA {m:ME} {enc:α->D} {R:Rk ρ} {p:Option α} {i:Nat} (h:VE A m (rV enc) p):VS A (Bk i m) R (p.bind λv=>some (.nx v)) (λv=>A.set i (.v (enc v))):=λf hf S0 e F S hs=>by
 obtain ⟨v,h1,h2⟩:=BJ hf;cases h2;obtain ⟨d,S',h3,h4,rfl⟩:=h v h1 S0 e F S hs;exact ⟨_,S',C4 h3,_,_,rfl,(hs.grow h4).set i rfl,hs.fle S'⟩
theorem Qt {m:ME} {ob:α->Ob} {R:Rk ρ} {p:Option α} {i:Nat} (h:VE A m (rN ob) p):VS A (Bk i m) R (p.bind λv=>some (.nx v)) (λv=>A.set i (.y (ob v))):=λf hf S0 e F S hs=>by
 obtain ⟨v,h1,h2⟩:=BJ hf;cases h2;obtain ⟨d,S',h3,h4,n,rfl,h5,h6⟩:=h v h1 S0 e F S hs;exact ⟨_,S',C4 h3,_,_,rfl,(hs.grow h4).set (a:=.y (ob v)) i ⟨n,rfl,Zr h5 h6,A0 hs.kp.1 h5⟩,hs.fle S'⟩
theorem Lc {m:ME} {ob:α->Ob} {R:Rk ρ} {p:Option α} {i:Nat} (h:VE A m (rN ob) p):VS A (Bk i m) R (p.bind λv=>some (.nx v)) (λv=>A.set i (.w i (ob v))):=λf hf S0 e F S hs=>by
 obtain ⟨v,h1,h2⟩:=BJ hf;cases h2;obtain ⟨d,S',h3,h4,n,rfl,h5,h6⟩:=h v h1 S0 e F S hs;obtain ⟨F',h7,h8⟩:=hs.own h4 (i:=i) h5 h6;exact ⟨_,S',C4 h3,_,F',rfl,h7,h8⟩
theorem JI {m:ME} {enc:ρ->D} {p:Option ρ} {B:σ->List Sl} (h:VE A m (rV enc) p):VS A (C5 m) (rV enc) (p.bind λv=>some (.rt v)) B:=λf hf S0 e F S hs=>by
 obtain ⟨v,h1,h2⟩:=BJ hf;cases h2;obtain ⟨d,S',h3,h4,rfl⟩:=h v h1 S0 e F S hs;exact ⟨_,S',HA h3,_,rfl,rfl,hs.kp.trans h4⟩
theorem ai {m:ME} {ob:ρ->Ob} {p:Option ρ} {B:σ->List Sl} (h:VE A m (rN ob) p):VS A (C5 m) (rN ob) (p.bind λv=>some (.rt v)) B:=λf hf S0 e F S hs=>by
 obtain ⟨v,h1,h2⟩:=BJ hf;cases h2;obtain ⟨d,S',h3,h4,n,rfl,h5,h6⟩:=h v h1 S0 e F S hs;exact ⟨_,S',HA h3,_,rfl,⟨n,rfl,A0 hs.kp.1 h5,h6⟩,hs.kp.trans h4⟩
theorem U9 {i:Nat} {ob:ρ->Ob} {v:ρ} {B:σ->List Sl} {k:Nat} (h:A[i]?=some (.w k (ob v))):VS A (C5 (AB i)) (rN ob) (some (.rt v)) B:=λf hf S0 e F S hs=>by
 cases hf;obtain ⟨x,h1,n,rfl,h2,h3⟩:=hs.sl i _ h;exact ⟨_,S,HA (d:=.ref n) (by unfold AB;rw [h1]),_,rfl,⟨n,rfl,(hs.ow _ _ h2).1,h3⟩,hs.kp⟩
theorem NG {t:MT} {a b:MS} {R:Rk ρ} {pt:Option Bool} {p q:Option (Fw ρ σ)} {B:σ->List Sl} (ht:VB A t pt) (ha:VS A a R p B) (hb:VS A b R q B):VS A (sIf t a b) R (pt.bind λc=>if c=true then p else q) B:=λf hf S0 e F S hs=>by
 obtain ⟨c,h1,h2⟩:=BJ hf;obtain ⟨S1,h3,h4⟩:=ht c h1 S0 e F S hs
 cases c with
 | true=>
  obtain ⟨g,S2,h5,h6⟩:=ha f h2 S0 e _ S1 (hs.grow h4);exact ⟨g,S2,(Dd h3).trans h5,h6.up (hs.fle S1)⟩
 | false=>
  obtain ⟨g,S2,h5,h6⟩:=hb f h2 S0 e _ S1 (hs.grow h4);exact ⟨g,S2,(Dd h3).trans h5,h6.up (hs.fle S1)⟩
def Z9 (l:List α) (x:α):Option (List α):=if l.length < 1000000 then some (l++[x]) else none
def TJ (l k:List α):Option (List α):=if l.length+k.length<=1000000 then some (l++k) else none
theorem ZP {n:Nat} (h:n < 1000000):n < sizeLine:=AZ h (by decide)
theorem iC {n:Nat} (h:n<=1000000):n<=sizeLine:=A0 h (by decide)
theorem fF {m:ME} {enc:α->D} {R:Rk ρ} {p:Option α} {i:Nat} {l:List α} (hi:A[i]?=some (.w i (oL enc l))) (h:VE A m (rV enc) p) (ht:((A.set i .u).all (Sl.oth i))=true) :
  VS A (CB (FY (AB i) m)) R (p.bind λv=>(Z9 l v).bind λl'=>some (.nx l')) (λl'=>A.set i (.w i (oL enc l'))):=λf hf S0 e F S hs=>by
 obtain ⟨v,h1,h2⟩:=BJ hf;obtain ⟨l',h2,h0⟩:=BJ h2;cases h0;unfold Z9 at h2;split at h2
 ·rename_i hl
  cases h2;obtain ⟨x,g1,n,rfl,g2,g3⟩:=hs.sl i _ hi;obtain ⟨d,S',h3,h4,rfl⟩:=h v h1 S0 e F S hs;have hg:=hs.grow h4;have hx:=Hs (mo:=AB i) (e:=e) (S:=S) (S1:=S) (n:=n) (by unfold AB;rw [g1]) g3 h3 (h4.at g3) (by rw [AE];exact ZP hl);rw [show l.map enc++[enc v]=(l++[v]).map enc by simp] at hx;exact ⟨_,_,C9 hx,e,_,rfl,hg.put ht hi g1 (by rw [Fu (Bl g3)];exact g2),hs.fle S'⟩
 ·cases h2
theorem fD {m:ME} {enc:α->D} {R:Rk ρ} {p:Option (List α)} {i:Nat} {l:List α} (hi:A[i]?=some (.w i (oL enc l))) (h:VE A m (rN (oL enc)) p) (ht:((A.set i .u).all (Sl.oth i))=true) :
  VS A (CB (L3 (AB i) m)) R (p.bind λv=>(TJ l v).bind λl'=>some (.nx l')) (λl'=>A.set i (.w i (oL enc l'))):=λf hf S0 e F S hs=>by
 obtain ⟨v,h1,h2⟩:=BJ hf;obtain ⟨l',h2,h0⟩:=BJ h2;cases h0;unfold TJ at h2;split at h2
 ·rename_i hl
  cases h2;obtain ⟨x,g1,n,rfl,g2,g3⟩:=hs.sl i _ hi;obtain ⟨d,S',h3,h4,k,rfl,h5,h6⟩:=h v h1 S0 e F S hs;have hg:=hs.grow h4;have hx:=XY (mo:=AB i) (e:=e) (S:=S) (S1:=S) (n:=n) (by unfold AB;rw [g1]) g3 h3 (h4.at g3) h6 (λc=>by subst c;exact zX (Bl g3) (G8.mpr h5)) (by rw [AE,AE];exact iC hl);rw [<-A2] at hx;exact ⟨_,_,C9 hx,e,_,rfl,hg.put ht hi g1 (by rw [Fu (Bl g3)];exact g2),hs.fle S'⟩
 ·cases h2
theorem am {m:ME} {enc:α->D} {R:Rk ρ} {p:Option (List α)} {i:Nat} {l:List α} (hi:A[i]?=some (.w i (oL enc l))) (h:VE A m (rV (eT enc)) p) (ht:((A.set i .u).all (Sl.oth i))=true) :
  VS A (CB (Sv (AB i) m)) R (p.bind λv=>(TJ l v).bind λl'=>some (.nx l')) (λl'=>A.set i (.w i (oL enc l'))):=λf hf S0 e F S hs=>by
 obtain ⟨v,h1,h2⟩:=BJ hf;obtain ⟨l',h2,h0⟩:=BJ h2;cases h0;unfold TJ at h2;split at h2
 ·rename_i hl
  cases h2;obtain ⟨x,g1,n,rfl,g2,g3⟩:=hs.sl i _ hi;obtain ⟨d,S',h3,h4,rfl⟩:=h v h1 S0 e F S hs;have hg:=hs.grow h4
  have hx:Sv (AB i) m e S=.ok .non (S'.set n (.lst ((l++v).map enc))):=by
   unfold Sv;rw [show AB i e S=.ok (.ref n) S by unfold AB;rw [g1]];dsimp only [Res.bind];rw [show atL (.ref n) S=some (n,l.map enc) by unfold atL;dsimp only;rw [g3];rfl];dsimp only;rw [h3];dsimp only;rw [show atL (.ref n) S'=some (n,l.map enc) by unfold atL;dsimp only;rw [h4.at g3];rfl];unfold eT;dsimp only;rw [qX (by rw [AE,AE];exact iC hl),A2]
  exact ⟨_,_,C9 hx,e,_,rfl,hg.put ht hi g1 (by rw [Fu (Bl g3)];exact g2),hs.fle S'⟩
 ·cases h2
theorem ao {m:ME} {Rm:Rk α} {R:Rk ρ} {p:Option α} (h:VE A m Rm p):VS A (CB m) R (p.bind λ_=>some (.nx ())) (λ_:Unit=>A):=λf hf S0 e F S hs=>by
 obtain ⟨v,h1,h2⟩:=BJ hf;cases h2;obtain ⟨d,S',h3,h4,_⟩:=h v h1 S0 e F S hs;exact ⟨_,S',C9 h3,e,_,rfl,hs.grow h4,hs.fle S'⟩
def VT (g:MG) (enc:α->D) (t:α->List Sl->List Sl):Prop:=∀x S0 A e F S,Vs S0 A e F S->∃e',g (enc x) e S=.ok e' S/\Vs S0 (t x A) e' F S
theorem ag {enc:α->D} {i:Nat}:VT (tgN i) enc (λx A=>A.set i (.v (enc x))):=λx S0 A e F S hs=>⟨_,rfl,hs.set (a:=.v (enc x)) i rfl⟩
theorem ae {a:α->D} {b:β->D} {i j:Nat}:VT (E5 2 (Bn (tgN i) (Bn (tgN j) FH))) (eP a b) (λx A=>(A.set i (.v (a x.1))).set j (.v (b x.2))):=λx S0 A e F S hs=>⟨_,rfl,(hs.set (a:=.v (a x.1)) i rfl).set (a:=.v (b x.2)) j rfl⟩
def Kd:List α->σ->(σ->α->Option (Fw ρ σ))->Option (Fw ρ σ)
 | [],s,_=>some (.nx s)
 | x :: l,s,q=>match q s x with
  | some (.nx s')=>Kd l s' q
  | some (.ct s')=>Kd l s' q
  | some (.bk s')=>some (.nx s')
  | some (.rt r)=>some (.rt r)
  | none=>none
theorem ak {enc:α->D} {g:MG} {t:α->List Sl->List Sl} {b:MS} {R:Rk ρ} {q:σ->α->Option (Fw ρ σ)} {B:σ->List Sl} (hg:VT g enc t) (hb:∀s x,VS (t x (B s)) b R (q s x) B) {w:Hv} {S0:Sto} {F1:Fz} {full:List α}
  (hw:∀F'' S'',Fle F1 F''->(∀n o,F'' n=.fz o->S''[n]?=some o)->w S''=some (full.map enc)):∀(l:List α) (k:Nat),full.drop k=l->∀(s:σ) (f:Fw ρ σ),Kd l s q=some f->∀e F S,Vs S0 (B s) e F S->Fle F1 F->∃h S',JA w g b (l.length) k e S=.ok h S'/\VG S0 F1 S' R B h f:=by
 intro l
 induction l with
 | nil=>
  intro k hk s f hf e F S hs hF;cases hf
  have:full.length<=k:=by
   have:=congrArg Fk hk;rw [G4,HX] at this
   lia
  refine ⟨_,S,?_,e,F,rfl,hs,hF⟩;unfold JA;rw [hw F S hF hs.fz];dsimp only;rw [BO (by rw [AE];exact this)]
 | cons x l ih=>
  intro k hk s f hf e F S hs hF
  have hx:full[k]?=some x:=by
   have:=congrArg (λz=>z[0]?) hk;rw [Fi] at this;simpa using this
  have hk':full.drop (k+1)=l:=by
   have e1:full.drop (k+1)=(full.drop k).drop 1:=by rw [P6]
   exact e1.trans (congrArg (List.drop 1) hk)
  obtain ⟨e1,g1,g2⟩:=hg x S0 _ e F S hs
  have run:∀h S',b e1 S=.ok h S'->JA w g b ((x :: l).length) k e S=(match h with
    | .nx e2=>JA w g b l.length (k+1) e2 S'
    | .ct e2=>JA w g b l.length (k+1) e2 S'
    | .bk e2=>.ok (.nx e2) S'
    | .rt d=>.ok (.rt d) S'
    | .ex c e2=>.ok (.ex c e2) S'):=λh S' hb'=>by
   show JA w g b (l.length+1) k e S=_
   conv=>lhs;unfold JA
   rw [hw F S hF hs.fz];dsimp only;rw [AO,hx];dsimp only [jG];rw [g1];dsimp only [Res.bind];rw [hb']
   all_goals (cases h <;> rfl)
  unfold Kd at hf;split at hf
  ·rename_i s' hq
   obtain ⟨h,S1,h1,e2,F2,rfl,h2,h3⟩:=hb s x _ hq S0 e1 F S g2;rw [run _ _ h1];exact ih (k+1) hk' s' f hf e2 F2 S1 h2 (hF.trans h3)
  ·rename_i s' hq
   obtain ⟨h,S1,h1,e2,F2,rfl,h2,h3⟩:=hb s x _ hq S0 e1 F S g2;rw [run _ _ h1];exact ih (k+1) hk' s' f hf e2 F2 S1 h2 (hF.trans h3)
  ·rename_i s' hq
   cases hf;obtain ⟨h,S1,h1,e2,F2,rfl,h2,h3⟩:=hb s x _ hq S0 e1 F S g2;rw [run _ _ h1];exact ⟨_,S1,rfl,e2,F2,rfl,h2,hF.trans h3⟩
  ·rename_i r hq
   cases hf;obtain ⟨h,S1,h1,d,rfl,h2,h3⟩:=hb s x _ hq S0 e1 F S g2;rw [run _ _ h1];exact ⟨_,S1,rfl,d,rfl,h2,h3⟩
  ·cases hf
theorem YB {enc:α->D} {mi:MI} {g:MG} {t:α->List Sl->List Sl} {b:MS} {R:Rk ρ} {p:Option (List α)} {q:σ->α->Option (Fw ρ σ)} {B:σ->List Sl} {s0:σ} (hi:VI A mi enc p) (hg:VT g enc t) (w0:Wk A (B s0)) (hb:∀s x,VS (t x (B s)) b R (q s x) B) :
  VS A (GD mi g b) R (p.bind λl=>Kd l s0 q) B:=λf hf S0 e F S hs=>by
 obtain ⟨l,h1,h2⟩:=BJ hf;obtain ⟨w,S1,h3,h4,h5⟩:=hi l h1 S0 e F S hs;have hg1:=hs.grow h4
 have hl:Cm w S1=l.length:=by unfold Cm;rw [h5 _ S1 (Fle.refl _) hg1.fz];exact AE _
 obtain ⟨h,S2,h6,h7⟩:=ak hg hb h5 l 0 rfl s0 f h2 e _ S1 (hg1.weak w0) (Fle.refl _);refine ⟨h,S2,?_,h7.up (hs.fle S1)⟩;rw [ET h3,hl];exact h6
def PF (c:α->Option Bool) (m:α->Option β):List α->Option (List β)
 | []=>some []
 | x :: l=>(c x).bind λb=>if b=true then (m x).bind λy=>(PF c m l).bind λys=>some (y :: ys) else PF c m l
def G2 (l:List α) (c:α->Option Bool) (m:α->Option β):Option (List β):=if l.length<=1000000 then PF c m l else none
theorem YE {enc:α->D} {eb:β->D} {g:MG} {P:List (Option D)->Prop} {T:α->List Sl} {c:MT} {m:ME} {pc:α->Option Bool} {pm:α->Option β}
  (hg:∀x S0 e F S pre,P pre->Vs S0 A e F S->∃pre',g (enc x) (pre++e) S=.ok (pre'++e) S/\P pre'/\Vs S0 (T x) (pre'++e) F S)
  (hc:∀x,VB (T x) c (pc x)) (hm:∀x,VE (T x) m (rV eb) (pm x)) {w:Hv} {S0:Sto} {e:Lo} {full:List α} {S1:Sto} (hf:full.length<=1000000) (hw:∀S'',Keeps S1 S''->w S''=some (full.map enc)) :
  ∀(l:List α) (k:Nat),full.drop k=l->∀(r:List β),PF pc pm l=some r->∀pre F S acc,P pre->Vs S0 A e F S->Keeps S1 S->acc.length<=k->∃S',FN w g c m l.length k (pre++e) S acc=.ok (acc++r.map eb) S'/\Keeps S S':=by
 intro l
 induction l with
 | nil=>
  intro k hk r hr pre F S acc hp hs hk1 ha;cases hr
  have:full.length<=k:=by
   have:=congrArg Fk hk;rw [G4,HX] at this
   lia
  refine ⟨S,?_,Keeps.refl S⟩;unfold FN;rw [hw S hk1];dsimp only;rw [BO (by rw [AE];exact this),Hy,BQ]
 | cons x l ih=>
  intro k hk r hr pre F S acc hp hs hk1 ha
  have hx:full[k]?=some x:=by
   have:=congrArg (λz=>z[0]?) hk;rw [Fi] at this;simpa using this
  have hk':full.drop (k+1)=l:=by
   have e1:full.drop (k+1)=(full.drop k).drop 1:=by rw [P6]
   exact e1.trans (congrArg (List.drop 1) hk)
  have hkl:k < full.length:=(AD.mp hx).1;obtain ⟨pre',g1,g2,g3⟩:=hg x S0 e F S pre hp hs;unfold PF at hr;obtain ⟨b,h1,h2⟩:=BJ hr;obtain ⟨S2,h3,h4⟩:=hc x b h1 S0 _ F S g3;have hs2:=hs.grow h4
  show ∃S',FN w g c m (l.length+1) k (pre++e) S acc=_/\_
  conv=>arg 1;ext S';arg 1;lhs;unfold FN
  rw [hw S hk1];dsimp only;rw [AO,hx];dsimp only [jG];rw [qX (A6 ha (ZP (AZ hkl hf))),g1];dsimp only [okR,Res.bind];rw [h3];dsimp only [okR,Res.bind]
  cases b with
  | true=>
   rw [qX rfl] at h2 ⊢;obtain ⟨y,h5,h6⟩:=BJ h2;obtain ⟨ys,h6',h7⟩:=BJ h6;cases h7;obtain ⟨d,S3,h8,h9,rfl⟩:=hm x y h5 S0 _ _ S2 (g3.grow h4);rw [h8];obtain ⟨S4,q1,q2⟩:=ih (k+1) hk' ys h6' pre' _ S3 (acc++[eb y]) g2 (hs2.grow h9) (hk1.trans (h4.trans h9)) (by rw [Ah,Ck];lia);refine ⟨S4,?_,(h4.trans h9).trans q2⟩;show FN w g c m l.length (k+1) (pre'++e) S3 (acc++[eb y])=_;rw [q1,BG];rfl
  | false=>
   rw [qY AX] at h2 ⊢;obtain ⟨S4,q1,q2⟩:=ih (k+1) hk' r h2 pre' _ S2 acc g2 hs2 (hk1.trans h4) (by lia);exact ⟨S4,q1,h4.trans q2⟩
theorem VD {enc:α->D} {eb:β->D} {n:Nat} {mi:MI} {g:MG} {P:List (Option D)->Prop} {T:α->List Sl} {c:MT} {m:ME} {p:Option (List α)} {pc:α->Option Bool} {pm:α->Option β} (hi:VK A mi enc p) (h0:P (BU n none))
  (hg:∀x S0 e F S pre,P pre->Vs S0 A e F S->∃pre',g (enc x) (pre++e) S=.ok (pre'++e) S/\P pre'/\Vs S0 (T x) (pre'++e) F S)
  (hc:∀x,VB (T x) c (pc x)) (hm:∀x,VE (T x) m (rV eb) (pm x)):VL A (FI n mi g c m) eb (p.bind λl=>G2 l pc pm):=λr hr S0 e F S hs=>by
 obtain ⟨l,h1,h2⟩:=BJ hr;obtain ⟨w,S1,h3,h4,h5⟩:=hi l h1 S0 e F S hs;unfold G2 at h2;split at h2
 ·rename_i hl
  have hs1:=hs.grow h4;obtain ⟨S2,h6,h7⟩:=YE hg hc hm hl h5 l 0 rfl r h2 _ _ S1 [] h0 hs1 (Keeps.refl _) (AN _);refine ⟨S2,?_,h4.trans h7⟩;rw [N7 h3,show Cm w S1=l.length by unfold Cm;rw [h5 S1 (Keeps.refl _)];exact AE _];exact h6
 ·cases h2
theorem Ir {enc:α->D} {eb:β->D} {mi:MI} {c:MT} {m:ME} {p:Option (List α)} {pc:α->Option Bool} {pm:α->Option β} (hi:VK A mi enc p) (hc:∀x,VB (.v (enc x) :: A) c (pc x)) (hm:∀x,VE (.v (enc x) :: A) m (rV eb) (pm x)) :
  VL A (FI 1 mi (tgN 0) c m) eb (p.bind λl=>G2 l pc pm):=
 VD (P:=λpre=>∃z,pre=[z]) hi ⟨none,rfl⟩ (λx S0 e F S pre hp hs=>by
  obtain ⟨z,rfl⟩:=hp
  exact ⟨[some (enc x)],rfl,⟨_,rfl⟩,hs.cons (a:=.v (enc x)) rfl⟩) hc hm
theorem R7 {a:α->D} {b:γ->D} {eb:β->D} {mi:MI} {c:MT} {m:ME} {p:Option (List (α×γ))} {pc:α×γ->Option Bool} {pm:α×γ->Option β} (hi:VK A mi (eP a b) p) (hc:∀x:α×γ,VB (.v (a x.1) :: .v (b x.2) :: A) c (pc x)) (hm:∀x:α×γ,VE (.v (a x.1) :: .v (b x.2) :: A) m (rV eb) (pm x)) :
  VL A (FI 2 mi (E5 2 (Bn (tgN 0) (Bn (tgN 1) FH))) c m) eb (p.bind λl=>G2 l pc pm):=
 VD (P:=λpre=>∃z y,pre=[z,y]) hi ⟨none,none,rfl⟩ (λx S0 e F S pre hp hs=>by
  obtain ⟨z,y,rfl⟩:=hp
  exact ⟨[some (a x.1),some (b x.2)],rfl,⟨_,_,rfl⟩,(hs.cons (a:=.v (b x.2)) rfl).cons (a:=.v (a x.1)) rfl⟩) hc hm
theorem Hf {ml:ML} {enc:α->D} {p:Option (List α)} (h:VL A ml enc p):VE A (DT ml) (rN (oL enc)) p:=λv hv S0 e F S hs=>by
 obtain ⟨S',h1,h2⟩:=h v hv S0 e F S hs;exact ⟨_,_,Mz h1,h2.trans (Keeps.app _ _),_,rfl,h2.1,B1 _ _⟩
inductive Ar where
 | v (d:D) | z (o:Ob) | q (P:(Nat->Option Ob)->D->Prop)
def Ar.ok (S:Sto):Ar->D->Prop
 | .v d,x=>x=d
 | .z o,x=>∃n,x=.ref n/\S[n]?=some o
 | .q P,x=>∀L:Nat->Option Ob,(∀n o,S[n]?=some o->L n=some o)->P L x
def Ar.sl:Ar->Sl
 | .v d=>.v d
 | .z o=>.z o
 | .q P=>.q P
def Ku (S:Sto):List Ar->List D->Prop
 | [],[]=>True
 | a :: as,d :: ds=>a.ok S d/\Ku S as ds
 | _,_=>False
theorem Ku.len {S:Sto}:∀ {as:List Ar} {ds:List D},Ku S as ds->ds.length=as.length
 | [],[],_=>rfl
 | _ :: as,_ :: ds,h=>by rw [A8,A8,Ku.len h.2]
 | [],_ :: _,h=>h.elim
 | _ :: _,[],h=>h.elim
theorem Ku.at {S:Sto}:∀ {as:List Ar} {ds:List D},Ku S as ds->∀(i:Nat) (a:Ar),as[i]?=some a->∃d,ds[i]?=some d/\a.ok S d
 | [],[],_,i,a,h=>by simp at h
 | b :: as,d :: ds,h,0,a,q=>by cases q;exact ⟨d,rfl,h.1⟩
 | b :: as,d :: ds,h,i+1,a,q=>Ku.at h.2 i a q
 | [],_ :: _,h,_,_,_=>h.elim
 | _ :: _,[],h,_,_,_=>h.elim
def VF (f:List D->Sto->Res D) (as:List Ar) (R:Rk α) (p:Option α):Prop:=∀v,p=some v->∀S ds,Ku S as ds->∃d S',f ds S=.ok d S'/\Keeps S S'/\R v S d S'
def VA (A:List Sl) (ml:ML) (p:Option γ) (ar:γ->List Ar):Prop:=∀v,p=some v->∀S0 e F S,Vs S0 A e F S->∃ds S',ml e S=.ok ds S'/\Keeps S S'/\Ku S' (ar v) ds
theorem IS:VA A Aw (some ()) (λ_=>[]):=λv hv S0 e F S hs=>⟨[],S,rfl,Keeps.refl S,trivial⟩
theorem SH {m:ME} {ml:ML} {enc:α->D} {p:Option α} {q:Option γ} {ar:γ->List Ar} (h:VE A m (rV enc) p) (hl:VA A ml q ar):VA A (AI m ml) (p.bind λx=>q.bind λy=>some (x,y)) (λz=>.v (enc z.1) :: ar z.2):=λv hv S0 e F S hs=>by
 obtain ⟨x,h1,h2⟩:=BJ hv;obtain ⟨y,h2',h3⟩:=BJ h2;cases h3;obtain ⟨d,S1,h4,h5,rfl⟩:=h x h1 S0 e F S hs;obtain ⟨ds,S2,h6,h7,h8⟩:=hl y h2' S0 e _ S1 (hs.grow h5);exact ⟨_,S2,Bc h4 h6,h5.trans h7,rfl,h8⟩
theorem Qx {m:ME} {ml:ML} {ob:α->Ob} {p:Option α} {q:Option γ} {ar:γ->List Ar} (h:VE A m (rO ob) p) (hl:VA A ml q ar):VA A (AI m ml) (p.bind λx=>q.bind λy=>some (x,y)) (λz=>.z (ob z.1) :: ar z.2):=λv hv S0 e F S hs=>by
 obtain ⟨x,h1,h2⟩:=BJ hv;obtain ⟨y,h2',h3⟩:=BJ h2;cases h3;obtain ⟨d,S1,h4,h5,n,rfl,h0⟩:=h x h1 S0 e F S hs;obtain ⟨ds,S2,h6,h7,h8⟩:=hl y h2' S0 e _ S1 (hs.grow h5);exact ⟨_,S2,Bc h4 h6,h5.trans h7,⟨n,rfl,h7.at h0⟩,h8⟩
theorem Gh {f:List D->Sto->Res D} {n:Nat} {ml:ML} {p:Option γ} {ar:γ->List Ar} {R:Rk α} {q:γ->Option α} (ha:VA A ml p ar) (hf:∀z,VF f (ar z) R (q z)) (hn:∀z,(ar z).length=n) (hR:∀v S S1 d S',S.length<=S1.length->R v S1 d S'->R v S d S'):VE A (BH n f ml) R (p.bind q):=λv hv S0 e F S hs=>by
 obtain ⟨z,h1,h2⟩:=BJ hv;obtain ⟨ds,S1,h3,h4,h5⟩:=ha z h1 S0 e F S hs;obtain ⟨d,S2,h6,h7,h8⟩:=hf z v h2 S1 ds h5;exact ⟨d,S2,(By h3 (h5.len.trans (hn z))).trans h6,h4.trans h7,hR _ _ _ _ _ h4.1 h8⟩
def Qb (S:Sto):Fz:=λn=>match S[n]? with
 | some o=>.fz o
 | none=>.no
theorem Vs.start {as:List Ar} {ds:List D} {n:Nat} (h:Ku S as ds):Vs S (as.map Ar.sl++BU (n - as.length) .u) (Cv n ds) (Qb S) S:=by
 refine ⟨Keeps.refl S,λn o q=>?_,λn i q=>?_,λn hn=>by unfold Qb;rw [BO hn],λi a ha=>?_⟩
 ·unfold Qb at q
  split at q
  ·rename_i o' ho;cases q;exact ho
  ·cases q
 ·unfold Qb at q
  split at q <;> cases q
 ·unfold Cv
  by_cases c:i < as.length
  ·rw [Ab (by rw [AE];exact c),AO] at ha
   rw [Ab (by rw [AE,h.len];exact c),AO]
   cases hq:as[i]? with
   | none=>rw [hq] at ha;cases ha
   | some b=>
    rw [hq] at ha;cases ha;obtain ⟨d,h1,h2⟩:=h.at i b hq;refine ⟨some d,by rw [h1];rfl,?_⟩
    cases b with
    | v x=>exact congrArg some h2
    | z o=>obtain ⟨m,h3,h4⟩:=h2;exact ⟨m,congrArg some h3,by unfold Qb;rw [h4]⟩
    | q P=>exact ⟨d,rfl,λL hL=>h2 L λn o q=>hL n o (by unfold Qb;rw [q])⟩
  ·rw [BE (by rw [AE];lia)] at ha
   rw [AE,Cy] at ha;split at ha
   ·rename_i hlt
    cases ha;refine ⟨none,?_,trivial⟩;rw [BE (by rw [AE,h.len];lia),AE,h.len,Cy,qX hlt]
   ·cases ha
def Ps (p:Option (Fw ρ σ)):Option ρ:=match p with
 | some (.rt r)=>some r
 | _=>none
def j0 (p:Option (Fw Unit σ)):Option Unit:=match p with
 | some (.rt r)=>some ()
 | some (.nx _)=>some ()
 | _=>none
end
section
variable {S0 S S':Sto} {A B:List Sl} {e:Lo} {F:Fz} {α β γ δ ρ σ τ:Type}
section
variable {a b c:ME} {pa pb pc:Option Int}
theorem fM (ha:VE A a (rV D.int) pa) (hb:VE A b (rV D.int) pb):VE A (m2 fj a b) (rV D.int) (pa.bind λx=>pb.bind λy=>some (x - y)):=ON ha hb λx y z S h=>by cases h;rfl
theorem SD {f g:D->D->Sto->Res D} {P Q:Int->Int->Bool} (hf:∀x y S,f (.int x) (.int y) S=.ok (.bl (P x y)) S) (hg:∀x y S,g (.int x) (.int y) S=.ok (.bl (Q x y)) S) (ha:VE A a (rV D.int) pa) (hb:VE A b (rV D.int) pb) (hc:VE A c (rV D.int) pc) :
  VE A (m3 f g a b c) (rV D.bl) (pa.bind λx=>pb.bind λy=>if P x y=true then pc.bind λz=>some (Q y z) else some false):=λv hv S0 e F S hs=>by
 obtain ⟨x,h1,hv⟩:=BJ hv;obtain ⟨y,h2,h3⟩:=BJ hv;obtain ⟨d1,S1,q1,k1,rfl⟩:=ha x h1 S0 e F S hs;obtain ⟨d2,S2,q2,k2,rfl⟩:=hb y h2 S0 e _ S1 (hs.grow k1);have e1:=hf x y S2
 cases hp:P x y with
 | false=>
  rw [hp] at h3 e1;cases h3;exact ⟨_,S2,kF q1 q2 e1,k1.trans k2,rfl⟩
 | true=>
  rw [hp] at h3 e1;rw [qX rfl] at h3;obtain ⟨w,h4,h5⟩:=BJ h3;cases h5;obtain ⟨d3,S3,q3,k3,rfl⟩:=hc w h4 S0 e _ S2 ((hs.grow k1).grow k2);exact ⟨_,S3,ZO q1 q2 e1 q3 (hg y w S3),(k1.trans k2).trans k3,rfl⟩
theorem eO (x y:Int) (S:Sto):ltD (.int x) (.int y) S=.ok (.bl (decide (x < y))) S:=rfl
theorem eQ (x y:Int) (S:Sto):leD (.int x) (.int y) S=.ok (.bl (decide (x<=y))) S:=rfl
theorem bA (ha:VE A a (rV D.int) pa) (hb:VE A b (rV D.int) pb):VE A (mQ NN (AI a (AI b Aw))) (rV D.int) (pa.bind λx=>pb.bind λy=>some (if y < x then y else x)):=λv hv S0 e F S hs=>by
 obtain ⟨x,h1,hv⟩:=BJ hv;obtain ⟨y,h2,h3⟩:=BJ hv;cases h3;obtain ⟨d1,S1,q1,k1,rfl⟩:=ha x h1 S0 e F S hs;obtain ⟨d2,S2,q2,k2,rfl⟩:=hb y h2 S0 e _ S1 (hs.grow k1);exact ⟨_,S2,Yk (Bc q1 (Bc q2 rfl)) rfl,k1.trans k2,rfl⟩
theorem bB (ha:VE A a (rV D.int) pa) (hb:VE A b (rV D.int) pb):VE A (mQ NO (AI a (AI b Aw))) (rV D.int) (pa.bind λx=>pb.bind λy=>some (if y > x then y else x)):=λv hv S0 e F S hs=>by
 obtain ⟨x,h1,hv⟩:=BJ hv;obtain ⟨y,h2,h3⟩:=BJ hv;cases h3;obtain ⟨d1,S1,q1,k1,rfl⟩:=ha x h1 S0 e F S hs;obtain ⟨d2,S2,q2,k2,rfl⟩:=hb y h2 S0 e _ S1 (hs.grow k1);exact ⟨_,S2,Yk (Bc q1 (Bc q2 rfl)) rfl,k1.trans k2,rfl⟩
theorem bG {pa pb:Option Bool} (ha:VE A a (rV D.bl) pa) (hb:VE A b (rV D.bl) pb):VE A (J7 a b) (rV D.bl) (pa.bind λx=>if x=true then pb else some false):=λv hv S0 e F S hs=>by
 obtain ⟨x,h1,h2⟩:=BJ hv;obtain ⟨d,S',h3,h4,rfl⟩:=ha x h1 S0 e F S hs
 cases x with
 | true=>
  obtain ⟨d,S2,h5,h6,rfl⟩:=hb v h2 S0 e _ S' (hs.grow h4);exact ⟨_,S2,by unfold J7;rw [h3];exact h5,h4.trans h6,rfl⟩
 | false=>cases h2;exact ⟨_,S',by unfold J7;rw [h3];rfl,h4,rfl⟩
theorem az {pa:Option Bool} (ha:VE A a (rV D.bl) pa):VE A (Vc a) (rV D.bl) (pa.bind λx=>some (!x)):=λv hv S0 e F S hs=>by
 obtain ⟨x,h1,h2⟩:=BJ hv;cases h2;obtain ⟨d,S',h3,h4,rfl⟩:=ha x h1 S0 e F S hs;exact ⟨_,S',by unfold Vc;rw [h3];rfl,h4,rfl⟩
end
def EqN (n:Nat) (enc:α->D) [DecidableEq α]:Prop:=∀x y,eqP n (enc x) (enc y)=some (decide (x=y))
def NL (enc:α->D):Prop:=∀x S,Ow (enc x) S=none
theorem EX {n:Nat}:EqN n D.int:=λx y=>by
 have:Ja (.int x) (.int y)=some (decide (x=y)):=rfl
 cases n <;> exact this
theorem ii {n:Nat}:EqN n D.bl:=λx y=>by
 have:Ja (.bl x) (.bl y)=some (decide (x=y)):=by cases x <;> cases y <;> rfl
 cases n <;> exact this
theorem O8 {n:Nat} {a:α->D} {b:β->D} [DecidableEq α] [DecidableEq β] (ha:EqN n a) (hb:EqN n b):EqN (n+1) (eP a b):=λx y=>by
 show eqL (eqP n) [a x.1,b x.2] [a y.1,b y.2]=_;unfold eqL eqL eqL;rw [ha,hb];obtain ⟨x1,x2⟩:=x;obtain ⟨y1,y2⟩:=y
 by_cases c:x1=y1 <;> by_cases d:x2=y2 <;> simp [c,d]
theorem Mx:NL D.int:=λ_ _=>rfl
theorem j8:NL D.bl:=λ_ _=>rfl
section
variable {a b:ME} {enc:α->D} [DecidableEq α] {pa pb:Option α}
theorem Zu (h:EqN 8 enc) (n:NL enc) (neg:Bool) (x y:α) (S:Sto):eqD neg (enc x) (enc y) S=.ok (.bl (if neg then !decide (x=y) else decide (x=y))) S:=by
 unfold eqD eqB;rw [n x S,n y S];dsimp only;rw [h x y]
theorem QA (h:EqN 8 enc) (n:NL enc) (ha:VE A a (rV enc) pa) (hb:VE A b (rV enc) pb):VE A (m2 (eqD false) a b) (rV D.bl) (pa.bind λx=>pb.bind λy=>some (decide (x=y))):=ON ha hb λx y z S q=>by cases q;exact Zu h n false x y S
theorem jX (h:EqN 8 enc) (n:NL enc) (ha:VE A a (rV enc) pa) (hb:VE A b (rV enc) pb):VE A (m2 (eqD true) a b) (rV D.bl) (pa.bind λx=>pb.bind λy=>some (!decide (x=y))):=ON ha hb λx y z S q=>by cases q;exact Zu h n true x y S
theorem TW (h:EqN 8 enc) (x:α):∀l:List α,Jl (enc x) (l.map enc)=some (decide (x∈l))
 | []=>by simp [Jl]
 | y :: l=>by
  rw [Az];unfold Jl;rw [h y x,TW h x l]
  by_cases c:y=x
  ·subst c;simp
  ·have:¬x=y:=λz=>c z.symm
   simp [c,this]
theorem iI (h:EqN 8 enc) (neg:Bool) (x:α) {l:List α} {d:D} {S:Sto} (hs:Eu d S=some (l.map enc)):inA neg (enc x) d S=.ok (.bl (if neg then !decide (x∈l) else decide (x∈l))) S:=by
 show FW (inD neg (enc x) d S) _=_
 have e:inD neg (enc x) d S=.ok (.bl (if neg then !decide (x∈l) else decide (x∈l))) S:=by
  unfold inD;rw [hs];dsimp only;rw [TW h]
 rw [e];rfl
theorem VJ {pl:Option (List α)} (h:EqN 8 enc) (ha:VE A a (rV enc) pa) (hb:VE A b (rO (oL enc)) pl):VE A (m2 (inA true) a b) (rV D.bl) (pa.bind λx=>pl.bind λl=>some (!decide (x∈l))):=Tw ha hb λx l z S n hn q=>by cases q;exact iI h true x (Ce hn)
theorem ij {n:Nat} (h:EqN n enc):∀l k:List α,eqL (eqP n) (l.map enc) (k.map enc)=some (decide (l=k)):=by
 intro l
 induction l with
 | nil=>intro k;cases k <;> rfl
 | cons x l ih=>
  intro k
  cases k with
  | nil=>rfl
  | cons y k=>
   rw [Az,Az];unfold eqL;rw [h x y,ih k]
   by_cases c:x=y <;> by_cases d:l=k <;> simp [c,d]
theorem QS (h:EqN 8 enc) {l k:List α} {n m:Nat} {S:Sto} (neg:Bool) (hn:S[n]?=some (oL enc l)) (hm:S[m]?=some (oL enc k)):eqD neg (.ref n) (.ref m) S=.ok (.bl (if neg then !decide (l=k) else decide (l=k))) S:=by
 unfold eqD eqB;rw [J8 hn,J8 hm];dsimp only;rw [AE,AE]
 by_cases c:l.length=k.length
 ·rw [qX c,ij h]
 ·rw [qY c,wY λz=>c (by rw [z])]
theorem jY {f:D->D->Sto->Res D} {oa:β->Ob} {ob:γ->Ob} {ec:δ->D} {pa:Option β} {pb:Option γ} {g:β->γ->Option δ} (ha:VE A a (rO oa) pa) (hb:VE A b (rO ob) pb)
  (hf:∀x y z S (n m:Nat),S[n]?=some (oa x)->S[m]?=some (ob y)->g x y=some z->f (.ref n) (.ref m) S=.ok (ec z) S):VE A (m2 f a b) (rV ec) (pa.bind λx=>pb.bind λy=>g x y):=λv hv S0 e F S hs=>by
 obtain ⟨x,h1,hv⟩:=BJ hv;obtain ⟨y,h2,h3⟩:=BJ hv;obtain ⟨d1,S1,q1,k1,n,rfl,hn⟩:=ha x h1 S0 e F S hs;obtain ⟨d2,S2,q2,k2,m,rfl,hm⟩:=hb y h2 S0 e _ S1 (hs.grow k1);exact ⟨_,S2,BL q1 q2 (hf x y v S2 n m (k2.at hn) hm h3),k1.trans k2,rfl⟩
theorem YG {pa pb:Option (List α)} (h:EqN 8 enc) (ha:VE A a (rO (oL enc)) pa) (hb:VE A b (rO (oL enc)) pb):VE A (m2 (eqD true) a b) (rV D.bl) (pa.bind λx=>pb.bind λy=>some (!decide (x=y))):=jY ha hb λx y z S n m hn hm q=>by cases q;exact QS h true hn hm
end
section
variable {a b m mo:ME} {enc:α->D} {ml:ML} {pl pk:Option (List α)} {pi:Option Int}
theorem di (l:List α) (i:Int) (f:α->β):atI (l.map f) i=(atI l i).map f:=by
 unfold atI;rw [AE]
 cases ixN l.length i with
 | none=>rfl
 | some j=>show (l.map f)[j]?=(l[j]?).map f;rw [AO]
theorem ZX {l:List α} {d:D} {S:Sto} {i:Int} {x:α} (hs:Eu d S=some (l.map enc)) (h:atI l i=some x):ixA d (.int i) S=.ok (enc x) S:=by
 show FW (ixD d (.int i) S) _=_
 have:ixD d (.int i) S=.ok (enc x) S:=by
  unfold ixD;rw [hs];dsimp only;rw [di,h];rfl
 rw [this];rfl
theorem YH (ha:VE A a (rV (eT enc)) pl) (hb:VE A b (rV D.int) pi):VE A (m2 ixA a b) (rV enc) (pl.bind λl=>pi.bind λi=>atI l i):=ON ha hb λl i z S q=>ZX rfl q
theorem fP (ha:VE A a (rO (oL enc)) pl) (hb:VE A b (rV D.int) pi):VE A (m2 ixA a b) (rV enc) (pl.bind λl=>pi.bind λi=>atI l i):=T0 ha hb λl i z S n hn q=>ZX (Ce hn) q
theorem bC (ha:VE A a (rV (eT enc)) pl):VE A (HD a) (rV D.int) (pl.bind λl=>some (l.length:Int)):=λv hv S0 e F S hs=>by
 obtain ⟨l,h1,h2⟩:=BJ hv;cases h2;obtain ⟨d,S',h3,h4,rfl⟩:=ha l h1 S0 e F S hs;exact ⟨_,S',(JQ (ds:=l.map enc) h3 rfl).trans (by rw [AE]),h4,rfl⟩
theorem bD (ha:VE A a (rO (oL enc)) pl):VE A (HD a) (rV D.int) (pl.bind λl=>some (l.length:Int)):=λv hv S0 e F S hs=>by
 obtain ⟨l,h1,h2⟩:=BJ hv;cases h2;obtain ⟨d,S',h3,h4,n,rfl,hn⟩:=ha l h1 S0 e F S hs;exact ⟨_,S',(JQ (ds:=l.map enc) h3 (Ce hn)).trans (by rw [AE]),h4,rfl⟩
def Pj (l:List Int):Option Int:=if l.length<=4000 then some (Kz l:Int) else none
theorem KB:∀ns:List Int,G0 (ns.map D.int)=some ns
 | []=>rfl
 | x :: ns=>by rw [Az];unfold G0;rw [KB ns];rfl
theorem WY {pl:Option (List Int)} (ha:VE A a (rV (eT D.int)) pl):VE A (JP a) (rV D.int) (pl.bind Pj):=λv hv S0 e F S hs=>by
 obtain ⟨l,h1,h2⟩:=BJ hv;unfold Pj at h2;split at h2
 ·rename_i hl
  cases h2;obtain ⟨d,S',h3,h4,rfl⟩:=ha l h1 S0 e F S hs;refine ⟨_,S',?_,h4,rfl⟩;unfold JP;rw [h3];dsimp only [Res.bind];rw [show Eu (eT D.int l) S'=some (l.map D.int) from rfl];dsimp only;rw [KB];exact qX hl
 ·cases h2
theorem WW (ha:VE A a (rO (oL enc)) pl):VE A (FX a) (rV (eT enc)) pl:=λl hv S0 e F S hs=>by
 obtain ⟨d,S',h3,h4,n,rfl,hn⟩:=ha l hv S0 e F S hs;exact ⟨_,S',Hg h3 (Ce hn),h4,rfl⟩
theorem Qu (ha:VE A a (rO (oL enc)) pl):VL A (Jo a) enc pl:=λl hv S0 e F S hs=>by
 obtain ⟨d,S',h3,h4,n,rfl,hn⟩:=ha l hv S0 e F S hs;exact ⟨S',VU h3 (Ce hn),h4⟩
theorem au (ha:VE A a (rV (eT enc)) pl):VL A (Jo a) enc pl:=λl hv S0 e F S hs=>by
 obtain ⟨d,S',h3,h4,rfl⟩:=ha l hv S0 e F S hs;exact ⟨S',VU h3 rfl,h4⟩
theorem VC (h:VL A ml enc pl):VL A (mN NQ ml) enc pl:=λl hv S0 e F S hs=>by
 obtain ⟨S',h3,h4⟩:=h l hv S0 e F S hs;exact ⟨S',by unfold mN;rw [h3];rfl,h4⟩
theorem V2:∀l:List Bool,Um (l.map D.bl)=some l
 | []=>rfl
 | x :: l=>by rw [Az];unfold Um;rw [V2 l];rfl
theorem Tz {pl:Option (List Bool)} (h:VL A ml D.bl pl):VE A (mQ Xj ml) (rV D.bl) (pl.bind λl=>some (l.all id)):=λv hv S0 e F S hs=>by
 obtain ⟨l,h1,h2⟩:=BJ hv;cases h2;obtain ⟨S',h3,h4⟩:=h l h1 S0 e F S hs;refine ⟨_,S',Yk h3 ?_,h4,rfl⟩;unfold Xj dc;rw [V2]
theorem fG:VL A Aw enc (some []):=λv hv S0 e F S hs=>by cases hv;exact ⟨S,rfl,Keeps.refl S⟩
def dM (l:List α):Option (List α):=if l.length<=1000000 then some l else none
theorem YD (h:VL A ml enc pl):VL A (Cw ml) enc (pl.bind dM):=λv hv S0 e F S hs=>by
 obtain ⟨l,h1,h2⟩:=BJ hv;unfold dM at h2;split at h2
 ·rename_i hl
  cases h2;obtain ⟨S',h3,h4⟩:=h _ h1 S0 e F S hs;refine ⟨S',?_,h4⟩;unfold Cw;rw [h3];dsimp only [Res.bind];rw [qX (by rw [AE];exact iC hl)]
 ·cases h2
theorem ay {a':α->D} {b':β->D} {pa:Option α} {pb:Option β} (ha:VE A a (rV a') pa) (hb:VE A b (rV b') pb):VE A (Gz (AI a (AI b Aw))) (rV (eP a' b')) (pa.bind λx=>pb.bind λy=>some (x,y)):=λv hv S0 e F S hs=>by
 obtain ⟨x,h1,hv⟩:=BJ hv;obtain ⟨y,h2,h3⟩:=BJ hv;cases h3;obtain ⟨d1,S1,q1,k1,rfl⟩:=ha x h1 S0 e F S hs;obtain ⟨d2,S2,q2,k2,rfl⟩:=hb y h2 S0 e _ S1 (hs.grow k1);exact ⟨_,S2,Mi (ds:=[a' x,b' y]) (Bc q1 (Bc q2 rfl)) (by simp),k1.trans k2,rfl⟩
theorem SZ:∀rs:List (List Int),rs.all (λr=>!r.isEmpty)=true->Km (rs.map CS)=some rs
 | [],_=>rfl
 | [] :: rs,h=>by simp at h
 | (x :: r) :: rs,h=>by
  rw [Rv,Ji] at h;show Km (.tup ((x :: r).map D.int) :: rs.map CS)=_;unfold Km;rw [KB,SZ rs h.2]
theorem Qv (ha:VE A a (rV (eT enc)) pl):VI A (E9 a) enc pl:=λl hv S0 e F S hs=>by
 obtain ⟨d,S',h3,h4,rfl⟩:=ha l hv S0 e F S hs;exact ⟨_,S',MB (xs:=l.map enc) h3,h4,λ_ _ _ _=>rfl⟩
theorem fH {i:Nat} {l:List α} (h:A[i]?=some (.z (oL enc l))):VI A (E9 (AB i)) enc (some l):=λ_ hv S0 e F S hs=>by
 cases hv;obtain ⟨x,h1,n,rfl,h2⟩:=hs.sl i _ h;have hn:=hs.fz _ _ h2;exact ⟨_,S,Hk (n:=n) (by unfold AB;rw [h1]) hn,Keeps.refl S,λF2 S2 hF h=>ED (h n _ (hF _ _ (by rw [Fu (Bl hn)];exact h2)))⟩
def Ws (lo:Int) (n:Nat):List Int:=(BN n).map λi:Nat=>lo+i
def Yg (j:Int):Option (List Int):=if -1000000<=j/\j<=1000000 then some (Ws 0 j.toNat) else none
theorem fu (lo:Int) (n:Nat):DA lo n=(Ws lo n).map D.int:=by
 unfold DA Ws;rw [At];rfl
theorem WV (ha:VE A a (rV D.int) pi):VI A (iR1 (AI a Aw)) D.int (pi.bind Yg):=λl hv S0 e F S hs=>by
 obtain ⟨j,h1,h2⟩:=BJ hv;obtain ⟨d,S',h3,h4,rfl⟩:=ha j h1 S0 e F S hs;unfold Yg at h2;split at h2
 ·rename_i hj
  cases h2;exact ⟨_,S',LD (j:=j) (Bc h3 rfl) hj.1 hj.2,h4,λ_ _ _ _=>congrArg some (fu _ _)⟩
 ·cases h2
def NT (l:List α):List (Int×α):=l.zipIdx.map λx=>((x.2:Int),x.1)
theorem XZ (l:List α):NB (l.map enc)=(NT l).map (eP D.int enc):=by
 unfold NB NT;rw [List.zipIdx_map,At,At];rfl
theorem OM (ha:VE A a (rV (eT enc)) pl):VI A (M7 a) (eP D.int enc) (pl.bind λl=>some (NT l)):=λv hv S0 e F S hs=>by
 obtain ⟨l,h1,h2⟩:=BJ hv;cases h2;obtain ⟨d,S',h3,h4,rfl⟩:=ha l h1 S0 e F S hs;refine ⟨VH (Em (eT enc l)),S',?_,h4,λF2 S2 hF h=>?_⟩
 ·unfold M7
  rw [h3];rfl
 ·show some (NB (l.map enc))=_
  rw [XZ]
end
end
section
variable {S0 S S':Sto} {A B:List Sl} {e:Lo} {F:Fz} {α β γ δ ρ σ τ κ κ':Type}
def oDK (enc:α->D) (l:List (Int×α)):Ob:=.dK (l.map λx=>(B8 x.1,enc x.2))
theorem SG [DecidableEq κ] [DecidableEq κ'] {kk:κ->κ'} (hk:∀x y,kk x=kk y->x=y) (f:α->β) (l:List (κ×α)) (k:κ):Av (l.map λx=>(kk x.1,f x.2)) (kk k)=(Av l k).map f:=by
 unfold Av
 induction l with
 | nil=>rfl
 | cons x l ih=>
  rw [Az,BP,BP]
  by_cases c:x.1=k
  ·rw [wX c,wX (show kk x.1=kk k by rw [c])]
   rfl
  ·rw [wY c,wY λz=>c (hk _ _ z)]
   exact ih
theorem Sg [DecidableEq κ] [DecidableEq κ'] {kk:κ->κ'} (hk:∀x y,kk x=kk y->x=y) (f:α->β) (l:List (κ×α)) (k:κ) (v:α):B3 (l.map λx=>(kk x.1,f x.2)) (kk k) (f v)=(B3 l k v).map λx=>(kk x.1,f x.2):=by
 have any:((l.map λx=>(kk x.1,f x.2)).any λkv=>decide (kv.1=kk k))=l.any λkv=>decide (kv.1=k):=by
  rw [List.any_map]
  congr 1
  funext x
  exact decide_eq_decide.mpr ⟨hk _ _,λz=>congrArg kk z⟩
 unfold B3;rw [any];split
 ·rw [At,At]
  refine B2 λx _=>?_
  show (if kk x.1=kk k then (kk x.1,f v) else (kk x.1,f x.2))=_
  by_cases c:x.1=k
  ·show _=(λx:κ×α=>(kk x.1,f x.2)) (if x.1=k then (x.1,v) else x)
   rw [qX c,qX (show kk x.1=kk k by rw [c])]
  ·show _=(λx:κ×α=>(kk x.1,f x.2)) (if x.1=k then (x.1,v) else x)
   rw [qY c,qY λz=>c (hk _ _ z)]
 ·rw [A2]
  rfl
theorem N2 (x y:Int) (h:(B8 x:Key)=B8 y):x=y:=by cases h;rfl
theorem TN {enc:α->D} {l:List (Int×α)} {n:Nat} {S:Sto} (h:S[n]?=some (oDK enc l)) (k:Int):Ke (.ref n) (.int k) S=some ((Av l k).map enc):=by
 unfold Ke;dsimp only;rw [h];show some (Av _ (B8 k))=_;rw [SG N2]
theorem Ug {n:Nat} {y:D} {S:Sto} {o:Option D} (hq:Eu (.ref n) S=none) (h:Ke (.ref n) y S=some o) (neg:Bool):inA neg y (.ref n) S=.ok (.bl (if neg then !o.isSome else o.isSome)) S:=by
 show FW (inD neg y (.ref n) S) (Jb neg y (.ref n) S)=_;rw [show inD neg y (.ref n) S=.bad by unfold inD;rw [hq]];show Jb neg y (.ref n) S=_;unfold Jb;rw [h]
theorem Uf {n:Nat} {y:D} {S:Sto} {d:D} (hq:Eu (.ref n) S=none) (h:Ke (.ref n) y S=some (some d)):ixA (.ref n) y S=.ok d S:=by
 show FW (ixD (.ref n) y S) (Kt (.ref n) y S)=_;rw [show ixD (.ref n) y S=.bad by unfold ixD;rw [hq]];show Kt (.ref n) y S=_;unfold Kt;rw [h]
theorem Yc {enc:α->D} {l:List (Int×α)} {n:Nat} {S:Sto} (h:S[n]?=some (oDK enc l)):Eu (.ref n) S=none:=by unfold Eu;dsimp only;rw [h];rfl
section
variable {a b m:ME} {enc:α->D}
theorem SC:VE A Hj (rN (oDK enc)) (some []):=λv hv S0 e F S hs=>by cases hv;exact ⟨_,_,rfl,Keeps.app _ _,_,rfl,AN _,B1 _ _⟩
theorem bE {pk:Option Int} {pl:Option (List (Int×α))} (ha:VE A a (rV D.int) pk) (hb:VE A b (rO (oDK enc)) pl):VE A (m2 (inA false) a b) (rV D.bl) (pk.bind λx=>pl.bind λl=>some (Av l x).isSome):=Tw ha hb λx l z S n hn q=>by cases q;rw [Ug (Yc hn) (TN hn x)];simp
theorem SB {pk:Option Int} {pl:Option (List (Int×α))} (ha:VE A a (rV D.int) pk) (hb:VE A b (rO (oDK enc)) pl):VE A (m2 (inA true) a b) (rV D.bl) (pk.bind λx=>pl.bind λl=>some (!(Av l x).isSome)):=Tw ha hb λx l z S n hn q=>by cases q;rw [Ug (Yc hn) (TN hn x)];simp
theorem YI {pk:Option Int} {pl:Option (List (Int×α))} (ha:VE A a (rO (oDK enc)) pl) (hb:VE A b (rV D.int) pk):VE A (m2 ixA a b) (rV enc) (pl.bind λl=>pk.bind λx=>Av l x):=T0 ha hb λl x z S n hn q=>Uf (Yc hn) (by rw [TN hn x,q];rfl)
def Ni [DecidableEq κ] (l:List (κ×α)) (k:κ) (v:α):Option (List (κ×α)):=if l.length < 1000000 then some (B3 l k v) else none
theorem aq {ek:κ->D} [DecidableEq κ] {ob:List (κ×α)->Ob} {R:Rk ρ} {p:Option α} {pk:Option κ} {i:Nat} {l:List (κ×α)}
  (hput:∀(l:List (κ×α)) (k:κ) (v:α) (S:Sto) (n:Nat),S[n]?=some (ob l)->l.length < 1000000->Py (.ref n) (ek k) (enc v) S=some (S.set n (ob (B3 l k v))))
  (hi:A[i]?=some (.w i (ob l))) (hk:VE A b (rV ek) pk) (h:VE A m (rV enc) p) (ht:((A.set i .u).all (Sl.oth i))=true) :
  VS A (DH (AB i) b m) R (p.bind λv=>pk.bind λk=>(Ni l k v).bind λl'=>some (.nx l')) (λl'=>A.set i (.w i (ob l'))):=λf hf S0 e F S hs=>by
 obtain ⟨v,h1,h2⟩:=BJ hf;obtain ⟨k,h2',h3⟩:=BJ h2;obtain ⟨l',h4,h0⟩:=BJ h3;cases h0;unfold Ni at h4;split at h4
 ·rename_i hl
  cases h4;obtain ⟨x,g1,n,rfl,g2,g3⟩:=hs.sl i _ hi;obtain ⟨d,S1,h5,h6,rfl⟩:=h v h1 S0 e F S hs;obtain ⟨d,S2,h7,h8,rfl⟩:=hk k h2' S0 e _ S1 (hs.grow h6);have hg:=(hs.grow h6).grow h8;have hn:=(h6.trans h8).at g3
  have hx:DH (AB i) b m e S=.ok (.nx e) (S2.set n (ob (B3 l k v))):=by
   unfold DH;rw [h5];dsimp only [Res.lift];rw [show AB i e S1=.ok (.ref n) S1 by unfold AB;rw [g1]];dsimp only;rw [h7];dsimp only;rw [hput l k v S2 n hn hl]
  have hF:NA (NA F S S1) S1 S2 n=.ow i:=by rw [Fu (Bl (h6.at g3)),Fu (Bl g3)];exact g2
  exact ⟨_,_,hx,e,_,rfl,hg.put ht hi g1 hF,(hs.fle S1).trans ((hs.grow h6).fle S2)⟩
 ·cases h4
theorem YC {R:Rk ρ} {p:Option α} {pk:Option Int} {i:Nat} {l:List (Int×α)} (hi:A[i]?=some (.w i (oDK enc l))) (hk:VE A b (rV D.int) pk) (h:VE A m (rV enc) p) (ht:((A.set i .u).all (Sl.oth i))=true) :
  VS A (DH (AB i) b m) R (p.bind λv=>pk.bind λk=>(Ni l k v).bind λl'=>some (.nx l')) (λl'=>A.set i (.w i (oDK enc l'))):=
 aq (λl k v S n hn hl=>by
  unfold Py;dsimp only;rw [hn];show (if (l.map _).length < sizeLine then some (S.set n (.dK (B3 (l.map λx=>(B8 x.1,enc x.2)) (B8 k) (enc v)))) else none)=_;rw [qX (by rw [AE];exact ZP hl),Sg N2]
  rfl) hi hk h ht
theorem bH {pl:Option (List α)} (h:VE A m (rO (oL enc)) pl):VB A (ID m) (pl.bind λl=>some (!l.isEmpty)):=λv hv S0 e F S hs=>by
 obtain ⟨l,h1,h2⟩:=BJ hv;cases h2;obtain ⟨d,S',h3,h4,n,rfl,hn⟩:=h l h1 S0 e F S hs;refine ⟨S',?_,h4⟩;unfold ID;rw [h3];dsimp only [Res.bind]
 have:Oq (.ref n) S'=some (!l.isEmpty):=by
  unfold Oq;dsimp only;rw [hn]
  cases l <;> rfl
 rw [this]
theorem fE {b:MS} {R:Rk ρ} {B:σ->List Sl}:VS A b R none B:=λf hf=>by cases hf
def bN (r:List Int):Int×Int:=(r.getD 0 0,r.getD 1 0)
def Dz (l:List (Int×Int)):List (Int×Int):=(Gw (l.map λx=>[x.1,x.2])).map bN
theorem bV (l:List (Int×Int)):(Gw (l.map λx=>[x.1,x.2])).map CS=(Dz l).map (eP D.int D.int):=by
 unfold Dz;rw [At]
 refine B2 λr hr=>?_
 obtain ⟨x,_,rfl⟩:=Af.mp ((D6 _).mem_iff.mp hr);rfl
theorem R9 {pl:Option (List (Int×Int))} (ha:VE A a (rO (oL (eP D.int D.int))) pl):VE A (Di a) (rN (oL (eP D.int D.int))) (pl.bind λl=>some (Dz l)):=λv hv S0 e F S hs=>by
 obtain ⟨l,h1,h2⟩:=BJ hv;cases h2;obtain ⟨d,S',h3,h4,n,rfl,hn⟩:=ha l h1 S0 e F S hs;refine ⟨_,_,HY h3 (LC hn) (es:=(Dz l).map (eP D.int D.int)) ?_,h4.trans (Keeps.app _ _),_,rfl,h4.1,B1 _ _⟩;rw [<-bV]
 cases l with
 | nil=>show some ((Dm []).map D.int)=some ((Gw []).map CS);rw [Wj];unfold Gw;rw [List.mergeSort_nil];rfl
 | cons x l=>
  have hr:Km (Kj (eP D.int D.int) (x :: l))=some ((x :: l).map λx=>[x.1,x.2]):=by
   have:=SZ ((x :: l).map λx=>[x.1,x.2]) (G5.mpr λr hr=>by obtain ⟨y,_,rfl⟩:=Af.mp hr;rfl);rw [At] at this;exact this
  unfold J1;rw [show G0 (Kj (eP D.int D.int) (x :: l))=none from rfl,hr]
end
end
section
variable {α β γ ρ σ τ:Type}
theorem D9 {s:σ} {q:σ->Option (Fw ρ τ)}:EA (some (.nx s)) q=q s:=rfl
theorem Zo {l:List α} {q:σ->α->Option (Fw ρ σ)} {s0:σ} (I:List α->σ->Prop) (R:ρ->Prop) (h0:I [] s0) (h:∀pre x s,x∈l->pre++[x] <+: l->I pre s->(∃s',q s x=some (.nx s')/\I (pre++[x]) s')∨∃r,q s x=some (.rt r)/\R r):(∃s,Kd l s0 q=some (.nx s)/\I l s)∨∃r,Kd l s0 q=some (.rt r)/\R r:=by
 have key:∀(r pre:List α) (s:σ),l=pre++r->I pre s->(∃s',Kd r s q=some (.nx s')/\I l s')∨∃y,Kd r s q=some (.rt y)/\R y:=by
  intro r
  induction r with
  | nil=>intro pre s e hI;rw [BQ] at e;subst e;exact .inl ⟨s,rfl,hI⟩
  | cons x r ih=>
   intro pre s e hI
   rcases h pre x s (by rw [e];simp) ⟨r,by rw [e];simp⟩ hI with ⟨s',h1,h2⟩ | ⟨y,h1,h2⟩
   ·have e':Kd (x :: r) s q=Kd r s' q:=by
     conv=>lhs;unfold Kd
     rw [h1]
    rw [e'];exact ih (pre++[x]) s' (by rw [e];simp) h2
   ·refine .inr ⟨y,?_,h2⟩
    unfold Kd;rw [h1]
 exact key l [] s0 rfl h0
theorem Z1 {l:List α} {c:α->Option Bool} {m:α->Option β} {P:α->Bool} {f:α->β} (hc:∀x∈l,c x=some (P x)) (hm:∀x∈l,P x=true->m x=some (f x)):PF c m l=some ((l.filter P).map f):=by
 induction l with
 | nil=>rfl
 | cons x l ih=>
  have ih:=ih (λy hy=>hc y (Ag _ hy)) λy hy=>hm y (Ag _ hy)
  unfold PF;rw [hc x A1];show (if P x=true then _ else _)=_
  cases hp:P x with
  | true=>
   rw [qX rfl,hm x A1 hp,ih,List.filter_cons_of_pos hp];rfl
  | false=>
   rw [qY AX,ih,List.filter_cons_of_neg (by rw [hp];exact AX)]
theorem MF {l:List α} {c:α->Option Bool} {m:α->Option β} {P:α->Bool} {f:α->β} (hl:l.length<=1000000) (hc:∀x∈l,c x=some (P x)) (hm:∀x∈l,P x=true->m x=some (f x)):G2 l c m=some ((l.filter P).map f):=by
 unfold G2;rw [qX hl,Z1 hc hm]
theorem JB {l:List α} {m:α->Option β} {f:α->β} (hl:l.length<=1000000) (hm:∀x∈l,m x=some (f x)):G2 l (λ_=>some true) m=some (l.map f):=by
 rw [MF (P:=λ_=>true) hl (λ_ _=>rfl) λx hx _=>hm x hx,WQ.mpr λ_ _=>rfl]
theorem Uj {l:List α} {c:α->Option Bool} {P:α->Bool} (hl:l.length<=1000000) (hc:∀x∈l,c x=some (P x)):G2 l c (λx=>some x)=some (l.filter P):=by
 rw [MF (f:=λx=>x) hl hc λx hx _=>rfl,jJ]
theorem dj {l:List α} {x:α} (h:l.length < 1000000):Z9 l x=some (l++[x]):=qX h
theorem Vt {l k:List α} (h:l.length+k.length<=1000000):TJ l k=some (l++k):=qX h
theorem few0:dM ([]:List α)=some []:=rfl
theorem bd {j:Int} (h0:-1000000<=j) (h1:j<=1000000):Yg j=some (Ws 0 j.toNat):=qX ⟨h0,h1⟩
theorem Rg {l:List α} {i:Int} (h0:0<=i) (h1:i < l.length):∃x,atI l i=some x/\l[i.toNat]?=some x:=by
 have hlt:i.toNat < l.length:=by lia
 exact ⟨l[i.toNat],Z8 h0 (BM hlt),BM hlt⟩
theorem dh {l:List α} {i:Int} {x:α} (h:atI l i=some x):x∈l:=by
 unfold atI at h;obtain ⟨j,_,h2⟩:=BJ h;exact BD h2
theorem M0 [DecidableEq α]:∀ {l k:List α},l.Nodup->(∀x∈l,x∈k)->l.length<=k.length
 | [],_,_,_=>Cg _
 | x :: l,k,nd,h=>by
  have hx:=h x A1;obtain ⟨n1,n2⟩:=CO.mp nd
  have:=M0 (l:=l) (k:=k.erase x) n2 λy hy=>(List.mem_erase_of_ne (λz:y=x=>n1 (by rw [<-z];exact hy))).mpr (h y (Ag _ hy))
  rw [Rt hx] at this;have:=Tc hx;rw [A8]
  lia
def Ok (p:Option α) (P:α->Prop):Prop:=∃v,p=some v/\P v
theorem Ok.pure {v:α} {P:α->Prop} (h:P v):Ok (some v) P:=⟨v,rfl,h⟩
theorem Ok.is {p:Option α} {v:α} (h:Ok p λr=>r=v):p=some v:=by
 obtain ⟨_,h1,rfl⟩:=h;exact h1
theorem Ok.imp {p:Option α} {P Q:α->Prop} (h:Ok p P) (i:∀v,P v->Q v):Ok p Q:=by
 obtain ⟨v,rfl,h⟩:=h;exact ⟨v,rfl,i v h⟩
def OkF (p:Option (Fw ρ σ)) (N:σ->Prop) (R:ρ->Prop):Prop:=(∃s,p=some (.nx s)/\N s)∨∃r,p=some (.rt r)/\R r
theorem OkF.nx {s:σ} {N:σ->Prop} {R:ρ->Prop} (h:N s):OkF (some (.nx s)) N R:=.inl ⟨s,rfl,h⟩
theorem OkF.rt {r:ρ} {N:σ->Prop} {R:ρ->Prop} (h:R r):OkF (some (.rt r)) N R:=.inr ⟨r,rfl,h⟩
theorem OkF.seq {p:Option (Fw ρ σ)} {q:σ->Option (Fw ρ τ)} {N:σ->Prop} {N':τ->Prop} {R:ρ->Prop} (h:OkF p N R) (hq:∀s,N s->OkF (q s) N' R):OkF (EA p q) N' R:=by
 rcases h with ⟨s,rfl,h⟩ | ⟨r,rfl,h⟩
 ·exact hq s h
 ·exact .inr ⟨r,rfl,h⟩
theorem OkF.map {p:Option (Fw ρ σ)} {g:σ->τ} {N:σ->Prop} {N':τ->Prop} {R:ρ->Prop} (h:OkF p N R) (hg:∀s,N s->N' (g s)):OkF (M4 g p) N' R:=by
 rcases h with ⟨s,rfl,h⟩ | ⟨r,rfl,h⟩
 ·exact .inl ⟨_,rfl,hg s h⟩
 ·exact .inr ⟨r,rfl,h⟩
theorem OkF.of {p:Option α} {q:α->Option (Fw ρ σ)} {P:α->Prop} {N:σ->Prop} {R:ρ->Prop} (h:Ok p P) (hq:∀v,P v->OkF (q v) N R):OkF (p.bind q) N R:=by
 obtain ⟨v,rfl,h⟩:=h;exact hq v h
theorem OkF.ite {c:Bool} {a b:Option (Fw ρ σ)} {N:σ->Prop} {R:ρ->Prop} (ha:c=true->OkF a N R) (hb:c=false->OkF b N R):OkF (if c=true then a else b) N R:=by
 cases c with
 | true=>exact ha rfl
 | false=>exact hb rfl
theorem OkF.for {l:List α} {q:σ->α->Option (Fw ρ σ)} {s0:σ} {R:ρ->Prop} (I:List α->σ->Prop) (h0:I [] s0) (h:∀pre x s,x∈l->pre++[x] <+: l->I pre s->OkF (q s x) (I (pre++[x])) R):OkF (Kd l s0 q) (I l) R:=Zo I R h0 h
theorem OkF.out {p:Option (Fw ρ σ)} {R:ρ->Prop} (h:OkF p (λ_=>False) R):Ok (Ps p) R:=by
 rcases h with ⟨s,rfl,h⟩ | ⟨r,rfl,h⟩
 ·exact h.elim
 ·exact ⟨r,rfl,h⟩
end
section
variable {A:List Sl} {a b m:ME} {pa pb:Option Int}
def Ya (x y:Int):Option Int:=if aC x y then some (x * 2 ^ y.toNat) else none
def bX (x y:Int):Option Int:=if 0<=y then some (x / 2 ^ y.toNat) else none
theorem fO (ha:VE A a (rV D.int) pa) (hb:VE A b (rV D.int) pb):VE A (m2 fm a b) (rV D.int) (pa.bind λx=>pb.bind λy=>Ya x y):=ON ha hb λx y z S h=>by
 unfold Ya at h;split at h
 ·rename_i hc;cases h;exact qX hc
 ·cases h
theorem fN (ha:VE A a (rV D.int) pa) (hb:VE A b (rV D.int) pb):VE A (m2 bY a b) (rV D.int) (pa.bind λx=>pb.bind λy=>bX x y):=ON ha hb λx y z S h=>by
 unfold bX at h;split at h
 ·rename_i hc;cases h;exact qX hc
 ·cases h
theorem bF (ha:VE A a (rV D.int) pa) (hb:VE A b (rV D.int) pb):VE A (m2 dk a b) (rV D.int) (pa.bind λx=>pb.bind λy=>some (Fm x y)):=ON ha hb λx y z S h=>by cases h;rfl
theorem bI (h:VE A m (rV D.int) pa):VB A (ID m) (pa.bind λx=>some (x != 0)):=λv hv S0 e F S hs=>by
 obtain ⟨l,h1,h2⟩:=BJ hv;cases h2;obtain ⟨d,S',h3,h4,rfl⟩:=h l h1 S0 e F S hs;refine ⟨S',?_,h4⟩;unfold ID;rw [h3];rfl
end
section
variable {A:List Sl} {a m:ME} {α ρ:Type} {enc:α->D}
theorem WX {pl:Option (List Int)} (ha:VE A a (rV (eT D.int)) pl):VE A (Di a) (rN (oL D.int)) (pl.bind λl=>some (Dm l)):=λv hv S0 e F S hs=>by
 obtain ⟨l,h1,h2⟩:=BJ hv;cases h2;obtain ⟨d,S',h3,h4,rfl⟩:=ha l h1 S0 e F S hs;refine ⟨_,_,HY h3 (ds:=l.map D.int) rfl (es:=(Dm l).map D.int) ?_,h4.trans (Keeps.app _ _),_,rfl,h4.1,B1 _ _⟩;unfold J1;rw [KB]
end
section
variable {S0 S S':Sto} {A B:List Sl} {e:Lo} {F:Fz} {α β γ ρ σ τ:Type} {a:ME} {enc:α->D}
theorem NJ {n:Nat} {b:MS} {as:List Ar} {R:Rk ρ} {p:Option (Fw ρ σ)} {B:σ->List Sl} (h:VS (as.map Ar.sl++BU (n - as.length) .u) b R p B):VF (ER n b) as R (Ps p):=λv hv S ds ha=>by
 cases p with
 | none=>cases hv
 | some x=>
  obtain ⟨g,S',h1,h2⟩:=h _ rfl S _ _ S (Vs.start ha)
  cases x with
  | rt r=>cases hv;obtain ⟨d,rfl,h2,h3⟩:=h2;exact ⟨d,S',_root_.M.C6 h1,h3,h2⟩
  | nx s=>cases hv
  | bk s=>cases hv
  | ct s=>cases hv
theorem fL {n:Nat} {b:MS} {as:List Ar} {p:Option (Fw Unit σ)} {B:σ->List Sl} (h:VS (as.map Ar.sl++BU (n - as.length) .u) b (rV eU) p B):VF (ER n b) as (rV eU) (j0 p):=λv hv S ds ha=>by
 cases p with
 | none=>cases hv
 | some x=>
  obtain ⟨g,S',h1,h2⟩:=h _ rfl S _ _ S (Vs.start ha)
  cases x with
  | rt r=>obtain ⟨d,rfl,h2,h3⟩:=h2;exact ⟨d,S',_root_.M.C6 h1,h3,h2⟩
  | nx s=>obtain ⟨e',F',rfl,h2,h3⟩:=h2;exact ⟨.non,S',_root_.M.UE h1,h2.kp,rfl⟩
  | bk s=>cases hv
  | ct s=>cases hv
theorem VM {t T:String} {r:Bool} {p:Option α} (ha:VE A a (rV enc) p) (ht:∀x S,tyD (enc x) S=some T) (hb:isB t T=some r):VE A (_root_.M.mIs (isB t) (λ_=>none) a) (rV D.bl) (p.bind λ_=>some r):=λv hv S0 e F S hs=>by
 obtain ⟨x,h1,h2⟩:=BJ hv;cases h2;obtain ⟨d,S',h3,h4,rfl⟩:=ha x h1 S0 e F S hs;exact ⟨_,S',_root_.M.eJ h3 (ht x S') hb,h4,rfl⟩
theorem fQ {t:String} {r:Bool} {p:Option (List α)} (ha:VE A a (rO (oL enc)) p) (hb:isB t "list" = some r):VE A (_root_.M.mIs (isB t) (λ_=>none) a) (rV D.bl) (p.bind λ_=>some r):=λv hv S0 e F S hs=>by
 obtain ⟨x,h1,h2⟩:=BJ hv;cases h2;obtain ⟨d,S',h3,h4,n,rfl,hn⟩:=ha x h1 S0 e F S hs;exact ⟨_,S',_root_.M.eJ (T:="list") h3 (by unfold tyD;dsimp only;rw [hn];rfl) hb,h4,rfl⟩
end
section
variable {κ α:Type} [DecidableEq κ]
theorem DS (l:List (κ×α)) (k:κ) (v:α) (k':κ):Av (B3 l k v) k'=if k'=k then some v else Av l k':=by
 have key:∀l:List (κ×α),Av (l.map λkv=>if kv.1=k then (kv.1,v) else kv) k'=if k'=k then (Av l k').map (λ_=>v) else Av l k':=by
  intro l
  induction l with
  | nil=>unfold Av;simp
  | cons x l ih=>
   unfold Av at ih ⊢;rw [Az,BP,BP]
   by_cases c:x.1=k
   ·rw [qX c]
    by_cases d:x.1=k'
    ·rw [wX d,qX (show k'=k from d▸c)]
     rfl
    ·rw [wY d]
     exact ih
   ·rw [qY c]
    by_cases d:x.1=k'
    ·rw [wX d,qY (λz:k'=k=>c (d.trans z))]
    ·rw [wY d]
     exact ih
 unfold B3;split
 ·rename_i h
  rw [key]
  by_cases c:k'=k
  ·rw [qX c,qX c]
   subst c
   have:(Av l k').isSome=true:=by
    unfold Av;rw [F0,X3];obtain ⟨x,hx,hk⟩:=FE.mp h;exact ⟨x,hx,hk⟩
   obtain ⟨b,hb⟩:=Ig.mp this;rw [hb];rfl
  ·rw [qY c,qY c]
 ·rename_i h
  unfold Av;rw [List.find?_append]
  by_cases c:k'=k
  ·subst c
   rw [qX rfl]
   have:l.find? (λkv=>decide (kv.1=k'))=none:=by
    rw [IG];intro x hx hk;exact h (FE.mpr ⟨x,hx,hk⟩)
   rw [this];simp
  ·rw [qY c]
   have:[(k,v)].find? (λkv=>decide (kv.1=k'))=none:=by
    rw [IG];intro x hx;rw [AQ.mp hx];simp
    exact λz=>c z.symm
   rw [this];simp
theorem KA (l:List (κ×α)) (k:κ) (v:α):(B3 l k v).map (·.1)=if k∈l.map (·.1) then l.map (·.1) else l.map (·.1)++[k]:=by
 have h1:(l.any λkv=>decide (kv.1=k))=true↔k∈l.map (·.1):=by
  rw [FE,Af];exact ⟨λ⟨x,hx,e⟩=>⟨x,hx,of_decide_eq_true e⟩,λ⟨x,hx,e⟩=>⟨x,hx,wX e⟩⟩
 unfold B3
 by_cases c:k∈l.map (·.1)
 ·rw [qX c,qX (h1.mpr c),At]
  refine B2 λx _=>?_
  show (if x.1=k then (x.1,v) else x).1=x.1
  split <;> rfl
 ·rw [qY c,qY λz=>c (h1.mp z),A2]
  rfl
theorem Gu (l:List (κ×α)) (k:κ):(Av l k).isSome=true↔k∈l.map (·.1):=by
 unfold Av;rw [F0,X3,Af];exact ⟨λ⟨x,hx,e⟩=>⟨x,hx,of_decide_eq_true e⟩,λ⟨x,hx,e⟩=>⟨x,hx,wX e⟩⟩
end
def hb (bits x:Int):Bool:=Fm (bits / 2 ^ x.toNat) 1 != 0
abbrev HL:=List (Int×Int)
abbrev QL:=List (Int×Bool)
def Ks (st:HL->Int->QL->Option (Bool×HL×QL)) (g:Int):List Int->HL->QL->Option (Bool×HL×QL)
 | [],H,Q=>some (false,H,Q)
 | x :: r,H,Q=>if (Av Q x).isSome=true then Ks st g r H Q else (Ni Q x true).bind λQ1=>(Av H x).bind λg2=>(st H g2 Q1).bind λz=>if z.1=true then (Ni z.2.1 x g).bind λH'=>some (true,H',z.2.2) else Ks st g r z.2.1 z.2.2
def FR (T:Int->List Int) (bits:Int):Nat->HL->Int->QL->Option (Bool×HL×QL)
 | 0,_,_,_=>none
 | n+1,H,g,Q=>match ((T g).filter λx=>hb bits x&&!(Av Q x).isSome).find? (λx=>!(Av H x).isSome) with
  | some x=>(Ni H x g).bind λH'=>some (true,H',Q)
  | none=>Ks (FR T bits n) g ((T g).filter λx=>hb bits x&&!(Av Q x).isSome) H Q
section
variable {T:Int->List Int} {bits:Int} {U:List Int} {Gd:Int->Prop}
abbrev w0 (T:Int->List Int) (bits g:Int):List Int:=(T g).filter (hb bits)
structure KOk {α:Type} (U:List Int) (l:List (Int×α)):Prop where
 nd:(l.map (·.1)).Nodup
 sub:∀x∈l.map (·.1),x∈U
theorem KOk.len {α:Type} {l:List (Int×α)} (h:KOk U l):l.length<=U.length:=by
 have:=M0 h.nd h.sub;rwa [AE] at this
theorem KOk.put {α:Type} {l:List (Int×α)} (h:KOk U l) {x:Int} (hx:x∈U) (v:α):KOk U (B3 l x v):=by
 by_cases c:x∈l.map (·.1)
 ·exact ⟨by rw [KA,qX c];exact h.nd,by rw [KA,qX c];exact h.sub⟩
 ·refine ⟨?_,?_⟩
  ·rw [KA,qY c]
   unfold MR;rw [BV];exact ⟨h.nd,by simp,λa ha b hb' z=>c (by rw [AQ.mp hb'] at z;rw [<-z];exact ha)⟩
  ·rw [KA,qY c]
   intro y hy
   rcases Ai.mp hy with hy | hy
   ·exact h.sub y hy
   ·rw [AQ.mp hy];exact hx
theorem KOk.more {α:Type} {l:List (Int×α)} {x:Int} (c:(Av l x).isSome=false) (v:α):(B3 l x v).length=l.length+1:=by
 have h1:x∉l.map (·.1):=λz=>by rw [(Gu l x).mpr z] at c;cases c
 have:=congrArg Fk (KA l x v);rw [qY h1,AE,Ah,AE] at this;exact this
def MOn (T:Int->List Int) (bits:Int) (P:Int->Prop) (H:HL):Prop:=(∀x,P x->∀a,Av H x=some a->x∈w0 T bits a)/\∀x y a,P x->P y->Av H x=some a->Av H y=some a->x=y
abbrev sn (Q:QL) (x:Int):Prop:=(Av Q x).isSome=true
def Good (T:Int->List Int) (bits:Int) (H:HL) (g:Int) (Q:QL) (H':HL):Prop:=
 (∀x,sn Q x->Av H' x=Av H x)/\(MOn T bits (λx=>¬sn Q x) H->(∀x,¬sn Q x->Av H x≠some g)->MOn T bits (λx=>¬sn Q x) H'/\∀a,(∃x,¬sn Q x/\Av H' x=some a)↔a=g∨∃x,¬sn Q x/\Av H x=some a)
def Clo (T:Int->List Int) (bits:Int) (H:HL) (Q Q':QL):Prop:=∀x,sn Q' x->sn Q x∨∃a,Av H x=some a/\∀y∈w0 T bits a,sn Q' y
structure kg (T:Int->List Int) (bits:Int) (U:List Int) (Gd:Int->Prop) (H:HL) (g:Int) (Q:QL) (z:Bool×HL×QL):Prop where
 h1:KOk U z.2.1
 h2:KOk U z.2.2
 h3:∀x a,Av z.2.1 x=some a->Gd a
 h4:∀x,sn Q x->sn z.2.2 x
 h5:z.1=false->z.2.1=H/\(∀x∈w0 T bits g,sn z.2.2 x)/\Clo T bits H Q z.2.2
 h6:z.1=true->Good T bits H g Q z.2.1
theorem Q7 {α:Type} {l:List (Int×α)} (h:KOk U l) (hU:U.length < 1000000) (x:Int) (v:α):Ni l x v=some (B3 l x v):=qX (A6 h.len hU)
theorem E7 {Q:QL} {x y:Int}:sn (B3 Q x true) y↔y=x∨sn Q y:=by
 unfold sn;rw [DS]
 by_cases c:y=x
 ·rw [qX c];simp [c]
 ·rw [qY c];simp [c]
theorem SQ (hT:∀g,Gd g->∀x∈T g,x∈U) (hU:U.length < 1000000):∀(n:Nat) (H:HL) (g:Int) (Q:QL),KOk U H->KOk U Q->(∀x a,Av H x=some a->Gd a)->Gd g->U.length < n+Q.length->Ok (FR T bits n H g Q) (kg T bits U Gd H g Q):=by
 intro n
 induction n with
 | zero=>intro H g Q hH hQ hG hg hn;exact zX hQ.len (by lia)
 | succ n ih=>
  intro H g Q hH hQ hG hg hn;unfold FR
  have wm:∀x,x∈(T g).filter (λx=>hb bits x&&!(Av Q x).isSome)↔x∈w0 T bits g/\¬sn Q x:=by
   intro x;unfold w0 sn;rw [CP,CP]
   cases Av Q x <;> simp
  generalize (T g).filter (λx=>hb bits x&&!(Av Q x).isSome)=w at wm
  have wU:∀x∈w,x∈U:=λx hx=>hT g hg x (CP.mp ((wm x).mp hx).1).1
  cases hf:w.find? (λx=>!(Av H x).isSome) with
  | some x=>
   have hx:=Qo hf
   have hfree:Av H x=none:=by
    have:=List.find?_some hf
    cases q:Av H x with
    | none=>rfl
    | some a=>rw [q] at this;cases this
   obtain ⟨x1,x2⟩:=(wm x).mp hx;show Ok ((Ni H x g).bind _) _;rw [Q7 hH hU];refine .pure ⟨hH.put (wU x hx) g,hQ,λy a hy=>?_,λ_ h=>h,λz=>(by cases z),λ_=>⟨λy hy=>?_,λm ng=>⟨⟨λy hy a e=>?_,λy z a hy hz e1 e2=>?_⟩,λa=>⟨?_,?_⟩⟩⟩⟩
   ·rw [show Av (true,B3 H x g,Q).2.1 y=if y=x then some g else Av H y from DS _ _ _ _] at hy
    split at hy
    ·cases hy;exact hg
    ·exact hG y a hy
   ·show Av (B3 H x g) y=_
    rw [DS,qY λc:y=x=>x2 (by rw [<-c];exact hy)]
   ·rw [show Av (true,B3 H x g,Q).2.1 y=if y=x then some g else Av H y from DS _ _ _ _] at e
    split at e
    ·rename_i c;cases e;rw [c];exact x1
    ·exact m.1 y hy a e
   ·rw [show Av (true,B3 H x g,Q).2.1 y=if y=x then some g else Av H y from DS _ _ _ _] at e1
    rw [show Av (true,B3 H x g,Q).2.1 z=if z=x then some g else Av H z from DS _ _ _ _] at e2;split at e1
    ·rename_i c
     cases e1;split at e2
     ·rename_i d;rw [c,d]
     ·exact zX e2 (ng z hz)
    ·split at e2
     ·cases e2;exact zX e1 (ng y hy)
     ·exact m.2 y z a hy hz e1 e2
   ·rintro ⟨y,hy,e⟩
    rw [show Av (true,B3 H x g,Q).2.1 y=if y=x then some g else Av H y from DS _ _ _ _] at e;split at e
    ·cases e;exact .inl rfl
    ·exact .inr ⟨y,hy,e⟩
   ·rintro (rfl | ⟨y,hy,e⟩)
    ·exact ⟨x,x2,by show Av (B3 H x a) x=_;rw [DS,qX rfl]⟩
    ·refine ⟨y,hy,?_⟩
     show Av (B3 H x g) y=_;rw [DS,qY λc=>by rw [c,hfree] at e;cases e];exact e
  | none=>
   have held:∀x∈w,∃a,Av H x=some a:=by
    intro x hx;have:=IG.mp hf x hx
    cases q:Av H x with
    | none=>rw [q] at this;exact zX rfl this
    | some a=>exact ⟨a,rfl⟩
   have key:∀(r:List Int) (Qc:QL),(∀x∈r,x∈w)->KOk U Qc->(∀x,sn Q x->sn Qc x)->Q.length<=Qc.length->Clo T bits H Q Qc->(∀x∈w,x∈r∨sn Qc x)->Ok (Ks (FR T bits n) g r H Qc) (kg T bits U Gd H g Q):=by
    intro r
    induction r with
    | nil=>
     intro Qc _ hQc hs hl hc hw;refine .pure ⟨hH,hQc,hG,hs,λ_=>⟨rfl,λx hx=>?_,hc⟩,λz=>(by cases z)⟩
     by_cases c:sn Q x
     ·exact hs x c
     ·rcases hw x ((wm x).mpr ⟨hx,c⟩) with h | h
      ·cases h
      ·exact h
    | cons x r ih2=>
     intro Qc hr hQc hs hl hc hw;unfold Ks
     by_cases c:(Av Qc x).isSome=true
     ·rw [qX c]
      refine ih2 Qc (λy hy=>hr y (Ag _ hy)) hQc hs hl hc λy hy=>?_
      rcases hw y hy with h | h
      ·rcases Ay.mp h with rfl | h
       ·exact .inr c
       ·exact .inl h
      ·exact .inr h
     ·rw [qY c,Q7 hQc hU]
      have hxw:=hr x A1;obtain ⟨x1,x2⟩:=(wm x).mp hxw;obtain ⟨a,ha⟩:=held x hxw;have hQ1:=hQc.put (wU x hxw) true;have Nm:=KOk.more (l:=Qc) (x:=x) (by cases q:(Av Qc x).isSome;rfl;exact zX q c) true;obtain ⟨z,ez,hz⟩:=ih H a (B3 Qc x true) hH hQ1 hG (hG x a ha) (by lia);show Ok ((Av H x).bind _) _;rw [ha];show Ok ((FR T bits n H a (B3 Qc x true)).bind _) _;rw [ez];show Ok (if z.1=true then _ else _) _
      cases hb':z.1 with
      | true=>
       rw [qX rfl,Q7 hz.h1 hU];obtain ⟨g1,g2⟩:=hz.h6 hb';refine .pure ⟨hz.h1.put (wU x hxw) g,hz.h2,λy b hy=>?_,λy hy=>hz.h4 y (E7.mpr (.inr (hs y hy))),λq=>(by cases q),λ_=>⟨λy hy=>?_,λm ng=>?_⟩⟩
       ·rw [show Av (true,B3 z.2.1 x g,z.2.2).2.1 y=if y=x then some g else Av z.2.1 y from DS _ _ _ _] at hy
        split at hy
        ·cases hy;exact hg
        ·exact hz.h3 y b hy
       ·show Av (B3 z.2.1 x g) y=_
        rw [DS,qY λq:y=x=>x2 (by rw [<-q];exact hy)];exact g1 y (E7.mpr (.inr (hs y hy)))
       ·have R1:∀y,¬sn (B3 Qc x true) y->¬sn Q y/\y≠x/\¬sn Qc y:=λy hy=>⟨λq=>hy (E7.mpr (.inr (hs y q))),λq=>hy (E7.mpr (.inl q)),λq=>hy (E7.mpr (.inr q))⟩
        obtain ⟨m1,m2⟩:=g2 ⟨λy hy b e=>m.1 y (R1 y hy).1 b e,λy y' b hy hy' e e'=>m.2 y y' b (R1 y hy).1 (R1 y' hy').1 e e'⟩ λy hy e=>(R1 y hy).2.1 (m.2 y x a (R1 y hy).1 x2 e ha)
        have three:∀y,y=x∨(y≠x/\Av z.2.1 y=Av H y/\sn Qc y)∨¬sn (B3 Qc x true) y:=λy=>by
         by_cases q:y=x
         ·exact .inl q
         ·by_cases q2:sn Qc y
          ·exact .inr (.inl ⟨q,g1 y (E7.mpr (.inr q2)),q2⟩)
          ·exact .inr (.inr λq3=>(E7.mp q3).elim q q2)
        have hv:∀y,y≠x->Av (B3 z.2.1 x g) y=Av z.2.1 y:=λy q=>by rw [DS,qY q]
        have hvx:Av (B3 z.2.1 x g) x=some g:=by rw [DS,qX rfl]
        show MOn T bits _ (B3 z.2.1 x g)/\∀b,(∃y,_/\Av (B3 z.2.1 x g) y=some b)↔_
        refine ⟨⟨λy hy b e=>?_,λy y' b hy hy' e e'=>?_⟩,λb=>⟨?_,?_⟩⟩
        ·rcases three y with rfl | ⟨q,q1,q2⟩ | q
         ·rw [hvx] at e;cases e;exact x1
         ·rw [hv y q,q1] at e;exact m.1 y hy b e
         ·rw [hv y (R1 y q).2.1] at e;exact m1.1 y q b e
        ·rcases three y with rfl | ⟨q,q1,q2⟩ | q
         ·rw [hvx] at e
          cases e
          rcases three y' with rfl | ⟨p,p1,p2⟩ | p
          ·rfl
          ·rw [hv y' p,p1] at e';exact zX e' (ng y' hy')
          ·rw [hv y' (R1 y' p).2.1] at e'
           rcases (m2 g).mp ⟨y',p,e'⟩ with rfl | ⟨y2,p2,e2⟩
           ·exact zX ha (ng y hy)
           ·exact zX e2 (ng y2 (R1 y2 p2).1)
         ·rw [hv y q,q1] at e
          rcases three y' with rfl | ⟨p,p1,p2⟩ | p
          ·rw [hvx] at e';cases e';exact zX e (ng y hy)
          ·rw [hv y' p,p1] at e';exact m.2 y y' b hy hy' e e'
          ·rw [hv y' (R1 y' p).2.1] at e'
           rcases (m2 b).mp ⟨y',p,e'⟩ with rfl | ⟨y2,p2,e2⟩
           ·exact zX (m.2 y x b hy x2 e ha) q
           ·have:=m.2 y y2 b hy (R1 y2 p2).1 e e2
            rw [<-this] at p2;exact zX q2 (R1 y p2).2.2
         ·rw [hv y (R1 y q).2.1] at e
          rcases three y' with rfl | ⟨p,p1,p2⟩ | p
          ·rw [hvx] at e'
           cases e'
           rcases (m2 g).mp ⟨y,q,e⟩ with rfl | ⟨y2,p2,e2⟩
           ·exact zX ha (ng y' hy')
           ·exact zX e2 (ng y2 (R1 y2 p2).1)
          ·rw [hv y' p,p1] at e'
           rcases (m2 b).mp ⟨y,q,e⟩ with rfl | ⟨y2,p3,e2⟩
           ·exact zX (m.2 y' x b hy' x2 e' ha) p
           ·have:=m.2 y' y2 b hy' (R1 y2 p3).1 e' e2
            rw [<-this] at p3;exact zX p2 (R1 y' p3).2.2
          ·rw [hv y' (R1 y' p).2.1] at e'
           exact m1.2 y y' b q p e e'
        ·rintro ⟨y,hy,e⟩
         rcases three y with rfl | ⟨q,q1,q2⟩ | q
         ·rw [hvx] at e;cases e;exact .inl rfl
         ·rw [hv y q,q1] at e;exact .inr ⟨y,hy,e⟩
         ·rw [hv y (R1 y q).2.1] at e
          rcases (m2 b).mp ⟨y,q,e⟩ with rfl | ⟨y2,p2,e2⟩
          ·exact .inr ⟨x,x2,ha⟩
          ·exact .inr ⟨y2,(R1 y2 p2).1,e2⟩
        ·rintro (rfl | ⟨y,hy,e⟩)
         ·exact ⟨x,x2,hvx⟩
         ·rcases three y with rfl | ⟨q,q1,q2⟩ | q
          ·rw [ha] at e
           cases e;obtain ⟨y',p,e'⟩:=(m2 a).mpr (.inl rfl);exact ⟨y',(R1 y' p).1,by rw [hv y' (R1 y' p).2.1];exact e'⟩
          ·exact ⟨y,hy,by rw [hv y q,q1];exact e⟩
          ·obtain ⟨y',p,e'⟩:=(m2 b).mpr (.inr ⟨y,q,e⟩)
           exact ⟨y',(R1 y' p).1,by rw [hv y' (R1 y' p).2.1];exact e'⟩
      | false=>
       rw [qY AX];obtain ⟨f1,f2,f3⟩:=hz.h5 hb';rw [f1]
       have up:∀y,sn Qc y->sn z.2.2 y:=λy hy=>hz.h4 y (E7.mpr (.inr hy))
       refine ih2 z.2.2 (λy hy=>hr y (Ag _ hy)) hz.h2 (λy hy=>up y (hs y hy)) ?_ (λy hy=>?_) λy hy=>?_
       ·have h1:∀k∈Qc.map (·.1),k∈z.2.2.map (·.1):=λk hk=>(Gu _ _).mp (up k ((Gu _ _).mpr hk))
        have:=M0 hQc.nd h1;rw [AE,AE] at this
        lia
       ·rcases f3 y hy with h | h
        ·rcases E7.mp h with rfl | h
         ·exact .inr ⟨a,ha,f2⟩
         ·rcases hc y h with h | ⟨b,e,k⟩
          ·exact .inl h
          ·exact .inr ⟨b,e,λy' hy'=>up y' (k y' hy')⟩
        ·exact .inr h
       ·rcases hw y hy with h | h
        ·rcases Ay.mp h with rfl | h
         ·exact .inr (hz.h4 _ (E7.mpr (.inl rfl)))
         ·exact .inl h
        ·exact .inr (up y h)
   exact key w Q (λ_ h=>h) hQ (λ_ h=>h) (AN _) (λx hx=>.inl hx) λx hx=>.inl hx
end
section
variable {T:Int->List Int} {bits:Int} {U:List Int} {Gd:Int->Prop}
theorem UK {α:Type}:KOk U ([]:List (Int×α)):=⟨E4,λ_ h=>(nomatch h)⟩
end
section
variable {α β ρ σ:Type} {A:List Sl} {enc:α->D} {ob:β->Ob}
theorem Mg {e:Lo} {S:Sto} {i:Nat} {d:D} (h:e[i]?=some (some d)):AB i e S=.ok d S:=by unfold AB;rw [h]
end
abbrev inG {α:Type} [DecidableEq α] (x:α) (l:List α):Bool:=decide (x∈l)
theorem cr {α:Type} [DecidableEq α] {x:α} {l:List α}:inG x l=true↔x∈l:=decide_eq_true_iff
section
variable {α β ρ σ:Type} {A:List Sl} {enc:α->D} {ob:β->Ob}
end
section
variable {S0 S S':Sto} {A B:List Sl} {e:Lo} {F:Fz} {α β γ ρ σ τ:Type} {enc:α->D} {xss:List (List α)} {i:Nat}
end
section
variable {S0 S S':Sto} {A:List Sl} {ρ σ:Type}
def whF (c:σ->Option Bool) (q:σ->Option (Fw ρ σ)):Nat->σ->Option (Fw ρ σ)
 | 0,_=>none
 | n+1,s=>(c s).bind λt=>if t=true then match q s with
   | some (.nx s')=>whF c q n s'
   | some (.ct s')=>whF c q n s'
   | some (.bk s')=>some (.nx s')
   | some (.rt r)=>some (.rt r)
   | none=>none
  else some (.nx s)
theorem WT {t:MT} {b:MS} {R:Rk ρ} {c:σ->Option Bool} {q:σ->Option (Fw ρ σ)} {B:σ->List Sl} (hc:∀s,VB (B s) t (c s)) (hb:∀s,VS (B s) b R (q s) B):∀(n:Nat) (s:σ),VS (B s) (FU t b n) R (whF c q n s) B:=by
 intro n
 induction n with
 | zero=>intro s f hf;cases hf
 | succ n ih=>
  intro s f hf S0 e F S hs;unfold whF at hf;obtain ⟨v,h1,h2⟩:=BJ hf;obtain ⟨S1,h3,h4⟩:=hc s v h1 S0 e F S hs;have hs1:=hs.grow h4
  have run:FU t b (n+1) e S=if v=true then (b e S1).bind λf S2=>match f with
   | .nx e2=>FU t b n e2 S2
   | .ct e2=>FU t b n e2 S2
   | .bk e2=>.ok (.nx e2) S2
   | .rt d=>.ok (.rt d) S2
   | .ex c e2=>.ok (.ex c e2) S2
  else .ok (.nx e) S1:=by
   show (t e S).lift e _=_;rw [h3];rfl
  cases v with
  | false=>
   rw [qY AX] at h2;cases h2;exact ⟨_,S1,run.trans (qY AX),e,_,rfl,hs1,hs.fle S1⟩
  | true=>
   rw [qX rfl] at h2;rw [run,qX rfl];split at h2
   ·rename_i s' hq
    obtain ⟨h,S2,g1,e2,F2,rfl,g2,g3⟩:=hb s _ hq S0 e _ S1 hs1;rw [g1];obtain ⟨h',S3,g4,g5⟩:=ih s' f h2 S0 e2 F2 S2 g2;exact ⟨h',S3,g4,g5.up ((hs.fle S1).trans g3)⟩
   ·rename_i s' hq
    obtain ⟨h,S2,g1,e2,F2,rfl,g2,g3⟩:=hb s _ hq S0 e _ S1 hs1;rw [g1];obtain ⟨h',S3,g4,g5⟩:=ih s' f h2 S0 e2 F2 S2 g2;exact ⟨h',S3,g4,g5.up ((hs.fle S1).trans g3)⟩
   ·rename_i s' hq
    cases h2;obtain ⟨h,S2,g1,e2,F2,rfl,g2,g3⟩:=hb s _ hq S0 e _ S1 hs1;rw [g1];exact ⟨_,S2,rfl,e2,F2,rfl,g2,(hs.fle S1).trans g3⟩
   ·rename_i r hq
    cases h2;obtain ⟨h,S2,g1,d,rfl,g2,g3⟩:=hb s _ hq S0 e _ S1 hs1;rw [g1];exact ⟨_,S2,rfl,d,rfl,g2,g3⟩
   ·cases h2
theorem X9 {t:MT} {b:MS} {R:Rk ρ} {c:σ->Option Bool} {q:σ->Option (Fw ρ σ)} {B:σ->List Sl} {n:Nat} {s0:σ} (w0:Wk A (B s0)) (hc:∀s,VB (B s) t (c s)) (hb:∀s,VS (B s) b R (q s) B):VS A (FU t b n) R (whF c q n s0) B:=λf hf S0 e F S hs=>
 WT hc hb n s0 f hf S0 e F S (hs.weak w0)
end
section
variable {A:List Sl} {α:Type} {enc:α->D} {a:ME}
theorem Tx {pl:Option (List Int)} (ha:VE A a (rO (oL D.int)) pl):VE A (JP a) (rV D.int) (pl.bind Pj):=λv hv S0 e F S hs=>by
 obtain ⟨l,h1,h2⟩:=BJ hv;obtain ⟨d,S',h3,h4,n,rfl,hn⟩:=ha l h1 S0 e F S hs;unfold Pj at h2;split at h2
 ·rename_i hl
  cases h2;refine ⟨_,S',?_,h4,rfl⟩;unfold JP;rw [h3];dsimp only [Res.bind];rw [Ce hn];dsimp only;rw [KB];dsimp only;rw [qX hl]
 ·cases h2
end
section
variable {A:List Sl} {a b c:ME} {ml:ML}
end
section
variable {A:List Sl} {β σ:Type} {ob:β->Ob}
end
section
variable {α β ρ σ:Type} {A:List Sl} {enc:α->D}
end
section
variable {α β ρ σ:Type} {A:List Sl} {enc:α->D} {ob:β->Ob}
end
section
variable {α β ρ σ:Type} {A:List Sl} {enc:α->D} {a b m:ME}
theorem av {pl:Option (Int×Int)} (ha:VE A a (rV (eP D.int D.int)) pl):VL A (Jo a) D.int (pl.bind λx=>some [x.1,x.2]):=λv hv S0 e F S hs=>by
 obtain ⟨x,h1,h2⟩:=BJ hv;cases h2;obtain ⟨d,S',h3,h4,rfl⟩:=ha x h1 S0 e F S hs;exact ⟨S',VU h3 rfl,h4⟩
end
section
variable {S0 S S':Sto} {A B:List Sl} {e:Lo} {F:Fz} {α β γ δ ρ σ τ κ κ':Type} {a b m:ME} {enc:α->D}
def oFK (enc:α->D) (l:List (Int×α)):Ob:=.fK (l.map λx=>(B8 x.1,enc x.2))
theorem il {l:List (Int×α)} {n:Nat} {S:Sto} (h:S[n]?=some (oFK enc l)) (k:Int):Ke (.ref n) (.int k) S=some ((Av l k).map enc):=by
 unfold Ke;dsimp only;rw [h];show some (Av _ (B8 k))=_;rw [SG N2]
theorem jn {l:List (Int×α)} {n:Nat} {S:Sto} (h:S[n]?=some (oFK enc l)):Eu (.ref n) S=none:=by unfold Eu;dsimp only;rw [h];rfl
theorem QB {pk:Option Int} {pl:Option (List (Int×α))} (ha:VE A a (rO (oFK enc)) pl) (hb:VE A b (rV D.int) pk):VE A (m2 ixA a b) (rV enc) (pl.bind λl=>pk.bind λx=>Av l x):=T0 ha hb λl x z S n hn q=>Uf (jn hn) (by rw [il hn x,q];rfl)
theorem cg {l:List (Int×α)} {n:Nat} {S:Sto} (h:S[n]?=some (oFK enc l)):Sy (.ref n) S=some ((l.map (·.1)).map D.int):=by
 unfold Sy;dsimp only;rw [h];show some _=_;rw [At,At];rfl
theorem fJ {l:List (Int×α)} {i:Nat} (h:A[i]?=some (.y (oFK enc l))):VI A (Vi (AB i)) D.int (some (l.map (·.1))):=λ_ hv S0 e F S hs=>by
 cases hv;obtain ⟨x,h1,n,rfl,h2,_⟩:=hs.sl i _ h;refine ⟨Dc ((l.map (·.1)).map D.int),S,?_,Keeps.refl S,λ_ _ _ _=>rfl⟩;unfold Vi;rw [Mg h1];dsimp only [Res.bind];rw [cg (hs.fz _ _ h2)]
theorem jW {b:MS} {R:Rk ρ} {p:Option (Fw ρ σ)} {B:σ->List Sl} {l:List (Int×α)} (i:Nat) (ha:A[i]?=some (.w i (oDK enc l))) (ht:((A.set i .u).all (Sl.oth i))=true) (h:VS (A.set i (.y (oFK enc l))) b R p B):VS A (BI (sFz i) b) R p B:=λf hf S0 e F S hs=>by
 obtain ⟨x,h1,n,rfl,h2,h3⟩:=hs.sl i _ ha;have hp:=hs.put (o':=oFK enc l) ht ha h1 h2;have ha':(A.set i (.w i (oFK enc l)))[i]?=some (.w i (oFK enc l)):=Al (AD.mp ha).1;obtain ⟨F',h4,h5⟩:=hp.freeze (by rw [jI];exact ht) ha';rw [jI] at h4;obtain ⟨g,S',h6,h7⟩:=h f hf S0 e F' _ h4;refine ⟨g,S',?_,h7.up h5⟩
 have:sFz i e S=.ok (.nx e) (S.set n (oFK enc l)):=by
  unfold sFz;rw [h1];dsimp only;rw [h3];rfl
 exact (A3 this).trans h6
theorem SA {pl:Option (List (Int×α))} (ha:VE A a (rO (oDK enc)) pl):VE A (KS a) (rN (oL enc)) (pl.bind λl=>some (l.map (·.2))):=λv hv S0 e F S hs=>by
 obtain ⟨l,h1,h2⟩:=BJ hv;cases h2;obtain ⟨d,S',h3,h4,n,rfl,hn⟩:=ha l h1 S0 e F S hs;refine ⟨.ref S'.length,S'++[oL enc (l.map (·.2))],?_,h4.trans (Keeps.app _ _),S'.length,rfl,h4.1,B1 _ _⟩;unfold KS;rw [h3];dsimp only [Res.bind];rw [hn];show Res.ok _ (S'++[Ob.lst _])=.ok _ (S'++[oL enc _]);unfold oL;rw [At,At];rfl
theorem YF {p:Option (α×α)} (ha:VE A a (rV (eP enc enc)) p):VE A a (rV (eT enc)) (p.bind λx=>some [x.1,x.2]):=λv hv S0 e F S hs=>by
 obtain ⟨x,h1,h2⟩:=BJ hv;cases h2;obtain ⟨d,S',h3,h4,rfl⟩:=ha x h1 S0 e F S hs;exact ⟨_,S',h3,h4,rfl⟩
def Wy (l:List α):Option (α×List α):=match l.getLast? with
 | some x=>some (x,l.dropLast)
 | none=>none
theorem aj {R:Rk ρ} {i j:Nat} {l:List α} (hi:A[i]?=some (.w i (oL enc l))) (hij:i≠j) (ht:((A.set i .u).all (Sl.oth i))=true) :
  VS A (Bk j (ZJ (AB i))) R ((Wy l).bind λz=>some (.nx z)) (λz=>(A.set i (.w i (oL enc z.2))).set j (.v (enc z.1))):=λf hf S0 e F S hs=>by
 obtain ⟨z,h1,h2⟩:=BJ hf;cases h2;unfold Wy at h1;split at h1
 ·rename_i x hx
  cases h1;obtain ⟨y,g1,n,rfl,g2,g3⟩:=hs.sl i _ hi;have hp:=hs.put (o':=oL enc l.dropLast) ht hi g1 g2
  have hm:ZJ (AB i) e S=.ok (enc x) (S.set n (oL enc l.dropLast)):=by
   unfold ZJ;rw [Mg g1];dsimp only [Res.bind];rw [show atL (.ref n) S=some (n,l.map enc) by unfold atL;dsimp only;rw [g3];rfl];dsimp only;rw [<-List.getLast?_eq_getElem?,List.getLast?_map,hx];show Res.ok _ (S.set n (.lst (l.map enc).dropLast))=_;rw [<-List.map_dropLast];rfl
  exact ⟨_,_,C4 hm,_,F,rfl,hp.set j rfl,Fle.refl F⟩
 ·cases h1
end
end L4
namespace L2
open PySem PySem.Spec PyProof.Rows
section
variable {P:Ak} {w:A9} {K:AA} {mg:Str->Option AC} {base:Bw}
theorem Bo {x qual:Str} {st:Cc} {f:AK} {fd:DN} {N ps:List Str} {k n:Nat} (F:Fun K x qual st f fd) (Sc:Bq N ps (An st)) (hn:ps.length=n) {mb:MS}
  (hbody:∀(cdv:AC) (A:BB) (outer:List Env) (s:AG) (H:Hp) (E:XK),HG k (A.deeper (Kv qual (An st) s.heap.objs.size f cdv))->(A.deeper (Kv qual (An st) s.heap.objs.size f cdv)).units+64 < Ed->N.Nodup ->
   GSs (Uh (CXG P w) P w K mg base N qual (An st) f cdv A outer s H E).q noE (Bm st) mb) :
  DX P w K mg base (CXG P w) (k+1) f fd ps (spM K n (ER N.length mb)):=dH F Sc hn λcdv A outer s H E hr=>hbody cdv A outer s H E hr hr.units Sc.nd
end
end L2
namespace M
open PySem PySem.Spec PyProof.Rows L2
def top (i:Nat):Cc:=en.main.body.getD i (.Pass ⟨0,0,0,0⟩)
structure Wd where
 Web:AK
def Wd.excs (W:Wd):List AK:=[]
abbrev Dp:Cc:=top 9
abbrev Do:Cc:=top 10
abbrev GU:Cc:=cz (top 8) 0
abbrev Cq:Cc:=top 11
abbrev Mp:Cc:=top 12
abbrev Ev:Cc:=top 13
abbrev GP:Cc:=top 14
abbrev DB:Cc:=top 16
abbrev EG:Cc:=top 17
abbrev EE:Cc:=top 18
abbrev Iu:Cc:=top 20
abbrev CQ:Cc:=top 22
abbrev GR:Cc:=top 23
abbrev Ew:Cc:=top 24
abbrev DC:Cc:=top 25
abbrev EF:Cc:=top 26
abbrev Dq:Cc:=top 28
abbrev E0:Cc:=top 29
abbrev Ex:Cc:=top 30
abbrev Fe:Cc:=top 31
abbrev Fc:Cc:=top 32
abbrev EI:Cc:=top 33
abbrev EK:Cc:=top 34
abbrev EJ:Cc:=top 35
abbrev Ey:Cc:=top 36
abbrev Ez:Cc:=top 37
abbrev QF:Cc:=top 38
def PJ (W:Wd):MS:=
  (BI (Bk 2 ZM)
  (BI (GD (E9 (AB 1)) (E5 2 (Bn (tgN 3) (Bn (tgN 4) FH)))
  (BI (Bk 5 (Gz (AI (mQ NN (AI (AB 3) (AI (AB 4) Aw))) (AI (mQ NO (AI (AB 3) (AI (AB 4) Aw))) Aw))))
  (BI (sIf (mB (m2 (eqD false) (m2 ixA (AB 5) (mC (.int 0))) (m2 ixA (AB 5) (mC (.int 1))))) Pq sNx)
  (BI (sIf (mOr (mB (m2 ltD (m2 ixA (AB 5) (mC (.int 0))) (mC (.int 0)))) (mB (m2 geD (m2 ixA (AB 5) (mC (.int 1))) (AB 0)))) Pq sNx)
  (BI (sIf (mB (m2 (inA false) (AB 5) (AB 2))) Pq sNx)
  (DH (AB 2) (AB 5) (mC (.bl true))))))))
  (C5 (FX (Di (AB 2))))))
def Ft (W:Wd):List D->Sto->Res D:=ER 6 (PJ W)
def KN (W:Wd):MS:=
  (BI (Bk 2 (DT (FI 1 (iR1 (AI (AB 0) Aw)) (tgN 0) G3 (DT (Cw Aw)))))
  (BI (GD (E9 (AB 1)) (E5 2 (Bn (tgN 3) (Bn (tgN 4) FH)))
  (BI (CB (FY (m2 ixA (AB 2) (AB 3)) (AB 4)))
  (CB (FY (m2 ixA (AB 2) (AB 4)) (AB 3)))))
  (C5 (FX (DT (FI 1 (E9 (AB 2)) (tgN 0) G3 (FX (Di (AB 0)))))))))
def Fq (W:Wd):List D->Sto->Res D:=ER 5 (KN W)
def PK (W:Wd):MS:=
  (BI (sIf (Kc (mB (m3 leD leD (mC (.int 1)) (AB 1) (mC (.int 60))))) Pq sNx)
  (BI (QG W.Web "places" (AB 0) (AB 1))
  (BI (QG W.Web "ties" (AB 0) (BH 2 (Ft W) (AI (AB 1) (AI (AB 2) Aw))))
  (QG W.Web "near_sets" (AB 0) (BH 2 (Fq W) (AI (AB 1) (AI (HE W.Web "ties" (AB 0)) Aw)))))))
def Ho (W:Wd):List D->Sto->Res D:=ER 3 (PK W)
def EY (W:Wd):MS:=
  (sIf (Kc (mB (m3 leD ltD (mC (.int 0)) (AB 1) (HE W.Web "places" (AB 0))))) Pq sNx)
def DV (W:Wd):List D->Sto->Res D:=ER 2 (EY W)
def Rf (W:Wd):MS:=
  (BI (CB (BH 2 (DV W) (AI (AB 0) (AI (AB 1) Aw))))
  (C5 (m2 ixA (HE W.Web "near_sets" (AB 0)) (AB 1))))
def KH (W:Wd):List D->Sto->Res D:=ER 2 (Rf W)
def Jc (W:Wd):MS:=
  (BI (Bk 2 (Ot (AB 1) (mC (.int 0))))
  (BI (Bk 3 (DT (Cw (AI (AB 1) Aw))))
  (BI (FU (ID (AB 3)) (BI (Bk 4 (DT (Cw Aw)))
  (BI (GD (E9 (AB 3)) (tgN 5)
  (GD (E9 (BH 2 (KH W) (AI (AB 0) (AI (AB 5) Aw)))) (tgN 6)
  (sIf (mB (m2 (inA true) (AB 6) (AB 2))) (BI (DH (AB 2) (AB 6) (m2 Fx (m2 ixA (AB 2) (AB 5)) (mC (.int 1))))
  (CB (FY (AB 4) (AB 6)))) sNx)))
  (Bk 3 (AB 4)))) wN)
  (C5 (AB 2)))))
def C8 (W:Wd):List D->Sto->Res D:=ER 7 (Jc W)
def LJ (W:Wd):MS:=
  (BI (Bk 1 (DT (Cw Aw)))
  (BI (Bk 2 Hj)
  (BI (GD (iR1 (AI (HE W.Web "places" (AB 0)) Aw)) (tgN 3)
  (sIf (mB (m2 (inA true) (AB 3) (AB 2))) (BI (Bk 4 (BH 2 (C8 W) (AI (AB 0) (AI (AB 3) Aw))))
  (BI (CB (Kr (AB 2) (AB 4)))
  (CB (FY (AB 1) (FX (Di (AB 4))))))) sNx))
  (C5 (AB 1)))))
def Hn (W:Wd):List D->Sto->Res D:=ER 5 (LJ W)
def Gc (W:Wd):MS:=
  (BI (Bk 1 Hj)
  (BI (GD (E9 (BH 1 (Hn W) (AI (AB 0) Aw))) (tgN 2)
  (CB (Kr (AB 1) (BH 2 (C8 W) (AI (AB 0) (AI (m2 ixA (AB 2) (mC (.int 0))) Aw))))))
  (C5 (AB 1))))
def E3 (W:Wd):List D->Sto->Res D:=ER 3 (Gc W)
def FP (W:Wd):MS:=
  (BI (GD (E9 (HE W.Web "ties" (AB 0))) (E5 2 (Bn (tgN 2) (Bn (tgN 3) FH)))
  (sIf (mB (m2 (eqD false) (m2 Dg (m2 ixA (AB 1) (AB 2)) (mC (.int 2))) (m2 Dg (m2 ixA (AB 1) (AB 3)) (mC (.int 2))))) (C5 (Gz (AI (AB 2) (AI (AB 3) Aw)))) sNx))
  (C5 (mC .non)))
def EL (W:Wd):List D->Sto->Res D:=ER 4 (FP W)
def FO (W:Wd):MS:=
  (BI (Bk 1 (BH 1 (E3 W) (AI (AB 0) Aw)))
  (BI (sIf (mB (m2 (XI true) (BH 2 (EL W) (AI (AB 0) (AI (AB 1) Aw))) (mC .non))) (C5 (mC .non)) sNx)
  (C5 (FX (DT (FI 1 (iR1 (AI (HE W.Web "places" (AB 0)) Aw)) (tgN 0) G3 (m2 Dg (m2 ixA (AB 2) (AB 0)) (mC (.int 2)))))))))
def Go (W:Wd):List D->Sto->Res D:=ER 2 (FO W)
def TU (W:Wd) (fr:List D->Sto->Res D):MS:=
  (BI (Bk 5 (DT (FI 1 (E9 (m2 ixA (AB 0) (AB 3))) (tgN 0) (M5 (ID (m2 dk (m2 bY (AB 2) (AB 0)) (mC (.int 1)))) (mB (m2 (inA true) (AB 0) (AB 5)))) (AB 0))))
  (BI (GD (E9 (AB 5)) (tgN 6)
  (sIf (mB (m2 (inA true) (AB 6) (AB 2))) (BI (DH (AB 2) (AB 6) (AB 3))
  (C5 (mC (.bl true)))) sNx))
  (BI (GD (E9 (AB 5)) (tgN 6)
  (sIf (mB (m2 (inA true) (AB 6) (AB 4))) (BI (DH (AB 4) (AB 6) (mC (.bl true)))
  (sIf (ID (BH 5 fr (AI (AB 0) (AI (AB 1) (AI (AB 2) (AI (m2 ixA (AB 2) (AB 6)) (AI (AB 4) Aw))))))) (BI (DH (AB 2) (AB 6) (AB 3))
  (C5 (mC (.bl true)))) sNx)) sNx))
  (C5 (mC (.bl false))))))
def FK (W:Wd):Nat->List D->Sto->Res D
 | 0=>λ_ _=>.bad
 | n+1=>ER 7 (TU W (FK W n))
def Ep (W:Wd):MS:=
  (BI (Bk 1 (BH 1 (Go W) (AI (AB 0) Aw)))
  (BI (sIf (mB (m2 (XI false) (AB 1) (mC .non))) Pq sNx)
  (C5 (AB 1))))
def DW (W:Wd):List D->Sto->Res D:=ER 2 (Ep W)
def LK (W:Wd):MS:=
  (BI (Bk 2 (DT (FI 1 (iR1 (AI (HE W.Web "places" (AB 0)) Aw)) (tgN 0) G3 (BH 2 (KH W) (AI (AB 1) (AI (AB 0) Aw))))))
  (BI (Bk 3 (m2 fj (m2 fm (mC (.int 1)) (HE W.Web "places" (AB 0))) (mC (.int 1))))
  (BI (Bk 4 Hj)
  (BI (GD (M7 (AB 1)) (E5 2 (Bn (tgN 5) (Bn (tgN 6) FH)))
  (sIf (mB (m2 (eqD false) (AB 6) (mC (.int 0)))) (CB (BH 5 (FK W 62) (AI (AB 2) (AI (AB 3) (AI (AB 4) (AI (AB 5) (AI Hj Aw))))))) sNx))
  (C5 (AB 4))))))
def JX (W:Wd):List D->Sto->Res D:=ER 7 (LK W)
def Jd (W:Wd):MS:=
  (BI (Bk 1 (BH 2 (JX W) (AI (AB 0) (AI (BH 1 (DW W) (AI (AB 0) Aw)) Aw))))
  (BI (sFz 1) (C5 (Di (DT (FI 1 (Vi (AB 1)) (tgN 0) G3 (Gz (AI (mQ NN (AI (AB 0) (AI (m2 ixA (AB 2) (AB 0)) Aw))) (AI (mQ NO (AI (AB 0) (AI (m2 ixA (AB 2) (AB 0)) Aw))) Aw)))))))))
def Fs (W:Wd):List D->Sto->Res D:=ER 2 (Jd W)
def Ge (W:Wd):MS:=
  (BI (Bk 3 (KS (AB 2)))
  (BI (Bk 4 (DT (FI 2 (M7 (AB 1)) (E5 2 (Bn (tgN 0) (Bn (tgN 1) FH))) (M5 (mB (m2 (eqD false) (AB 1) (mC (.int 0)))) (mB (m2 (inA true) (AB 0) (AB 5)))) (AB 0))))
  (BI (Bk 5 Hj)
  (BI (FU (ID (AB 4)) (BI (Bk 6 (ZJ (AB 4)))
  (sIf (mB (m2 (inA true) (AB 6) (AB 5))) (BI (DH (AB 5) (AB 6) (mC (.bl true)))
  (sIf (mB (m2 (eqD false) (m2 ixA (AB 1) (AB 6)) (mC (.int 0)))) (CB (Sv (AB 4) (BH 2 (KH W) (AI (AB 0) (AI (AB 6) Aw))))) (CB (FY (AB 4) (m2 ixA (AB 2) (AB 6)))))) sNx)) wN)
  (C5 (AB 5))))))
def Gb (W:Wd):List D->Sto->Res D:=ER 7 (Ge W)
def Ia (W:Wd):MS:=
  (BI (Bk 1 (BH 1 (DW W) (AI (AB 0) Aw)))
  (BI (Bk 2 (BH 3 (Gb W) (AI (AB 0) (AI (AB 1) (AI (BH 2 (JX W) (AI (AB 0) (AI (AB 1) Aw))) Aw)))))
  (C5 (FX (DT (FI 2 (M7 (AB 1)) (E5 2 (Bn (tgN 0) (Bn (tgN 1) FH))) (mB (m2 (eqD false) (m2 (inA false) (AB 0) (AB 4)) (m2 (eqD false) (AB 1) (mC (.int 1))))) (AB 0)))))))
def FL (W:Wd):List D->Sto->Res D:=ER 3 (Ia W)
def Hr (W:Wd):MS:=
  (BI (sIf (mB (m2 ltD (AB 1) (HD (AB 0)))) (C5 (m2 ixA (AB 0) (AB 1))) sNx)
  (C5 (mC (.int 0))))
def DJ (W:Wd):List D->Sto->Res D:=ER 2 (Hr W)
def MK (W:Wd):MS:=
  (BI (Bk 2 (m2 Dg (m2 Op (m2 Fx (m2 Dg (AB 0) (mC (.int 2147483647))) (AB 1)) (mC (.int 48271))) (mC (.int 2147483647))))
  (C5 (m2 Dg (m2 Op (AB 2) (AB 2)) (mC (.int 2147483629)))))
def Bu (W:Wd):List D->Sto->Res D:=ER 3 (MK W)
def Je (W:Wd):MS:=
  (C5 (J7 (mIs (isB "int") (λ_=>none) (AB 0)) (Vc (mIs (isB "bool") (λ_=>none) (AB 0)))))
def HU (W:Wd):List D->Sto->Res D:=ER 1 (Je W)
def NV (W:Wd):MS:=
  (BI (Bk 2 (DT (Cw (AI (HD (AB 0)) Aw))))
  (BI (GD (iR1 (AI (mC (.int 24)) Aw)) (tgN 3)
  (BI (Bk 4 (N1 (AB 0) (On (m2 Fx (AB 1) (AB 3))) Va (On (mC (.int 24)))))
  (sIf (mB (m2 (eqD true) (AB 4) (DT (Cw Aw)))) (CB (FY (AB 2) (UQ (AB 4)))) sNx)))
  (C5 (AB 2))))
def IK (W:Wd):List D->Sto->Res D:=ER 5 (NV W)
def NU (W:Wd):MS:=
  (BI (Bk 3 (DT (Cw Aw)))
  (BI (Bk 4 (mC (.int 0)))
  (BI (GD (iR2 (AI (mC (.int 1)) (AI (AB 1) Aw))) (tgN 5)
  (GD (iR1 (AI (AB 5) Aw)) (tgN 6)
  (BI (Bk 7 (m2 ixA (AB 0) (m2 Dg (AB 4) (HD (AB 0)))))
  (BI (Bk 4 (m2 Fx (AB 4) (mC (.int 1))))
  (sIf (mB (m2 ltD (m2 Dg (BH 2 (Bu W) (AI (AB 7) (AI (m2 Fx (m2 Op (mC (.int 7)) (AB 6)) (m2 Op (mC (.int 61)) (AB 5))) Aw))) (mC (.int 6))) (AB 2))) (CB (FY (AB 3) (Gz (AI (AB 6) (AI (AB 5) Aw))))) sNx)))))
  (C5 (AB 3)))))
def KI (W:Wd):List D->Sto->Res D:=ER 8 (NU W)
def Gq (W:Wd):MS:=
  (BI (Bk 2 (DT (Cw Aw)))
  (BI (GD (iR1 (AI (HD (AB 0)) Aw)) (tgN 3)
  (sIf (mB (m2 (eqD false) (m2 Dg (BH 2 (Bu W) (AI (AB 1) (AI (AB 3) Aw))) (mC (.int 2))) (mC (.int 0)))) (CB (FY (AB 2) (m2 ixA (AB 0) (AB 3)))) (CB (FY (AB 2) (Gz (AI (m2 ixA (m2 ixA (AB 0) (AB 3)) (mC (.int 1))) (AI (m2 ixA (m2 ixA (AB 0) (AB 3)) (mC (.int 0))) Aw)))))))
  (BI (sIf (mB (m2 (eqD false) (m2 Dg (AB 1) (mC (.int 2))) (mC (.int 1)))) (CB (ZI (AB 2))) sNx)
  (C5 (AB 2)))))
def DZ (W:Wd):List D->Sto->Res D:=ER 4 (Gq W)
def Ic (W:Wd):MS:=
  (BI (Bk 1 (BH 2 (DJ W) (AI (AB 0) (AI (mC (.int 0)) Aw))))
  (BI (Bk 2 (m2 Fx (mC (.int 1)) (m2 Dg (AB 1) (mC (.int 14)))))
  (BI (Bk 3 (BH 2 (IK W) (AI (AB 0) (AI (mC (.int 1)) Aw))))
  (BI (Bk 4 (m2 Fx (mC (.int 1)) (m2 Dg (m2 MC (AB 1) (mC (.int 5))) (mC (.int 6)))))
  (BI (sIf (mB (m2 (eqD false) (m2 Dg (m2 MC (AB 1) (mC (.int 14))) (mC (.int 8))) (mC (.int 3)))) (BI (Bk 2 (m2 Fx (mC (.int 15)) (m2 Dg (m2 MC (AB 1) (mC (.int 112))) (mC (.int 46)))))
  (Bk 4 (mC (.int 1)))) sNx)
  (BI (Bk 5 (DT (Cw Aw)))
  (BI (GD (E9 (BH 3 (KI W) (AI (AB 3) (AI (AB 2) (AI (AB 4) Aw))))) (E5 2 (Bn (tgN 6) (Bn (tgN 7) FH)))
  (sIf (mB (m2 (eqD true) (m2 Dg (BH 2 (Bu W) (AI (AB 1) (AI (m2 Fx (mC (.int 501)) (AB 6)) Aw))) (mC (.int 2))) (m2 Dg (BH 2 (Bu W) (AI (AB 1) (AI (m2 Fx (mC (.int 501)) (AB 7)) Aw))) (mC (.int 2))))) (CB (FY (AB 5) (Gz (AI (AB 6) (AI (AB 7) Aw))))) sNx))
  (C5 (Gz (AI (AB 2) (AI (AB 5) Aw)))))))))))
def FM (W:Wd):List D->Sto->Res D:=ER 8 (Ic W)
def Ib (W:Wd):MS:=
  (BI (sIf (mOr (Kc (mB (mIs (isB "tuple") (λ_=>none) (AB 0)))) (Kc (mB (mQ Xj (Jo (DT (FI 1 (E9 (AB 0)) (tgN 0) G3 (BH 1 (HU W) (AI (AB 0) Aw))))))))) (C5 (mC (.bl false))) sNx)
  (BI (sIf (mOr (mB (m2 (eqD true) (Di (AB 0)) (DT (mN NQ (Jo (AB 0)))))) (mB (m2 (eqD true) (JP (AB 0)) (HD (AB 0))))) (C5 (mC (.bl false))) sNx)
  (C5 (mQ Xj (Jo (DT (FI 1 (E9 (AB 0)) (tgN 0) G3 (m3 leD ltD (mC (.int 0)) (AB 0) (AB 2)))))))))
def Gp (W:Wd):List D->Sto->Res D:=ER 2 (Ib W)
def MH (W:Wd):MS:=
  (C5 (J7 (m2 (eqD false) (HE W.Web "places" (AB 0)) (AB 1)) (m2 (eqD false) (HE W.Web "ties" (AB 0)) (FX (Di (AB 2))))))
def JY (W:Wd):List D->Sto->Res D:=ER 3 (MH W)
def Jf (W:Wd):MS:=
  (BI (sIf (mOr (Kc (mB (mIs (isB "list") (λ_=>none) (AB 0)))) (mB (m2 (eqD true) (Di (AB 0)) (AB 0)))) (C5 (mC (.bl false))) sNx)
  (BI (Bk 2 (DT (Cw Aw)))
  (BI (GD (E9 (AB 0)) (tgN 3)
  (BI (sIf (mOr (Kc (mB (mIs (isB "tuple") (λ_=>none) (AB 3)))) (mOr (mB (m2 (inA true) (AB 3) (AB 1))) (Kc (mB (mQ Xj (Jo (DT (FI 1 (E9 (AB 3)) (tgN 0) G3 (BH 1 (HU W) (AI (AB 0) Aw)))))))))) (C5 (mC (.bl false))) sNx)
  (CB (L3 (AB 2) (DT (mN NQ (Jo (AB 3))))))))
  (C5 (m2 (eqD false) (JP (AB 2)) (HD (AB 2)))))))
def HV (W:Wd):List D->Sto->Res D:=ER 4 (Jf W)
def Z5 (W:Wd):MS:=
  (BI (Wo (BH 1 (FM W) (AI (AB 0) Aw)) (E5 2 (Bn (tgN 1) (Bn (tgN 2) FH))))
  (BI (Bk 3 (Os W.Web 3 (Ho W) (AI (AB 1) (AI (BH 2 (DZ W) (AI (AB 2) (AI (BH 2 (DJ W) (AI (AB 0) (AI (mC (.int 0)) Aw))) Aw))) Aw))))
  (BI (Bk 4 (BH 1 (Fs W) (AI (AB 3) Aw)))
  (BI (Bk 5 (BH 1 (FL W) (AI (AB 3) Aw)))
  (BI (sIf (mOr (Kc (ID (BH 2 (HV W) (AI (AB 4) (AI (AB 2) Aw))))) (mOr (Kc (ID (BH 2 (Gp W) (AI (AB 5) (AI (AB 1) Aw))))) (mB (m2 (eqD true) (HD (AB 5)) (HD (AB 4)))))) (C5 (mC (.bl false))) sNx)
  (BI (GD (E9 (AB 2)) (E5 2 (Bn (tgN 6) (Bn (tgN 7) FH)))
  (sIf (M5 (mB (m2 (inA true) (AB 6) (AB 5))) (mB (m2 (inA true) (AB 7) (AB 5)))) (C5 (mC (.bl false))) sNx))
  (BI (Bk 8 (DT (mN NQ (Jo (AB 4)))))
  (BI (CB (FY (AB 4) (Gz (AI (mC (.int 0)) (AI (mC (.int 0)) Aw)))))
  (C5 (J7 (m2 (eqD false) (BH 1 (Fs W) (AI (AB 3) Aw)) (AB 8)) (J7 (m2 (eqD false) (BH 1 (FL W) (AI (AB 3) Aw)) (AB 5)) (BH 3 (JY W) (AI (AB 3) (AI (AB 1) (AI (AB 2) Aw)))))))))))))))
def Zq (W:Wd):List D->Sto->Res D:=ER 9 (Z5 W)
structure Txt (K:AA) (mg:Str->Option AC) (W:Wd) where
 d_checked_ties:Dfn K mg "checked_ties" "checked_ties" Dp ["places", "ties"]
 d_near_sets_of:Dfn K mg "near_sets_of" "near_sets_of" Do ["places", "ties"]
 d_Web_init:Mtd K "__init__" "Web.__init__" GU ["self", "places", "ties"]
 d_refuse_no_place:Dfn K mg "refuse_no_place" "refuse_no_place" Cq ["web", "place"]
 d_near:Dfn K mg "near" "near" Mp ["web", "place"]
 d_steps_from:Dfn K mg "steps_from" "steps_from" Ev ["web", "start"]
 d_parts_of:Dfn K mg "parts_of" "parts_of" GP ["web"]
 d_steps_in_parts:Dfn K mg "steps_in_parts" "steps_in_parts" DB ["web"]
 d_first_clash:Dfn K mg "first_clash" "first_clash" EG ["web", "steps"]
 d_two_colours:Dfn K mg "two_colours" "two_colours" EE ["web"]
 d_settle:Dfn K mg "settle" "settle" Iu ["takes", "bits", "holders", "guard", "seen"]
 d_colours_or_refused:Dfn K mg "colours_or_refused" "colours_or_refused" CQ ["web"]
 d_partners:Dfn K mg "partners" "partners" GR ["web", "colours"]
 d_most_pairs:Dfn K mg "most_pairs" "most_pairs" Ew ["web"]
 d_places_reached:Dfn K mg "places_reached" "places_reached" DC ["web", "colours", "found"]
 d_least_cover:Dfn K mg "least_cover" "least_cover" EF ["web"]
 d__law_cell_at:Dfn K mg "_law_cell_at" "_law_cell_at" Dq ["script", "k"]
 d__law_mixed:Dfn K mg "_law_mixed" "_law_mixed" E0 ["cell", "salt"]
 d__law_whole:Dfn K mg "_law_whole" "_law_whole" Ex ["found"]
 d__law_pool:Dfn K mg "_law_pool" "_law_pool" Fe ["script", "start"]
 d__law_ties:Dfn K mg "_law_ties" "_law_ties" Fc ["pool", "many", "thick"]
 d__law_turned:Dfn K mg "_law_turned" "_law_turned" EI ["ties", "cell"]
 d__law_halves:Dfn K mg "_law_halves" "_law_halves" EK ["script"]
 d__law_is_set:Dfn K mg "_law_is_set" "_law_is_set" EJ ["found", "many"]
 d__law_stays:Dfn K mg "_law_stays" "_law_stays" Ey ["web", "many", "ties"]
 d__law_pairs:Dfn K mg "_law_pairs" "_law_pairs" Ez ["found", "ties"]
 d_law:Dfn K mg "law" "law" QF ["script"]
 c_Web:Own K mg "Web" W.Web d_Web_init.f
 n_Web_places:Hw K W.Web "places"
 n_Web_ties:Hw K W.Web "ties"
 n_Web_near_sets:Hw K W.Web "near_sets"
 b_all:mg "all" = none
 b_bool:mg "bool" = none
 b_enumerate:mg "enumerate" = none
 b_int:mg "int" = none
 b_isinstance:mg "isinstance" = none
 b_len:mg "len" = none
 b_list:mg "list" = none
 b_max:mg "max" = none
 b_min:mg "min" = none
 b_range:mg "range" = none
 b_set:mg "set" = none
 b_sorted:mg "sorted" = none
 b_sum:mg "sum" = none
 b_tuple:mg "tuple" = none
 g_MOST_PLACES:∃tk,mg "MOST_PLACES" = some (.int 60 tk)
section
variable {P:Ak} {w:A9} {K:AA} {mg:Str->Option AC} {base:Bw} {W:Wd}
theorem Ng:Bq ["places", "ties", "found", "one", "other", "tie"] ["places", "ties"] (An Dp):=GX
theorem Nl (T:Txt K mg W):DX P w K mg base (CXG P w) 1 T.d_checked_ties.f T.d_checked_ties.fd ["places", "ties"] (spM K 2 (Ft W)):=by
 refine Bo (k:=0) T.d_checked_ties.F Ng rfl λ_ _ _ _ _ _ hr hu nd=>?_
 exact (Aa (CY 2 nd Zk)
  (Aa (Eo (good_none rfl).own rfl (FA (AF (pv 1))) (JW rfl (Cf (Cd 3 nd) (Cf (Cd 4 nd) HS)))
  (Aa (CY 5 nd (KD (AU (Vm rfl rfl T.b_min (AU (AF (pv 3)) (AU (AF (pv 4)) BA))) (AU (Vn rfl rfl T.b_max (AU (AF (pv 3)) (AU (AF (pv 4)) BA))) BA))))
  (Aa (DU (DI (Hi hu) (D8 hu (AF (pv 5)) ge_int) (D8 hu (AF (pv 5)) ge_int) (Ci _)) (Ap Iz) CC)
  (Aa (DU (RP (NS (DI Sm (D8 hu (AF (pv 5)) ge_int) ge_int (Ci _)) (M8 (DI j7 (D8 hu (AF (pv 5)) ge_int) (AF (pv 0)) (Ci _))))) (Ap Iz) CC)
  (Aa (DU (kQ hu (AF (pv 5)) (AF (pv 2))) (Ap Iz) CC)
  (Ap (KW (A6 (Dw (by decide:1<=64) _) hu) (AF (pv 2)) (AF (pv 5)) Jk rfl)))))))
  (Ap (B5 (Hm rfl T.b_tuple (Ga rfl rfl T.b_sorted (AF (pv 2))))))))
theorem Nf:Bq ["places", "ties", "rows", "one", "other"] ["places", "ties"] (An Do):=GX
theorem Nk (T:Txt K mg W):DX P w K mg base (CXG P w) 1 T.d_near_sets_of.f T.d_near_sets_of.fd ["places", "ties"] (spM K 2 (Fq W)):=by
 refine Bo (k:=0) T.d_near_sets_of.F Nf rfl λ_ _ _ _ _ _ hr hu nd=>?_
 exact (Aa (N3 (i:=2) (own:=["place"]) (N':=["place", "·1", "·2", "·3", "·4", "·5"]) rfl rfl nd rfl (by first | exact PM rfl | exact ND rfl) (Fv (by kernel_rfl)) (GZ rfl T.b_range (AU (AF (pv 0)) BA)) (λ_ _ _ _ _ _=>(Cd 0 (by decide +kernel:(["place", "·1", "·2", "·3", "·4", "·5"]:List Str).Nodup))) (λ_ _ _ _ _ _=>G1) (λ_ _ _ _ _ _=>(ES (IX BA))))
  (Aa (Eo (good_none rfl).own rfl (FA (AF (pv 1))) (JW rfl (Cf (Cd 3 nd) (Cf (Cd 4 nd) HS)))
  (Aa (DL (Dt (D8 hu (AF (pv 2)) (AF (pv 3))) (AF (pv 4))))
  (Ap (DL (Dt (D8 hu (AF (pv 2)) (AF (pv 4))) (AF (pv 3)))))))
  (Ap (B5 (Hm rfl T.b_tuple (ES (JV (own:=["row"]) (N':=["row", "·1", "·2", "·3", "·4", "·5"]) rfl (Fv (by kernel_rfl)) (FA (AF (pv 2))) (λ_ _ _ _ _ _=>(Cd 0 (by decide +kernel:(["row", "·1", "·2", "·3", "·4", "·5"]:List Str).Nodup))) (λ_ _ _ _ _ _=>G1) (λ_ _ _ _ _ _=>(Hm rfl T.b_tuple (Ga rfl rfl T.b_sorted (AF (pv 0))))))))))))
theorem SW:Bq ["self", "places", "ties"] ["self", "places", "ties"] (An GU):=GX
theorem Sk (T:Txt K mg W):DX P w K mg base (CXG P w) 2 T.d_Web_init.f T.d_Web_init.fd ["self", "places", "ties"] (spM K 3 (Ho W)):=by
 refine Bo (k:=1) T.d_Web_init.F SW rfl λ_ _ _ _ _ _ hr hu nd=>?_
 exact (Aa (DU (JU (TB VZ VZ ge_int (AF (pv 1)) (Zj rfl T.g_MOST_PLACES.choose_spec))) (Ap Iz) CC)
  (Aa (UX T.c_Web.cl T.n_Web_places (AF (pv 0)) (AF (pv 1)) rfl)
  (Aa (UX T.c_Web.cl T.n_Web_ties (AF (pv 0)) (Bb (Nl T) (good_none rfl).pass (hr.mono (by decide)) rfl T.d_checked_ties.m T.d_checked_ties.kp T.d_checked_ties.b (AU (AF (pv 1)) (AU (AF (pv 2)) BA))) rfl)
  (Ap (UX T.c_Web.cl T.n_Web_near_sets (AF (pv 0)) (Bb (Nk T) (good_none rfl).pass (hr.mono (by decide)) rfl T.d_near_sets_of.m T.d_near_sets_of.kp T.d_near_sets_of.b (AU (AF (pv 1)) (AU (IY T.c_Web.cl T.n_Web_ties (AF (pv 0)) rfl) BA))) rfl)))))
theorem K7:Bq ["web", "place"] ["web", "place"] (An Cq):=GX
theorem K9 (T:Txt K mg W):DX P w K mg base (CXG P w) 1 T.d_refuse_no_place.f T.d_refuse_no_place.fd ["web", "place"] (spM K 2 (DV W)):=by
 refine Bo (k:=0) T.d_refuse_no_place.F K7 rfl λ_ _ _ _ _ _ hr hu nd=>?_
 exact (Ap (DU (JU (TB VZ Sm ge_int (AF (pv 1)) (IY T.c_Web.cl T.n_Web_places (AF (pv 0)) rfl))) (Ap Iz) CC))
theorem ba:Bq ["web", "place"] ["web", "place"] (An Mp):=GX
theorem RA (T:Txt K mg W):DX P w K mg base (CXG P w) 2 T.d_near.f T.d_near.fd ["web", "place"] (spM K 2 (KH W)):=by
 refine Bo (k:=1) T.d_near.F ba rfl λ_ _ _ _ _ _ hr hu nd=>?_
 exact (Aa (DL (Bb (K9 T) (good_none rfl).pass (hr.mono (by decide)) rfl T.d_refuse_no_place.m T.d_refuse_no_place.kp T.d_refuse_no_place.b (AU (AF (pv 0)) (AU (AF (pv 1)) BA))))
  (Ap (B5 (D8 hu (IY T.c_Web.cl T.n_Web_near_sets (AF (pv 0)) rfl) (AF (pv 1))))))
theorem Pk:Bq ["web", "start", "steps", "layer", "further", "place", "beside"] ["web", "start"] (An Ev):=GX
theorem Kn (T:Txt K mg W):DX P w K mg base (CXG P w) 3 T.d_steps_from.f T.d_steps_from.fd ["web", "start"] (spM K 2 (C8 W)):=by
 refine Bo (k:=2) T.d_steps_from.F Pk rfl λ_ _ _ _ _ _ hr hu nd=>?_
 exact (Aa (CY 2 nd (Zl (AF (pv 1)) ge_int))
  (Aa (CY 3 nd (ES (IX (AU (AF (pv 1)) BA))))
  (Aa (TC wN (good_none rfl).own (Iy (AF (pv 3))) (Aa (CY 4 nd (ES (IX BA)))
  (Aa (Eo (good_none rfl).own rfl (FA (AF (pv 3))) (Cd 5 nd)
  (Ap (Eo (good_none rfl).own rfl (FA (Bb (RA T) (good_none rfl).pass (hr.mono (by decide)) rfl T.d_near.m T.d_near.kp T.d_near.b (AU (AF (pv 0)) (AU (AF (pv 5)) BA)))) (Cd 6 nd)
  (Ap (DU (FJ hu (AF (pv 6)) (AF (pv 2))) (Aa (KW (A6 (Dw (by decide:1<=64) _) hu) (AF (pv 2)) (AF (pv 6)) (B0 IU (D8 hu (AF (pv 2)) (AF (pv 5))) ge_int) rfl)
  (Ap (DL (Dt (AF (pv 4)) (AF (pv 6)))))) CC)))))
  (Ap (CY 3 nd (AF (pv 4)))))))
  (Ap (B5 (AF (pv 2)))))))
theorem SU:Bq ["web", "parts", "seen", "place", "steps"] ["web"] (An GP):=GX
theorem Sj (T:Txt K mg W):DX P w K mg base (CXG P w) 4 T.d_parts_of.f T.d_parts_of.fd ["web"] (spM K 1 (Hn W)):=by
 refine Bo (k:=3) T.d_parts_of.F SU rfl λ_ _ _ _ _ _ hr hu nd=>?_
 exact (Aa (CY 1 nd (ES (IX BA)))
  (Aa (CY 2 nd KG)
  (Aa (Eo (good_none rfl).own rfl (GZ rfl T.b_range (AU (IY T.c_Web.cl T.n_Web_places (AF (pv 0)) rfl) BA)) (Cd 3 nd)
  (Ap (DU (FJ hu (AF (pv 3)) (AF (pv 2))) (Aa (CY 4 nd (Bb (Kn T) (good_none rfl).pass (hr.mono (by decide)) rfl T.d_steps_from.m T.d_steps_from.kp T.d_steps_from.b (AU (AF (pv 0)) (AU (AF (pv 3)) BA))))
  (Aa (DL (Vo (AF (pv 2)) (AF (pv 4))))
  (Ap (DL (Dt (AF (pv 1)) (Hm rfl T.b_tuple (Ga rfl rfl T.b_sorted (AF (pv 4))))))))) CC)))
  (Ap (B5 (AF (pv 1)))))))
theorem Ln:Bq ["web", "steps", "part"] ["web"] (An DB):=GX
theorem Lw (T:Txt K mg W):DX P w K mg base (CXG P w) 5 T.d_steps_in_parts.f T.d_steps_in_parts.fd ["web"] (spM K 1 (E3 W)):=by
 refine Bo (k:=4) T.d_steps_in_parts.F Ln rfl λ_ _ _ _ _ _ hr hu nd=>?_
 exact (Aa (CY 1 nd KG)
  (Aa (Eo (good_none rfl).own rfl (FA (Bb (Sj T) (good_none rfl).pass (hr.mono (by decide)) rfl T.d_parts_of.m T.d_parts_of.kp T.d_parts_of.b (AU (AF (pv 0)) BA))) (Cd 2 nd)
  (Ap (DL (Vo (AF (pv 1)) (Bb (Kn T) (good_none rfl).pass (hr.mono (by decide)) rfl T.d_steps_from.m T.d_steps_from.kp T.d_steps_from.b (AU (AF (pv 0)) (AU (D8 hu (AF (pv 2)) ge_int) BA)))))))
  (Ap (B5 (AF (pv 1))))))
theorem OX:Bq ["web", "steps", "one", "other"] ["web", "steps"] (An EG):=GX
theorem Oh (T:Txt K mg W):DX P w K mg base (CXG P w) 1 T.d_first_clash.f T.d_first_clash.fd ["web", "steps"] (spM K 2 (EL W)):=by
 refine Bo (k:=0) T.d_first_clash.F OX rfl λ_ _ _ _ _ _ hr hu nd=>?_
 exact (Aa (Eo (good_none rfl).own rfl (FA (IY T.c_Web.cl T.n_Web_ties (AF (pv 0)) rfl)) (JW rfl (Cf (Cd 2 nd) (Cf (Cd 3 nd) HS)))
  (Ap (DU (DI (Hi hu) (B0 E8 (D8 hu (AF (pv 1)) (AF (pv 2))) ge_int) (B0 E8 (D8 hu (AF (pv 1)) (AF (pv 3))) ge_int) (Ci _)) (Ap (B5 (KD (AU (AF (pv 2)) (AU (AF (pv 3)) BA))))) CC)))
  (Ap (B5 RS)))
theorem OV:Bq ["web", "steps"] ["web"] (An EE):=GX
theorem Og (T:Txt K mg W):DX P w K mg base (CXG P w) 6 T.d_two_colours.f T.d_two_colours.fd ["web"] (spM K 1 (Go W)):=by
 refine Bo (k:=5) T.d_two_colours.F OV rfl λ_ _ _ _ _ _ hr hu nd=>?_
 exact (Aa (CY 1 nd (Bb (Lw T) (good_none rfl).pass (hr.mono (by decide)) rfl T.d_steps_in_parts.m T.d_steps_in_parts.kp T.d_steps_in_parts.b (AU (AF (pv 0)) BA)))
  (Aa (DU (DI cR (Bb (Oh T) (good_none rfl).pass (hr.mono (by decide)) rfl T.d_first_clash.m T.d_first_clash.kp T.d_first_clash.b (AU (AF (pv 0)) (AU (AF (pv 1)) BA))) RS (Ci _)) (Ap (B5 RS)) CC)
  (Ap (B5 (Hm rfl T.b_tuple (ES (JV (own:=["place"]) (N':=["place", "·1", "steps"]) rfl (Fv (by kernel_rfl)) (GZ rfl T.b_range (AU (IY T.c_Web.cl T.n_Web_places (AF (pv 0)) rfl) BA)) (λ_ _ _ _ _ _=>(Cd 0 (by decide +kernel:(["place", "·1", "steps"]:List Str).Nodup))) (λ_ _ _ _ _ _=>G1) (λ_ _ _ _ _ _=>(B0 E8 (D8 hu (AF (pv 2)) (AF (pv 0))) ge_int)))))))))
theorem Wn:Bq ["takes", "bits", "holders", "guard", "seen", "wanted", "place"] ["takes", "bits", "holders", "guard", "seen"] (An Iu):=GX
theorem QI (T:Txt K mg W):∀n:Nat,DX P w K mg base (CXG P w) (0+n) T.d_settle.f T.d_settle.fd ["takes", "bits", "holders", "guard", "seen"] (spM K 5 (FK W n))
 | 0=>iZ
 | n+1=>by
  refine Bo (k:=0+n) T.d_settle.F Wn rfl λ_ _ _ _ _ _ hr hu nd=>?_
  exact (Aa (N3 (i:=5) (own:=["place"]) (N':=["place", "·1", "bits", "·3", "·4", "seen", "·6", "·7"]) rfl rfl nd rfl (by first | exact PM rfl | exact ND rfl) (Fv (by kernel_rfl)) (FA (D8 hu (AF (pv 0)) (AF (pv 3)))) (λ_ _ _ _ _ _=>(Cd 0 (by decide +kernel:(["place", "·1", "bits", "·3", "·4", "seen", "·6", "·7"]:List Str).Nodup))) (λ_ _ _ _ _ _=>(O2 (RP (UW (Iy (B0 g8 (B0 gz (AF (pv 2)) (AF (pv 0))) ge_int)) (RO (FJ hu (AF (pv 0)) (AF (pv 5)))))))) (λ_ _ _ _ _ _=>(AF (pv 0))))
  (Aa (Eo (good_none rfl).own rfl (FA (AF (pv 5))) (Cd 6 nd)
  (Ap (DU (FJ hu (AF (pv 6)) (AF (pv 2))) (Aa (KW (A6 (Dw (by decide:1<=64) _) hu) (AF (pv 2)) (AF (pv 6)) (AF (pv 3)) rfl)
  (Ap (B5 Jk))) CC)))
  (Aa (Eo (good_none rfl).own rfl (FA (AF (pv 5))) (Cd 6 nd)
  (Ap (DU (FJ hu (AF (pv 6)) (AF (pv 4))) (Aa (KW (A6 (Dw (by decide:1<=64) _) hu) (AF (pv 4)) (AF (pv 6)) Jk rfl)
  (Ap (DU (Iy (Bb (QI T n) (good_none rfl).pass (hr.mono (AN _)) rfl T.d_settle.m T.d_settle.kp T.d_settle.b (AU (AF (pv 0)) (AU (AF (pv 1)) (AU (AF (pv 2)) (AU (D8 hu (AF (pv 2)) (AF (pv 6))) (AU (AF (pv 4)) BA))))))) (Aa (KW (A6 (Dw (by decide:1<=64) _) hu) (AF (pv 2)) (AF (pv 6)) (AF (pv 3)) rfl)
  (Ap (B5 Jk))) CC))) CC)))
  (Ap (B5 Jk)))))
theorem Jn:Bq ["web", "colours"] ["web"] (An CQ):=GX
theorem GH (T:Txt K mg W):DX P w K mg base (CXG P w) 7 T.d_colours_or_refused.f T.d_colours_or_refused.fd ["web"] (spM K 1 (DW W)):=by
 refine Bo (k:=6) T.d_colours_or_refused.F Jn rfl λ_ _ _ _ _ _ hr hu nd=>?_
 exact (Aa (CY 1 nd (Bb (Og T) (good_none rfl).pass (hr.mono (by decide)) rfl T.d_two_colours.m T.d_two_colours.kp T.d_two_colours.b (AU (AF (pv 0)) BA)))
  (Aa (DU (DI g7 (AF (pv 1)) RS (Ci _)) (Ap Iz) CC)
  (Ap (B5 (AF (pv 1))))))
theorem SV:Bq ["web", "colours", "takes", "everywhere", "found", "place", "colour"] ["web", "colours"] (An GR):=GX
theorem NK (T:Txt K mg W):DX P w K mg base (CXG P w) 64 T.d_partners.f T.d_partners.fd ["web", "colours"] (spM K 2 (JX W)):=by
 refine Bo (k:=63) T.d_partners.F SV rfl λ_ _ _ _ _ _ hr hu nd=>?_
 exact (Aa (N3 (i:=2) (own:=["place"]) (N':=["place", "web", "·2", "·3", "·4", "·5", "·6", "·7"]) rfl rfl nd rfl (by first | exact PM rfl | exact ND rfl) (Fv (by kernel_rfl)) (GZ rfl T.b_range (AU (IY T.c_Web.cl T.n_Web_places (AF (pv 0)) rfl) BA)) (λ_ _ _ _ _ _=>(Cd 0 (by decide +kernel:(["place", "web", "·2", "·3", "·4", "·5", "·6", "·7"]:List Str).Nodup))) (λ_ _ _ _ _ _=>G1) (λ_ _ _ _ _ _=>(Bb (RA T) (good_none rfl).pass (hr.mono (by decide)) rfl T.d_near.m T.d_near.kp T.d_near.b (AU (AF (pv 1)) (AU (AF (pv 0)) BA)))))
  (Aa (CY 3 nd (B0 gy (B0 g0 ge_int (IY T.c_Web.cl T.n_Web_places (AF (pv 0)) rfl)) ge_int))
  (Aa (CY 4 nd KG)
  (Aa (Eo (good_none rfl).own rfl (RQ rfl T.b_enumerate (AF (pv 1))) (JW rfl (Cf (Cd 5 nd) (Cf (Cd 6 nd) HS)))
  (Ap (DU (DI (Hi hu) (AF (pv 6)) ge_int (Ci _)) (Ap (DL (Bb (QI T 62) (good_none rfl).pass (hr.mono (by decide)) rfl T.d_settle.m T.d_settle.kp T.d_settle.b (AU (AF (pv 2)) (AU (AF (pv 3)) (AU (AF (pv 4)) (AU (AF (pv 5)) (AU KG BA)))))))) CC)))
  (Ap (B5 (AF (pv 4))))))))
theorem Pl:Bq ["web", "found"] ["web"] (An Ew):=GX
theorem Ko (T:Txt K mg W):DX P w K mg base (CXG P w) 65 T.d_most_pairs.f T.d_most_pairs.fd ["web"] (spM K 1 (Fs W)):=by
 refine Bo (k:=64) T.d_most_pairs.F Pl rfl λ_ _ _ _ _ _ hr hu nd=>?_
 exact (Aa (CY 1 nd (Bb (NK T) (good_none rfl).pass (hr.mono (by decide)) rfl T.d_partners.m T.d_partners.kp T.d_partners.b (AU (AF (pv 0)) (AU (Bb (GH T) (good_none rfl).pass (hr.mono (by decide)) rfl T.d_colours_or_refused.m T.d_colours_or_refused.kp T.d_colours_or_refused.b (AU (AF (pv 0)) BA)) BA))))
  (Ap (kR (i:=1) (B5 (Ga rfl rfl T.b_sorted (ES (JV (own:=["one"]) (N':=["one", "·1", "found"]) rfl (Fv (by kernel_rfl)) (c9 (AF (pv 1))) (λ_ _ _ _ _ _=>(Cd 0 (by decide +kernel:(["one", "·1", "found"]:List Str).Nodup))) (λ_ _ _ _ _ _=>G1) (λ_ _ _ _ _ _=>(KD (AU (Vm rfl rfl T.b_min (AU (AF (pv 0)) (AU (D8 hu (AF (pv 2)) (AF (pv 0))) BA))) (AU (Vn rfl rfl T.b_max (AU (AF (pv 0)) (AU (D8 hu (AF (pv 2)) (AF (pv 0))) BA))) BA)))))))))))
theorem Lp:Bq ["web", "colours", "found", "paired", "ahead", "reached", "place"] ["web", "colours", "found"] (An DC):=GX
theorem Lx (T:Txt K mg W):DX P w K mg base (CXG P w) 3 T.d_places_reached.f T.d_places_reached.fd ["web", "colours", "found"] (spM K 3 (Gb W)):=by
 refine Bo (k:=2) T.d_places_reached.F Lp rfl λ_ _ _ _ _ _ hr hu nd=>?_
 exact (Aa (CY 3 nd (TD rfl rfl T.b_list (AF (pv 2))))
  (Aa (N3 (i:=4) (own:=["place", "colour"]) (N':=["place", "colour", "·2", "·3", "·4", "paired", "·6", "·7", "·8"]) rfl rfl nd rfl (by first | exact PM rfl | exact ND rfl) (Fv (by kernel_rfl)) (RQ rfl T.b_enumerate (AF (pv 1))) (λ_ _ _ _ _ _=>(JW rfl (Cf (Cd 0 (by decide +kernel:(["place", "colour", "·2", "·3", "·4", "paired", "·6", "·7", "·8"]:List Str).Nodup)) (Cf (Cd 1 (by decide +kernel:(["place", "colour", "·2", "·3", "·4", "paired", "·6", "·7", "·8"]:List Str).Nodup)) HS)))) (λ_ _ _ _ _ _=>(O2 (RP (UW (DI (Hi hu) (AF (pv 1)) ge_int (Ci _)) (RO (FJ hu (AF (pv 0)) (AF (pv 5)))))))) (λ_ _ _ _ _ _=>(AF (pv 0))))
  (Aa (CY 5 nd KG)
  (Aa (TC wN (good_none rfl).own (Iy (AF (pv 4))) (Aa (CY 6 nd (iU (AF (pv 4))))
  (Ap (DU (FJ hu (AF (pv 6)) (AF (pv 5))) (Aa (KW (A6 (Dw (by decide:1<=64) _) hu) (AF (pv 5)) (AF (pv 6)) Jk rfl)
  (Ap (DU (DI (Hi hu) (D8 hu (AF (pv 1)) (AF (pv 6))) ge_int (Ci _)) (Ap (DL (dD (AF (pv 4)) (Bb (RA T) (good_none rfl).pass (hr.mono (by decide)) rfl T.d_near.m T.d_near.kp T.d_near.b (AU (AF (pv 0)) (AU (AF (pv 6)) BA)))))) (Ap (DL (Dt (AF (pv 4)) (D8 hu (AF (pv 2)) (AF (pv 6))))))))) CC))))
  (Ap (B5 (AF (pv 5))))))))
theorem OW:Bq ["web", "colours", "reached"] ["web"] (An EF):=GX
theorem J3 (T:Txt K mg W):DX P w K mg base (CXG P w) 65 T.d_least_cover.f T.d_least_cover.fd ["web"] (spM K 1 (FL W)):=by
 refine Bo (k:=64) T.d_least_cover.F OW rfl λ_ _ _ _ _ _ hr hu nd=>?_
 exact (Aa (CY 1 nd (Bb (GH T) (good_none rfl).pass (hr.mono (by decide)) rfl T.d_colours_or_refused.m T.d_colours_or_refused.kp T.d_colours_or_refused.b (AU (AF (pv 0)) BA)))
  (Aa (CY 2 nd (Bb (Lx T) (good_none rfl).pass (hr.mono (by decide)) rfl T.d_places_reached.m T.d_places_reached.kp T.d_places_reached.b (AU (AF (pv 0)) (AU (AF (pv 1)) (AU (Bb (NK T) (good_none rfl).pass (hr.mono (by decide)) rfl T.d_partners.m T.d_partners.kp T.d_partners.b (AU (AF (pv 0)) (AU (AF (pv 1)) BA))) BA)))))
  (Ap (B5 (Hm rfl T.b_tuple (ES (JV (own:=["place", "colour"]) (N':=["place", "colour", "·2", "·3", "reached"]) rfl (Fv (by kernel_rfl)) (RQ rfl T.b_enumerate (AF (pv 1))) (λ_ _ _ _ _ _=>(JW rfl (Cf (Cd 0 (by decide +kernel:(["place", "colour", "·2", "·3", "reached"]:List Str).Nodup)) (Cf (Cd 1 (by decide +kernel:(["place", "colour", "·2", "·3", "reached"]:List Str).Nodup)) HS)))) (λ_ _ _ _ _ _=>(O2 (DI (Hi hu) (kT hu (AF (pv 0)) (AF (pv 4))) (LF (Hi hu) (AF (pv 1)) ge_int (Ci _)) (Ci _)))) (λ_ _ _ _ _ _=>(AF (pv 0))))))))))
theorem Nh:Bq ["script", "k"] ["script", "k"] (An Dq):=GX
theorem Jj (T:Txt K mg W):DX P w K mg base (CXG P w) 1 T.d__law_cell_at.f T.d__law_cell_at.fd ["script", "k"] (spM K 2 (DJ W)):=by
 refine Bo (k:=0) T.d__law_cell_at.F Nh rfl λ_ _ _ _ _ _ hr hu nd=>?_
 exact (Aa (DU (DI Sm (AF (pv 1)) (KF rfl T.b_len (AF (pv 0))) (Ci _)) (Ap (B5 (D8 hu (AF (pv 0)) (AF (pv 1))))) CC)
  (Ap (B5 ge_int)))
theorem Pp:Bq ["cell", "salt", "mixed"] ["cell", "salt"] (An E0):=GX
theorem Gn (T:Txt K mg W):DX P w K mg base (CXG P w) 1 T.d__law_mixed.f T.d__law_mixed.fd ["cell", "salt"] (spM K 2 (Bu W)):=by
 refine Bo (k:=0) T.d__law_mixed.F Pp rfl λ_ _ _ _ _ _ hr hu nd=>?_
 exact (Aa (CY 2 nd (B0 E8 (B0 RD (B0 IU (B0 E8 (AF (pv 0)) ge_int) (AF (pv 1))) ge_int) ge_int))
  (Ap (B5 (B0 E8 (B0 RD (AF (pv 2)) (AF (pv 2))) ge_int))))
theorem Pm:Bq ["found"] ["found"] (An Ex):=GX
theorem Kp (T:Txt K mg W):DX P w K mg base (CXG P w) 1 T.d__law_whole.f T.d__law_whole.fd ["found"] (spM K 1 (HU W)):=by
 refine Bo (k:=0) T.d__law_whole.F Pm rfl λ_ _ _ _ _ _ hr hu nd=>?_
 exact (Ap (B5 (L2.RU (O3 (c:=.ty "int") (cv:=.type "int") (λ_ r=>r) cp rfl T.b_isinstance (AF (pv 0)) (Lu rfl T.b_int lC rfl)) (Ua (iV (O3 (c:=.ty "bool") (cv:=.type "bool") (λ_ r=>r) Za rfl T.b_isinstance (AF (pv 0)) (Lu rfl T.b_bool lD rfl)))))))
theorem Q5:Bq ["script", "start", "pool", "k", "more"] ["script", "start"] (An Fe):=GX
theorem RC (T:Txt K mg W):DX P w K mg base (CXG P w) 1 T.d__law_pool.f T.d__law_pool.fd ["script", "start"] (spM K 2 (IK W)):=by
 refine Bo (k:=0) T.d__law_pool.F Q5 rfl λ_ _ _ _ _ _ hr hu nd=>?_
 exact (Aa (CY 2 nd (ES (IX (AU (KF rfl T.b_len (AF (pv 0))) BA))))
  (Aa (Eo (good_none rfl).own rfl (GZ rfl T.b_range (AU ge_int BA)) (Cd 3 nd)
  (Aa (CY 4 nd (XT (AF (pv 0)) (Vj (B0 IU (AF (pv 1)) (AF (pv 3)))) c7 (Vj ge_int)))
  (Ap (DU (DI (QJ hu) (AF (pv 4)) (ES (IX BA)) (Ci _)) (Ap (DL (Dt (AF (pv 2)) (iT rfl rfl T.b_sum (AF (pv 4)))))) CC))))
  (Ap (B5 (AF (pv 2))))))
theorem Q4:Bq ["pool", "many", "thick", "ties", "at", "other", "one", "cell"] ["pool", "many", "thick"] (An Fc):=GX
theorem RB (T:Txt K mg W):DX P w K mg base (CXG P w) 2 T.d__law_ties.f T.d__law_ties.fd ["pool", "many", "thick"] (spM K 3 (KI W)):=by
 refine Bo (k:=1) T.d__law_ties.F Q4 rfl λ_ _ _ _ _ _ hr hu nd=>?_
 exact (Aa (CY 3 nd (ES (IX BA)))
  (Aa (CY 4 nd ge_int)
  (Aa (Eo (good_none rfl).own rfl (XS rfl T.b_range (AU ge_int (AU (AF (pv 1)) BA))) (Cd 5 nd)
  (Ap (Eo (good_none rfl).own rfl (GZ rfl T.b_range (AU (AF (pv 5)) BA)) (Cd 6 nd)
  (Aa (CY 7 nd (D8 hu (AF (pv 0)) (B0 E8 (AF (pv 4)) (KF rfl T.b_len (AF (pv 0))))))
  (Aa (CY 4 nd (B0 IU (AF (pv 4)) ge_int))
  (Ap (DU (DI Sm (B0 E8 (Bb (Gn T) (good_none rfl).pass (hr.mono (by decide)) rfl T.d__law_mixed.m T.d__law_mixed.kp T.d__law_mixed.b (AU (AF (pv 7)) (AU (B0 IU (B0 RD ge_int (AF (pv 6))) (B0 RD ge_int (AF (pv 5)))) BA))) ge_int) (AF (pv 2)) (Ci _)) (Ap (DL (Dt (AF (pv 3)) (KD (AU (AF (pv 6)) (AU (AF (pv 5)) BA)))))) CC)))))))
  (Ap (B5 (AF (pv 3)))))))
theorem OY:Bq ["ties", "cell", "told", "k"] ["ties", "cell"] (An EI):=GX
theorem Oi (T:Txt K mg W):DX P w K mg base (CXG P w) 2 T.d__law_turned.f T.d__law_turned.fd ["ties", "cell"] (spM K 2 (DZ W)):=by
 refine Bo (k:=1) T.d__law_turned.F OY rfl λ_ _ _ _ _ _ hr hu nd=>?_
 exact (Aa (CY 2 nd (ES (IX BA)))
  (Aa (Eo (good_none rfl).own rfl (GZ rfl T.b_range (AU (KF rfl T.b_len (AF (pv 0))) BA)) (Cd 3 nd)
  (Ap (DU (DI (Hi hu) (B0 E8 (Bb (Gn T) (good_none rfl).pass (hr.mono (by decide)) rfl T.d__law_mixed.m T.d__law_mixed.kp T.d__law_mixed.b (AU (AF (pv 1)) (AU (AF (pv 3)) BA))) ge_int) ge_int (Ci _)) (Ap (DL (Dt (AF (pv 2)) (D8 hu (AF (pv 0)) (AF (pv 3)))))) (Ap (DL (Dt (AF (pv 2)) (KD (AU (D8 hu (D8 hu (AF (pv 0)) (AF (pv 3))) ge_int) (AU (D8 hu (D8 hu (AF (pv 0)) (AF (pv 3))) ge_int) BA)))))))))
  (Aa (DU (DI (Hi hu) (B0 E8 (AF (pv 1)) ge_int) ge_int (Ci _)) (Ap (DL (UZ (AF (pv 2))))) CC)
  (Ap (B5 (AF (pv 2)))))))
theorem Oa:Bq ["script", "first", "many", "pool", "thick", "ties", "one", "other"] ["script"] (An EK):=GX
theorem Ol (T:Txt K mg W):DX P w K mg base (CXG P w) 3 T.d__law_halves.f T.d__law_halves.fd ["script"] (spM K 1 (FM W)):=by
 refine Bo (k:=2) T.d__law_halves.F Oa rfl λ_ _ _ _ _ _ hr hu nd=>?_
 exact (Aa (CY 1 nd (Bb (Jj T) (good_none rfl).pass (hr.mono (by decide)) rfl T.d__law_cell_at.m T.d__law_cell_at.kp T.d__law_cell_at.b (AU (AF (pv 0)) (AU ge_int BA))))
  (Aa (CY 2 nd (B0 IU ge_int (B0 E8 (AF (pv 1)) ge_int)))
  (Aa (CY 3 nd (Bb (RC T) (good_none rfl).pass (hr.mono (by decide)) rfl T.d__law_pool.m T.d__law_pool.kp T.d__law_pool.b (AU (AF (pv 0)) (AU ge_int BA))))
  (Aa (CY 4 nd (B0 IU ge_int (B0 E8 (B0 RE (AF (pv 1)) ge_int) ge_int)))
  (Aa (DU (DI (Hi hu) (B0 E8 (B0 RE (AF (pv 1)) ge_int) ge_int) ge_int (Ci _)) (Aa (CY 2 nd (B0 IU ge_int (B0 E8 (B0 RE (AF (pv 1)) ge_int) ge_int)))
  (Ap (CY 4 nd ge_int))) CC)
  (Aa (CY 5 nd (ES (IX BA)))
  (Aa (Eo (good_none rfl).own rfl (FA (Bb (RB T) (good_none rfl).pass (hr.mono (by decide)) rfl T.d__law_ties.m T.d__law_ties.kp T.d__law_ties.b (AU (AF (pv 3)) (AU (AF (pv 2)) (AU (AF (pv 4)) BA))))) (JW rfl (Cf (Cd 6 nd) (Cf (Cd 7 nd) HS)))
  (Ap (DU (DI (QJ hu) (B0 E8 (Bb (Gn T) (good_none rfl).pass (hr.mono (by decide)) rfl T.d__law_mixed.m T.d__law_mixed.kp T.d__law_mixed.b (AU (AF (pv 1)) (AU (B0 IU ge_int (AF (pv 6))) BA))) ge_int) (B0 E8 (Bb (Gn T) (good_none rfl).pass (hr.mono (by decide)) rfl T.d__law_mixed.m T.d__law_mixed.kp T.d__law_mixed.b (AU (AF (pv 1)) (AU (B0 IU ge_int (AF (pv 7))) BA))) ge_int) (Ci _)) (Ap (DL (Dt (AF (pv 5)) (KD (AU (AF (pv 6)) (AU (AF (pv 7)) BA)))))) CC)))
  (Ap (B5 (KD (AU (AF (pv 2)) (AU (AF (pv 5)) BA))))))))))))
theorem OZ:Bq ["found", "many"] ["found", "many"] (An EJ):=GX
theorem Oj (T:Txt K mg W):DX P w K mg base (CXG P w) 2 T.d__law_is_set.f T.d__law_is_set.fd ["found", "many"] (spM K 2 (Gp W)):=by
 refine Bo (k:=1) T.d__law_is_set.F OZ rfl λ_ _ _ _ _ _ hr hu nd=>?_
 exact (Aa (DU (RP (NS (JU (O1 (O3 (c:=.ty "tuple") (cv:=.type "tuple") (λ_ r=>r) QQ rfl T.b_isinstance (AF (pv 0)) (Lu rfl T.b_tuple Hx rfl)))) (M8 (JU (O1 (Ub rfl rfl T.b_all (ES (JV (own:=["place"]) (N':=["place", "·1", "·2"]) rfl (Fv (by kernel_rfl)) (FA (AF (pv 0))) (λ_ _ _ _ _ _=>(Cd 0 (by decide +kernel:(["place", "·1", "·2"]:List Str).Nodup))) (λ_ _ _ _ _ _=>G1) (λ_ _ _ _ _ _=>(Bb (Kp T) (good_none rfl).pass (hr.mono (by decide)) rfl T.d__law_whole.m T.d__law_whole.kp T.d__law_whole.b (AU (AF (pv 0)) BA))))))))))) (Ap (B5 Jk)) CC)
  (Aa (DU (RP (NS (DI (QJ hu) (Ga rfl rfl T.b_sorted (AF (pv 0))) (RT rfl T.b_list (AF (pv 0))) (Ci _)) (M8 (DI (QJ hu) (QR rfl rfl T.b_len rfl T.b_set (AF (pv 0))) (KF rfl T.b_len (AF (pv 0))) (Ci _))))) (Ap (B5 Jk)) CC)
  (Ap (B5 (Ub rfl rfl T.b_all (ES (JV (own:=["place"]) (N':=["place", "·1", "many"]) rfl (Fv (by kernel_rfl)) (FA (AF (pv 0))) (λ_ _ _ _ _ _=>(Cd 0 (by decide +kernel:(["place", "·1", "many"]:List Str).Nodup))) (λ_ _ _ _ _ _=>G1) (λ_ _ _ _ _ _=>(Zm VZ Sm ge_int (AF (pv 0)) (AF (pv 2)))))))))))
theorem Pn:Bq ["web", "many", "ties"] ["web", "many", "ties"] (An Ey):=GX
theorem Pt (T:Txt K mg W):DX P w K mg base (CXG P w) 1 T.d__law_stays.f T.d__law_stays.fd ["web", "many", "ties"] (spM K 3 (JY W)):=by
 refine Bo (k:=0) T.d__law_stays.F Pn rfl λ_ _ _ _ _ _ hr hu nd=>?_
 exact (Ap (B5 (L2.RU (LF (Hi hu) (IY T.c_Web.cl T.n_Web_places (AF (pv 0)) rfl) (AF (pv 1)) (Ci _)) (Ua (LF (Hi hu) (IY T.c_Web.cl T.n_Web_ties (AF (pv 0)) rfl) (Hm rfl T.b_tuple (Ga rfl rfl T.b_sorted (AF (pv 2)))) (Ci _))))))
theorem Po:Bq ["found", "ties", "met", "pair"] ["found", "ties"] (An Ez):=GX
theorem Pu (T:Txt K mg W):DX P w K mg base (CXG P w) 2 T.d__law_pairs.f T.d__law_pairs.fd ["found", "ties"] (spM K 2 (HV W)):=by
 refine Bo (k:=1) T.d__law_pairs.F Po rfl λ_ _ _ _ _ _ hr hu nd=>?_
 exact (Aa (DU (RP (NS (JU (O1 (O3 (c:=.ty "list") (cv:=.type "list") (λ_ r=>r) ZZ rfl T.b_isinstance (AF (pv 0)) (Lu rfl T.b_list IE rfl)))) (M8 (DI (QJ hu) (Ga rfl rfl T.b_sorted (AF (pv 0))) (AF (pv 0)) (Ci _))))) (Ap (B5 Jk)) CC)
  (Aa (CY 2 nd (ES (IX BA)))
  (Aa (Eo (good_none rfl).own rfl (FA (AF (pv 0))) (Cd 3 nd)
  (Aa (DU (RP (NS (JU (O1 (O3 (c:=.ty "tuple") (cv:=.type "tuple") (λ_ r=>r) QQ rfl T.b_isinstance (AF (pv 3)) (Lu rfl T.b_tuple Hx rfl)))) (NS (FJ hu (AF (pv 3)) (AF (pv 1))) (M8 (JU (O1 (Ub rfl rfl T.b_all (ES (JV (own:=["place"]) (N':=["place", "·1", "·2", "·3", "·4"]) rfl (Fv (by kernel_rfl)) (FA (AF (pv 3))) (λ_ _ _ _ _ _=>(Cd 0 (by decide +kernel:(["place", "·1", "·2", "·3", "·4"]:List Str).Nodup))) (λ_ _ _ _ _ _=>G1) (λ_ _ _ _ _ _=>(Bb (Kp T) (good_none rfl).pass (hr.mono (by decide)) rfl T.d__law_whole.m T.d__law_whole.kp T.d__law_whole.b (AU (AF (pv 0)) BA)))))))))))) (Ap (B5 Jk)) CC)
  (Ap (DL (XU (AF (pv 2)) (RT rfl T.b_list (AF (pv 3))))))))
  (Ap (B5 (LF (Hi hu) (QR rfl rfl T.b_len rfl T.b_set (AF (pv 2))) (KF rfl T.b_len (AF (pv 2))) (Ci _)))))))
theorem fq:Bq ["script", "many", "ties", "web", "found", "cover", "one", "other", "held"] ["script"] (An QF):=GX
theorem gw (T:Txt K mg W):DX P w K mg base (CXG P w) 66 T.d_law.f T.d_law.fd ["script"] (spM K 1 (Zq W)):=by
 refine Bo (k:=65) T.d_law.F fq rfl λ_ _ _ _ _ _ hr hu nd=>?_
 exact (Aa (iP (Bb (Ol T) (good_none rfl).pass (hr.mono (by decide)) rfl T.d__law_halves.m T.d__law_halves.kp T.d__law_halves.b (AU (AF (pv 0)) BA)) (JW rfl (Cf (Cd 1 nd) (Cf (Cd 2 nd) HS))))
  (Aa (CY 3 nd (dC T.c_Web.mk' (Sk T) (good_none rfl).pass (hr.mono (by decide)) rfl T.c_Web.m T.d_Web_init.b (AU (AF (pv 1)) (AU (Bb (Oi T) (good_none rfl).pass (hr.mono (by decide)) rfl T.d__law_turned.m T.d__law_turned.kp T.d__law_turned.b (AU (AF (pv 2)) (AU (Bb (Jj T) (good_none rfl).pass (hr.mono (by decide)) rfl T.d__law_cell_at.m T.d__law_cell_at.kp T.d__law_cell_at.b (AU (AF (pv 0)) (AU ge_int BA))) BA))) BA))))
  (Aa (CY 4 nd (Bb (Ko T) (good_none rfl).pass (hr.mono (by decide)) rfl T.d_most_pairs.m T.d_most_pairs.kp T.d_most_pairs.b (AU (AF (pv 3)) BA)))
  (Aa (CY 5 nd (Bb (J3 T) (good_none rfl).pass (hr.mono (by decide)) rfl T.d_least_cover.m T.d_least_cover.kp T.d_least_cover.b (AU (AF (pv 3)) BA)))
  (Aa (DU (RP (NS (JU (Iy (Bb (Pu T) (good_none rfl).pass (hr.mono (by decide)) rfl T.d__law_pairs.m T.d__law_pairs.kp T.d__law_pairs.b (AU (AF (pv 4)) (AU (AF (pv 2)) BA))))) (NS (JU (Iy (Bb (Oj T) (good_none rfl).pass (hr.mono (by decide)) rfl T.d__law_is_set.m T.d__law_is_set.kp T.d__law_is_set.b (AU (AF (pv 5)) (AU (AF (pv 1)) BA))))) (M8 (DI (QJ hu) (KF rfl T.b_len (AF (pv 5))) (KF rfl T.b_len (AF (pv 4))) (Ci _)))))) (Ap (B5 Jk)) CC)
  (Aa (Eo (good_none rfl).own rfl (FA (AF (pv 2))) (JW rfl (Cf (Cd 6 nd) (Cf (Cd 7 nd) HS)))
  (Ap (DU (RP (UW (FJ hu (AF (pv 6)) (AF (pv 5))) (RO (FJ hu (AF (pv 7)) (AF (pv 5)))))) (Ap (B5 Jk)) CC)))
  (Aa (CY 8 nd (RT rfl T.b_list (AF (pv 4))))
  (Aa (DL (Dt (AF (pv 4)) (KD (AU ge_int (AU ge_int BA)))))
  (Ap (B5 (L2.RU (LF (Hi hu) (Bb (Ko T) (good_none rfl).pass (hr.mono (by decide)) rfl T.d_most_pairs.m T.d_most_pairs.kp T.d_most_pairs.b (AU (AF (pv 3)) BA)) (AF (pv 8)) (Ci _)) (L2.RU (LF (Hi hu) (Bb (J3 T) (good_none rfl).pass (hr.mono (by decide)) rfl T.d_least_cover.m T.d_least_cover.kp T.d_least_cover.b (AU (AF (pv 3)) BA)) (AF (pv 5)) (Ci _)) (Ua (Bb (Pt T) (good_none rfl).pass (hr.mono (by decide)) rfl T.d__law_stays.m T.d__law_stays.kp T.d__law_stays.b (AU (AF (pv 3)) (AU (AF (pv 1)) (AU (AF (pv 2)) BA)))))))))))))))))
end
end M
namespace M
open PySem L2
open Srt (ltL)
def pairD (x:Int×Int):D:=.tup [.int x.1,.int x.2]
def nrm (x:Int×Int):Int×Int:=(if x.2 < x.1 then x.2 else x.1,if x.2 > x.1 then x.2 else x.1)
def Lq (x:Int×Int):List Int:=[x.1,x.2]
def L9 (x:Int×Int):List Key:=[.inl x.1,.inl x.2]
theorem Sz {x y:Int×Int} (h:L9 x=L9 y):x=y:=by
 unfold L9 at h;simp at h;exact dw h.1 h.2
theorem JT:∀ns:List Int,G0 (ns.map D.int)=some ns
 | []=>rfl
 | n :: ns=>by
  rw [Az];unfold G0;rw [JT ns];rfl
theorem Oc:∀rs:List (List Int),(∀r∈rs,r≠[])->Km (rs.map CS)=some rs
 | [],_=>rfl
 | [] :: rs,h=>zX rfl (h [] A1)
 | (n :: ns) :: rs,h=>by
  rw [Az];unfold CS Km;rw [JT,show Kj (λr:List Int=>D.tup (r.map D.int)) rs=rs.map CS from rfl,Oc rs λr hr=>h r (Ag _ hr)]
theorem OT (rs:List (List Int)) (h:∀r∈rs,r≠[]):J1 (rs.map CS)=some ((Gw rs).map CS):=by
 unfold J1
 cases rs with
 | nil=>simp [G0,Gw]
 | cons r rs=>
  have:G0 ((r :: rs).map CS)=none:=rfl;rw [this,Oc _ h]
theorem OU (ns:List Int):J1 (ns.map D.int)=some ((Dm ns).map D.int):=by
 unfold J1;rw [JT]
def J5 (ps:List (Int×Int)):List (List Key×D):=ps.map λx=>(L9 (nrm x),.bl true)
theorem ZF (ps:List (Int×Int)) (x:Int×Int):(Av (J5 ps) (L9 (nrm x))).isSome=decide (nrm x∈ps.map nrm):=by
 unfold Av J5
 induction ps with
 | nil=>rfl
 | cons y ps ih=>
  rw [Az,BP]
  by_cases e:L9 (nrm y)=L9 (nrm x)
  ·rw [wX e]
   simp [Sz e]
  ·rw [wY e]
   have e':nrm x≠nrm y:=λz=>e (by rw [z])
   simp only [Az,Ay,e',false_or];exact ih
theorem ZE (ps:List (Int×Int)) (x:Int×Int) (h:nrm x∉ps.map nrm):B3 (J5 ps) (L9 (nrm x)) (.bl true)=J5 (ps++[x]):=by
 unfold B3;rw [qY]
 ·simp [J5]
 ·intro z
  obtain ⟨y,hy,e⟩:=FE.mp z;obtain ⟨a,ha,rfl⟩:=Af.mp hy;exact h (by rw [<-Sz (of_decide_eq_true e)];exact WL ha)
theorem kK {S:Sto} {n:Nat} {kvs:List (List Key×D)} {x:Int×Int} (h:S[n]?=some (.dT kvs)) (neg:Bool):inA neg (pairD x) (.ref n) S=.ok (.bl (if neg then !(Av kvs (L9 x)).isSome else (Av kvs (L9 x)).isSome)) S:=by
 show FW (inD neg (pairD x) (.ref n) S) (Jb neg (pairD x) (.ref n) S)=_
 have e:inD neg (pairD x) (.ref n) S=.bad:=by
  unfold inD Eu;dsimp only;rw [h]
 have e2:Ke (.ref n) (pairD x) S=some (Av kvs (L9 x)):=by
  unfold Ke pairD;dsimp only;rw [h];rfl
 rw [e];show Jb neg (pairD x) (.ref n) S=_;unfold Jb;rw [e2]
theorem Zy {mo mi mv:ME} {e:Lo} {S:Sto} {d:Nat} {kvs:List (List Key×D)} {x:Int×Int} {v:D} (hv:mv e S=.ok v S) (ho:mo e S=.ok (.ref d) S) (hi:mi e S=.ok (pairD x) S) (h:S[d]?=some (.dT kvs)) (hl:kvs.length < sizeLine) :
  DH mo mi mv e S=.ok (.nx e) (S.set d (.dT (B3 kvs (L9 x) v))):=by
 unfold DH;rw [hv];dsimp only [Res.lift];rw [ho];dsimp only [Res.lift];rw [hi];dsimp only [Res.lift]
 have:Py (.ref d) (pairD x) v S=some (S.set d (.dT (B3 kvs (L9 x) v))):=by
  unfold Py pairD;dsimp only;rw [h];show (if kvs.length < sizeLine then some (S.set d (.dT (B3 kvs (L9 x) v))) else none)=_;rw [qX hl]
 rw [this]
theorem ix0 (x:Int×Int) (S:Sto):ixA (pairD x) (.int 0) S=.ok (.int x.1) S:=rfl
theorem ix1 (x:Int×Int) (S:Sto):ixA (pairD x) (.int 1) S=.ok (.int x.2) S:=rfl
def Fit (p:Int) (x:Int×Int):Prop:=(nrm x).1≠(nrm x).2/\0<=(nrm x).1/\(nrm x).2 < p
abbrev iq (W:Wd):MS:=BI (Bk 5 (Gz (AI (mQ NN (AI (AB 3) (AI (AB 4) Aw))) (AI (mQ NO (AI (AB 3) (AI (AB 4) Aw))) Aw))))
  (BI (sIf (mB (m2 (eqD false) (m2 ixA (AB 5) (mC (.int 0))) (m2 ixA (AB 5) (mC (.int 1))))) Pq sNx)
  (BI (sIf (mOr (mB (m2 ltD (m2 ixA (AB 5) (mC (.int 0))) (mC (.int 0)))) (mB (m2 geD (m2 ixA (AB 5) (mC (.int 1))) (AB 0)))) Pq sNx)
  (BI (sIf (mB (m2 (inA false) (AB 5) (AB 2))) Pq sNx)
  (DH (AB 2) (AB 5) (mC (.bl true))))))
theorem Nz {t:MT} {a:MS} {e:Lo} {S:Sto} (h:t e S=.ok false S):sIf t a sNx e S=.ok (.nx e) S:=(Dd (a:=a) (b:=sNx) h).trans rfl
theorem YR {W:Wd} {p:Int} {t:D} {n:Nat} {S:Sto} {x:Int×Int} {z5:Option D} {ps:List (Int×Int)} (hn:S[n]?=some (.dT (J5 ps))) (hl:ps.length<=100000) (hf:Fit p x) (f4:nrm x∉ps.map nrm) :
  iq W [sI p,some t,sR n,sI x.1,sI x.2,z5] S=oN [sI p,some t,sR n,sI x.1,sI x.2,some (pairD (nrm x))] (S.set n (.dT (J5 (ps++[x])))):=by
 have e0:Bk 5 (Gz (AI (mQ NN (AI (AB 3) (AI (AB 4) Aw))) (AI (mQ NO (AI (AB 3) (AI (AB 4) Aw))) Aw))) [sI p,some t,sR n,sI x.1,sI x.2,z5] S =
   oN [sI p,some t,sR n,sI x.1,sI x.2,some (pairD (nrm x))] S:=
  C4 (i:=5) (Mi (ds:=[.int (nrm x).1,.int (nrm x).2]) (Bc (Yk (ds:=[.int x.1,.int x.2]) (S1:=S) rfl rfl) (Bc (Yk (ds:=[.int x.1,.int x.2]) (S1:=S) rfl rfl) rfl)) (by simp))
 obtain ⟨f1,f2,f3⟩:=hf;refine (A3 e0).trans ((A3 (Nz (Gf (BL (BL rfl rfl (ix0 _ _)) (BL rfl rfl (ix1 _ _)) (LG (wY f1)))))).trans ((A3 (Nz ((Q8 (Gf (BL (BL rfl rfl (ix0 _ _)) rfl (Ov (wY (by omega)))))).trans (Gf (BL (BL rfl rfl (ix1 _ _)) rfl (iX (wY (by omega)))))))).trans ((A3 (Nz (Gf (BL rfl rfl ?_)))).trans ?_)))
 ·rw [kK hn,ZF,wY f4]
  rfl
 ·rw [Zy (x:=nrm x) rfl rfl rfl hn (by unfold J5;rw [AE];exact A6 hl (by decide)),ZE _ _ f4]
theorem XM {m:ME} {e:Lo} {S S1:Sto} {d:D} {xs:List D} (h:m e S=.ok d S1) (hx:Em d S1=some xs):E9 m e S=.ok (Em d) S1:=by
 unfold E9;rw [h];dsimp only [Res.bind];rw [hx]
def FB (p:Int) (ps:List (Int×Int)):Prop:=(∀x∈ps,Fit p x)/\(ps.map nrm).Nodup
theorem FB.snoc {p:Int} {ps:List (Int×Int)} {x:Int×Int}:FB p (ps++[x])↔FB p ps/\Fit p x/\nrm x∉ps.map nrm:=by
 unfold FB;rw [A2,CI]
 constructor
 ·rintro ⟨h1,h2,h3,h4⟩
  exact ⟨⟨λy hy=>h1 y (by simp [hy]),h2⟩,h1 x (by simp),λz=>h4 _ z _ (by simp) rfl⟩
 ·rintro ⟨⟨h1,h2⟩,h3,h4⟩
  refine ⟨λy hy=>?_,h2,by simp,λa ha b hb e=>?_⟩
  ·rcases Ai.mp hy with hy | hy
   ·exact h1 y hy
   ·rw [AQ.mp hy];exact h3
  ·simp at hb
   subst hb;subst e;exact h4 ha
theorem FB.take {p:Int} {ps:List (Int×Int)} (h:FB p ps) (i:Nat):FB p (ps.take i):=by
 refine ⟨λx hx=>h.1 x (U1 hx),?_⟩;rw [List.map_take];exact h.2.sublist (X1 _ _)
theorem take_snoc {α:Type} {l:List α} {i:Nat} {x:α} (h:l[i]?=some x):l.take (i+1)=l.take i++[x]:=by
 rw [NE,h];rfl
theorem RZ (W:Wd) {p:Int} {d:D} {S:Sto} {ps:List (Int×Int)} (hv:∀S',Keeps S S'->Em d S'=some (ps.map pairD)) (hl:ps.length<=100000) (hf:FB p ps) :
  ∃z3 z4 z5,GD (E9 (AB 1)) (E5 2 (Bn (tgN 3) (Bn (tgN 4) FH))) (iq W) [sI p,some d,sR S.length,none,none,none] (S++[.dT []])=oN [sI p,some d,sR S.length,z3,z4,z5] (S++[.dT (J5 ps)]):=by
 rw [ET (XM (m:=AB 1) (d:=d) (S1:=S++[.dT []]) rfl (hv _ (Keeps.app _ _)))]
 obtain ⟨f,S',h,z3,z4,z5,rfl,rfl⟩:=FZ (v:=Em d) (g:=E5 2 (Bn (tgN 3) (Bn (tgN 4) FH))) (b:=iq W) (xs:=ps.map pairD) (e:=[sI p,some d,sR S.length,none,none,none]) (S:=S++[.dT []]) (λi e S'=>(∃z3 z4 z5,e=[sI p,some d,sR S.length,z3,z4,z5])/\S'=S++[.dT (J5 (ps.take i))]) (λf S'=>∃z3 z4 z5,f=.nx [sI p,some d,sR S.length,z3,z4,z5]/\S'=S++[.dT (J5 ps)]) ⟨⟨none,none,none,rfl⟩,by simp [J5]⟩ (by rintro i e S' ⟨_,rfl⟩;exact hv _ (Keeps.app _ _))
  (by
   rintro i y e S' hy ⟨⟨z3,z4,z5,rfl⟩,rfl⟩;rw [AO] at hy
   cases hx:ps[i]? with
   | none=>rw [hx] at hy;cases hy
   | some x=>
    rw [hx] at hy;cases hy;have hlt:=(AD.mp hx).1;have af:=hf.take (i+1);rw [take_snoc hx] at af;obtain ⟨_,c1,c2⟩:=FB.snoc.mp af;refine ⟨[sI p,some d,sR S.length,sI x.1,sI x.2,z5],_,rfl,_,_,YR (W:=W) (p:=p) (t:=d) (z5:=z5) (x:=x) (B1 S (.dT (J5 (ps.take i)))) (by rw [Dy];omega) c1 c2,⟨_,_,_,rfl⟩,?_⟩;rw [take_snoc hx]
    simp)
  (by
   rintro e S' ⟨⟨z3,z4,z5,rfl⟩,rfl⟩;rw [AE,DK]
   exact ⟨_,_,_,rfl,rfl⟩)
 exact ⟨z3,z4,z5,h⟩
def IT (ps:List (Int×Int)):List (List Int):=Gw (ps.map λx=>Lq (nrm x))
theorem Ra (W:Wd) {p:Int} {d:D} {S:Sto} {ps:List (Int×Int)} (hv:∀S',Keeps S S'->Em d S'=some (ps.map pairD)) (hl:ps.length<=100000) (hf:FB p ps) :
  ∃S',Ft W [.int p,d] S=.ok (.tup ((IT ps).map CS)) S'/\Keeps S S':=by
 obtain ⟨z3,z4,z5,h1⟩:=RZ W hv hl hf
 ·have hi:HF (.ref S.length) (S++[.dT (J5 ps)])=some ((ps.map λx=>Lq (nrm x)).map CS):=by
   unfold HF;dsimp only;rw [B1];dsimp only;unfold J5;rw [At,At];rfl
  have hs:=HY (m:=AB 2) (e:=[sI p,some d,sR S.length,z3,z4,z5]) (S:=S++[.dT (J5 ps)]) rfl hi (OT _ (by intro r hr;obtain ⟨x,_,rfl⟩:=Af.mp hr;simp [Lq]));refine ⟨S++[.dT (J5 ps)]++[.lst ((IT ps).map CS)],C6 ?_,(Keeps.app S _).trans (Keeps.app _ _)⟩;refine DD (A3 (e:=[sI p,some d,none,none,none,none]) (e1:=[sI p,some d,sR S.length,none,none,none]) (S:=S) (S1:=S++[.dT []]) rfl) ?_;refine DD (A3 h1) ?_;exact HA (Hg hs (Ce (B1 _ _)))
end M
namespace M
open PySem L2
def CJ (ts:List (Int×Int)) (x:Nat):List Int:=ts.flatMap λt=>(if t.1=(x:Int) then [t.2] else [])++(if t.2=(x:Int) then [t.1] else [])
theorem Sq (ts:List (Int×Int)) (t:Int×Int) (x:Nat):CJ (ts++[t]) x=CJ ts x++((if t.1=(x:Int) then [t.2] else [])++(if t.2=(x:Int) then [t.1] else [])):=by
 unfold CJ;rw [WP];simp
def Fo (p:Nat) (F:Nat->List Int):Sto:=(BN p).map λx=>Ob.lst ((F x).map D.int)
def En (k p:Nat):List D:=(BN p).map λx=>D.ref (k+x)
def stN (S:Sto) (p:Nat) (F:Nat->List Int):Sto:=S++Fo p F++[.lst (En S.length p)]
theorem Hh (p:Nat) (F:Nat->List Int):(Fo p F).length=p:=by simp [Fo]
theorem Q0 (S:Sto) (p:Nat) (F:Nat->List Int):(stN S p F).length=S.length+p+1:=by simp [stN,Hh];lia
theorem Mm (S:Sto) (p:Nat) (F:Nat->List Int):Keeps S (stN S p F):=(Keeps.app S _).trans (Keeps.app _ _)
theorem Jw (S:Sto) (p:Nat) (F:Nat->List Int):(stN S p F)[S.length+p]?=some (.lst (En S.length p)):=by
 have:S.length+p=(S++Fo p F).length:=by simp [Hh]
 unfold stN;rw [this];exact B1 _ _
theorem JK (S:Sto) {p a:Nat} (F:Nat->List Int) (h:a < p):(stN S p F)[S.length+a]?=some (.lst ((F a).map D.int)):=by
 unfold stN;rw [BG,BE (by lia),Ab (by rw [Hh];lia),show S.length+a - S.length=a by lia];unfold Fo;rw [AO,Bh h];rfl
theorem VR (S:Sto) {p a:Nat} (F:Nat->List Int) (ys:List Int) (h:a < p):(stN S p F).set (S.length+a) (.lst (ys.map D.int))=stN S p (λx=>if x=a then ys else F x):=by
 apply Cz
 intro j
 by_cases e:S.length+a=j
 ·subst e
  rw [Al (by rw [Q0];lia),JK _ _ h,qX rfl]
 ·rw [AT e]
  by_cases h1:j < S.length
  ·rw [(Mm S p F).2 j h1,(Mm S p _).2 j h1]
  by_cases h2:j - S.length < p
  ·have e2:j=S.length+(j - S.length):=by lia
   rw [e2,JK S F h2,JK S _ h2,qY (by lia)]
  by_cases h3:j=S.length+p
  ·subst h3
   rw [Jw,Jw]
  ·rw [BO (by rw [Q0];lia),BO (by rw [Q0];lia)]
theorem Vg {S:Sto} {p a:Nat} (F:Nat->List Int) (h:a < p):ixA (.ref (S.length+p)) (.int a) (stN S p F)=.ok (.ref (S.length+a)) (stN S p F):=by
 show FW (ixD _ _ _) _=_;have e1:Eu (.ref (S.length+p)) (stN S p F)=some (En S.length p):=Ce (Jw S p F)
 have e2:atI (En S.length p) (a:Int)=some (.ref (S.length+a)):=by
  unfold atI ixN;rw [show (En S.length p).length=p by simp [En],qX (by lia),qX (by lia)];simp only [As,B9];unfold En;rw [AO,Bh h];rfl
 have:ixD (.ref (S.length+p)) (.int a) (stN S p F)=.ok (.ref (S.length+a)) (stN S p F):=by
  unfold ixD;rw [e1];dsimp only;rw [e2]
 rw [this];rfl
theorem YU (S:Sto):∀p:Nat,S++Fo (p+1) (λ_=>[])=S++Fo p (λ_=>[])++[.lst []]:=λp=>by
 unfold Fo;rw [Ju,A2,BG];rfl
theorem Wq {p:Nat} (hp:p<=60) {mp:ME} {e:Lo} {S:Sto} (h0:mp e S=.ok (.int p) S) :
  FI 1 (iR1 (AI mp Aw)) (tgN 0) G3 (DT (Cw Aw)) e S=.ok (En S.length p) (S++Fo p λ_=>[]):=by
 have hi:iR1 (AI mp Aw) e S=.ok (Dc (DA 0 p)) S:=by
  have:=LD (ml:=AI mp Aw) (e:=e) (S:=S) (S1:=S) (j:=p) (Bc h0 rfl) (by lia) (by lia);simpa using this
 obtain ⟨r,S1,q1,e',⟨z,_⟩,rfl,rfl⟩:=RX (v:=Dc (DA 0 p)) (g:=tgN 0) (c:=G3) (m:=DT (Cw Aw)) (xs:=DA 0 p) (e:=none :: e) (S:=S)
  (λi e' S' acc=>(∃z,e'=z :: e)/\S'=S++Fo i (λ_=>[])/\acc=En S.length i)
  ⟨⟨none,rfl⟩,by simp [Fo],rfl⟩ (λ_ _ _ _ _=>rfl)
  (by
   rintro i d e' S' acc hd ⟨⟨z,rfl⟩,rfl,rfl⟩;obtain ⟨hi,rfl⟩:=Iv hd;refine ⟨by simp [En];exact A6 (m:=60) (by lia) (by decide),some (.int (0+i)) :: e,_,rfl,true,_,rfl,.inl ⟨rfl,.ref (S++Fo i λ_=>[]).length,_,rfl,⟨_,rfl⟩,(YU S i).symm,?_⟩⟩;unfold En;rw [Ju,A2,Ah,Hh]
   rfl)
 rw [Ha] at q1;exact (N7 hi).trans q1
abbrev V4:MS:=BI (CB (FY (m2 ixA (AB 2) (AB 3)) (AB 4))) (CB (FY (m2 ixA (AB 2) (AB 4)) (AB 3)))
def In (p:Nat) (t:Int×Int):Prop:=0<=t.1/\t.1 < p/\0<=t.2/\t.2 < p/\t.1≠t.2
theorem Wp {p:Nat} {S:Sto} {F:Nat->List Int} {t:Int×Int} {d0 d1:D} (ht:In p t) (hF:∀x,(F x).length < 200000) :
  V4 [some d0,some d1,sR (S.length+p),sI t.1,sI t.2] (stN S p F)=.ok (.nx [some d0,some d1,sR (S.length+p),sI t.1,sI t.2])
   (stN S p λx=>F x++((if t.1=(x:Int) then [t.2] else [])++(if t.2=(x:Int) then [t.1] else []))):=by
 obtain ⟨a,ha⟩:∃a:Nat,t.1=a:=⟨t.1.toNat,by have:=ht.1;lia⟩
 obtain ⟨b,hb⟩:∃b:Nat,t.2=b:=⟨t.2.toNat,by have:=ht.2.2.1;lia⟩
 obtain ⟨_,h2,_,h4,h5⟩:=ht
 have hab:a≠b:=λe=>h5 (by rw [ha,hb,e])
 rw [ha,hb]
 have hz:∀x,((F x).map D.int).length < sizeLine:=λx=>by rw [AE];exact jS (hF x) (by decide)
 have s1:=Hs (mo:=m2 ixA (AB 2) (AB 3)) (ma:=AB 4) (e:=[some d0,some d1,sR (S.length+p),sI a,sI b]) (S:=stN S p F) (S1:=stN S p F) (S2:=stN S p F) (n:=S.length+a) (y:=.int b) (BL rfl rfl (Vg F (by lia))) (JK S F (by lia)) rfl (JK S F (by lia)) (hz a);rw [show (F a).map D.int++[D.int b]=(F a++[(b:Int)]).map D.int by simp,VR S F _ (by lia)] at s1
 have hrow:(stN S p λx=>if x=a then F a++[(b:Int)] else F x)[S.length+b]?=some (.lst ((F b).map D.int)):=by
  rw [JK S _ (by lia),qY (Bx hab)]
 have s2:=Hs (mo:=m2 ixA (AB 2) (AB 4)) (ma:=AB 3) (e:=[some d0,some d1,sR (S.length+p),sI a,sI b]) (S:=stN S p λx=>if x=a then F a++[(b:Int)] else F x) (S1:=stN S p λx=>if x=a then F a++[(b:Int)] else F x) (S2:=stN S p λx=>if x=a then F a++[(b:Int)] else F x) (n:=S.length+b) (y:=.int a) (BL rfl rfl (Vg _ (by lia))) hrow rfl hrow (hz b);rw [show (F b).map D.int++[D.int a]=(F b++[(a:Int)]).map D.int by simp,VR S _ _ (by lia)] at s2;unfold V4;rw [A3 (C9 s1),C9 s2]
 congr 2
 funext x
 by_cases e1:x=b
 ·subst e1
  have:¬((a:Int)=(x:Int)):=by lia
  simp [this]
 ·by_cases e2:x=a
  ·subst e2
   have:¬((b:Int)=(x:Int)):=by lia
   simp [e1,this]
  ·have h1:¬((a:Int)=(x:Int)):=by lia
   have h2:¬((b:Int)=(x:Int)):=by lia
   simp [e1,e2,h1,h2]
theorem UM (ts:List (Int×Int)) (x:Nat):(CJ ts x).length<=2 * ts.length:=by
 unfold CJ
 induction ts with
 | nil=>simp
 | cons t ts ih=>
  rw [List.flatMap_cons,Ah,A8]
  have:((if t.1=(x:Int) then [t.2] else [])++(if t.2=(x:Int) then [t.1] else [])).length<=2:=by split <;> split <;> simp
  lia
def Fn (p:Nat) (ts:List (Int×Int)):List D:=(BN p).map λx=>.tup ((Dm (CJ ts x)).map D.int)
theorem cU (W:Wd) {p:Nat} (hp:p<=60) {ts:List (Int×Int)} (ht:∀t∈ts,In p t) (hl:ts.length<=90000) (S:Sto) :
  ∃S',Fq W [.int p,.tup (ts.map pairD)] S=.ok (.tup (Fn p ts)) S'/\Keeps S S':=by
 have a1:=C4 (i:=2) (Mz (Wq hp (mp:=AB 0) (e:=[sI p,some (.tup (ts.map pairD)),none,none,none]) (S:=S) rfl));have e1:(S++Fo p λ_=>[])++[.lst (En S.length p)]=stN S p (CJ []):=rfl
 have e2:(S++Fo p λ_=>[]).length=S.length+p:=by simp [Hh]
 rw [e1,e2] at a1
 obtain ⟨f,S1,h1,⟨z3,z4,rfl⟩,rfl⟩:=FZ (v:=Dc (ts.map pairD)) (g:=E5 2 (Bn (tgN 3) (Bn (tgN 4) FH))) (b:=V4) (xs:=ts.map pairD) (e:=[sI p,some (.tup (ts.map pairD)),sR (S.length+p),none,none]) (S:=stN S p (CJ []))
  (λi e S'=>(∃z3 z4,e=[sI p,some (.tup (ts.map pairD)),sR (S.length+p),z3,z4])/\S'=stN S p (CJ (ts.take i)))
  (λf S'=>(∃z3 z4,f=.nx [sI p,some (.tup (ts.map pairD)),sR (S.length+p),z3,z4])/\S'=stN S p (CJ ts))
  ⟨⟨none,none,rfl⟩,rfl⟩ (λ_ _ _ _=>rfl)
  (by
   rintro i y e S' hy ⟨⟨z3,z4,rfl⟩,rfl⟩;rw [AO] at hy
   cases hx:ts[i]? with
   | none=>rw [hx] at hy;cases hy
   | some t=>
    rw [hx] at hy;cases hy;refine ⟨[sI p,some (.tup (ts.map pairD)),sR (S.length+p),sI t.1,sI t.2],_,rfl,_,_,Wp (ht t (BD hx)) (λx=>?_),⟨_,_,rfl⟩,?_⟩
    ·have:=UM (ts.take i) x
     rw [Dy] at this;exact A6 (A0 this (Nat.mul_le_mul_left 2 (A0 (aQ _ _) hl))) (by decide)
    ·rw [take_snoc hx,show CJ (ts.take i++[t])=_ from funext λx=>Sq _ _ x])
  (by
   rintro e S' ⟨⟨z3,z4,rfl⟩,rfl⟩;rw [AE,DK]
   exact ⟨⟨_,_,rfl⟩,rfl⟩)
 have a2:=(ET (g:=E5 2 (Bn (tgN 3) (Bn (tgN 4) FH))) (b:=V4) (MB (m:=AB 1) (e:=[sI p,some (.tup (ts.map pairD)),sR (S.length+p),none,none]) (S:=stN S p (CJ [])) (S1:=stN S p (CJ [])) (xs:=ts.map pairD) rfl)).trans h1
 obtain ⟨r,S2,q1,e',⟨z,_⟩,K,rfl⟩:=RX (v:=Em (.ref (S.length+p))) (g:=tgN 0) (c:=G3) (m:=FX (Di (AB 0))) (xs:=En S.length p) (e:=[none,sI p,some (.tup (ts.map pairD)),sR (S.length+p),z3,z4]) (S:=stN S p (CJ ts))
  (λi e' S' acc=>(∃z,e'=[z,sI p,some (.tup (ts.map pairD)),sR (S.length+p),z3,z4])/\Keeps (stN S p (CJ ts)) S'/\acc=(BN i).map λx=>.tup ((Dm (CJ ts x)).map D.int))
  ⟨⟨none,rfl⟩,.refl _,rfl⟩ (λi e' S' acc h=>ED (h.2.1.at (Jw S p _)))
  (by
   rintro i d e' S' acc hd ⟨⟨z,rfl⟩,K,rfl⟩
   have hi:i < p:=by
    have:=(AD.mp hd).1;simpa [En] using this
   unfold En at hd;rw [AO,Bh hi] at hd;cases hd;have hit:HF (.ref (S.length+i)) S'=some ((CJ ts i).map D.int):=LC (K.at (JK S _ hi));have hs:=HY (m:=AB 0) (e:=[sR (S.length+i),sI p,some (.tup (ts.map pairD)),sR (S.length+p),z3,z4]) (S:=S') (S1:=S') rfl hit (OU _);refine ⟨by simp;exact A6 (m:=60) (by lia) (by decide),[sR (S.length+i),sI p,some (.tup (ts.map pairD)),sR (S.length+p),z3,z4],_,rfl,true,_,rfl,.inl ⟨rfl,_,_,Hg hs (Ce (B1 _ _)),⟨_,rfl⟩,K.trans (Keeps.app _ _),?_⟩⟩;rw [Ju,A2]
   rfl)
 have a3:=(N7 (n:=1) (g:=tgN 0) (c:=G3) (m:=FX (Di (AB 0))) (Hk (m:=AB 2) (e:=[sI p,some (.tup (ts.map pairD)),sR (S.length+p),z3,z4]) (S:=stN S p (CJ ts)) (S1:=stN S p (CJ ts)) rfl (Jw S p _))).trans q1;rw [show (En S.length p).length=p by simp [En]] at a3;refine ⟨S2++[.lst (Fn p ts)],C6 ?_,((Mm S p _).trans K).trans (Keeps.app _ _)⟩;unfold KN;refine DD (A3 a1) ?_;refine DD (A3 a2) ?_;exact HA (Hg (Mz a3) (Ce (B1 _ _)))
end M
namespace M
open PySem L2
open Srt (ltL)
def toP (r:List Int):Int×Int:=(r.getD 0 0,r.getD 1 0)
def Df (ps:List (Int×Int)):List (Int×Int):=(IT ps).map toP
theorem OS {ps:List (Int×Int)} {r:List Int} (h:r∈IT ps):∃x∈ps,r=Lq (nrm x):=by
 have:=(D6 _).mem_iff.mp h;obtain ⟨x,hx,rfl⟩:=Af.mp this;exact ⟨x,hx,rfl⟩
theorem We (ps:List (Int×Int)):(Df ps).map Lq=IT ps:=by
 unfold Df;rw [At]
 conv=>rhs;rw [<-Ki (IT ps)]
 refine B2 λr hr=>?_
 obtain ⟨x,_,rfl⟩:=OS hr;rfl
theorem OR (ps:List (Int×Int)):(IT ps).map CS=(Df ps).map pairD:=by
 rw [<-We,At];rfl
theorem YN {ps:List (Int×Int)} {t:Int×Int} (h:t∈Df ps):∃x∈ps,t=nrm x:=by
 obtain ⟨r,hr,rfl⟩:=Af.mp h;obtain ⟨x,hx,rfl⟩:=OS hr;exact ⟨x,hx,rfl⟩
theorem Ml (ps:List (Int×Int)):(Df ps).Perm (ps.map nrm):=by
 unfold Df IT;have:=(D6 (ps.map λx=>Lq (nrm x))).map toP;refine this.trans ?_;rw [At];exact U4 rfl
theorem g9 (x:Int×Int):(nrm x).1<=(nrm x).2:=by
 unfold nrm;dsimp only
 split <;> split <;> lia
theorem Fit.in {p:Nat} {x:Int×Int} (h:Fit p x):In p (nrm x):=by
 obtain ⟨h1,h2,h3⟩:=h;have:=g9 x;exact ⟨h2,by lia,by lia,h3,h1⟩
structure Fy (W:Wd) (S:Sto) (q p:Nat) (ts:List (Int×Int)):Prop where
 at_:∃fs:List (Str×D),S[q]?=some (.ins W.Web fs)/\fs.lookup ("places" : Str)=some (.int p)/\fs.lookup ("ties" : Str)=some (.tup (ts.map pairD))/\fs.lookup ("near_sets" : Str)=some (.tup (Fn p ts))
theorem Fy.keeps {W:Wd} {S S':Sto} {q p:Nat} {ts:List (Int×Int)} (h:Fy W S q p ts) (k:Keeps S S'):Fy W S' q p ts:=by
 obtain ⟨fs,h1,h2⟩:=h.at_;exact ⟨fs,k.at h1,h2⟩
theorem Fy.places {W:Wd} {S:Sto} {q p:Nat} {ts:List (Int×Int)} (h:Fy W S q p ts) {m:ME} {e:Lo} {S0:Sto} (hm:m e S0=.ok (.ref q) S):HE W.Web "places" m e S0=.ok (.int p) S:=by
 obtain ⟨fs,h1,h2,_⟩:=h.at_;exact O4 hm h1 h2
theorem Fy.ties {W:Wd} {S:Sto} {q p:Nat} {ts:List (Int×Int)} (h:Fy W S q p ts) {m:ME} {e:Lo} {S0:Sto} (hm:m e S0=.ok (.ref q) S):HE W.Web "ties" m e S0=.ok (.tup (ts.map pairD)) S:=by
 obtain ⟨fs,h1,_,h2,_⟩:=h.at_;exact O4 hm h1 h2
theorem Fy.sets {W:Wd} {S:Sto} {q p:Nat} {ts:List (Int×Int)} (h:Fy W S q p ts) {m:ME} {e:Lo} {S0:Sto} (hm:m e S0=.ok (.ref q) S):HE W.Web "near_sets" m e S0=.ok (.tup (Fn p ts)) S:=by
 obtain ⟨fs,h1,_,_,h2⟩:=h.at_;exact O4 hm h1 h2
theorem kA:¬(("places" : Str) = "ties"):=by decide +kernel
theorem kB:¬(("places" : Str) = "near_sets"):=by decide +kernel
theorem j9:¬(("ties" : Str) = "near_sets"):=by decide +kernel
theorem put2 (a b:D):Nj "ties" b [(("places" : Str),a)]=([("places",a),("ties",b)]:List (Str×D)):=by
 show (if ("places" : Str) = "ties" then _ else _)=_;rw [qY kA];rfl
theorem put3 (a b c:D):Nj "near_sets" c [(("places" : Str),a),("ties",b)]=([("places",a),("ties",b),("near_sets",c)]:List (Str×D)):=by
 show (if ("places" : Str) = "near_sets" then _ else _)=_;rw [qY kB]
 have:Nj "near_sets" c [(("ties" : Str),b)]=([("ties",b),("near_sets",c)]:List (Str×D)):=by
  show (if ("ties" : Str) = "near_sets" then _ else _)=_;rw [qY j9];rfl
 rw [this]
theorem kH (a b c:D):([("places",a),("ties",b),("near_sets",c)]:List (Str×D)).lookup ("places" : Str)=some a:=by
 rw [CW,show (("places" : Str)=="places")=true by decide +kernel]
theorem kG (a b c:D):([("places",a),("ties",b),("near_sets",c)]:List (Str×D)).lookup ("near_sets" : Str)=some c:=by
 rw [CW,show (("near_sets" : Str)=="places")=false by decide +kernel];dsimp only;rw [CW,show (("near_sets" : Str)=="ties")=false by decide +kernel];dsimp only;rw [CW,show (("near_sets" : Str)=="near_sets")=true by decide +kernel]
theorem iA (a b:D):([("places",a),("ties",b)]:List (Str×D)).lookup ("ties" : Str)=some b:=by
 rw [CW,show (("ties" : Str)=="places")=false by decide +kernel];dsimp only;rw [CW,show (("ties" : Str)=="ties")=true by decide +kernel]
end M
namespace M
open PySem L2
theorem Y9 {W:Wd} {S:Sto} {q p:Nat} {ts:List (Int×Int)} (hw:Fy W S q p ts) {x:Int} (h:0<=x/\x < p):DV W [.ref q,.int x] S=.ok .non S:=
 UE (n:=2) (mb:=EY W) (Nz (Oo (b:=true) (Gf (ZO rfl rfl (UR (wX h.1)) (hw.places rfl) (Ov (wX h.2))))))
theorem cV {W:Wd} {S:Sto} {q p:Nat} {ts:List (Int×Int)} (hw:Fy W S q p ts) {x:Nat} (hx:x < p):KH W [.ref q,.int x] S=.ok (.tup ((Dm (CJ ts x)).map D.int)) S:=by
 refine C6 ?_;unfold Rf
 have c:BH 2 (DV W) (AI (AB 0) (AI (AB 1) Aw)) [sR q,sI x] S=.ok .non S:=by
  refine (By (ds:=[.ref q,.int x]) (S1:=S) rfl rfl).trans ?_;exact Y9 hw ⟨by omega,by omega⟩
 refine DD (A3 (e:=[sR q,sI x]) (C9 c)) ?_;refine HA (BL (hw.sets rfl) rfl ?_);show FW (ixD _ _ _) _=_
 have e2:atI (Fn p ts) (x:Int)=some (.tup ((Dm (CJ ts x)).map D.int)):=by
  unfold atI ixN;rw [show (Fn p ts).length=p by simp [Fn],qX (by omega),qX (by omega)];simp only [As,B9];unfold Fn;rw [AO,Bh hx];rfl
 have:ixD (.tup (Fn p ts)) (.int x) S=.ok (.tup ((Dm (CJ ts x)).map D.int)) S:=by
  show (match atI (Fn p ts) (x:Int) with | some d=>Res.ok d S | none=>.bad)=_;rw [e2]
 rw [this];rfl
end M
namespace M
open PySem L2
open Srt (ltL)
theorem V0 (W:Wd) (ns:List Int) (k:Nat) (S:Sto):∃h:Int,DJ W [.fro (ns.map D.int),.int k] S=.ok (.int h) S:=by
 by_cases hk:k < ns.length
 ·refine ⟨ns[k],C6 ?_⟩
  unfold Hr;have t:mB (m2 ltD (AB 1) (HD (AB 0))) (Cv 2 [.fro (ns.map D.int),.int k]) S=.ok true S:=Gf (BL rfl (JQ (d:=.fro (ns.map D.int)) rfl rfl) (Ov (wX (by simp;omega))));refine Mo (DD (Dd t) ?_);rw [qX rfl];refine HA (BL rfl rfl (RK (ds:=ns.map D.int) rfl (by lia) ?_));simp [hk]
 ·refine ⟨0,C6 ?_⟩
  unfold Hr;have t:mB (m2 ltD (AB 1) (HD (AB 0))) (Cv 2 [.fro (ns.map D.int),.int k]) S=.ok false S:=Gf (BL rfl (JQ (d:=.fro (ns.map D.int)) rfl rfl) (Ov (wY (by simp;lia))));refine DD (A3 (DD (Dd t) rfl)) ?_;rfl
theorem RF {i j:Int} {S:Sto} (h:-1000000000000<=j) (h1:j<=1000000000000):Op (.int i) (.int j) S=.ok (.int (i * j)) S:=by
 show (if Xl i j then _ else _)=_;rw [qX (.inr ⟨X5 (by decide) h,X6 h1 (by decide)⟩)]
theorem L1 (W:Wd) (c s:Int):∃v:Int,0<=v/\v < 2147483629/\∀S,Bu W [.int c,.int s] S=.ok (.int v) S:=by
 have h0:=Pe ((c % 2147483647+s) * 48271) (show (2147483647:Int)≠0 by decide);have h1:=Mc ((c % 2147483647+s) * 48271) (show (0:Int) < 2147483647 by decide);refine ⟨(c % 2147483647+s) * 48271 % 2147483647 * ((c % 2147483647+s) * 48271 % 2147483647) % 2147483629,Pe _ (by decide),Mc _ (by decide),λS=>C6 ?_⟩;unfold MK
 have s1:Bk 2 (m2 Dg (m2 Op (m2 Fx (m2 Dg (AB 0) (mC (.int 2147483647))) (AB 1)) (mC (.int 48271))) (mC (.int 2147483647))) (Cv 3 [.int c,.int s]) S=oN [sI c,sI s,sI ((c % 2147483647+s) * 48271 % 2147483647)] S:=
  C4 (i:=2) (BL (BL (BL (BL rfl rfl (Dh (by decide))) rfl rfl) rfl (RF (by decide) (by decide))) rfl (Dh (by decide)))
 rw [A3 s1]
 generalize (c % 2147483647+s) * 48271 % 2147483647=m at *
 exact HA (BL (BL rfl rfl (RF (by lia) (by lia))) rfl (Dh (by decide)))
abbrev eR:MS:=BI (Bk 4 (N1 (AB 0) (On (m2 Fx (AB 1) (AB 3))) Va (On (mC (.int 24)))))
  (sIf (mB (m2 (eqD true) (AB 4) (DT (Cw Aw)))) (CB (FY (AB 2) (UQ (AB 4)))) sNx)
theorem fh {m:ME} {e:Lo} {S S1:Sto} {n:Nat} {ns:List Int} (h:m e S=.ok (.ref n) S1) (hn:S1[n]?=some (.lst (ns.map D.int))):UQ m e S=.ok (.int (bS ns)) S1:=by
 unfold UQ;rw [h];dsimp only [Res.bind];rw [J8 hn];dsimp only;rw [JT]
theorem Wz {S:Sto} {ns ps:List Int} {n:Nat} {s k:Int} {z4:Option D} (hn:S[n]?=some (.lst (ps.map D.int))) (hl:ps.length<=1000) :
  ∃(S':Sto) (z:Option D) (qs:List Int),eR [sF ns,sI s,sR n,sI k,z4] S=oN [sF ns,sI s,sR n,sI k,z] S'/\S'[n]?=some (.lst (qs.map D.int))/\ps.length<=qs.length/\qs.length<=ps.length+1/\S.length<=S'.length/\∀j,j < S.length->j≠n->S'[j]?=S[j]?:=by
 have hlt:n < S.length:=(AD.mp hn).1
 have s1:Bk 4 (N1 (AB 0) (On (m2 Fx (AB 1) (AB 3))) Va (On (mC (.int 24)))) [sF ns,sI s,sR n,sI k,z4] S=oN [sF ns,sI s,sR n,sI k,sR S.length] (S++[.lst ((pickG ns (some (s+k)) none (some 24)).map D.int)]):=by
  refine C4 (i:=4) ?_;rw [<-W0];rfl
 generalize pickG ns (some (s+k)) none (some 24)=cs at s1;have hc:=B1 S (.lst (cs.map D.int));have K1:Keeps S (S++[.lst (cs.map D.int)]):=Keeps.app _ _
 have e1:(S++[Ob.lst (cs.map D.int)]).length=S.length+1:=by simp
 generalize S++[Ob.lst (cs.map D.int)]=S1 at s1 hc K1 e1
 have t:mB (m2 (eqD true) (AB 4) (DT (Cw Aw))) [sF ns,sI s,sR n,sI k,sR S.length] S1=.ok (!cs.isEmpty) (S1++[.lst []]):=by
  refine Gf (BL (S2:=S1++[.lst []]) rfl rfl ?_);rw [ig true ((Keeps.app S1 _).at hc) (B1 _ _)];simp
 have K2:Keeps S (S1++[.lst []]):=K1.trans (Keeps.app _ _);have hc2:=(Keeps.app S1 [.lst []]).at hc;generalize S1++[Ob.lst []]=S2 at t K2 hc2;have hn2:=K2.at hn;have i1:=Dd (a:=CB (FY (AB 2) (UQ (AB 4)))) (b:=sNx) t
 cases hq:cs.isEmpty with
 | true=>
  rw [hq] at i1;refine ⟨S2,_,ps,(A3 s1).trans (i1.trans rfl),hn2,AN _,HJ _,K2.1,λj h1 _=>K2.2 j h1⟩
 | false=>
  rw [hq] at i1;have a1:=Hs (mo:=AB 2) (ma:=UQ (AB 4)) (e:=[sF ns,sI s,sR n,sI k,sR S.length]) (S:=S2) (n:=n) (S1:=S2) (S2:=S2) rfl hn2 (fh rfl hc2) hn2 (by rw [AE];exact A6 hl (by decide));refine ⟨_,_,ps++[bS cs],(A3 s1).trans (i1.trans (C9 a1)),?_,by simp,by simp,by simpa using K2.1,λj h1 h2=>?_⟩
  ·rw [Al (AZ hlt K2.1),A2]
   rfl
  ·rw [AT (Bx h2)]
   exact K2.2 j h1
theorem br (W:Wd) (ns:List Int) (S:Sto):∃(S':Sto) (ps:List Int),IK W [.fro (ns.map D.int),.int 1] S=.ok (.ref S.length) S'/\Keeps S S'/\S'[S.length]?=some (.lst (ps.map D.int))/\1<=ps.length/\ps.length<=25:=by
 have s1:Bk 2 (DT (Cw (AI (HD (AB 0)) Aw))) (Cv 5 [.fro (ns.map D.int),.int 1]) S=oN [sF ns,sI 1,sR S.length,none,none] (S++[.lst ([(ns.length:Int)].map D.int)]):=by
  refine C4 (i:=2) (Mz ?_);unfold Cw;rw [Bc (r:=Aw) (JQ (d:=.fro (ns.map D.int)) (S1:=S) rfl rfl) rfl,AE];rfl
 obtain ⟨f,S1,h1,⟨z3,z4,rfl⟩,K,ps,hn,hl1,hl2⟩:=FZ (v:=Dc (DA 0 24)) (g:=tgN 3) (b:=eR) (xs:=DA 0 24) (e:=[sF ns,sI 1,sR S.length,none,none]) (S:=S++[.lst ([(ns.length:Int)].map D.int)])
  (λi e S'=>(∃z3 z4,e=[sF ns,sI 1,sR S.length,z3,z4])/\Keeps S S'/\∃ps:List Int,S'[S.length]?=some (.lst (ps.map D.int))/\1<=ps.length/\ps.length<=i+1)
  (λf S'=>(∃z3 z4,f=.nx [sF ns,sI 1,sR S.length,z3,z4])/\Keeps S S'/\∃ps:List Int,S'[S.length]?=some (.lst (ps.map D.int))/\1<=ps.length/\ps.length<=25)
  ⟨⟨none,none,rfl⟩,Keeps.app _ _,[(ns.length:Int)],B1 _ _,by simp,by simp⟩ (λ_ _ _ _=>rfl)
  (by
   rintro i d e S' hd ⟨⟨z3,z4,rfl⟩,K,ps,hn,h1,h2⟩;obtain ⟨hi,rfl⟩:=Iv hd;obtain ⟨S2,z,qs,q1,q2,q3,q4,q5,q6⟩:=Wz (S:=S') (ns:=ns) (s:=1) (k:=0+i) (z4:=z4) hn (by lia)
   exact ⟨_,_,rfl,_,_,q1,⟨_,_,rfl⟩,⟨A0 K.1 q5,λj hj=>(q6 j (AZ hj K.1) (by lia)).trans (K.2 j hj)⟩,qs,q2,by lia,by lia⟩)
  (by
   rintro e S' ⟨⟨z3,z4,rfl⟩,K,ps,hn,h1,h2⟩;rw [Ha] at h2
   exact ⟨⟨_,_,rfl⟩,K,ps,hn,h1,by omega⟩)
 refine ⟨S1,ps,C6 ?_,K,hn,hl1,hl2⟩;unfold NV;rw [A3 s1];refine DD (A3 ((ET (LD (j:=24) rfl (by lia) (by lia))).trans h1)) ?_;rfl
end M
namespace M
open PySem L2
def Eb (o j:Nat) (ts:List (Int×Int)):Prop:=(∀x∈ts,0<=x.1/\x.1 < x.2/\(x.2 < o∨x.2=o/\x.1 < j))/\ts.Nodup
theorem Eb.nil (o j:Nat):Eb o j []:=⟨λ_ h=>zX h CD,E4⟩
theorem Eb.skip {o j:Nat} {ts:List (Int×Int)} (h:Eb o j ts):Eb o (j+1) ts:=⟨λx hx=>by
 obtain ⟨h1,h2,h3⟩:=h.1 x hx;refine ⟨h1,h2,?_⟩
 lia,h.2⟩
theorem Eb.add {o j:Nat} {ts:List (Int×Int)} (h:Eb o j ts) (hj:j < o):Eb o (j+1) (ts++[((j:Int),(o:Int))]):=by
 refine ⟨λx hx=>?_,?_⟩
 ·rcases Ai.mp hx with hx | hx
  ·exact h.skip.1 x hx
  ·rw [AQ.mp hx]
   dsimp only
   lia
 ·rw [CI]
  refine ⟨h.2,by simp,λx hx y hy e=>?_⟩;rw [AQ.mp hy] at e;subst e;have:=(h.1 _ hx).2.2;dsimp only at this
  lia
theorem Eb.next {o:Nat} {ts:List (Int×Int)} (h:Eb o o ts):Eb (o+1) 0 ts:=⟨λx hx=>by
 obtain ⟨h1,h2,h3⟩:=h.1 x hx;refine ⟨h1,h2,?_⟩
 lia,h.2⟩
theorem Y7 {x:Int×Int} (h:x.1 < x.2):nrm x=x:=by
 unfold nrm;rw [qY (by lia),qX (by omega)]
theorem Eb.nrm {o j:Nat} {ts:List (Int×Int)} (h:Eb o j ts):ts.map M.nrm=ts:=by
 conv=>rhs;rw [<-Ki ts]
 exact B2 λx hx=>Y7 (h.1 x hx).2.1
theorem Eb.fit {p:Nat} {ts:List (Int×Int)} (h:Eb p 0 ts):FB p ts:=by
 refine ⟨λx hx=>?_,by rw [h.nrm];exact h.2⟩;obtain ⟨h1,h2,h3⟩:=h.1 x hx;unfold Fit;rw [Y7 h2]
 lia
theorem N8 (S:Sto) (o o':Ob):(S++[o]).set S.length o'=S++[o']:=by simp
abbrev V3 (W:Wd):MS:=BI (Bk 7 (m2 ixA (AB 0) (m2 Dg (AB 4) (HD (AB 0)))))
  (BI (Bk 4 (m2 Fx (AB 4) (mC (.int 1))))
  (sIf (mB (m2 ltD (m2 Dg (BH 2 (Bu W) (AI (AB 7) (AI (m2 Fx (m2 Op (mC (.int 7)) (AB 6)) (m2 Op (mC (.int 61)) (AB 5))) Aw))) (mC (.int 6))) (AB 2))) (CB (FY (AB 3) (Gz (AI (AB 6) (AI (AB 5) Aw))))) sNx))
theorem Wf (W:Wd) {S:Sto} {a:Nat} {pool:List Int} {d1:D} {th at_:Int} {o j:Nat} {z7:Option D} {ts:List (Int×Int)} (ha:S[a]?=some (.lst (pool.map D.int))) (hp:1<=pool.length) (ho:o<=1000) (hj:j < o) (hu:Eb o j ts) (hl:ts.length<=90000) :
  ∃(c:Int) (qs:List (Int×Int)),V3 W [sR a,some d1,sI th,sR S.length,sI at_,sI o,sI j,z7] (S++[.lst (ts.map pairD)])=oN [sR a,some d1,sI th,sR S.length,sI (at_+1),sI o,sI j,sI c] (S++[.lst (qs.map pairD)])/\Eb o (j+1) qs/\qs.length<=ts.length+1:=by
 have ha':=(Keeps.app S [.lst (ts.map pairD)]).at ha;have h0:=Pe at_ (show (pool.length:Int)≠0 by lia);have h1:=Mc at_ (show (0:Int) < pool.length by lia)
 have hlt:(at_ % pool.length).toNat < pool.length:=by lia
 have s1:Bk 7 (m2 ixA (AB 0) (m2 Dg (AB 4) (HD (AB 0)))) [sR a,some d1,sI th,sR S.length,sI at_,sI o,sI j,z7] (S++[.lst (ts.map pairD)])=.ok (.nx [sR a,some d1,sI th,sR S.length,sI at_,sI o,sI j,some (.int pool[(at_ % pool.length).toNat])]) (S++[.lst (ts.map pairD)]):=by
  refine C4 (i:=7) (BL rfl (BL rfl (JQ (d:=.ref a) rfl (Ce ha')) (Dh (by rw [AE];lia))) (ZW ha' (by rw [AE];exact h0) ?_));rw [AE,AO,BM hlt];rfl
 generalize pool[(at_ % pool.length).toNat]=c at s1;have s2:Bk 4 (m2 Fx (AB 4) (mC (.int 1))) [sR a,some d1,sI th,sR S.length,sI at_,sI o,sI j,sI c] (S++[.lst (ts.map pairD)])=oN [sR a,some d1,sI th,sR S.length,sI (at_+1),sI o,sI j,sI c] (S++[.lst (ts.map pairD)]):=rfl;obtain ⟨v,_,_,hv⟩:=L1 W c (7 * j+61 * o)
 have t:mB (m2 ltD (m2 Dg (BH 2 (Bu W) (AI (AB 7) (AI (m2 Fx (m2 Op (mC (.int 7)) (AB 6)) (m2 Op (mC (.int 61)) (AB 5))) Aw))) (mC (.int 6))) (AB 2)) [sR a,some d1,sI th,sR S.length,sI (at_+1),sI o,sI j,sI c] (S++[.lst (ts.map pairD)])=.ok (decide (v % 6 < th)) (S++[.lst (ts.map pairD)]):=
  Gf (BL (BL ((By (ds:=[.int c,.int (7 * j+61 * o)]) (S1:=S++[.lst (ts.map pairD)]) (Bc rfl (Bc (BL (BL rfl rfl (RF (by lia) (by lia))) (BL rfl rfl (RF (by lia) (by lia))) rfl) rfl)) rfl).trans (hv _)) rfl (Dh (by decide))) rfl (Ov rfl))
 have i1:=Dd (a:=CB (FY (AB 3) (Gz (AI (AB 6) (AI (AB 5) Aw))))) (b:=sNx) t
 by_cases c0:v % 6 < th
 ·rw [wX c0,qX rfl] at i1
  have a1:=Hs (mo:=AB 3) (ma:=Gz (AI (AB 6) (AI (AB 5) Aw))) (e:=[sR a,some d1,sI th,sR S.length,sI (at_+1),sI o,sI j,sI c]) (S:=S++[.lst (ts.map pairD)]) (n:=S.length) (S1:=S++[.lst (ts.map pairD)]) (S2:=S++[.lst (ts.map pairD)]) (y:=pairD ((j:Int),(o:Int))) rfl (B1 _ _) (Mi (ds:=[.int j,.int o]) rfl (by simp)) (B1 _ _) (by rw [AE];exact A6 hl (by decide));rw [N8,show ts.map pairD++[pairD ((j:Int),(o:Int))]=(ts++[((j:Int),(o:Int))]).map pairD by simp] at a1;exact ⟨c,_,((A3 s1).trans (A3 s2)).trans (i1.trans (C9 a1)),hu.add hj,by simp⟩
 ·rw [wY c0,qY AX] at i1
  exact ⟨c,ts,((A3 s1).trans (A3 s2)).trans (i1.trans rfl),hu.skip,by lia⟩
theorem YQ (W:Wd) {S:Sto} {a:Nat} {pool:List Int} {d1:D} {th at_:Int} {o:Nat} {z6 z7:Option D} {ts:List (Int×Int)} (ha:S[a]?=some (.lst (pool.map D.int))) (hp:1<=pool.length) (ho:o<=1000) (hu:Eb o 0 ts) (hl:ts.length<=80000) :
  ∃(at':Int) (y6 y7:Option D) (qs:List (Int×Int)),GD (iR1 (AI (AB 5) Aw)) (tgN 6) (V3 W) [sR a,some d1,sI th,sR S.length,sI at_,sI o,z6,z7] (S++[.lst (ts.map pairD)])=oN [sR a,some d1,sI th,sR S.length,sI at',sI o,y6,y7] (S++[.lst (qs.map pairD)])/\Eb (o+1) 0 qs/\qs.length<=ts.length+o:=by
 obtain ⟨f,S1,h1,at',y6,y7,qs,rfl,rfl,q1,q2⟩:=FZ (v:=Dc (DA 0 o)) (g:=tgN 6) (b:=V3 W) (xs:=DA 0 o) (e:=[sR a,some d1,sI th,sR S.length,sI at_,sI o,z6,z7]) (S:=S++[.lst (ts.map pairD)])
  (λi e S'=>∃(at':Int) (y6 y7:Option D) (qs:List (Int×Int)),e=[sR a,some d1,sI th,sR S.length,sI at',sI o,y6,y7]/\S'=S++[.lst (qs.map pairD)]/\Eb o i qs/\qs.length<=ts.length+i)
  (λf S'=>∃(at':Int) (y6 y7:Option D) (qs:List (Int×Int)),f=.nx [sR a,some d1,sI th,sR S.length,sI at',sI o,y6,y7]/\S'=S++[.lst (qs.map pairD)]/\Eb o o qs/\qs.length<=ts.length+o)
  ⟨at_,z6,z7,ts,rfl,rfl,hu,AN _⟩ (λ_ _ _ _=>rfl)
  (by
   rintro i d e S' hd ⟨at',y6,y7,qs,rfl,rfl,q1,q2⟩;obtain ⟨hi,rfl⟩:=Iv hd;obtain ⟨c,rs,k1,k2,k3⟩:=Wf W (d1:=d1) (th:=th) (at_:=at') (z7:=y7) ha hp ho hi q1 (by lia);refine ⟨[sR a,some d1,sI th,sR S.length,sI at',sI o,sI i,y7],_,?_,_,_,k1,_,_,_,rs,rfl,rfl,k2,by lia⟩;show Res.ok [sR a,some d1,sI th,sR S.length,sI at',sI o,sI (0+(i:Int)),y7] _=_
   rw [Nd])
  (by
   rintro e S' ⟨at',y6,y7,qs,rfl,rfl,q1,q2⟩;rw [Ha] at q1 q2
   exact ⟨_,_,_,qs,rfl,rfl,q1,q2⟩)
 have hi:iR1 (AI (AB 5) Aw) [sR a,some d1,sI th,sR S.length,sI at_,sI o,z6,z7] (S++[.lst (ts.map pairD)])=.ok (Dc (DA 0 o)) (S++[.lst (ts.map pairD)]):=by
  have:=LD (ml:=AI (AB 5) Aw) (e:=[sR a,some d1,sI th,sR S.length,sI at_,sI o,z6,z7]) (S:=S++[.lst (ts.map pairD)]) (S1:=S++[.lst (ts.map pairD)]) (j:=o) rfl (by lia) (by lia);simpa using this
 exact ⟨at',y6,y7,qs,(ET hi).trans h1,q1.next,q2⟩
theorem Sw (W:Wd) {S:Sto} {a m:Nat} {pool:List Int} (th:Int) (ha:S[a]?=some (.lst (pool.map D.int))) (hp:1<=pool.length) (hm1:1<=m) (hm:m<=60) :
  ∃ts:List (Int×Int),KI W [.ref a,.int m,.int th] S=.ok (.ref S.length) (S++[.lst (ts.map pairD)])/\Eb m 0 ts/\ts.length<=3600:=by
 obtain ⟨f,S1,h1,at',y5,y6,y7,qs,rfl,rfl,q1,q2⟩:=FZ (v:=Dc (DA 1 (m - 1))) (g:=tgN 5) (b:=GD (iR1 (AI (AB 5) Aw)) (tgN 6) (V3 W)) (xs:=DA 1 (m - 1)) (e:=[sR a,sI m,sI th,sR S.length,sI 0,none,none,none]) (S:=S++[.lst []])
  (λi e S'=>∃(at':Int) (y5 y6 y7:Option D) (qs:List (Int×Int)),e=[sR a,sI m,sI th,sR S.length,sI at',y5,y6,y7]/\S'=S++[.lst (qs.map pairD)]/\Eb (1+i) 0 qs/\qs.length<=60 * i)
  (λf S'=>∃(at':Int) (y5 y6 y7:Option D) (qs:List (Int×Int)),f=.nx [sR a,sI m,sI th,sR S.length,sI at',y5,y6,y7]/\S'=S++[.lst (qs.map pairD)]/\Eb m 0 qs/\qs.length<=3600)
  ⟨0,none,none,none,[],rfl,rfl,Eb.nil _ _,by simp⟩ (λ_ _ _ _=>rfl)
  (by
   rintro i d e S' hd ⟨at',y5,y6,y7,qs,rfl,rfl,q1,q2⟩;obtain ⟨hi,rfl⟩:=Iv hd;obtain ⟨at2,w6,w7,rs,k1,k2,k3⟩:=YQ W (d1:=.int m) (th:=th) (at_:=at') (o:=1+i) (z6:=y6) (z7:=y7) ha hp (by lia) q1 (by lia);refine ⟨[sR a,sI m,sI th,sR S.length,sI at',sI ((1+i:Nat):Int),y6,y7],_,?_,_,_,k1,_,_,_,_,rs,rfl,rfl,k2,by lia⟩;show Res.ok [sR a,sI m,sI th,sR S.length,sI at',sI (1+(i:Int)),y6,y7] _=_;rw [dz]
   rfl)
  (by
   rintro e S' ⟨at',y5,y6,y7,qs,rfl,rfl,q1,q2⟩;rw [Ha] at q1 q2;rw [show 1+(m - 1)=m by lia] at q1
   exact ⟨_,_,_,_,qs,rfl,rfl,q1,by lia⟩)
 have hi:iR2 (AI (mC (.int 1)) (AI (AB 1) Aw)) [sR a,sI m,sI th,sR S.length,sI 0,none,none,none] (S++[.lst []])=.ok (Dc (DA 1 (m - 1))) (S++[.lst []]):=by
  have:=iK (ml:=AI (mC (.int 1)) (AI (AB 1) Aw)) (e:=[sR a,sI m,sI th,sR S.length,sI 0,none,none,none]) (S:=S++[.lst []]) (S1:=S++[.lst []]) (i:=1) (j:=m) rfl (by lia) (by lia) (by lia) (by lia);rw [this,show ((m:Int) - 1).toNat=m - 1 by lia]
 refine ⟨qs,C6 ?_,q1,q2⟩;unfold NU;refine DD (A3 (e:=Cv 8 [.ref a,.int m,.int th]) (e1:=[sR a,sI m,sI th,sR S.length,none,none,none,none]) (S1:=S++[.lst []]) rfl) ?_;refine DD (A3 (e1:=[sR a,sI m,sI th,sR S.length,sI 0,none,none,none]) (S1:=S++[.lst []]) rfl) ?_;refine DD (A3 ((ET hi).trans h1)) ?_;rfl
end M
namespace M
open PySem L2
open Srt (ltL)
theorem Y8 (x:Int×Int):nrm (x.2,x.1)=nrm x:=by
 unfold nrm;dsimp only
 congr 1
 ·split <;> split <;> lia
 ·split <;> split <;> lia
theorem fv {mo:ME} {e:Lo} {S S1:Sto} {n:Nat} {xs:List D} (h:mo e S=.ok (.ref n) S1) (hn:S1[n]?=some (.lst xs)):ZI mo e S=.ok .non (S1.set n (.lst xs.reverse)):=by
 unfold ZI;rw [h];dsimp only [Res.bind]
 have:atL (.ref n) S1=some (n,xs):=by unfold atL;dsimp only;rw [hn]
 rw [this]
abbrev Z6 (W:Wd):MS:=sIf (mB (m2 (eqD false) (m2 Dg (BH 2 (Bu W) (AI (AB 1) (AI (AB 3) Aw))) (mC (.int 2))) (mC (.int 0)))) (CB (FY (AB 2) (m2 ixA (AB 0) (AB 3)))) (CB (FY (AB 2) (Gz (AI (m2 ixA (m2 ixA (AB 0) (AB 3)) (mC (.int 1))) (AI (m2 ixA (m2 ixA (AB 0) (AB 3)) (mC (.int 0))) Aw)))))
theorem Wa (W:Wd) {S:Sto} {t i:Nat} {c:Int} {ts us:List (Int×Int)} {x:Int×Int} (ht:S[t]?=some (.lst (ts.map pairD))) (hx:ts[i]?=some x) (hl:us.length<=90000) :
  ∃y:Int×Int,nrm y=nrm x/\Z6 W [sR t,sI c,sR S.length,sI i] (S++[.lst (us.map pairD)])=oN [sR t,sI c,sR S.length,sI i] (S++[.lst ((us++[y]).map pairD)]):=by
 have ht':=(Keeps.app S [.lst (us.map pairD)]).at ht;obtain ⟨v,_,_,hv⟩:=L1 W c i
 have tt:mB (m2 (eqD false) (m2 Dg (BH 2 (Bu W) (AI (AB 1) (AI (AB 3) Aw))) (mC (.int 2))) (mC (.int 0))) [sR t,sI c,sR S.length,sI i] (S++[.lst (us.map pairD)])=.ok (decide (v % 2=0)) (S++[.lst (us.map pairD)]):=
  Gf (BL (BL ((By (ds:=[.int c,.int i]) (S1:=S++[.lst (us.map pairD)]) rfl rfl).trans (hv _)) rfl (Dh (by decide))) rfl (LG rfl))
 have gx:m2 ixA (AB 0) (AB 3) [sR t,sI c,sR S.length,sI i] (S++[.lst (us.map pairD)])=.ok (pairD x) (S++[.lst (us.map pairD)]):=BL rfl rfl (ZW ht' (by lia) (by rw [AO,B9,hx];rfl));have i1:=Dd (a:=CB (FY (AB 2) (m2 ixA (AB 0) (AB 3)))) (b:=CB (FY (AB 2) (Gz (AI (m2 ixA (m2 ixA (AB 0) (AB 3)) (mC (.int 1))) (AI (m2 ixA (m2 ixA (AB 0) (AB 3)) (mC (.int 0))) Aw))))) tt
 have hz:(us.map pairD).length < sizeLine:=by rw [AE];exact A6 hl (by decide)
 by_cases c0:v % 2=0
 ·rw [wX c0,qX rfl] at i1
  have a1:=Hs (mo:=AB 2) (ma:=m2 ixA (AB 0) (AB 3)) (e:=[sR t,sI c,sR S.length,sI i]) (S:=S++[.lst (us.map pairD)]) (n:=S.length) (S1:=S++[.lst (us.map pairD)]) (S2:=S++[.lst (us.map pairD)]) rfl (B1 _ _) gx (B1 _ _) hz;rw [N8,show us.map pairD++[pairD x]=(us++[x]).map pairD by simp] at a1;exact ⟨x,rfl,i1.trans (C9 a1)⟩
 ·rw [wY c0,qY AX] at i1
  have a1:=Hs (mo:=AB 2) (ma:=Gz (AI (m2 ixA (m2 ixA (AB 0) (AB 3)) (mC (.int 1))) (AI (m2 ixA (m2 ixA (AB 0) (AB 3)) (mC (.int 0))) Aw))) (e:=[sR t,sI c,sR S.length,sI i]) (S:=S++[.lst (us.map pairD)]) (n:=S.length) (S1:=S++[.lst (us.map pairD)]) (S2:=S++[.lst (us.map pairD)]) (y:=pairD (x.2,x.1)) rfl (B1 _ _) (Mi (ds:=[.int x.2,.int x.1]) (Bc (BL gx rfl (ix1 _ _)) (Bc (BL gx rfl (ix0 _ _)) rfl)) (by simp)) (B1 _ _) hz;rw [N8,show us.map pairD++[pairD (x.2,x.1)]=(us++[(x.2,x.1)]).map pairD by simp] at a1;exact ⟨(x.2,x.1),Y8 x,i1.trans (C9 a1)⟩
theorem WZ (W:Wd) {S:Sto} {t:Nat} {ts:List (Int×Int)} (c:Int) (ht:S[t]?=some (.lst (ts.map pairD))) (hl:ts.length<=80000) :
  ∃us:List (Int×Int),DZ W [.ref t,.int c] S=.ok (.ref S.length) (S++[.lst (us.map pairD)])/\(us.map nrm).Perm (ts.map nrm)/\us.length=ts.length:=by
 obtain ⟨f,S1,h1,z3,us,rfl,rfl,q1,q2⟩:=FZ (v:=Dc (DA 0 ts.length)) (g:=tgN 3) (b:=Z6 W) (xs:=DA 0 ts.length) (e:=[sR t,sI c,sR S.length,none]) (S:=S++[.lst []])
  (λi e S'=>∃(z3:Option D) (us:List (Int×Int)),e=[sR t,sI c,sR S.length,z3]/\S'=S++[.lst (us.map pairD)]/\us.map nrm=(ts.take i).map nrm/\us.length=i)
  (λf S'=>∃(z3:Option D) (us:List (Int×Int)),f=.nx [sR t,sI c,sR S.length,z3]/\S'=S++[.lst (us.map pairD)]/\us.map nrm=ts.map nrm/\us.length=ts.length)
  ⟨none,[],rfl,rfl,rfl,rfl⟩ (λ_ _ _ _=>rfl)
  (by
   rintro i d e S' hd ⟨z3,us,rfl,rfl,q1,q2⟩;obtain ⟨hi,rfl⟩:=Iv hd;have hx:ts[i]?=some ts[i]:=BM hi;obtain ⟨y,k1,k2⟩:=Wa W (c:=c) (us:=us) ht hx (by lia);refine ⟨[sR t,sI c,sR S.length,sI i],_,?_,_,_,k2,_,us++[y],rfl,rfl,?_,by simp [q2]⟩
   ·show Res.ok ([sR t,sI c,sR S.length,sI (0+(i:Int))]:Lo) _=_
    rw [Nd]
   ·rw [take_snoc hx,A2,A2,q1]
    simp [k1])
  (by
   rintro e S' ⟨z3,us,rfl,rfl,q1,q2⟩;rw [Ha] at q1 q2;rw [DK] at q1
   exact ⟨_,us,rfl,rfl,q1,q2⟩)
 have hi:iR1 (AI (HD (AB 0)) Aw) [sR t,sI c,sR S.length,none] (S++[.lst []])=.ok (Dc (DA 0 ts.length)) (S++[.lst []]):=by
  have:=LD (ml:=AI (HD (AB 0)) Aw) (e:=[sR t,sI c,sR S.length,none]) (S:=S++[.lst []]) (S1:=S++[.lst []]) (j:=((ts.map pairD).length:Nat)) (Bc (JQ (d:=.ref t) rfl (Ce ((Keeps.app S _).at ht))) rfl) (by lia) (by rw [AE];lia);rw [AE] at this;simpa using this
 have e0:DZ W [.ref t,.int c] S=ER 4 (Gq W) [.ref t,.int c] S:=rfl
 have b2:∀(b:MS),BI (Bk 2 (DT (Cw Aw))) (BI (GD (iR1 (AI (HD (AB 0)) Aw)) (tgN 3) (Z6 W)) b) (Cv 4 [.ref t,.int c]) S=b [sR t,sI c,sR S.length,z3] (S++[.lst (us.map pairD)]):=λb=>by
  refine DD (A3 (e1:=[sR t,sI c,sR S.length,none]) (S1:=S++[.lst []]) rfl) ?_;exact A3 ((ET hi).trans h1)
 have tt:mB (m2 (eqD false) (m2 Dg (AB 1) (mC (.int 2))) (mC (.int 1))) [sR t,sI c,sR S.length,z3] (S++[.lst (us.map pairD)])=.ok (decide (c % 2=1)) (S++[.lst (us.map pairD)]):=Gf (BL (BL rfl rfl (Dh (by decide))) rfl (LG rfl));have i1:=Dd (a:=CB (ZI (AB 2))) (b:=sNx) tt
 by_cases c0:c % 2=1
 ·rw [wX c0,qX rfl] at i1
  have r1:=fv (mo:=AB 2) (e:=[sR t,sI c,sR S.length,z3]) (S:=S++[.lst (us.map pairD)]) rfl (B1 _ _);rw [N8,<-aI] at r1;refine ⟨us.reverse,C6 ?_,?_,by rw [WM];exact q2⟩
  ·unfold Gq
   rw [b2];refine DD (A3 (i1.trans (C9 r1))) ?_;rfl
  ·rw [aI,q1]
   exact List.reverse_perm _
 ·rw [wY c0,qY AX] at i1
  refine ⟨us,C6 ?_,by rw [q1],q2⟩;unfold Gq;rw [b2];refine DD (A3 (i1.trans rfl)) ?_;rfl
theorem YZ {l l':List (List Int)} (h:l.Perm l'):Gw l=Gw l':=Mn ((D6 l).trans (h.trans (D6 l').symm)) (Jy l) (Jy l')
theorem bK {ps qs:List (Int×Int)} (h:(ps.map nrm).Perm (qs.map nrm)):Df ps=Df qs:=by
 unfold Df IT;have:=h.map Lq;rw [At,At] at this;rw [show (λx=>Lq (nrm x))=Lq∘nrm from rfl,YZ this]
theorem FB.of {p:Int} {ps qs:List (Int×Int)} (h:(ps.map nrm).Perm (qs.map nrm)) (f:FB p qs):FB p ps:=by
 refine ⟨λx hx=>?_,h.nodup_iff.mpr f.2⟩;obtain ⟨y,hy,e⟩:=Af.mp (h.mem_iff.mp (WL hx));have:=f.1 y hy;unfold Fit at this ⊢;rw [<-e];exact this
theorem dN {ds:List D} (hf:∀d∈ds,WB d) (neg:Bool) (S:Sto):eqD neg (.tup ds) (.tup ds) S=.ok (.bl (!neg)) S:=by
 unfold eqD
 have:eqB (.tup ds) (.tup ds) S=some true:=by
  show eqL (eqP 7) ds ds=some true;exact TK 6 ds hf
 rw [this]
 cases neg <;> rfl
theorem UH (ts:List (Int×Int)):∀d∈ts.map pairD,WB d:=λd hd=>by
 obtain ⟨x,_,rfl⟩:=Af.mp hd;exact ⟨[x.1,x.2],rfl⟩
theorem YT (W:Wd) {S:Sto} {q m t:Nat} {ts:List (Int×Int)} (hw:Fy W S q m (Df ts)) (ht:S[t]?=some (.lst (ts.map pairD))) (hn:ts.map nrm=ts):∃S',JY W [.ref q,.int m,.ref t] S=.ok (.bl true) S'/\Keeps S S':=by
 have hi:HF (.ref t) S=some ((ts.map Lq).map CS):=by
  rw [LC ht,At];rfl
 have hs:=HY (m:=AB 2) (e:=[sR q,sI m,sR t]) (S:=S) rfl hi (OT _ (by intro r hr;obtain ⟨x,_,rfl⟩:=Af.mp hr;simp [Lq]))
 have e1:(Gw (ts.map Lq)).map CS=(Df ts).map pairD:=by
  rw [<-OR];unfold IT;rw [show (λx=>Lq (nrm x))=Lq∘nrm from rfl,<-At,hn]
 rw [e1] at hs;have tt:=Hg hs (Ce (B1 _ _));refine ⟨S++[.lst ((Df ts).map pairD)],C6 ?_,Keeps.app _ _⟩;unfold MH;refine HA ?_;unfold J7;rw [BL (hw.places rfl) rfl (LG (wX rfl))];dsimp only [Res.bind];exact BL (hw.ties rfl) tt (dN (UH _) false _)
end M
namespace M
open PySem L2
theorem YY {l l':List Int} (h:l.Perm l'):Dm l=Dm l':=
 (((D5 l).trans h).trans (D5 l').symm).eq_of_pairwise (λa b _ _ h1 h2=>Pd h1 h2) (Jx l) (Jx l')
theorem XW {l l':List (Int×Int)} (h:l.Perm l') (x:Nat):(CJ l x).Perm (CJ l' x):=PP _ h
def nr (ts:List (Int×Int)) (x:Nat):List Int:=Dm (CJ ts x)
theorem cS {o:Nat} {ts:List (Int×Int)} (hu:Eb o 0 ts) (x:Nat):nr (Df ts) x=nr ts x:=by
 have:=Ml ts;rw [hu.nrm] at this;exact YY (XW this x)
theorem Mw {ts:List (Int×Int)} {x:Nat} {z:Int}:z∈nr ts x↔((x:Int),z)∈ts∨(z,(x:Int))∈ts:=by
 unfold nr;rw [(D5 _).mem_iff];unfold CJ;rw [aH]
 constructor
 ·rintro ⟨t,ht,h⟩
  rcases Ai.mp h with h | h
  ·split at h
   ·rename_i e
    rw [AQ.mp h,<-e];exact .inl ht
   ·cases h
  ·split at h
   ·rename_i e
    rw [AQ.mp h,<-e];exact .inr ht
   ·cases h
 ·rintro (h | h)
  ·exact ⟨_,h,A4 _ (by simp)⟩
  ·exact ⟨_,h,A5 _ (by simp)⟩
theorem cT {ts:List (Int×Int)} {x y:Nat}:(y:Int)∈nr ts x↔(x:Int)∈nr ts y:=by
 rw [Mw,Mw];exact Or.comm
theorem eE {o x:Nat} {ts:List (Int×Int)} (hu:Eb o 0 ts) {z:Int} (h:z∈nr ts x):0<=z/\z < o:=by
 rcases Mw.mp h with h | h
 ·obtain ⟨h1,h2,h3⟩:=hu.1 _ h
  dsimp only at h1 h2 h3
  lia
 ·obtain ⟨h1,h2,h3⟩:=hu.1 _ h
  dsimp only at h1 h2 h3
  lia
theorem ZG {α:Type} {f g:α->D} {l:List α} {v:Hv} {m:ME} {e:Lo} {S:Sto} (hv:v S=some (l.map f)) (hl:l.length<=1000000) (hm:∀x∈l,m (some (f x) :: e) S=.ok (g x) S) :
  FN v (tgN 0) G3 m (Cm v S) 0 (none :: e) S []=.ok (l.map g) S:=by
 obtain ⟨r,S1,q1,e',_,rfl,rfl⟩:=RX (v:=v) (g:=tgN 0) (c:=G3) (m:=m) (xs:=l.map f) (e:=none :: e) (S:=S)
  (λi e' S' acc=>(∃z,e'=z :: e)/\S'=S/\acc=(l.take i).map g) ⟨⟨none,rfl⟩,rfl,rfl⟩ (by rintro i e' S' acc ⟨_,rfl,_⟩;exact hv)
  (by
   rintro i d e' S' acc hd ⟨⟨z,rfl⟩,rfl,rfl⟩;rw [AO] at hd
   cases hx:l[i]? with
   | none=>rw [hx] at hd;cases hd
   | some x=>
    rw [hx] at hd;cases hd;refine ⟨?_,some (f x) :: e,S',rfl,true,S',rfl,.inl ⟨rfl,g x,S',hm x (BD hx),⟨_,rfl⟩,rfl,?_⟩⟩
    ·rw [AE,Dy]
     exact A6 (A0 (aQ _ _) hl) (by decide)
    ·rw [take_snoc hx,A2]
     rfl)
 rw [AE,DK] at q1;exact q1
theorem dP {α:Type} {f:α->D} {l:List α} {v:Hv} {g:MG} {b:MS} {e:Lo} {S:Sto} (I:List α->Lo->Sto->Prop) (h0:I [] e S) (hv:∀t e S,I t e S->v S=some (l.map f))
  (step:∀t x e S,x∈l->t.length < l.length->I t e S->∃e1 S1,g (f x) e S=.ok e1 S1/\∃e2 S2,b e1 S1=.ok (.nx e2) S2/\I (t++[x]) e2 S2) :
  ∃e' S',JA v g b (Cm v S) 0 e S=.ok (.nx e') S'/\I l e' S':=by
 obtain ⟨f',S',h1,e',rfl,h2⟩:=FZ (v:=v) (g:=g) (b:=b) (xs:=l.map f) (e:=e) (S:=S) (λi e S=>I (l.take i) e S) (λf' S'=>∃e',f'=.nx e'/\I l e' S') h0 (λi e S h=>hv _ e S h)
  (by
   intro i d e S hd hI;rw [AO] at hd
   cases hx:l[i]? with
   | none=>rw [hx] at hd;cases hd
   | some x=>
    rw [hx] at hd;cases hd;have hlt:=(AD.mp hx).1;obtain ⟨e1,S1,q1,e2,S2,q2,q3⟩:=step (l.take i) x e S (BD hx) (by rw [Dy];omega) hI;refine ⟨e1,S1,q1,.nx e2,S2,q2,?_⟩;show I (l.take (i+1)) e2 S2;rw [take_snoc hx]
    exact q3)
  (by
   intro e S hI;rw [AE,DK] at hI
   exact ⟨e,rfl,hI⟩)
 exact ⟨e',S',h1,h2⟩
theorem iJ {t:MT} {a b:MS} {e:Lo} {S S0 S1:Sto} {d:D} (h:t e S=.ok true S0) (ha:a e S0=.ok (.rt d) S1):BI (sIf t a sNx) b e S=.ok (.rt d) S1:=Mo ((Dd h).trans ((qX rfl).trans ha))
theorem Vh {t:MT} {a b:MS} {e:Lo} {S S0:Sto} (h:t e S=.ok false S0):BI (sIf t a sNx) b e S=b e S0:=A3 (e1:=e) ((Dd h).trans ((qY AX).trans rfl))
abbrev Met:=List (Int×Int)
def mD (L:Met):List (Key×D):=L.map λa=>(B8 a.1,D.int a.2)
def Ax (L:Met):List Int:=L.map (·.1)
def stp (L:Met) (z:Int):Int:=((L.find? λa=>decide (a.1=z)).map (·.2)).getD 0
theorem Cr (L N:Met):Ax (L++N)=Ax L++Ax N:=A2
theorem CH {L:Met} {z:Int}:z∈Ax L↔∃d,(z,d)∈L:=by
 unfold Ax
 constructor
 ·intro h
  obtain ⟨a,ha,rfl⟩:=Af.mp h;exact ⟨a.2,ha⟩
 ·rintro ⟨d,h⟩
  exact Af.mpr ⟨_,h,rfl⟩
theorem ZL (L:Met) (z:Int):Av (mD L) (B8 z)=(L.find? λa=>decide (a.1=z)).map λa=>D.int a.2:=by
 unfold Av mD
 induction L with
 | nil=>rfl
 | cons a L ih=>
  rw [Az,BP,BP]
  by_cases e:a.1=z
  ·have:decide ((B8 a.1:Key)=B8 z)=true:=wX (by rw [e])
   rw [this,wX e];rfl
  ·have:decide ((B8 a.1:Key)=B8 z)=false:=wY λq=>e (Rz q)
   rw [this,wY e];exact ih
theorem TH {L:Met} (nd:(Ax L).Nodup) {z d:Int} (h:(z,d)∈L):(L.find? λa=>decide (a.1=z))=some (z,d):=by
 induction L with
 | nil=>cases h
 | cons a L ih=>
  rw [BP];obtain ⟨n1,n2⟩:=CO.mp (show (a.1 :: Ax L).Nodup from nd)
  rcases Ay.mp h with e | h'
  ·subst e
   rw [wX rfl]
  ·have:¬a.1=z:=λe=>n1 (by rw [e];exact CH.mpr ⟨d,h'⟩)
   rw [wY this];exact ih n2 h'
theorem Qz {L:Met} (nd:(Ax L).Nodup) {z d:Int} (h:(z,d)∈L):stp L z=d:=by
 unfold stp;rw [TH nd h];rfl
theorem bU {L:Met} (nd:(Ax L).Nodup) {z:Int} (h:z∈Ax L):(z,stp L z)∈L:=by
 obtain ⟨d,hd⟩:=CH.mp h;rw [Qz nd hd];exact hd
theorem hX (L:Met) (z:Int):(Av (mD L) (B8 z)).isSome=decide (z∈Ax L):=by
 rw [ZL]
 induction L with
 | nil=>rfl
 | cons a L ih=>
  rw [BP]
  by_cases e:a.1=z
  ·rw [wX e]
   exact (wX (show z∈a.1 :: Ax L by rw [e];exact A1)).symm
  ·rw [wY e]
   refine ih.trans (decide_eq_decide.mpr ?_);show z∈Ax L↔z∈a.1 :: Ax L;rw [Ay];exact ⟨.inr,λh=>h.resolve_left λq=>e q.symm⟩
theorem ZK {L:Met} {z:Int} (h:z∉Ax L) (v:Int):B3 (mD L) (B8 z) (.int v)=mD (L++[(z,v)]):=by
 unfold B3;rw [qY]
 ·unfold mD
  rw [A2];rfl
 ·intro q
  obtain ⟨y,hy,e⟩:=FE.mp q;obtain ⟨a,ha,rfl⟩:=Af.mp hy;have e:=Rz (of_decide_eq_true e);exact h (CH.mpr ⟨a.2,by rw [<-e];exact ha⟩)
theorem Ze {S:Sto} {n:Nat} {L:Met} (h:S[n]?=some (.dK (mD L))) (neg:Bool) (z:Int):inA neg (.int z) (.ref n) S=.ok (.bl (if neg then !decide (z∈Ax L) else decide (z∈Ax L))) S:=by
 show FW (inD neg (.int z) (.ref n) S) (Jb neg (.int z) (.ref n) S)=_
 have e:inD neg (.int z) (.ref n) S=.bad:=by
  unfold inD Eu;dsimp only;rw [h]
 have e2:Ke (.ref n) (.int z) S=some (Av (mD L) (B8 z)):=by
  unfold Ke;dsimp only;rw [h];rfl
 rw [e];show Jb neg (.int z) (.ref n) S=_;unfold Jb;rw [e2];dsimp only;rw [hX]
theorem N4 {S:Sto} {n:Nat} {L:Met} (h:S[n]?=some (.dK (mD L))) (nd:(Ax L).Nodup) {z:Int} (hz:z∈Ax L):ixA (.ref n) (.int z) S=.ok (.int (stp L z)) S:=by
 show FW (ixD (.ref n) (.int z) S) (Kt (.ref n) (.int z) S)=_
 have e:ixD (.ref n) (.int z) S=.bad:=by
  unfold ixD Eu;dsimp only;rw [h]
 have e2:Ke (.ref n) (.int z) S=some (some (.int (stp L z))):=by
  unfold Ke;dsimp only;rw [h];show some (Av (mD L) (B8 z))=_;rw [ZL,TH nd (bU nd hz)];rfl
 rw [e];show Kt (.ref n) (.int z) S=_;unfold Kt;rw [e2]
theorem bh {mo mi mv:ME} {e:Lo} {S:Sto} {d:Nat} {L:Met} {z v:Int} (hv:mv e S=.ok (.int v) S) (ho:mo e S=.ok (.ref d) S) (hi:mi e S=.ok (.int z) S) (h:S[d]?=some (.dK (mD L))) (hz:z∉Ax L) (hl:L.length<=100000) :
  DH mo mi mv e S=.ok (.nx e) (S.set d (.dK (mD (L++[(z,v)])))):=by
 unfold DH;rw [hv];dsimp only [Res.lift];rw [ho];dsimp only [Res.lift];rw [hi];dsimp only [Res.lift]
 have:Py (.ref d) (.int z) (.int v) S=some (S.set d (.dK (mD (L++[(z,v)])))):=by
  unfold Py;dsimp only;rw [h];show (if (mD L).length < sizeLine then some (S.set d (.dK (B3 (mD L) (B8 z) (.int v)))) else none)=_;rw [qX (by unfold mD;rw [AE];exact A6 hl (by decide)),ZK hz]
 rw [this]
theorem dU {mk mv:ME} {e:Lo} {S:Sto} {z v:Int} (hk:mk e (S++[.dK []])=.ok (.int z) (S++[.dK []])) (hv:mv e (S++[.dK []])=.ok (.int v) (S++[.dK []])):Ot mk mv e S=.ok (.ref S.length) (S++[.dK (mD [(z,v)])]):=by
 unfold Ot;rw [hk];dsimp only [Res.bind];rw [hv];dsimp only [Res.bind];rw [B1];show Res.ok (D.ref S.length) ((S++[Ob.dK []]).set S.length (.dK (B3 [] (B8 z) (.int v))))=_;have e1:B3 ([]:List (Key×D)) (B8 z) (.int v)=mD [(z,v)]:=rfl;rw [e1];simp
theorem R5 {t:MT} {b:MS} (I:Nat->Lo->Sto->Prop) (R:Lo->Sto->Prop)
  (step:∀k e S,I k e S->(∃S1,t e S=.ok false S1/\R e S1)∨∃S1 e2 S2 k',t e S=.ok true S1/\b e S1=.ok (.nx e2) S2/\k' < k/\I k' e2 S2) :
  ∀n k e S,I k e S->k < n->∃e' S',FU t b n e S=.ok (.nx e') S'/\R e' S'
 | 0,_,_,_,_,h=>zX h (Hd _)
 | n+1,k,e,S,hI,hk=>by
  rcases step k e S hI with ⟨S1,h1,hR⟩ | ⟨S1,e2,S2,k',h1,h2,h3,h4⟩
  ·refine ⟨e,S1,?_,hR⟩
   unfold FU;rw [h1];rfl
  ·obtain ⟨e',S',h5,h6⟩:=R5 I R step n k' e2 S2 h4 (AZ h3 (Nat.le_of_lt_succ hk))
   refine ⟨e',S',?_,h6⟩;unfold FU;rw [h1];dsimp only [Res.lift];rw [qX rfl,h2];exact h5
def aA (d:Int) (L:Met) (y:Int):Met:=if y∈Ax L then L else L++[(y,d+1)]
def Ht (d:Int) (ys:List Int) (L:Met):Met:=ys.foldl (aA d) L
theorem NW (d:Int) (ys:List Int) (y:Int) (L:Met):Ht d (ys++[y]) L=aA d (Ht d ys L) y:=by
 unfold Ht;rw [List.foldl_append];rfl
theorem IL (d:Int):∀(ys:List Int) (L:Met),∃N,Ht d ys L=L++N/\(∀a∈N,a.2=d+1/\a.1∈ys/\a.1∉Ax L)/\(∀y∈ys,y∈Ax (L++N))/\(Ax N).Nodup
 | [],L=>⟨[],(BQ L).symm,λ_ h=>zX h CD,λ_ h=>zX h CD,E4⟩
 | y :: ys,L=>by
  have e:Ht d (y :: ys) L=Ht d ys (aA d L y):=rfl
  by_cases c:y∈Ax L
  ·have e1:aA d L y=L:=qX c
   obtain ⟨N,h1,h2,h3,h4⟩:=IL d ys L;refine ⟨N,by rw [e,e1,h1],λa ha=>⟨(h2 a ha).1,Ag _ (h2 a ha).2.1,(h2 a ha).2.2⟩,λz hz=>?_,h4⟩
   rcases Ay.mp hz with rfl | hz
   ·rw [Cr];exact A4 _ c
   ·exact h3 z hz
  ·have e1:aA d L y=L++[(y,d+1)]:=qY c
   obtain ⟨N,h1,h2,h3,h4⟩:=IL d ys (L++[(y,d+1)]);refine ⟨(y,d+1) :: N,by rw [e,e1,h1,BG];rfl,λa ha=>?_,λz hz=>?_,?_⟩
   ·rcases Ay.mp ha with rfl | ha
    ·exact ⟨rfl,A1,c⟩
    ·refine ⟨(h2 a ha).1,Ag _ (h2 a ha).2.1,λz=>(h2 a ha).2.2 ?_⟩
     rw [Cr];exact A4 _ z
   ·have e2:L++(y,d+1) :: N=L++[(y,d+1)]++N:=by simp
    rw [e2]
    rcases Ay.mp hz with rfl | hz
    ·rw [Cr,Cr]
     exact A4 _ (A5 _ (by simp [Ax]))
    ·exact h3 z hz
   ·refine CO.mpr ⟨λz=>?_,h4⟩
    obtain ⟨a,ha,e3⟩:=Af.mp z;refine (h2 a ha).2.2 ?_;rw [Cr];exact A5 _ (by rw [e3];simp [Ax])
section
variable (nb:Int->List Int) (s:Int)
def Ms (L:Met) (i:Nat):Met:=match L[i]? with
 | some a=>Ht a.2 (nb a.1) L
 | none=>L
def Rn:Nat->Met
 | 0=>[(s,0)]
 | i+1=>Ms nb (Rn i) i
end
section
variable {nb:Int->List Int} {s:Int} {p:Nat}
theorem Mr {L:Met} {i:Nat} {a:Int×Int} (h:L[i]?=some a):Ms nb L i=Ht a.2 (nb a.1) L:=by unfold Ms;rw [h]
theorem Yr (L:Met) (i:Nat):∃N,Ms nb L i=L++N:=by
 unfold Ms;split
 ·obtain ⟨N,h,_⟩:=IL _ (nb _) L
  exact ⟨N,h⟩
 ·exact ⟨[],(BQ L).symm⟩
theorem Ro (i:Nat):∀k:Nat,∃N,Rn nb s (i+k)=Rn nb s i++N
 | 0=>⟨[],(BQ _).symm⟩
 | k+1=>by
  obtain ⟨N,h⟩:=Ro i k;obtain ⟨N',h'⟩:=Yr (nb:=nb) (Rn nb s (i+k)) (i+k);refine ⟨N++N',?_⟩;show Ms nb (Rn nb s (i+k)) (i+k)=_;rw [h',h,BG]
theorem iy {i j k:Nat} (h:i<=k) {a:Int×Int} (ha:(Rn nb s i)[j]?=some a):(Rn nb s k)[j]?=some a:=by
 obtain ⟨N,e⟩:=Ro (nb:=nb) (s:=s) i (k - i);rw [show i+(k - i)=k by lia] at e;rw [e,Ab (AD.mp ha).1];exact ha
theorem Rj {i:Nat} (h:(Rn nb s i).length<=i):∀k,Rn nb s (i+k)=Rn nb s i
 | 0=>rfl
 | k+1=>by
  show Ms nb (Rn nb s (i+k)) (i+k)=_;rw [Rj h k];unfold Ms;rw [BO (by lia)]
theorem aB {i j:Nat} (hi:(Rn nb s i).length<=i) (hj:(Rn nb s j).length<=j):Rn nb s i=Rn nb s j:=by
 rcases Nat.le_total i j with h | h
 ·have:=Rj hi (j - i)
  rw [show i+(j - i)=j by lia] at this;exact this.symm
 ·have:=Rj hj (i - j)
  rw [show j+(i - j)=i by lia] at this;exact this
structure Bf (nb:Int->List Int) (p:Nat) (s:Int) (i:Nat) (L:Met):Prop where
 nd:(Ax L).Nodup
 rng:∀a∈L,0<=a.1/\a.1 < p
 nn:∀a∈L,0<=a.2
 up:(L.map (·.2)).Pairwise (·<=·)
 src:(s,0)∈L
 zero:∀a∈L,a.2=0->a.1=s
 cl:∀j,j < i->∀a,L[j]?=some a->∀y∈nb a.1,∃d,(y,d)∈L/\d<=a.2+1
 par:∀a∈L,0 < a.2->∃b∈L,b.2+1=a.2/\a.1∈nb b.1
 top:∀a,L[i]?=some a->∀b∈L,b.2<=a.2+1
 low:∀(j:Nat) a,L[j]?=some a->a.2<=j
theorem Bf.step (hnb:∀x:Int,0<=x->x < p->∀y∈nb x,0<=y/\y < p) {i:Nat} {L:Met} (h:Bf nb p s i L):Bf nb p s (i+1) (Ms nb L i):=by
 cases hq:L[i]? with
 | none=>
  have e:Ms nb L i=L:=by unfold Ms;rw [hq]
  rw [e];have hl:=Bj.mp hq;refine ⟨h.nd,h.rng,h.nn,h.up,h.src,h.zero,λj hj a ha=>h.cl j ?_ a ha,h.par,λa ha=>?_,h.low⟩
  ·have:=(AD.mp ha).1;lia
  ·have:=(AD.mp ha).1;omega
 | some x=>
  rw [Mr hq];have hx:=BD hq;obtain ⟨N,h1,h2,h3,h4⟩:=IL x.2 (nb x.1) L;rw [h1];have hxr:=h.rng x hx;refine ⟨?_,λa ha=>?_,λa ha=>?_,?_,A4 _ h.src,λa ha h0=>?_,λj hj a ha y hy=>?_,λa ha h0=>?_,λa ha b hb=>?_,λj a ha=>?_⟩
  ·rw [Cr]
   refine CI.mpr ⟨h.nd,h4,λa ha b hb e=>?_⟩;obtain ⟨c,hc,rfl⟩:=Af.mp hb;exact (h2 c hc).2.2 (e▸ha)
  ·rcases Ai.mp ha with ha | ha
   ·exact h.rng a ha
   ·exact hnb x.1 hxr.1 hxr.2 a.1 (h2 a ha).2.1
  ·rcases Ai.mp ha with ha | ha
   ·exact h.nn a ha
   ·have:=(h2 a ha).1;have:=h.nn x hx;lia
  ·rw [A2]
   refine BV.mpr ⟨h.up,?_,λa ha b hb=>?_⟩
   ·refine Bt.mpr (HK (R:=λ_ _=>True) (λ{a b} ha hb _=>?_) (List.pairwise_of_forall λ_ _=>Co))
    have:=(h2 a ha).1;have:=(h2 b hb).1;lia
   ·obtain ⟨c,hc,rfl⟩:=Af.mp ha
    obtain ⟨d,hd,rfl⟩:=Af.mp hb;have:=h.top x hq c hc;have:=(h2 d hd).1;lia
  ·rcases Ai.mp ha with ha | ha
   ·exact h.zero a ha h0
   ·have:=(h2 a ha).1;have:=h.nn x hx;lia
  ·by_cases hji:j=i
   ·subst hji
    rw [Ab (AD.mp hq).1,hq] at ha;cases ha;obtain ⟨d,hd⟩:=CH.mp (h3 y hy);refine ⟨d,hd,?_⟩
    rcases Ai.mp hd with hd | hd
    ·exact h.top x hq _ hd
    ·exact Int.le_of_eq (h2 _ hd).1
   ·have hlt:j < L.length:=by have:=(AD.mp hq).1;lia
    rw [Ab hlt] at ha;obtain ⟨d,hd,hle⟩:=h.cl j (by lia) a ha y hy;exact ⟨d,A4 _ hd,hle⟩
  ·rcases Ai.mp ha with ha | ha
   ·obtain ⟨b,hb,h5⟩:=h.par a ha h0
    exact ⟨b,A4 _ hb,h5⟩
   ·exact ⟨x,A4 _ hx,(h2 a ha).1.symm,(h2 a ha).2.1⟩
  ·have hax:x.2<=a.2:=by
    by_cases hlt:i+1 < L.length
    ·rw [Ab hlt] at ha
     have h5:(L.map (·.2))[i]?=some x.2:=by rw [AO,hq];rfl
     have h6:(L.map (·.2))[i+1]?=some a.2:=by rw [AO,ha];rfl
     obtain ⟨l5,e5⟩:=AD.mp h5;obtain ⟨l6,e6⟩:=AD.mp h6;have:=Qn.mp h.up i (i+1) l5 l6 (by lia);rwa [e5,e6] at this
    ·have hlt':=(AD.mp hq).1
     rw [BE (by lia)] at ha;have:=(h2 a (BD ha)).1
     lia
   rcases Ai.mp hb with hb | hb
   ·have:=h.top x hq b hb;lia
   ·have:=(h2 b hb).1;lia
  ·by_cases hlt:j < L.length
   ·rw [Ab hlt] at ha
    exact h.low j a ha
   ·have hlt':=(AD.mp hq).1
    rw [BE (by lia)] at ha;have:=(h2 a (BD ha)).1;have:=h.low i x hq
    lia
theorem Qe (hnb:∀x:Int,0<=x->x < p->∀y∈nb x,0<=y/\y < p) (hs:0<=s/\s < p):∀i,Bf nb p s i (Rn nb s i)
 | 0=>by
  refine ⟨by show [s].Nodup;simp,λa ha=>?_,λa ha=>?_,Jg _ _,AQ.mpr rfl,λa ha _=>?_,λj hj=>zX hj (Hd _),λa ha h0=>?_,λa ha b hb=>?_,λj a ha=>?_⟩
  ·rw [AQ.mp ha];exact hs
  ·rw [AQ.mp ha];exact lJ _
  ·rw [AQ.mp ha]
  ·rw [AQ.mp ha] at h0;exact zX h0 (Int.lt_irrefl _)
  ·cases ha;rw [AQ.mp hb];exact Int.le_add_one (lJ _)
  ·rw [AQ.mp (BD ha)];exact X4 j
 | i+1=>(Qe hnb hs i).step hnb
theorem NM:∀(p:Nat) (l:List Int),l.Nodup->(∀z∈l,0<=z/\z < p)->l.length<=p
 | 0,l,_,h=>by
  cases l with
  | nil=>exact AN _
  | cons a l=>have:=h a (by simp);lia
 | p+1,l,nd,h=>by
  by_cases c:(p:Int)∈l
  ·have h1:=Rt c
   have hpos:0 < l.length:=Tc c
   have i1:=NM p (l.erase (p:Int)) (nd.erase _) λz hz=>by
    obtain ⟨hz1,hz2⟩:=nd.mem_erase_iff.mp hz;have:=h z hz2
    lia
   lia
  ·have i1:=NM p l nd λz hz=>by
    have:=h z hz
    have:z≠p:=λe=>c (e▸hz)
    lia
   lia
theorem Bf.len {i:Nat} {L:Met} (h:Bf nb p s i L):L.length<=p:=by
 have:=NM p (Ax L) h.nd λz hz=>by
  obtain ⟨a,ha,rfl⟩:=Af.mp hz;exact h.rng a ha
 unfold Ax at this;rwa [AE] at this
structure Fd (nb:Int->List Int) (p:Nat) (s:Int) (L:Met):Prop where
 nd:(Ax L).Nodup
 rng:∀a∈L,0<=a.1/\a.1 < p
 nn:∀a∈L,0<=a.2
 src:(s,0)∈L
 zero:∀a∈L,a.2=0->a.1=s
 cl:∀a∈L,∀y∈nb a.1,∃d,(y,d)∈L/\d<=a.2+1
 par:∀a∈L,0 < a.2->∃b∈L,b.2+1=a.2/\a.1∈nb b.1
 len:L.length<=p
 far:∀a∈L,a.2 < p
theorem Bf.fd {i:Nat} {L:Met} (h:Bf nb p s i L) (hl:L.length<=i):Fd nb p s L:=⟨h.nd,h.rng,h.nn,h.src,h.zero,λa ha y hy=>by
 obtain ⟨j,hj,e⟩:=LU ha
 exact h.cl j (by lia) a (by rw [BM hj,e]) y hy,h.par,h.len,λa ha=>by
 obtain ⟨j,hj,e⟩:=LU ha;have:=h.low j a (by rw [BM hj,e]);have:=h.len
 lia⟩
end
theorem YX {l:List Int} (h:l.Nodup):(Dm l).Pairwise (· < ·):=by
 have h1:(Dm l).Nodup:=(D5 l).nodup_iff.mpr h
 exact ((Jx l).and h1).imp λ{a b} ⟨q1,q2⟩=>by omega
abbrev bIn (g v a:Nat) (mval:ME):MS:=sIf (mB (m2 (inA true) (AB v) (AB g))) (BI (DH (AB g) (AB v) mval) (CB (FY (AB a) (AB v)))) sNx
theorem UJ {L:Met} {y d:Int} (h:(Ax L).Nodup) (c:y∉Ax L):(Ax (L++[(y,d)])).Nodup:=by
 rw [Cr];refine CI.mpr ⟨h,by simp [Ax],λa ha b hb e=>c ?_⟩
 have:b=y:=by simpa [Ax] using hb
 rw [<-this,<-e];exact ha
theorem Zc {g v a:Nat} {mval:ME} {E:Option D->Lo} {dI fI:Nat} {d:Int} {L:Met} {fs:List Int} {S:Sto} {ys:List Int} {z:Option D} {vw:Hv}
  (hvw:∀S',(∀j,j≠dI->j≠fI->S'[j]?=S[j]?)->vw S'=some (ys.map D.int))
  (hv:∀x S,AB v (E (some x)) S=.ok x S) (h2:∀z S,AB g (E z) S=.ok (.ref dI) S) (ha:∀z S,AB a (E z) S=.ok (.ref fI) S) (hg:∀x z S,tgN v x (E z) S=.ok (E (some x)) S)
  (hval:∀x S' N,S'[dI]?=some (.dK (mD (L++N)))->S'[fI]?=some (.lst ((fs++Ax N).map D.int))->(Ax (L++N)).Nodup->mval (E (some x)) S'=.ok (.int (d+1)) S')
  (hD:S[dI]?=some (.dK (mD L))) (hF:S[fI]?=some (.lst (fs.map D.int))) (hne:dI≠fI) (nd:(Ax L).Nodup) (hl:L.length<=1000) (hf:fs.length<=1000) (hy:ys.length<=1000) :
  ∃z' S' N,JA vw (tgN v) (bIn g v a mval) (Cm vw S) 0 (E z) S=.ok (.nx (E z')) S'/\Ht d ys L=L++N/\S'[dI]?=some (.dK (mD (L++N)))/\S'[fI]?=some (.lst ((fs++Ax N).map D.int))/\S'.length=S.length/\∀j,j≠dI->j≠fI->S'[j]?=S[j]?:=by
 obtain ⟨e',S',h1,z',N,rfl,q1,_,_,q4,q5,q6,q7⟩:=dP (f:=D.int) (l:=ys) (v:=vw) (g:=tgN v) (b:=bIn g v a mval) (e:=E z) (S:=S)
  (λt e S'=>∃z N,e=E z/\Ht d t L=L++N/\(Ax (L++N)).Nodup/\N.length<=t.length/\S'[dI]?=some (.dK (mD (L++N)))/\S'[fI]?=some (.lst ((fs++Ax N).map D.int))/\S'.length=S.length/\∀j,j≠dI->j≠fI->S'[j]?=S[j]?)
  ⟨z,[],rfl,(BQ L).symm,by rw [BQ];exact nd,AN _,by rw [BQ];exact hD,by show _=some (Ob.lst ((fs++[]).map D.int));rw [BQ];exact hF,rfl,λ_ _ _=>rfl⟩ (by rintro t e S' ⟨_,_,_,_,_,_,_,_,_,h⟩;exact hvw S' h)
  (by
   rintro t y e S' hyy ht ⟨z,N,rfl,q1,q2,q3,q4,q5,q6,q7⟩;refine ⟨E (some (.int y)),S',hg _ _ _,?_⟩;have t1:mB (m2 (inA true) (AB v) (AB g)) (E (some (.int y))) S'=.ok (!decide (y∈Ax (L++N))) S':=Gf (BL (hv _ _) (h2 _ _) (Ze q4 true y));have ic:=Dd (a:=BI (DH (AB g) (AB v) mval) (CB (FY (AB a) (AB v)))) (b:=sNx) t1
   by_cases c:y∈Ax (L++N)
   ·rw [wX c] at ic
    refine ⟨E (some (.int y)),S',ic.trans rfl,_,N,rfl,?_,q2,by rw [Ah];lia,q4,q5,q6,q7⟩;rw [NW,q1];exact qX c
   ·rw [wY c] at ic
    have p1:=bh (mo:=AB g) (mi:=AB v) (mv:=mval) (hval (.int y) S' N q4 q5 q2) (h2 _ _) (hv _ _) q4 c (by rw [Ah];lia);have hdl:dI < S'.length:=(AD.mp q4).1;have hfl:fI < S'.length:=(AD.mp q5).1
    have f1:(S'.set dI (.dK (mD (L++N++[(y,d+1)]))))[fI]?=some (.lst ((fs++Ax N).map D.int)):=by rw [AT hne];exact q5
    have a1:=Hs (mo:=AB a) (ma:=AB v) (e:=E (some (.int y))) (S:=S'.set dI (.dK (mD (L++N++[(y,d+1)])))) (ha _ _) f1 (hv _ _) f1 (by
     rw [AE,Ah,show (Ax N).length=N.length from AE _]
     exact A6 (show fs.length+N.length<=2000 by lia) (by decide))
    refine ⟨E (some (.int y)),_,ic.trans ((qX rfl).trans ((A3 p1).trans (C9 a1))),_,N++[(y,d+1)],rfl,?_,?_,?_,?_,?_,?_,?_⟩
    ·rw [NW,q1]
     exact (qY c).trans (BG _ _ _)
    ·rw [<-BG]
     exact UJ q2 c
    ·rw [Ah,Ah,Ck,Ck];lia
    ·rw [AT (Bx hne),Al hdl,BG]
    ·rw [Al (by rw [C0];exact hfl),Cr]
     simp [Ax]
    ·rw [C0,C0];exact q6
    ·intro j h1 h2
     rw [AT (Bx h2),AT (Bx h1)]
     exact q7 j h1 h2)
 exact ⟨z',S',N,h1,q1,q4,q5,q6,q7⟩
theorem S8 {B S S':Sto} (k:Keeps B S) {dI fI:Nat} (h1:B.length<=dI) (h2:B.length<=fI) (hl:S'.length=S.length) (h:∀j,j≠dI->j≠fI->S'[j]?=S[j]?):Keeps B S':=
 ⟨by rw [hl];exact k.1,λj hj=>(h j (by lia) (by lia)).trans (k.2 j hj)⟩
theorem bL {m:ME} {e:Lo} {S:Sto} {n:Nat} {ds:List D} (h:m e S=.ok (.ref n) S) (hn:S[n]?=some (.lst ds)):ID m e S=.ok (!ds.isEmpty) S:=by
 unfold ID;rw [h];dsimp only [Res.bind];unfold Oq;dsimp only;rw [hn]
def nbW (ts:List (Int×Int)) (x:Int):List Int:=Dm (CJ ts x.toNat)
abbrev eS (W:Wd):MS:=GD (E9 (BH 2 (KH W) (AI (AB 0) (AI (AB 5) Aw)))) (tgN 6) (bIn 2 6 4 (m2 Fx (m2 ixA (AB 2) (AB 5)) (mC (.int 1))))
abbrev Z7 (W:Wd):MS:=BI (Bk 4 (DT (Cw Aw))) (BI (GD (E9 (AB 3)) (tgN 5) (eS W)) (Bk 3 (AB 4)))
section
variable {W:Wd} {q p:Nat} {ts:List (Int×Int)} {s:Int}
theorem Ye {B S:Sto} (hw:Fy W B q p ts) (hp:p<=60) (hnb:∀x:Int,0<=x->x < p->∀y∈nbW ts x,0<=y/\y < p) (hlen:∀x,(nbW ts x).length<=1000) (hs:0<=s/\s < p) {i dI ly:Nat} {d1:D} {z4 z5 z6:Option D} (K:Keeps B S) (hdI:B.length<=dI) (hly:B.length<=ly) (hdl:dI≠ly)
  (hD:S[dI]?=some (.dK (mD (Rn (nbW ts) s i)))) (hL:S[ly]?=some (.lst ((Ax ((Rn (nbW ts) s i).drop i)).map D.int))) (hi:i<=(Rn (nbW ts) s i).length) :
  ∃y5 y6 S',Z7 W [sR q,some d1,sR dI,sR ly,z4,z5,z6] S=oN [sR q,some d1,sR dI,sR S.length,sR S.length,y5,y6] S'/\Keeps B S'/\S'[dI]?=some (.dK (mD (Rn (nbW ts) s (Rn (nbW ts) s i).length)))/\S'[S.length]?=some (.lst ((Ax ((Rn (nbW ts) s (Rn (nbW ts) s i).length).drop (Rn (nbW ts) s i).length)).map D.int)):=by
 have hdS:dI < S.length:=(AD.mp hD).1;have hlS:ly < S.length:=(AD.mp hL).1;have hBf:=Qe hnb hs i;have hnl:=hBf.len;generalize hn0:(Rn (nbW ts) s i).length=n0 at hnl hi ⊢;have s4:Bk 4 (DT (Cw Aw)) [sR q,some d1,sR dI,sR ly,z4,z5,z6] S=oN [sR q,some d1,sR dI,sR ly,sR S.length,z5,z6] (S++[.lst []]):=rfl;have k0:=Keeps.app S [.lst []]
 obtain ⟨f,S1,h1,y5,y6,rfl,K1,D1,F1⟩:=FZ (v:=Em (.ref ly)) (g:=tgN 5) (b:=eS W) (xs:=(Ax ((Rn (nbW ts) s i).drop i)).map D.int) (e:=[sR q,some d1,sR dI,sR ly,sR S.length,z5,z6]) (S:=S++[.lst []])
  (λj e S'=>∃y5 y6,e=[sR q,some d1,sR dI,sR ly,sR S.length,y5,y6]/\Keeps B S'/\S'[dI]?=some (.dK (mD (Rn (nbW ts) s (i+j))))/\S'[S.length]?=some (.lst ((Ax ((Rn (nbW ts) s (i+j)).drop n0)).map D.int))/\S'[ly]?=some (.lst ((Ax ((Rn (nbW ts) s i).drop i)).map D.int)))
  (λf S'=>∃y5 y6,f=.nx [sR q,some d1,sR dI,sR ly,sR S.length,y5,y6]/\Keeps B S'/\S'[dI]?=some (.dK (mD (Rn (nbW ts) s n0)))/\S'[S.length]?=some (.lst ((Ax ((Rn (nbW ts) s n0).drop n0)).map D.int)))
  ⟨z5,z6,rfl,K.trans k0,k0.at hD,by
   rw [Tq,Td (by lia)]
   exact B1 _ _,k0.at hL⟩ (by rintro j e S' ⟨_,_,_,_,_,_,h⟩;exact ED h)
  (by
   rintro j x e S' hx ⟨y5,y6,rfl,K',D',F',L'⟩;unfold Ax at hx;rw [AO,AO,Fi] at hx
   cases hq:(Rn (nbW ts) s i)[i+j]? with
   | none=>rw [hq] at hx;cases hx
   | some a=>
    rw [hq] at hx;cases hx;have hat:(Rn (nbW ts) s (i+j))[i+j]?=some a:=iy (by lia) hq;have hbf:=Qe hnb hs (i+j);have har:=hbf.rng a (BD hat);have hll:=hbf.len
    obtain ⟨x,hx⟩:∃x:Nat,a.1=x:=⟨a.1.toNat,by lia⟩
    refine ⟨[sR q,some d1,sR dI,sR ly,sR S.length,sI a.1,y6],S',rfl,?_⟩
    have c1:BH 2 (KH W) (AI (AB 0) (AI (AB 5) Aw)) [sR q,some d1,sR dI,sR ly,sR S.length,sI a.1,y6] S'=.ok (.tup ((nbW ts a.1).map D.int)) S':=by
     refine (By (ds:=[.ref q,.int a.1]) (S1:=S') rfl rfl).trans ?_;unfold nbW;rw [hx,B9];exact cV (hw.keeps K') (by lia)
    have hfl:(Ax ((Rn (nbW ts) s (i+j)).drop n0)).length<=1000:=by unfold Ax;rw [AE,G4];lia
    obtain ⟨z',S2,N,h2,g1,g2,g3,g4,g5⟩:=Zc (g:=2) (v:=6) (a:=4) (mval:=m2 Fx (m2 ixA (AB 2) (AB 5)) (mC (.int 1))) (E:=λz=>[sR q,some d1,sR dI,sR ly,sR S.length,sI a.1,z]) (dI:=dI) (fI:=S.length) (d:=a.2) (L:=Rn (nbW ts) s (i+j)) (ys:=nbW ts a.1) (z:=y6) (S:=S') (vw:=Dc ((nbW ts a.1).map D.int)) (λ_ _=>rfl)
     (λ_ _=>rfl) (λ_ _=>rfl) (λ_ _=>rfl) (λ_ _ _=>rfl)
     (λy S2 N hd hf nd=>by
      refine BL (BL rfl rfl (N4 hd nd (CH.mpr ⟨a.2,A4 _ (BD hat)⟩))) rfl ?_;rw [Qz nd (show (a.1,a.2)∈Rn (nbW ts) s (i+j)++N from A4 _ (BD hat))]
      rfl)
     D' F' (Am hdS) hbf.nd (by lia) hfl (hlen _)
    refine ⟨.nx [sR q,some d1,sR dI,sR ly,sR S.length,sI a.1,z'],S2,(ET (MB c1)).trans h2,_,z',rfl,S8 K' hdI (by have:=K.1;omega) g4 g5,?_,?_,?_⟩
    ·rw [g2,<-g1]
     show some (Ob.dK (mD (Ht a.2 (nbW ts a.1) (Rn (nbW ts) s (i+j)))))=some (Ob.dK (mD (Ms (nbW ts) (Rn (nbW ts) s (i+j)) (i+j))));rw [Mr hat]
    ·have e1:Rn (nbW ts) s (i+(j+1))=Rn (nbW ts) s (i+j)++N:=by
      show Ms (nbW ts) (Rn (nbW ts) s (i+j)) (i+j)=_;rw [Mr hat,g1]
     have hle:n0<=(Rn (nbW ts) s (i+j)).length:=by
      obtain ⟨N',e2⟩:=Ro (nb:=nbW ts) (s:=s) i j;rw [e2,Ah]
      lia
     rw [g3,e1,List.drop_append_of_le_length hle,Cr]
    ·rw [g5 ly (Bx hdl) (Am hlS)]
     exact L')
  (by
   rintro e S' ⟨y5,y6,rfl,K',D',F',L'⟩
   have e1:i+((Ax ((Rn (nbW ts) s i).drop i)).map D.int).length=n0:=by
    unfold Ax;rw [AE,AE,G4]
    lia
   rw [e1] at D' F'
   exact ⟨_,_,rfl,K',D',F'⟩)
 exact ⟨y5,y6,S1,(A3 s4).trans ((A3 ((ET (Hk (m:=AB 3) (n:=ly) rfl (k0.at hL))).trans h1)).trans rfl),K1,D1,F1⟩
theorem SM {S:Sto} (hw:Fy W S q p ts) (hp:p<=60) (hnb:∀x:Int,0<=x->x < p->∀y∈nbW ts x,0<=y/\y < p) (hlen:∀x,(nbW ts x).length<=1000) (hs:0<=s/\s < p) :
  ∃S' i,C8 W [.ref q,.int s] S=.ok (.ref S.length) S'/\Keeps S S'/\S'[S.length]?=some (.dK (mD (Rn (nbW ts) s i)))/\(Rn (nbW ts) s i).length<=i:=by
 have s2:Bk 2 (Ot (AB 1) (mC (.int 0))) (Cv 7 [.ref q,.int s]) S=oN [sR q,sI s,sR S.length,none,none,none,none] (S++[.dK (mD [(s,0)])]):=C4 (i:=2) (dU rfl rfl);have s3:Bk 3 (DT (Cw (AI (AB 1) Aw))) [sR q,sI s,sR S.length,none,none,none,none] (S++[.dK (mD [(s,0)])])=.ok (.nx [sR q,sI s,sR S.length,some (.ref (S++[Ob.dK (mD [(s,0)])]).length),none,none,none]) (S++[.dK (mD [(s,0)])]++[.lst [.int s]]):=rfl
 obtain ⟨e',S',h,i,z3,z4,z5,z6,rfl,K,D1,hl⟩:=R5 (t:=ID (AB 3)) (b:=Z7 W)
  (λk e S'=>∃(i ly:Nat) (z4 z5 z6:Option D),e=[sR q,sI s,sR S.length,sR ly,z4,z5,z6]/\Keeps S S'/\S.length < ly/\S'[S.length]?=some (.dK (mD (Rn (nbW ts) s i)))/\S'[ly]?=some (.lst ((Ax ((Rn (nbW ts) s i).drop i)).map D.int))/\i<=(Rn (nbW ts) s i).length/\k+i=p)
  (λe S'=>∃(i:Nat) (z3 z4 z5 z6:Option D),e=[sR q,sI s,sR S.length,z3,z4,z5,z6]/\Keeps S S'/\S'[S.length]?=some (.dK (mD (Rn (nbW ts) s i)))/\(Rn (nbW ts) s i).length<=i)
  (by
   rintro k e S' ⟨i,ly,z4,z5,z6,rfl,K,hly,hD,hL,hi,hk⟩;have t:=bL (m:=AB 3) (e:=[sR q,sI s,sR S.length,sR ly,z4,z5,z6]) rfl hL
   by_cases c:i < (Rn (nbW ts) s i).length
   ·refine .inr ?_
    have hne:((Ax ((Rn (nbW ts) s i).drop i)).map D.int).isEmpty=false:=by
     cases hq:(Ax ((Rn (nbW ts) s i).drop i)).map D.int with
     | nil=>
      have:=congrArg Fk hq;unfold Ax at this;rw [AE,AE,G4] at this;simp at this
      lia
     | cons _ _=>rfl
    rw [hne] at t;obtain ⟨y5,y6,S2,g1,g2,g3,g4⟩:=Ye (d1:=.int s) (z4:=z4) (z5:=z5) (z6:=z6) hw hp hnb hlen hs K (AN _) (Nc hly) (Am hly) hD hL hi;have hb:=(Qe hnb hs i).len;have hlS:ly < S'.length:=(AD.mp hL).1;refine ⟨S',_,S2,p - (Rn (nbW ts) s i).length,t,g1,by lia,(Rn (nbW ts) s i).length,S'.length,_,_,_,rfl,g2,by lia,g3,g4,?_,by lia⟩;obtain ⟨N,e2⟩:=Ro (nb:=nbW ts) (s:=s) i ((Rn (nbW ts) s i).length - i);rw [show i+((Rn (nbW ts) s i).length - i)=(Rn (nbW ts) s i).length by lia] at e2;rw [e2,Ah]
    lia
   ·refine .inl ⟨S',?_,i,_,_,_,_,rfl,K,hD,by lia⟩
    rw [t,Td (by lia)]
    rfl)
  wN p [sR q,sI s,sR S.length,some (.ref (S++[Ob.dK (mD [(s,0)])]).length),none,none,none] (S++[.dK (mD [(s,0)])]++[.lst [.int s]])
  ⟨0,_,none,none,none,rfl,(Keeps.app _ _).trans (Keeps.app _ _),by simp,(Keeps.app _ _).at (B1 _ _),B1 _ _,Cg _,rfl⟩ (show p < 1000000 by lia)
 refine ⟨S',i,C6 (n:=7) (mb:=Jc W) ?_,K,D1,hl⟩;unfold Jc;exact (A3 s2).trans ((A3 s3).trans ((A3 h).trans rfl))
end
def kE (x:Nat):D:=.int x
theorem PL (y:Int):∀zs:List Int,Jl (.int y) (zs.map D.int)=some (decide (y∈zs))
 | []=>rfl
 | z :: zs=>by
  rw [Az];unfold Jl;rw [show eqP 8 (.int z) (.int y)=some (z==y) from rfl,PL y zs];dsimp only
  congr 1
  by_cases h:z=y
  ·simp [h]
  ·have:¬y=z:=λq=>h q.symm
   simp [h,this]
theorem cq {d:D} {S:Sto} {zs:List Int} (h:Eu d S=some (zs.map D.int)) (neg:Bool) (y:Int):inA neg (.int y) d S=.ok (.bl (if neg then !decide (y∈zs) else decide (y∈zs))) S:=by
 show FW (inD neg (.int y) d S) _=_
 have e:inD neg (.int y) d S=.ok (.bl (if neg then !decide (y∈zs) else decide (y∈zs))) S:=by
  unfold inD;rw [h];dsimp only;rw [PL]
 rw [e];rfl
theorem cc {m:ME} {e:Lo} {S S1:Sto} {d:D} {ds:List D} (h:m e S=.ok d S1) (hs:Eu d S1=some ds) (hl:ds.length<=1000000):DT (mN NQ (Jo m)) e S=.ok (.ref S1.length) (S1++[.lst ds]):=by
 refine Mz ?_;unfold mN;rw [VU h hs];rfl
theorem Wt (n:Nat):DA 0 n=(BN n).map kE:=by
 refine Cz λi=>?_
 rw [Mq,AO]
 by_cases h:i < n
 ·rw [qX h,Bh h,Nd];rfl
 ·rw [qY h,BO (by simpa using h)];rfl
theorem V8 {ma mb:ME} {e:Lo} {S S1 S2:Sto} {d:D} (h1:ma e S=.ok (.bl true) S1) (h2:mb e S1=.ok d S2):J7 ma mb e S=.ok d S2:=by
 unfold J7;rw [h1];exact h2
section
variable {nb:Int->List Int} {p:Nat}
theorem Fd.back {s:Int} {L:Met} (h:Fd nb p s L) (hsym:∀x y:Int,0<=x->0<=y->y∈nb x->x∈nb y) {C:List Int} (hC:∀x∈C,∀y∈nb x,y∈C):∀(d:Nat) (z:Int),(z,(d:Int))∈L->z∈C->s∈C
 | 0,z,hz,hc=>by
  have:z=s:=h.zero _ hz rfl;rw [<-this];exact hc
 | d+1,z,hz,hc=>by
  obtain ⟨b,hb,e1,e2⟩:=h.par _ hz (by dsimp only;lia);have hbz:b.1∈nb z:=hsym b.1 z (h.rng _ hb).1 (h.rng _ hz).1 e2
  have e3:b.2=d:=by dsimp only at e1;lia
  exact Fd.back h hsym hC d b.1 (by rw [<-e3];exact hb) (hC z hc b.1 hbz)
theorem Fd.meets {s:Int} {L:Met} (h:Fd nb p s L) (hsym:∀x y:Int,0<=x->0<=y->y∈nb x->x∈nb y) {C:List Int} (hC:∀x∈C,∀y∈nb x,y∈C) {z:Int} (hz:z∈Ax L) (hc:z∈C):s∈C:=by
 obtain ⟨d,hd⟩:=CH.mp hz;have:=h.nn _ hd;exact h.back hsym hC d.toNat z (by dsimp only at this;rw [BZ this];exact hd) hc
theorem Fd.closed {s:Int} {L:Met} (h:Fd nb p s L):∀x∈Ax L,∀y∈nb x,y∈Ax L:=λx hx y hy=>by
 obtain ⟨d,hd⟩:=CH.mp hx;obtain ⟨d',hd',_⟩:=h.cl _ hd y hy;exact CH.mpr ⟨d',hd'⟩
end
def cov (nb:Int->List Int) (p:Nat) (R:List Nat):Met:=(R.map λs:Nat=>Rn nb s p).flatten
theorem KL (nb:Int->List Int) (p:Nat) (R:List Nat) (x:Nat):cov nb p (R++[x])=cov nb p R++Rn nb x p:=by
 unfold cov;rw [A2,WO];simp
theorem MD {nb:Int->List Int} {p:Nat} {R:List Nat} {z:Int}:z∈Ax (cov nb p R)↔∃s∈R,z∈Ax (Rn nb s p):=by
 constructor
 ·intro h
  obtain ⟨d,hd⟩:=CH.mp h;obtain ⟨l,hl,hz⟩:=Nr.mp hd;obtain ⟨s,hs,rfl⟩:=Af.mp hl;exact ⟨s,hs,CH.mpr ⟨d,hz⟩⟩
 ·rintro ⟨s,hs,h⟩
  obtain ⟨d,hd⟩:=CH.mp h;exact CH.mpr ⟨d,Nr.mpr ⟨_,Af.mpr ⟨s,hs,rfl⟩,hd⟩⟩
def wk (nb:Int->List Int) (p:Nat):Nat->List Nat
 | 0=>[]
 | x+1=>if (x:Int)∈Ax (cov nb p (wk nb p x)) then wk nb p x else wk nb p x++[x]
structure Wk (nb:Int->List Int) (p x:Nat) (R:List Nat):Prop where
 of:∀s∈R,s < x/\∀a∈Ax (Rn nb s p),(s:Int)<=a
 nd:(Ax (cov nb p R)).Nodup
 all:∀y:Nat,y < x->(y:Int)∈Ax (cov nb p R)
 up:R.Pairwise (· < ·)
section
variable {nb:Int->List Int} {p:Nat} (hnb:∀x:Int,0<=x->x < p->∀y∈nb x,0<=y/\y < p) (hsym:∀x y:Int,0<=x->0<=y->y∈nb x->x∈nb y)
include hnb in
theorem IZ {s:Nat} (h:s < p):Fd nb p s (Rn nb s p):=(Qe hnb ⟨by lia,by lia⟩ p).fd (Qe hnb ⟨by lia,by lia⟩ p).len
include hnb hsym in
theorem Wk.step {x:Nat} (hx:x < p) {R:List Nat} (h:Wk nb p x R):Wk nb p (x+1) (if (x:Int)∈Ax (cov nb p R) then R else R++[x])/\((x:Int)∉Ax (cov nb p R)->∀z∈Ax (Rn nb x p),z∉Ax (cov nb p R)):=by
 have hF:=IZ hnb hx
 have hC:∀a∈Ax (cov nb p R),∀y∈nb a,y∈Ax (cov nb p R):=λa ha y hy=>by
  obtain ⟨s,hs,ha⟩:=MD.mp ha;exact MD.mpr ⟨s,hs,(IZ hnb (show s < p by have:=(h.of s hs).1;lia)).closed a ha y hy⟩
 have hdis:(x:Int)∉Ax (cov nb p R)->∀z∈Ax (Rn nb x p),z∉Ax (cov nb p R):=λc z hz hc=>c (hF.meets hsym hC hz hc)
 refine ⟨?_,hdis⟩
 by_cases c:(x:Int)∈Ax (cov nb p R)
 ·rw [qX c]
  refine ⟨λs hs=>⟨by have:=(h.of s hs).1;lia,(h.of s hs).2⟩,h.nd,λy hy=>?_,h.up⟩
  by_cases e:y=x
  ·rw [e];exact c
  ·exact h.all y (by lia)
 ·rw [qY c]
  have hdis:=hdis c
  have hle:∀a∈Ax (Rn nb x p),(x:Int)<=a:=λa ha=>by
   by_cases e:(x:Int)<=a
   ·exact e
   ·obtain ⟨d,hd⟩:=CH.mp ha
    have h0:=(hF.rng _ hd).1;dsimp only at h0;have:=h.all a.toNat (by lia);rw [BZ h0] at this;exact zX this (hdis a ha)
  have hself:(x:Int)∈Ax (Rn nb x p):=CH.mpr ⟨0,hF.src⟩;refine ⟨λs hs=>?_,?_,λy hy=>?_,?_⟩
  ·rcases Ai.mp hs with hs | hs
   ·exact ⟨by have:=(h.of s hs).1;lia,(h.of s hs).2⟩
   ·rw [AQ.mp hs]
    exact ⟨by lia,hle⟩
  ·rw [KL,Cr]
   exact CI.mpr ⟨h.nd,hF.nd,λa ha b hb e=>hdis b hb (e▸ha)⟩
  ·rw [KL,Cr]
   by_cases e:y=x
   ·rw [e];exact A5 _ hself
   ·exact A4 _ (h.all y (by lia))
  ·refine BV.mpr ⟨h.up,Jg _ _,λs hs t ht=>?_⟩
   rw [AQ.mp ht];exact (h.of s hs).1
include hnb hsym in
theorem P9:∀x:Nat,x<=p->Wk nb p x (wk nb p x)
 | 0,_=>⟨λ_ h=>zX h CD,E4,λy h=>zX h (Hd _),P7⟩
 | x+1,h=>((P9 x (by lia)).step hnb hsym (by lia)).1
def IJ (nb:Int->List Int) (p s:Nat):List Int:=Dm (Ax (Rn nb s p))
include hnb in
theorem Y3 {s:Nat} (h:s < p):(IJ nb p s).Pairwise (· < ·):=YX (IZ hnb h).nd
include hnb in
include hnb in
theorem UG {s:Nat} (h:s < p) (hle:∀a∈Ax (Rn nb s p),(s:Int)<=a):∃l,IJ nb p s=(s:Int) :: l:=by
 have hm:(s:Int)∈IJ nb p s:=(D5 _).mem_iff.mpr (CH.mpr ⟨0,(IZ hnb h).src⟩);have hup:=Y3 hnb h
 cases hq:IJ nb p s with
 | nil=>rw [hq] at hm;cases hm
 | cons a l=>
  refine ⟨l,?_⟩;rw [hq] at hm hup;have h1:=hle a ((D5 _).mem_iff.mp (show a∈IJ nb p s by rw [hq];exact A1))
  rcases Ay.mp hm with e | e
  ·rw [e]
  ·have:=(Xt.mp hup).1 _ e
   lia
end
theorem M2:∀(L C:Met),(Ax L).Nodup->(∀z∈Ax L,z∉Ax C)->M3 (mD C) (mD L)=mD (C++L)
 | [],C,_,_=>by rw [BQ];rfl
 | a :: L,C,nd,hd=>by
  obtain ⟨n1,n2⟩:=CO.mp (show (a.1 :: Ax L).Nodup from nd);have e:M3 (mD C) (mD (a :: L))=M3 (B3 (mD C) (B8 a.1) (.int a.2)) (mD L):=rfl;rw [e,ZK (hd a.1 A1),M2 L (C++[(a.1,a.2)]) n2 (λz hz hc=>?_),BG]
  ·rfl
  ·rw [Cr] at hc
   rcases Ai.mp hc with hc | hc
   ·exact hd z (Ag _ hz) hc
   ·have:z=a.1:=by simpa [Ax] using hc
    exact n1 (this▸hz)
theorem dQ {mo ma:ME} {e:Lo} {S:Sto} {n m:Nat} {C L:Met} (ho:mo e S=.ok (.ref n) S) (ha:ma e S=.ok (.ref m) S) (hn:S[n]?=some (.dK (mD C))) (hm:S[m]?=some (.dK (mD L))) (hne:n≠m) (nd:(Ax L).Nodup) (hd:∀z∈Ax L,z∉Ax C) (hl:C.length+L.length<=1000) :
  Kr mo ma e S=.ok .non (S.set n (.dK (mD (C++L)))):=by
 unfold Kr;rw [ho];dsimp only [Res.bind];rw [hn];dsimp only;rw [ha];dsimp only;rw [hn,hm];dsimp only;rw [qX ⟨hne,by unfold mD;rw [AE,AE];exact A0 hl (by decide)⟩,M2 L C nd hd]
theorem XG {S:Sto} {n:Nat} {L:Met} (h:S[n]?=some (.dK (mD L))):HF (.ref n) S=some ((Ax L).map D.int):=by
 unfold HF;dsimp only;rw [h];dsimp only;unfold mD Ax;rw [At,At];rfl
abbrev kc (W:Wd):MS:=sIf (mB (m2 (inA true) (AB 3) (AB 2))) (BI (Bk 4 (BH 2 (C8 W) (AI (AB 0) (AI (AB 3) Aw))))
  (BI (CB (Kr (AB 2) (AB 4)))
  (CB (FY (AB 1) (FX (Di (AB 4))))))) sNx
section
variable {W:Wd} {q p:Nat} {ts:List (Int×Int)}
theorem Y2 {S:Sto} (hw:Fy W S q p ts) (hp:p<=60) (hnb:∀x:Int,0<=x->x < p->∀y∈nbW ts x,0<=y/\y < p) (hlen:∀x,(nbW ts x).length<=1000) (hsym:∀x y:Int,0<=x->0<=y->y∈nbW ts x->x∈nbW ts y) :
  ∃S',Hn W [.ref q] S=.ok (.ref S.length) S'/\Keeps S S'/\S'[S.length]?=some (.lst (((wk (nbW ts) p p).map (IJ (nbW ts) p)).map CS)):=by
 have s1:Bk 1 (DT (Cw Aw)) (Cv 5 [.ref q]) S=oN [sR q,sR S.length,none,none,none] (S++[.lst []]):=rfl
 have s2:Bk 2 Hj [sR q,sR S.length,none,none,none] (S++[.lst []])=oN [sR q,sR S.length,sR (S.length+1),none,none] (S++[.lst []]++[.dK []]):=by
  show Res.ok (Fl.nx [sR q,sR S.length,some (.ref (S++[Ob.lst []]).length),none,none]) (S++[.lst []]++[.dK []])=_;rw [Ah];rfl
 have K0:Keeps S (S++[.lst []]++[.dK []]):=(Keeps.app _ _).trans (Keeps.app _ _)
 have hi:iR1 (AI (HE W.Web "places" (AB 0)) Aw) [sR q,sR S.length,sR (S.length+1),none,none] (S++[.lst []]++[.dK []])=.ok (Dc (DA 0 p)) (S++[.lst []]++[.dK []]):=by
  have:=LD (ml:=AI (HE W.Web "places" (AB 0)) Aw) (e:=[sR q,sR S.length,sR (S.length+1),none,none]) (S:=S++[.lst []]++[.dK []]) (S1:=S++[.lst []]++[.dK []]) (j:=p) (Bc ((hw.keeps K0).places rfl) rfl) (by lia) (by lia);simpa using this
 obtain ⟨f,S1,h1,z3,z4,rfl,K1,P1⟩:=FZ (v:=Dc (DA 0 p)) (g:=tgN 3) (b:=kc W) (xs:=DA 0 p) (e:=[sR q,sR S.length,sR (S.length+1),none,none]) (S:=S++[.lst []]++[.dK []])
  (λx e S'=>∃z3 z4,e=[sR q,sR S.length,sR (S.length+1),z3,z4]/\Keeps S S'/\S'[S.length]?=some (.lst (((wk (nbW ts) p x).map (IJ (nbW ts) p)).map CS))/\S'[S.length+1]?=some (.dK (mD (cov (nbW ts) p (wk (nbW ts) p x)))))
  (λf S'=>∃z3 z4,f=.nx [sR q,sR S.length,sR (S.length+1),z3,z4]/\Keeps S S'/\S'[S.length]?=some (.lst (((wk (nbW ts) p p).map (IJ (nbW ts) p)).map CS)))
  ⟨none,none,rfl,K0,(Keeps.app _ _).at (B1 _ _),by
   have:=B1 (S++[Ob.lst []]) (.dK []);rw [Ah] at this
   exact this⟩ (λ_ _ _ _=>rfl)
  (by
   rintro x d e S' hd ⟨z3,z4,rfl,K,hP,hC⟩;obtain ⟨hx,rfl⟩:=Iv hd;rw [Nd];have hW:=P9 hnb hsym x (by lia);obtain ⟨hW',hdis⟩:=hW.step hnb hsym hx;refine ⟨[sR q,sR S.length,sR (S.length+1),sI x,z4],S',rfl,?_⟩;have t1:mB (m2 (inA true) (AB 3) (AB 2)) [sR q,sR S.length,sR (S.length+1),sI x,z4] S'=.ok (!decide ((x:Int)∈Ax (cov (nbW ts) p (wk (nbW ts) p x)))) S':=Gf (BL rfl rfl (Ze hC true x));have ic:=Dd (a:=BI (Bk 4 (BH 2 (C8 W) (AI (AB 0) (AI (AB 3) Aw)))) (BI (CB (Kr (AB 2) (AB 4))) (CB (FY (AB 1) (FX (Di (AB 4))))))) (b:=sNx) t1
   by_cases c:(x:Int)∈Ax (cov (nbW ts) p (wk (nbW ts) p x))
   ·rw [wX c] at ic
    have e1:wk (nbW ts) p (x+1)=wk (nbW ts) p x:=qX c;refine ⟨_,S',ic.trans rfl,_,_,rfl,K,?_,?_⟩
    ·rw [e1];exact hP
    ·rw [e1];exact hC
   ·rw [wY c] at ic
    have e1:wk (nbW ts) p (x+1)=wk (nbW ts) p x++[x]:=qY c;obtain ⟨S2,i,c2,K2,D2,hi⟩:=SM (s:=(x:Int)) (hw.keeps K) hp hnb hlen ⟨by lia,by lia⟩;have hF:=IZ hnb hx;rw [aB hi hF.len] at D2;have s4:Bk 4 (BH 2 (C8 W) (AI (AB 0) (AI (AB 3) Aw))) [sR q,sR S.length,sR (S.length+1),sI x,z4] S'=oN [sR q,sR S.length,sR (S.length+1),sI x,sR S'.length] S2:=C4 (i:=4) ((By (ds:=[.ref q,.int x]) (S1:=S') rfl rfl).trans c2);have hCl:S.length+1 < S'.length:=(AD.mp hC).1
    have hcov:(cov (nbW ts) p (wk (nbW ts) p x)).length<=p:=by
     have:=NM p _ hW.nd λz hz=>by
      obtain ⟨s,hs,hz⟩:=MD.mp hz;obtain ⟨d,hd⟩:=CH.mp hz;exact (IZ hnb (show s < p by have:=(hW.of s hs).1;lia)).rng _ hd
     unfold Ax at this;rwa [AE] at this
    have u1:=dQ (mo:=AB 2) (ma:=AB 4) (e:=[sR q,sR S.length,sR (S.length+1),sI x,sR S'.length]) rfl rfl (K2.at hC) D2 (by lia) hF.nd (hdis c) (by have:=hF.len;lia);rw [<-KL,<-e1] at u1;have hC2:=(AD.mp (K2.at hC)).1
    have P3:(S2.set (S.length+1) (.dK (mD (cov (nbW ts) p (wk (nbW ts) p (x+1))))))[S.length]?=some (.lst (((wk (nbW ts) p x).map (IJ (nbW ts) p)).map CS)):=by
     rw [AT (by lia)];exact K2.at hP
    have D3:(S2.set (S.length+1) (.dK (mD (cov (nbW ts) p (wk (nbW ts) p (x+1))))))[S'.length]?=some (.dK (mD (Rn (nbW ts) x p))):=by
     rw [AT (by lia)];exact D2
    have C3:(S2.set (S.length+1) (.dK (mD (cov (nbW ts) p (wk (nbW ts) p (x+1))))))[S.length+1]?=some (.dK (mD (cov (nbW ts) p (wk (nbW ts) p (x+1))))):=Al hC2;have K3:Keeps S (S2.set (S.length+1) (.dK (mD (cov (nbW ts) p (wk (nbW ts) p (x+1)))))):=(K.trans K2).set (HJ _) _;generalize S2.set (S.length+1) (Ob.dK (mD (cov (nbW ts) p (wk (nbW ts) p (x+1)))))=S3 at u1 P3 D3 C3 K3;have so:=HY (m:=AB 4) (e:=[sR q,sR S.length,sR (S.length+1),sI x,sR S'.length]) (S:=S3) rfl (XG D3) (OU (Ax (Rn (nbW ts) x p)));have tu:=Hg so (Ce (B1 _ _));have K4:=Keeps.app S3 [.lst ((Dm (Ax (Rn (nbW ts) x p))).map D.int)];have P4:=K4.at P3
    have hwl:(wk (nbW ts) p x).length<=x:=by
     have h1:=NM x ((wk (nbW ts) p x).map λs:Nat=>(s:Int)) (Bt.mpr (hW.up.imp λ{a b} h e=>by lia)) λz hz=>by
      obtain ⟨s,hs,rfl⟩:=Af.mp hz;have:=(hW.of s hs).1
      lia
     rwa [AE] at h1
    have a1:=Hs (mo:=AB 1) (e:=[sR q,sR S.length,sR (S.length+1),sI x,sR S'.length]) rfl P3 tu P4 (by rw [AE,AE];exact A6 (show (wk (nbW ts) p x).length<=100 by lia) (by decide));refine ⟨_,_,ic.trans ((qX rfl).trans ((A3 s4).trans ((A3 (C9 u1)).trans (C9 a1)))),_,_,rfl,(K3.trans K4).set (AN _) _,?_,?_⟩
    ·rw [Al (AD.mp P4).1,e1,A2,A2]
     rfl
    ·rw [AT (by lia)]
     exact K4.at C3)
  (by
   rintro e S' ⟨z3,z4,rfl,K,hP,_⟩;rw [Ha] at hP
   exact ⟨_,_,rfl,K,hP⟩)
 refine ⟨S1,C6 (n:=5) (mb:=LJ W) ?_,K1,P1⟩;unfold LJ;exact (A3 s1).trans ((A3 s2).trans ((A3 ((ET hi).trans h1)).trans rfl))
end
section
variable {nb:Int->List Int} {p:Nat}
abbrev Uq (nb:Int->List Int) (p:Nat):Met:=cov nb p (wk nb p p)
abbrev col (nb:Int->List Int) (p:Nat) (x:Int):Int:=stp (Uq nb p) x % 2
variable (hnb:∀x:Int,0<=x->x < p->∀y∈nb x,0<=y/\y < p) (hsym:∀x y:Int,0<=x->0<=y->y∈nb x->x∈nb y)
include hnb hsym in
theorem MN {x:Int} (h0:0<=x) (h1:x < p):x∈Ax (Uq nb p):=by
 have:=(P9 hnb hsym p (AN _)).all x.toNat (by lia);rwa [BZ h0] at this
include hnb hsym in
theorem V9 {s:Nat} (hs:s∈wk nb p p) {a:Int×Int} (ha:a∈Rn nb s p):a∈Uq nb p:=Nr.mpr ⟨_,Af.mpr ⟨s,hs,rfl⟩,ha⟩
include hnb hsym in
def IM (nb:Int->List Int) (p:Nat) (c:Int->Int):Prop:=∀a b:Int,0<=a->a < p->b∈nb a->c a≠c b
include hnb hsym in
theorem Uk {c:Int->Int} (h01:∀x:Int,0<=x->x < p->c x=0∨c x=1) (hc:IM nb p c):IM nb p (col nb p):=by
 have hW:=P9 hnb hsym p (AN _)
 have key:∀s∈wk nb p p,∀(d:Nat) (z:Int),(z,(d:Int))∈Rn nb s p->(c z+c s+d) % 2=0:=by
  intro s hs d;have hsp:=(hW.of s hs).1;have hF:=IZ hnb hsp
  induction d with
  | zero=>
   intro z hz;have:z=s:=hF.zero _ hz rfl;subst this
   rcases h01 s (by lia) (by lia) with e | e <;> rw [e] <;> rfl
  | succ d ih=>
   intro z hz;obtain ⟨b,hb,e1,e2⟩:=hF.par _ hz (by dsimp only;lia)
   have e3:b.2=d:=by dsimp only at e1;lia
   have hi:=ih b.1 (by rw [<-e3];exact hb);have hbr:=hF.rng _ hb;have hzr:=hF.rng _ hz;have hne:=hc b.1 z hbr.1 hbr.2 e2;dsimp only at hzr
   rcases h01 b.1 hbr.1 hbr.2 with e | e <;> rcases h01 z hzr.1 hzr.2 with e' | e' <;> rw [e,e'] at hne <;> rw [e] at hi <;> rw [e'] <;> lia
 intro a b ha0 ha hb e;have hbr:=hnb a ha0 ha b hb;obtain ⟨s,hs,hz⟩:=MD.mp (MN hnb hsym ha0 ha);have hsp:=(hW.of s hs).1;have hF:=IZ hnb hsp;obtain ⟨d,hd⟩:=CH.mp hz;obtain ⟨d',hd',_⟩:=hF.cl _ hd b hb;have e1:=Qz hW.nd (V9 hnb hsym hs hd);have e2:=Qz hW.nd (V9 hnb hsym hs hd');have n1:=hF.nn _ hd;have n2:=hF.nn _ hd';dsimp only at n1 n2;have k1:=key s hs d.toNat a (by rw [BZ n1];exact hd);have k2:=key s hs d'.toNat b (by rw [BZ n2];exact hd');have e:stp (Uq nb p) a % 2=stp (Uq nb p) b % 2:=e;rw [e1,e2] at e;have hne:=hc a b ha0 ha hb
 rcases h01 a ha0 ha with f | f <;> rcases h01 b hbr.1 hbr.2 with f' | f' <;> rw [f,f'] at hne <;> rw [f] at k1 <;> rw [f'] at k2 <;> lia
end
theorem ie (r:List Int) (neg:Bool) (S:Sto):eqD neg (CS r) (CS r) S=.ok (.bl (!neg)) S:=by
 have:eqB (CS r) (CS r) S=some true:=by
  show eqL (eqP 7) (r.map D.int) (r.map D.int)=some true;exact O9 7 _
 unfold eqD;rw [this]
 cases neg <;> rfl
theorem ci {S:Sto} {a:Int} {l:List Int}:ixA (CS (a :: l)) (.int 0) S=.ok (.int a) S:=RK (d:=CS (a :: l)) (ds:=(a :: l).map D.int) (j:=0) rfl (by lia) rfl
section
variable {W:Wd} {q p:Nat} {ts:List (Int×Int)}
abbrev kb (W:Wd):MS:=CB (Kr (AB 1) (BH 2 (C8 W) (AI (AB 0) (AI (m2 ixA (AB 2) (mC (.int 0))) Aw))))
theorem dR {mo ma:ME} {e:Lo} {S S2:Sto} {n m:Nat} {C L:Met} (ho:mo e S=.ok (.ref n) S) (hn0:S[n]?=some (.dK (mD C))) (ha:ma e S=.ok (.ref m) S2) (hn:S2[n]?=some (.dK (mD C))) (hm:S2[m]?=some (.dK (mD L))) (hne:n≠m) (nd:(Ax L).Nodup) (hd:∀z∈Ax L,z∉Ax C) (hl:C.length+L.length<=1000) :
  Kr mo ma e S=.ok .non (S2.set n (.dK (mD (C++L)))):=by
 unfold Kr;rw [ho];dsimp only [Res.bind];rw [hn0];dsimp only;rw [ha];dsimp only;rw [hn,hm];dsimp only;rw [qX ⟨hne,by unfold mD;rw [AE,AE];exact A0 hl (by decide)⟩,M2 L C nd hd]
theorem fk {S:Sto} (hw:Fy W S q p ts) (hp:p<=60) (hnb:∀x:Int,0<=x->x < p->∀y∈nbW ts x,0<=y/\y < p) (hlen:∀x,(nbW ts x).length<=1000) (hsym:∀x y:Int,0<=x->0<=y->y∈nbW ts x->x∈nbW ts y) :
  ∃S',E3 W [.ref q] S=.ok (.ref S.length) S'/\Keeps S S'/\S'[S.length]?=some (.dK (mD (Uq (nbW ts) p))):=by
 have s1:Bk 1 Hj (Cv 3 [.ref q]) S=oN [sR q,sR S.length,none] (S++[.dK []]):=rfl;have K0:=Keeps.app S [.dK []];obtain ⟨S1,c1,K1,P1⟩:=Y2 (hw.keeps K0) hp hnb hlen hsym;have hW:=P9 hnb hsym p (AN _);have hD1:=K1.at (B1 S (.dK []))
 have hcl:∀R:List Nat,(∀s∈R,s < p)->(Ax (cov (nbW ts) p R)).Nodup->(cov (nbW ts) p R).length<=p:=λR hR nd=>by
  have:=NM p _ nd λz hz=>by
   obtain ⟨s,hs,hz⟩:=MD.mp hz;obtain ⟨d,hd⟩:=CH.mp hz;exact (IZ hnb (hR s hs)).rng _ hd
  unfold Ax at this;rwa [AE] at this
 rw [At] at P1
 obtain ⟨f,S2,h2,z2,rfl,K2,D2⟩:=FZ (v:=Em (.ref (S++[Ob.dK []]).length)) (g:=tgN 2) (b:=kb W) (xs:=(wk (nbW ts) p p).map (CS∘IJ (nbW ts) p)) (e:=[sR q,sR S.length,none]) (S:=S1)
  (λi e S'=>∃z2,e=[sR q,sR S.length,z2]/\Keeps S S'/\S'[(S++[Ob.dK []]).length]?=some (.lst ((wk (nbW ts) p p).map (CS∘IJ (nbW ts) p)))/\S'[S.length]?=some (.dK (mD (cov (nbW ts) p ((wk (nbW ts) p p).take i)))))
  (λf S'=>∃z2,f=.nx [sR q,sR S.length,z2]/\Keeps S S'/\S'[S.length]?=some (.dK (mD (Uq (nbW ts) p))))
  ⟨none,rfl,K0.trans K1,P1,by rw [List.take_zero];exact hD1⟩ (by rintro i e S' ⟨_,_,_,h,_⟩;exact ED h)
  (by
   rintro i d e S' hd ⟨z2,rfl,K,hP,hD⟩;rw [AO] at hd
   cases hq:(wk (nbW ts) p p)[i]? with
   | none=>rw [hq] at hd;cases hd
   | some s=>
    rw [hq] at hd;cases hd;have hs:=BD hq;have hsp:=(hW.of s hs).1;obtain ⟨l,e1⟩:=UG hnb hsp (hW.of s hs).2;obtain ⟨S3,j,c3,K3,D3,hj⟩:=SM (s:=(s:Int)) (hw.keeps K) hp hnb hlen ⟨by lia,by lia⟩;have hF:=IZ hnb hsp;rw [aB hj hF.len] at D3;have c4:BH 2 (C8 W) (AI (AB 0) (AI (m2 ixA (AB 2) (mC (.int 0))) Aw)) [sR q,sR S.length,some (CS (IJ (nbW ts) p s))] S'=.ok (.ref S'.length) S3:=(By (ds:=[.ref q,.int s]) (S1:=S') (Bc rfl (Bc (BL rfl rfl (by rw [e1];exact ci)) rfl)) rfl).trans c3;have etk:(wk (nbW ts) p p).take (i+1)=(wk (nbW ts) p p).take i++[s]:=take_snoc hq
    have hnd:(Ax (cov (nbW ts) p ((wk (nbW ts) p p).take (i+1)))).Nodup:=by
     have e5:wk (nbW ts) p p=(wk (nbW ts) p p).take (i+1)++(wk (nbW ts) p p).drop (i+1):=(Ef _ _).symm;have h6:=hW.nd;rw [e5] at h6;unfold cov at h6;rw [A2,WO,Cr] at h6;exact (CI.mp h6).1
    rw [etk,KL,Cr] at hnd;obtain ⟨n1,n2,n3⟩:=CI.mp hnd;have hSl:S.length < S'.length:=(AD.mp hD).1;have hPl:(S++[Ob.dK []]).length < S'.length:=(AD.mp hP).1
    have u1:=dR (mo:=AB 1) (e:=[sR q,sR S.length,some (CS (IJ (nbW ts) p s))]) rfl hD c4 (K3.at hD) D3 (by lia) hF.nd (λz hz hc=>n3 z hc z hz rfl) (by
     have:=hcl ((wk (nbW ts) p p).take i) (λs hs=>(hW.of s (U1 hs)).1) n1;have:=hF.len
     lia)
    refine ⟨[sR q,sR S.length,some (CS (IJ (nbW ts) p s))],S',rfl,_,_,C9 u1,_,rfl,(K.trans K3).set (AN _) _,?_,?_⟩
    ·rw [AT (by rw [Ah];simp)]
     exact K3.at hP
    ·rw [Al (by have:=K3.1;lia),etk,KL])
  (by
   rintro e S' ⟨z2,rfl,K,_,hD⟩;rw [AE,DK] at hD
   exact ⟨_,rfl,K,hD⟩)
 refine ⟨S2,C6 (n:=3) (mb:=Gc W) ?_,K2,D2⟩;unfold Gc;have h0:AI (AB 0) Aw [sR q,sR S.length,none] (S++[Ob.dK []])=.ok [.ref q] (S++[Ob.dK []]):=rfl;have hc0:BH 1 (Hn W) (AI (AB 0) Aw) [sR q,sR S.length,none] (S++[.dK []])=.ok (.ref (S++[Ob.dK []]).length) S1:=(By h0 rfl).trans c1;have hv0:=Hk hc0 P1;have hfor:GD (E9 (BH 1 (Hn W) (AI (AB 0) Aw))) (tgN 2) (kb W) [sR q,sR S.length,none] (S++[.dK []])=oN [sR q,sR S.length,z2] S2:=(ET hv0).trans h2;have hend:C5 (AB 1) [sR q,sR S.length,z2] S2=.ok (.rt (.ref S.length)) S2:=rfl;exact (A3 s1).trans ((A3 hfor).trans hend)
end
section
variable {W:Wd} {q p:Nat} {ts:List (Int×Int)}
theorem Z3 {S:Sto} {d:Nat} {C:Met} (hw:Fy W S q p ts) (hd:S[d]?=some (.dK (mD C))) (nd:(Ax C).Nodup) (hin:∀x∈ts,x.1∈Ax C/\x.2∈Ax C) :
  ∃o,EL W [.ref q,.ref d] S=.ok o S/\((o=.non/\∀x∈ts,stp C x.1 % 2≠stp C x.2 % 2)∨(∃x:Int×Int,o=pairD x/\x∈ts/\stp C x.1 % 2=stp C x.2 % 2)):=by
 obtain ⟨f,S1,h1,rfl,hf⟩:=FZ (v:=Dc (ts.map pairD)) (g:=E5 2 (Bn (tgN 2) (Bn (tgN 3) FH))) (b:=sIf (mB (m2 (eqD false) (m2 Dg (m2 ixA (AB 1) (AB 2)) (mC (.int 2))) (m2 Dg (m2 ixA (AB 1) (AB 3)) (mC (.int 2))))) (C5 (Gz (AI (AB 2) (AI (AB 3) Aw)))) sNx) (xs:=ts.map pairD) (e:=[sR q,sR d,none,none]) (S:=S)
  (λi e S'=>S'=S/\(∃z2 z3,e=[sR q,sR d,z2,z3])/\∀x∈ts.take i,stp C x.1 % 2≠stp C x.2 % 2)
  (λf S'=>S'=S/\(((∃e,f=.nx e)/\∀x∈ts,stp C x.1 % 2≠stp C x.2 % 2)∨∃x:Int×Int,f=.rt (pairD x)/\x∈ts/\stp C x.1 % 2=stp C x.2 % 2))
  ⟨rfl,⟨none,none,rfl⟩,λx h=>by simp at h⟩ (λ_ _ _ _=>rfl)
  (by
   rintro i y e S' hy ⟨rfl,⟨z2,z3,rfl⟩,hno⟩;rw [AO] at hy
   cases hx:ts[i]? with
   | none=>rw [hx] at hy;cases hy
   | some x=>
    rw [hx] at hy;cases hy;have hxm:=BD hx;obtain ⟨i1,i2⟩:=hin x hxm;refine ⟨[sR q,sR d,sI x.1,sI x.2],S',rfl,?_⟩;have t:mB (m2 (eqD false) (m2 Dg (m2 ixA (AB 1) (AB 2)) (mC (.int 2))) (m2 Dg (m2 ixA (AB 1) (AB 3)) (mC (.int 2)))) [sR q,sR d,sI x.1,sI x.2] S'=.ok (decide (stp C x.1 % 2=stp C x.2 % 2)) S':=Gf (BL (BL (BL rfl rfl (N4 hd nd i1)) rfl (Dh (by decide))) (BL (BL rfl rfl (N4 hd nd i2)) rfl (Dh (by decide))) (LG rfl));have ic:=Dd (a:=C5 (Gz (AI (AB 2) (AI (AB 3) Aw)))) (b:=sNx) t
    by_cases c:stp C x.1 % 2=stp C x.2 % 2
    ·rw [wX c] at ic
     exact ⟨.rt (pairD x),S',ic.trans rfl,rfl,.inr ⟨x,rfl,hxm,c⟩⟩
    ·rw [wY c] at ic
     refine ⟨_,S',ic.trans rfl,rfl,⟨_,_,rfl⟩,λy hy=>?_⟩;rw [take_snoc hx] at hy
     rcases Ai.mp hy with hy | hy
     ·exact hno y hy
     ·rw [AQ.mp hy];exact c)
  (by
   rintro e S' ⟨rfl,_,hno⟩;rw [AE,DK] at hno
   exact ⟨rfl,.inl ⟨⟨_,rfl⟩,hno⟩⟩)
 have hi:=MB (m:=HE W.Web "ties" (AB 0)) (e:=[sR q,sR d,none,none]) (hw.ties rfl)
 rcases hf with ⟨⟨e,rfl⟩,hno⟩ | ⟨x,rfl,hx,hc⟩
 ·refine ⟨.non,C6 (n:=4) (mb:=FP W) ?_,.inl ⟨rfl,hno⟩⟩
  unfold FP;exact (A3 ((ET hi).trans h1)).trans rfl
 ·refine ⟨pairD x,C6 (n:=4) (mb:=FP W) ?_,.inr ⟨x,rfl,hx,hc⟩⟩
  unfold FP;exact Mo ((ET hi).trans h1)
end
section
variable {W:Wd} {q p:Nat} {ts:List (Int×Int)}
theorem fU {S:Sto} (hw:Fy W S q p ts) (hp:p<=60) (hnb:∀x:Int,0<=x->x < p->∀y∈nbW ts x,0<=y/\y < p) (hlen:∀x,(nbW ts x).length<=1000) (hsym:∀x y:Int,0<=x->0<=y->y∈nbW ts x->x∈nbW ts y) (hts:∀x∈ts,(0<=x.1/\x.1 < p)/\x.2∈nbW ts x.1) (hall:∀a b:Int,0<=a->a < p->b∈nbW ts a->(a,b)∈ts∨(b,a)∈ts) :
  ∃o S',Go W [.ref q] S=.ok o S'/\Keeps S S'/\((o=.non/\¬IM (nbW ts) p (col (nbW ts) p))∨(o=CS ((BN p).map λx:Nat=>col (nbW ts) p x)/\IM (nbW ts) p (col (nbW ts) p))):=by
 obtain ⟨S1,c1,K1,D1⟩:=fk hw hp hnb hlen hsym;have hW:=P9 hnb hsym p (AN _);have s1:Bk 1 (BH 1 (E3 W) (AI (AB 0) Aw)) (Cv 2 [.ref q]) S=oN [sR q,sR S.length] S1:=C4 (i:=1) ((By (ds:=[.ref q]) (S1:=S) rfl rfl).trans c1);have w1:=hw.keeps K1
 obtain ⟨o,c2,h2⟩:=Z3 w1 D1 hW.nd (λx hx=>by
  obtain ⟨b1,b2⟩:=hts x hx;have b3:=hnb x.1 b1.1 b1.2 x.2 b2
  exact ⟨MN hnb hsym b1.1 b1.2,MN hnb hsym b3.1 b3.2⟩)
 have c3:BH 2 (EL W) (AI (AB 0) (AI (AB 1) Aw)) [sR q,sR S.length] S1=.ok o S1:=(By (ds:=[.ref q,.ref S.length]) (S1:=S1) rfl rfl).trans c2
 rcases h2 with ⟨rfl,hno⟩ | ⟨x,rfl,hx,hc⟩
 ·have hprop:IM (nbW ts) p (col (nbW ts) p):=λa b ha0 ha hb=>by
   rcases hall a b ha0 ha hb with h | h
   ·exact hno _ h
   ·exact λe=>hno _ h e.symm
  have t2:mB (m2 (XI true) (BH 2 (EL W) (AI (AB 0) (AI (AB 1) Aw))) (mC .non)) [sR q,sR S.length] S1=.ok false S1:=Gf (BL c3 rfl rfl)
  have hi:iR1 (AI (HE W.Web "places" (AB 0)) Aw) [sR q,sR S.length] S1=.ok (Dc (DA 0 p)) S1:=by
   have:=LD (ml:=AI (HE W.Web "places" (AB 0)) Aw) (e:=[sR q,sR S.length]) (S:=S1) (S1:=S1) (j:=p) (Bc (w1.places rfl) rfl) (by omega) (by omega);simpa using this
  have q3:=ZG (f:=kE) (g:=λx:Nat=>D.int (col (nbW ts) p x)) (l:=BN p) (v:=Dc (DA 0 p)) (m:=m2 Dg (m2 ixA (AB 2) (AB 0)) (mC (.int 2))) (e:=[sR q,sR S.length]) (S:=S1) (by rw [Wt];rfl) (by simp;omega) (λx hx=>BL (BL rfl rfl (N4 D1 hW.nd (MN hnb hsym (by omega) (by have:=Dx.mp hx;omega)))) rfl (Dh (by decide)));have n3:=Mz ((N7 (n:=1) (g:=tgN 0) (c:=G3) (m:=m2 Dg (m2 ixA (AB 2) (AB 0)) (mC (.int 2))) hi).trans q3);have tu:=Hg n3 (Ce (B1 _ _))
  have e4:D.tup ((BN p).map λx:Nat=>D.int (col (nbW ts) p x))=CS ((BN p).map λx:Nat=>col (nbW ts) p x):=by unfold CS;rw [At];rfl
  rw [e4] at tu;refine ⟨_,_,C6 (n:=2) (mb:=FO W) ?_,K1.trans (Keeps.app S1 [.lst ((BN p).map λx:Nat=>D.int (col (nbW ts) p x))]),.inr ⟨rfl,hprop⟩⟩;unfold FO;exact (A3 s1).trans ((Vh t2).trans (HA tu))
 ·obtain ⟨b1,b2⟩:=hts x hx
  have t2:mB (m2 (XI true) (BH 2 (EL W) (AI (AB 0) (AI (AB 1) Aw))) (mC .non)) [sR q,sR S.length] S1=.ok true S1:=Gf (BL c3 rfl rfl);refine ⟨.non,S1,C6 (n:=2) (mb:=FO W) ?_,K1,.inl ⟨rfl,λh=>h x.1 x.2 b1.1 b1.2 b2 hc⟩⟩;unfold FO;exact (A3 s1).trans (iJ t2 rfl)
end
theorem LA {p:Nat} {ts:List (Int×Int)} (hu:Eb p 0 ts) (x:Int):nbW (Df ts) x=nr ts x.toNat:=cS hu x.toNat
theorem ZD {p:Nat} {ts:List (Int×Int)} (hu:Eb p 0 ts):∀x:Int,0<=x->x < p->∀y∈nbW (Df ts) x,0<=y/\y < p:=λx _ _ y hy=>by
 rw [LA hu] at hy;exact eE hu hy
theorem Vb {ts:List (Int×Int)} {p:Nat} (hu:Eb p 0 ts) (x y:Int) (hx:0<=x) (hy:0<=y) (h:y∈nbW (Df ts) x):x∈nbW (Df ts) y:=by
 rw [LA hu] at h ⊢
 obtain ⟨a,rfl⟩:∃a:Nat,x=a:=⟨x.toNat,by lia⟩
 obtain ⟨b,rfl⟩:∃b:Nat,y=b:=⟨y.toNat,by lia⟩
 rw [B9] at h ⊢;exact cT.mp h
abbrev kd (W:Wd):MS:=sIf (mB (m2 (eqD true) (m2 Dg (BH 2 (Bu W) (AI (AB 1) (AI (m2 Fx (mC (.int 501)) (AB 6)) Aw))) (mC (.int 2))) (m2 Dg (BH 2 (Bu W) (AI (AB 1) (AI (m2 Fx (mC (.int 501)) (AB 7)) Aw))) (mC (.int 2))))) (CB (FY (AB 5) (Gz (AI (AB 6) (AI (AB 7) Aw))))) sNx
theorem Eb.sub {p j:Nat} {ts us:List (Int×Int)} (h:Eb p j ts) (s:us.Sublist ts):Eb p j us:=⟨λx hx=>h.1 x (s.subset hx),h.2.sublist s⟩
theorem XQ (W:Wd) (ns:List Int) (S:Sto):∃(m t:Nat) (us:List (Int×Int)) (S':Sto),FM W [.fro (ns.map D.int)] S=.ok (.tup [.int m,.ref t]) S'/\Keeps S S'/\S'[t]?=some (.lst (us.map pairD))/\Eb m 0 us/\us.length<=3600/\1<=m/\m<=60/\∃cf:Int->Int,∀x∈us,cf x.1 % 2≠cf x.2 % 2:=by
 obtain ⟨h,hc⟩:=V0 W ns 0 S
 obtain ⟨cf,hcf⟩:∃cf:Int->Int,∀z S,Bu W [.int h,.int (501+z)] S=.ok (.int (cf z)) S:=⟨λz=>(L1 W h (501+z)).choose,λz=>(L1 W h (501+z)).choose_spec.2.2⟩
 have s1:Bk 1 (BH 2 (DJ W) (AI (AB 0) (AI (mC (.int 0)) Aw))) (Cv 8 [.fro (ns.map D.int)]) S=oN [sF ns,sI h,none,none,none,none,none,none] S:=C4 (i:=1) ((By (ds:=[.fro (ns.map D.int),.int 0]) (S1:=S) rfl rfl).trans hc);have s2:Bk 2 (m2 Fx (mC (.int 1)) (m2 Dg (AB 1) (mC (.int 14)))) [sF ns,sI h,none,none,none,none,none,none] S=oN [sF ns,sI h,sI (1+h % 14),none,none,none,none,none] S:=C4 (i:=2) (BL rfl (BL rfl rfl (Dh (by decide))) rfl);obtain ⟨S1,pool,q1,K1,a1,p1,p2⟩:=br W ns S;have s3:Bk 3 (BH 2 (IK W) (AI (AB 0) (AI (mC (.int 1)) Aw))) [sF ns,sI h,sI (1+h % 14),none,none,none,none,none] S=oN [sF ns,sI h,sI (1+h % 14),sR S.length,none,none,none,none] S1:=C4 (i:=3) ((By (ds:=[.fro (ns.map D.int),.int 1]) (S1:=S) rfl rfl).trans q1);have s4:Bk 4 (m2 Fx (mC (.int 1)) (m2 Dg (m2 MC (AB 1) (mC (.int 5))) (mC (.int 6)))) [sF ns,sI h,sI (1+h % 14),sR S.length,none,none,none,none] S1=oN [sF ns,sI h,sI (1+h % 14),sR S.length,sI (1+h / 5 % 6),none,none,none] S1:=C4 (i:=4) (BL rfl (BL (BL rfl rfl (O6 (by decide) (by decide))) rfl (Dh (by decide))) rfl);have c5:m2 Dg (m2 MC (AB 1) (mC (.int 14))) (mC (.int 8)) [sF ns,sI h,sI (1+h % 14),sR S.length,sI (1+h / 5 % 6),none,none,none] S1=.ok (.int (h / 14 % 8)) S1:=BL (BL rfl rfl (O6 (by decide) (by decide))) rfl (Dh (by decide))
 obtain ⟨m,th,hm1,hm2,s5⟩:∃(m:Nat) (th:Int),1<=m/\m<=60/\sIf (mB (m2 (eqD false) (m2 Dg (m2 MC (AB 1) (mC (.int 14))) (mC (.int 8))) (mC (.int 3)))) (BI (Bk 2 (m2 Fx (mC (.int 15)) (m2 Dg (m2 MC (AB 1) (mC (.int 112))) (mC (.int 46))))) (Bk 4 (mC (.int 1)))) sNx [sF ns,sI h,sI (1+h % 14),sR S.length,sI (1+h / 5 % 6),none,none,none] S1=oN [sF ns,sI h,sI m,sR S.length,sI th,none,none,none] S1:=by
  by_cases c:h / 14 % 8=3
  ·refine ⟨(15+h / 112 % 46).toNat,1,by lia,by lia,?_⟩
   rw [show ((15+h / 112 % 46).toNat:Int)=15+h / 112 % 46 by lia];refine (Dd (Gf (BL c5 rfl (LG (wX c))))).trans ((qX rfl).trans ?_);refine (A3 (e1:=[sF ns,sI h,sI (15+h / 112 % 46),sR S.length,sI (1+h / 5 % 6),none,none,none]) (S1:=S1) (C4 (i:=2) (BL rfl (BL (BL rfl rfl (O6 (by decide) (by decide))) rfl (Dh (by decide))) rfl))).trans rfl
  ·refine ⟨(1+h % 14).toNat,1+h / 5 % 6,by lia,by lia,?_⟩
   rw [show ((1+h % 14).toNat:Int)=1+h % 14 by lia];exact (Dd (Gf (BL c5 rfl (LG (wY c))))).trans rfl
 have s6:Bk 5 (DT (Cw Aw)) [sF ns,sI h,sI m,sR S.length,sI th,none,none,none] S1=oN [sF ns,sI h,sI m,sR S.length,sI th,sR S1.length,none,none] (S1++[.lst []]):=rfl;obtain ⟨ts,q2,u2,l2⟩:=Sw W th ((Keeps.app S1 [.lst []]).at a1) p1 hm1 hm2;have t2:=B1 (S1++[.lst []]) (.lst (ts.map pairD));have f2:=(Keeps.app (S1++[Ob.lst []]) [.lst (ts.map pairD)]).at (B1 S1 (.lst []));have K2:Keeps S1 (S1++[.lst []]++[.lst (ts.map pairD)]):=(Keeps.app _ _).trans (Keeps.app _ _)
 have lt:S1.length < (S1++[Ob.lst []]).length:=by simp
 generalize S1++[Ob.lst []]++[Ob.lst (ts.map pairD)]=S2 at q2 t2 f2 K2;generalize (S1++[Ob.lst []]).length=t at q2 t2 lt
 obtain ⟨f,S3,h3,⟨z6,z7,rfl⟩,K3,us,su,cu,f3⟩:=FZ (v:=Em (.ref t)) (g:=E5 2 (Bn (tgN 6) (Bn (tgN 7) FH))) (b:=kd W) (xs:=ts.map pairD) (e:=[sF ns,sI h,sI m,sR S.length,sI th,sR S1.length,none,none]) (S:=S2)
  (λi e S'=>(∃z6 z7,e=[sF ns,sI h,sI m,sR S.length,sI th,sR S1.length,z6,z7])/\(Keeps S1 S'/\S'[t]?=some (.lst (ts.map pairD)))/\∃us:List (Int×Int),us.Sublist (ts.take i)/\(∀x∈us,cf x.1 % 2≠cf x.2 % 2)/\S'[S1.length]?=some (.lst (us.map pairD)))
  (λf S'=>(∃z6 z7,f=.nx [sF ns,sI h,sI m,sR S.length,sI th,sR S1.length,z6,z7])/\Keeps S1 S'/\∃us:List (Int×Int),us.Sublist ts/\(∀x∈us,cf x.1 % 2≠cf x.2 % 2)/\S'[S1.length]?=some (.lst (us.map pairD)))
  ⟨⟨none,none,rfl⟩,⟨K2,t2⟩,[],List.nil_sublist _,λx hx=>(nomatch hx),f2⟩ (by rintro i e S' ⟨_,⟨_,h⟩,_⟩;exact ED h)
  (by
   rintro i d e S' hd ⟨⟨z6,z7,rfl⟩,⟨K,ht⟩,us,su,cu,hu⟩;rw [AO] at hd
   cases hq:ts[i]? with
   | none=>rw [hq] at hd;cases hd
   | some x=>
    rw [hq] at hd;cases hd;refine ⟨[sF ns,sI h,sI m,sR S.length,sI th,sR S1.length,sI x.1,sI x.2],S',rfl,?_⟩;have m1:=hcf x.1;have m2':=hcf x.2;generalize e1:cf x.1=v1 at m1;generalize e2:cf x.2=v2 at m2'
    have tt:mB (m2 (eqD true) (m2 Dg (BH 2 (Bu W) (AI (AB 1) (AI (m2 Fx (mC (.int 501)) (AB 6)) Aw))) (mC (.int 2))) (m2 Dg (BH 2 (Bu W) (AI (AB 1) (AI (m2 Fx (mC (.int 501)) (AB 7)) Aw))) (mC (.int 2)))) [sF ns,sI h,sI m,sR S.length,sI th,sR S1.length,sI x.1,sI x.2] S'=.ok (decide (v1 % 2≠v2 % 2)) S':=
     Gf (BL (BL ((By (ds:=[.int h,.int (501+x.1)]) (S1:=S') rfl rfl).trans (m1 S')) rfl (Dh (by decide))) (BL ((By (ds:=[.int h,.int (501+x.2)]) (S1:=S') rfl rfl).trans (m2' S')) rfl (Dh (by decide))) (ZC rfl))
    have ic:=Dd (a:=CB (FY (AB 5) (Gz (AI (AB 6) (AI (AB 7) Aw))))) (b:=sNx) tt;have hul:=su.length_le;rw [Dy] at hul
    by_cases c:v1 % 2≠v2 % 2
    ·rw [wX c] at ic
     have ap:=Hs (mo:=AB 5) (ma:=Gz (AI (AB 6) (AI (AB 7) Aw))) (e:=[sF ns,sI h,sI m,sR S.length,sI th,sR S1.length,sI x.1,sI x.2]) (S:=S') (y:=pairD x) (S2:=S') rfl hu rfl hu (by rw [AE];exact A6 (show us.length<=3600 by lia) (by decide));refine ⟨_,_,ic.trans ((qX rfl).trans (C9 ap)),⟨_,_,rfl⟩,⟨K.set (AN _) _,?_⟩,us++[x],?_,λy hy=>?_,?_⟩
     ·rw [AT (by lia)]
      exact ht
     ·rw [take_snoc hq]
      exact su.append (lH _)
     ·rcases Ai.mp hy with hy | hy
      ·exact cu y hy
      ·rw [AQ.mp hy,e1,e2];exact c
     ·rw [Al (AD.mp hu).1,A2]
      rfl
    ·rw [wY c] at ic
     refine ⟨_,_,ic.trans rfl,⟨_,_,rfl⟩,⟨K,ht⟩,us,?_,cu,hu⟩;rw [take_snoc hq]
     exact su.trans (List.sublist_append_left _ _))
  (by
   rintro e S' ⟨⟨z6,z7,rfl⟩,⟨K,ht⟩,us,su,cu,hu⟩;rw [AE,DK] at su
   exact ⟨⟨_,_,rfl⟩,K,us,su,cu,hu⟩)
 refine ⟨m,S1.length,us,S3,C6 (n:=8) (mb:=Ic W) ?_,K1.trans K3,f3,u2.sub su,A0 su.length_le l2,hm1,hm2,cf,cu⟩;unfold Ic;refine (A3 s1).trans ((A3 s2).trans ((A3 s3).trans ((A3 s4).trans ((A3 s5).trans ((A3 s6).trans ?_)))));have h0:AI (AB 3) (AI (AB 2) (AI (AB 4) Aw)) [sF ns,sI h,sI m,sR S.length,sI th,sR S1.length,none,none] (S1++[Ob.lst []])=.ok [.ref S.length,.int m,.int th] (S1++[Ob.lst []]):=rfl;have hc0:=(By h0 rfl).trans q2;have hv0:=Hk hc0 t2;refine (A3 ((ET hv0).trans h3)).trans (HA ?_);exact Mi (ds:=[.int m,.ref S1.length]) rfl (by simp)
theorem UL {ts:List (Int×Int)} {x:Nat} {z:Int}:z∈CJ ts x↔∃t∈ts,(t.1=x/\z=t.2)∨(t.2=x/\z=t.1):=by
 unfold CJ;rw [aH]
 constructor
 ·rintro ⟨t,ht,hz⟩
  refine ⟨t,ht,?_⟩
  rcases Ai.mp hz with h | h
  ·split at h
   ·rename_i e;exact .inl ⟨e,AQ.mp h⟩
   ·cases h
  ·split at h
   ·rename_i e;exact .inr ⟨e,AQ.mp h⟩
   ·cases h
 ·rintro ⟨t,ht,⟨h1,h2⟩ | ⟨h1,h2⟩⟩
  ·exact ⟨t,ht,by rw [qX h1];simp [h2]⟩
  ·exact ⟨t,ht,by rw [qX h1];simp [h2]⟩
theorem L0 {x:Nat}:∀ {ts:List (Int×Int)},ts.Nodup->(∀t∈ts,t.1 < t.2)->(CJ ts x).Nodup
 | [],_,_=>E4
 | t :: ts,h,hlt=>by
  obtain ⟨h1,h2⟩:=CO.mp h
  have ih:=L0 (x:=x) h2 λu hu=>hlt u (Ag _ hu)
  have hl:=hlt t A1;show (((if t.1=(x:Int) then [t.2] else [])++(if t.2=(x:Int) then [t.1] else []))++CJ ts x).Nodup;rw [CI];refine ⟨?_,ih,λa ha b hb e=>?_⟩
  ·by_cases c1:t.1=(x:Int)
   ·rw [qX c1,qY (by lia)];simp
   ·rw [qY c1];split <;> simp
  ·subst e
   obtain ⟨u,hu,hz⟩:=UL.mp hb;have hul:=hlt u (Ag _ hu)
   have:t=u:=by
    rcases Ai.mp ha with q | q
    ·split at q
     ·rename_i e1
      have:=AQ.mp q
      rcases hz with ⟨z1,z2⟩ | ⟨z1,z2⟩
      ·exact dw (by lia) (by lia)
      ·lia
     ·cases q
    ·split at q
     ·rename_i e1
      have:=AQ.mp q
      rcases hz with ⟨z1,z2⟩ | ⟨z1,z2⟩
      ·lia
      ·exact dw (by lia) (by lia)
     ·cases q
   exact h1 (this▸hu)
end M
namespace M
open PySem L2 L4
def Gy (W:Wd) (w:Nat×List (Int×Int)):Ob:=.ins W.Web [("places",.int w.1),("ties",.tup (w.2.map pairD)),("near_sets",.tup (Fn w.1 w.2))]
def J4 (p:Nat) (ts:List (Int×Int)):List (List Int):=(BN p).map λx=>Dm (CJ ts x)
theorem ZA (p:Nat) (ts:List (Int×Int)):D.tup (Fn p ts)=eT (eT D.int) (J4 p ts):=by
 unfold Fn J4 eT;rw [At];rfl
section
variable {W:Wd} {A:List Sl} {a b m:ME} {p:Option (Nat×List (Int×Int))}
theorem VN {α:Type} {f:Str} {enc:α->D} {g:Nat×List (Int×Int)->α} (h:VE A m (rO (Gy W)) p) (hl:∀w,([("places",D.int w.1),("ties",.tup (w.2.map pairD)),("near_sets",.tup (Fn w.1 w.2))]:List (Str×D)).lookup f=some (enc (g w))):VE A (HE W.Web f m) (rV enc) (p.bind λw=>some (g w)):=λv hv S0 e F S hs=>by
 obtain ⟨w,h1,h2⟩:=BJ hv;cases h2;obtain ⟨d,S',h3,h4,n,rfl,hn⟩:=h w h1 S0 e F S hs;exact ⟨_,S',O4 h3 hn (hl w),h4,rfl⟩
theorem Me (h:VE A m (rO (Gy W)) p):VE A (HE W.Web "places" m) (rV D.int) (p.bind λw=>some (w.1:Int)):=VN h λw=>kH _ _ _
theorem ax (h:VE A m (rO (Gy W)) p):VE A (HE W.Web "near_sets" m) (rV (eT (eT D.int))) (p.bind λw=>some (J4 w.1 w.2)):=VN h λw=>by rw [<-ZA];exact kG _ _ _
theorem fC (W:Wd) {p:Nat} (h1:1<=p) (hp:p<=60) {d:D} {S:Sto} {ps:List (Int×Int)} (hv:∀S',Keeps S S'->Em d S'=some (ps.map pairD)) (hl:ps.length<=90000) (hf:FB p ps) {e:Lo} {ml:ML} {S0:Sto} (ha:ml e S0=.ok [.int p,d] S) :
  ∃S',Os W.Web 3 (Ho W) ml e S0=.ok (.ref S.length) S'/\Keeps S S'/\S'[S.length]?=some (Gy W (p,Df ps)):=by
 have t0:Kc (mB (m3 leD leD (mC (.int 1)) (AB 1) (mC (.int 60)))) [sR S.length,sI p,some d] (S++[.ins W.Web []])=.ok false (S++[.ins W.Web []]):=
  Oo (b:=true) (Gf (ZO (S3:=S++[.ins W.Web []]) rfl rfl (UR (wX (by lia))) rfl (UR (wX (by lia)))))
 have hq0:(S++[Ob.ins W.Web []])[S.length]?=some (.ins W.Web []):=B1 _ _;have e1:=Q2 (C:=W.Web) (f:="places") (mo:=AB 0) (mv:=AB 1) (e:=[sR S.length,sI p,some d]) (S:=S++[.ins W.Web []]) (v:=.int p) rfl rfl hq0 (by decide);have K1:Keeps S ((S++[Ob.ins W.Web []]).set S.length (.ins W.Web (Nj "places" (.int p) []))):=(Keeps.app S _).set (AN _) _;generalize hS1:(S++[Ob.ins W.Web []]).set S.length (.ins W.Web (Nj "places" (.int p) []))=S1 at e1 K1
 have hq1:S1[S.length]?=some (.ins W.Web [("places",.int p)]):=by rw [<-hS1];exact Al (by simp)
 obtain ⟨S2,c2,K2⟩:=Ra W (p:=p) (d:=d) (S:=S1) (ps:=ps) (λS' k=>hv S' (K1.trans k)) (A0 hl (by decide)) hf;rw [OR] at c2;have e2:=Q2 (C:=W.Web) (f:="ties") (mo:=AB 0) (mv:=BH 2 (Ft W) (AI (AB 1) (AI (AB 2) Aw))) (e:=[sR S.length,sI p,some d]) (S:=S1) ((By rfl rfl).trans c2) rfl (K2.at hq1) (by simp);have K3:Keeps S (S2.set S.length (.ins W.Web (Nj "ties" (.tup ((Df ps).map pairD)) [("places",.int p)]))):=(K1.trans K2).set (AN _) _;rw [put2] at e2 K3;have hlt2:S.length < S2.length:=(AD.mp (K2.at hq1)).1;generalize hS3:S2.set S.length (.ins W.Web [("places",.int p),("ties",.tup ((Df ps).map pairD))])=S3 at e2 K3
 have hq3:S3[S.length]?=some (.ins W.Web [("places",.int p),("ties",.tup ((Df ps).map pairD))]):=by rw [<-hS3];exact Al hlt2
 obtain ⟨S4,c4,K4⟩:=cU W hp (ts:=Df ps) (λt ht=>by
  obtain ⟨x,hx,rfl⟩:=YN ht
  exact (hf.1 x hx).in) (by rw [(Ml ps).length_eq,AE];exact hl) S3
 have e3:=Q2 (C:=W.Web) (f:="near_sets") (mo:=AB 0) (mv:=BH 2 (Fq W) (AI (AB 1) (AI (HE W.Web "ties" (AB 0)) Aw))) (e:=[sR S.length,sI p,some d]) (S:=S3)
  ((By (Bc (S1:=S3) rfl (Bc (O4 rfl hq3 (iA _ _)) rfl)) rfl).trans c4) rfl (K4.at hq3) (by simp)
 have hlt4:S.length < S4.length:=(AD.mp (K4.at hq3)).1;rw [put3] at e3;refine ⟨_,cX ha rfl (UE (e:=[sR S.length,sI p,some d]) ?_),(K3.trans K4).set (AN _) _,Al hlt4⟩;unfold PK;refine DD (A3 (e:=[sR S.length,sI p,some d]) (e1:=[sR S.length,sI p,some d]) (S1:=S++[.ins W.Web []]) (DD (Dd t0) rfl)) ?_;rw [A3 e1,A3 e2];exact e3
end
def EU (BY:(Nat×List (Int×Int))) (Ct:Int):Option (Fw Unit Unit):=
 (((some (0:Int)).bind λx2=>(some Ct).bind λx3=>if decide (x2<=x3)=true then ((some BY).bind λx1=>some (x1.1:Int)).bind λx4=>some (decide (x3 < x4)) else some false).bind λx5=>some (!x5)).bind λx6=>if x6=true then none else some (.nx ())
def EV (BY:(Nat×List (Int×Int))) (Ct:Int):Option Unit:=j0 (EU BY Ct)
theorem Li (W:Wd) (BY:(Nat×List (Int×Int))) (Ct:Int):VF (DV W) [.z ((Gy W) BY),.v (D.int Ct)] (rV eU) (EV BY Ct):=by
 refine fL (n:=2) (b:=EY W) (p:=EU BY Ct) (B:=λ_=>[.z ((Gy W) BY),.v (D.int Ct)]) ?_;show VS [.z ((Gy W) BY),.v (D.int Ct)] _ _ _ _;unfold EY EU;exact (NG (B:=(λ(_:Unit)=>[.z ((Gy W) BY),.v (D.int Ct)])) (Mf (Jv (SD eQ eO (Lg rfl) (Ba rfl) (Me (C2 rfl))))) fE (OG (.same (.same .nil))))
def Q6 (BY:(Nat×List (Int×Int))) (Ct:Int):Option (Fw (List Int) Unit):=
 EA ((((some BY).bind λx1=>((some Ct).bind λx2=>(some ()).bind λx3=>some (x2,x3)).bind λx4=>some (x1,x4)).bind λz5=>EV z5.1 z5.2.1).bind λ_=>some (.nx ())) λ_=>(((some BY).bind λx6=>some (J4 x6.1 x6.2)).bind λl7=>(some Ct).bind λx8=>atI l7 x8).bind λx9=>some (.rt x9)
def K8 (BY:(Nat×List (Int×Int))) (Ct:Int):Option (List Int):=Ps (Q6 BY Ct)
theorem YK (W:Wd) (BY:(Nat×List (Int×Int))) (Ct:Int):VF (KH W) [.z ((Gy W) BY),.v (D.int Ct)] (rV (eT D.int)) (K8 BY Ct):=by
 refine NJ (n:=2) (b:=Rf W) (p:=Q6 BY Ct) (B:=λ_=>[]) ?_;show VS [.z ((Gy W) BY),.v (D.int Ct)] _ _ _ _;unfold Rf Q6;exact (Dl (ao (Gh (Qx (C2 rfl) (SH (Ba rfl) IS)) (λz5=>Li W z5.1 z5.2.1) (λ_=>rfl) Od)) (λ_=>(JI (YH (ax (C2 rfl)) (Ba rfl)))))
def K2 (h s:Nat) (S S':Sto):Prop:=S.length<=S'.length/\∀j,j < S.length->j≠h->j≠s->S'[j]?=S[j]?
theorem K2.trans {h s:Nat} {S S1 S2:Sto} (a:K2 h s S S1) (b:K2 h s S1 S2):K2 h s S S2:=⟨A0 a.1 b.1,λj q q1 q2=>(b.2 j (AZ q a.1) q1 q2).trans (a.2 j q q1 q2)⟩
theorem K2.of {h s:Nat} {S S1:Sto} (a:Keeps S S1):K2 h s S S1:=⟨a.1,λj q _ _=>a.2 j q⟩
theorem K2.seth {h s:Nat} {S S1:Sto} (a:K2 h s S S1) (o:Ob):K2 h s S (S1.set h o):=⟨by rw [C0];exact a.1,λj q q1 q2=>by rw [AT (Bx q1)];exact a.2 j q q1 q2⟩
theorem K2.sets {h s:Nat} {S S1:Sto} (a:K2 h s S S1) (o:Ob):K2 h s S (S1.set s o):=⟨by rw [C0];exact a.1,λj q q1 q2=>by rw [AT (Bx q2)];exact a.2 j q q1 q2⟩
theorem K2.at {h s j:Nat} {S S1:Sto} {o:Ob} (a:K2 h s S S1) (hj:S[j]?=some o) (h1:j≠h) (h2:j≠s):S1[j]?=some o:=by rw [a.2 j (Bl hj) h1 h2];exact hj
def Tk (takes:List (List Int)) (g:Int):List Int:=(atI takes g).getD []
theorem ik {κv:Type} {enc:κv->D} {l:List (Int×κv)} {S:Sto} {n:Nat} (hn:S[n]?=some (oDK enc l)) (hl:l.length < 1000000) (k:Int) (v:κv):Py (.ref n) (.int k) (enc v) S=some (S.set n (oDK enc (B3 l k v))):=by
 unfold Py;dsimp only;rw [hn];show (if (l.map _).length < sizeLine then some (S.set n (.dK (B3 (l.map λx=>(B8 x.1,enc x.2)) (B8 k) (enc v)))) else none)=_;rw [qX (by rw [AE];exact ZP hl),Sg N2];rfl
theorem RV {κv:Type} {enc:κv->D} {l:List (Int×κv)} {mo mi mv:ME} {e:Lo} {S:Sto} {n:Nat} {k:Int} {v:κv} (hv:mv e S=.ok (enc v) S) (ho:mo e S=.ok (.ref n) S) (hi:mi e S=.ok (.int k) S) (hn:S[n]?=some (oDK enc l)) (hl:l.length < 1000000):DH mo mi mv e S=.ok (.nx e) (S.set n (oDK enc (B3 l k v))):=by
 unfold DH;rw [hv];dsimp only [Res.lift];rw [ho];dsimp only;rw [hi];dsimp only;rw [ik hn hl]
theorem KR {κ α:Type} [DecidableEq κ] {l l':List (κ×α)} {k:κ} {v:α} (h:Ni l k v=some l'):l.length < 1000000/\l'=B3 l k v:=by
 unfold Ni at h;split at h
 ·rename_i c;cases h;exact ⟨c,rfl⟩
 ·cases h
theorem WU {S:Sto} {tN hN sN:Nat} {takes:List (List Int)} {bits g:Int} {H:HL} {Q:QL} (ht:S[tN]?=some (oL (eT D.int) takes)) (hh:S[hN]?=some (oDK D.int H)) (hs:S[sN]?=some (oDK D.bl Q)) (hne:hN≠sN) :
  ∃F,Vs [] [.z (oL (eT D.int) takes),.v (D.int bits),.w 2 (oDK D.int H),.v (D.int g),.w 4 (oDK D.bl Q),.u,.u] [sR tN,sI bits,sR hN,sI g,sR sN,none,none] F S:=by
 have t1:tN≠hN:=λc=>by rw [c,hh] at ht;cases ht
 have t2:tN≠sN:=λc=>by rw [c,hs] at ht;cases ht
 refine ⟨λn=>if n=hN then .ow 2 else if n=sN then .ow 4 else match S[n]? with | some o=>.fz o | none=>.no,⟨Cg _,λj h=>(nomatch h)⟩,λn o q=>?_,λn i q=>?_,λn hn=>?_,λi a ha=>?_⟩
 ·split at q
  ·cases q
  ·split at q
   ·cases q
   ·cases w:S[n]? with
    | none=>rw [w] at q;cases q
    | some o'=>rw [w] at q;cases q;rfl
 ·refine ⟨Cg _,?_⟩
  split at q
  ·rename_i c;rw [c];exact Bl hh
  ·split at q
   ·rename_i c;rw [c];exact Bl hs
   ·cases w:S[n]? with
    | none=>rw [w] at q;cases q
    | some o'=>rw [w] at q;cases q
 ·show (if n=hN then Cel.ow 2 else if n=sN then .ow 4 else match S[n]? with | some o=>.fz o | none=>.no)=_
  rw [qY λc=>zX (Bl hh) (by rw [<-c];omega),qY λc=>zX (Bl hs) (by rw [<-c];omega),BO hn]
 ·match i,ha with
  | 0,ha=>cases ha;exact ⟨_,rfl,tN,rfl,by show (if tN=hN then Cel.ow 2 else if tN=sN then .ow 4 else match S[tN]? with | some o=>.fz o | none=>.no)=_;rw [qY t1,qY t2,ht]⟩
  | 1,ha=>cases ha;exact ⟨_,rfl,rfl⟩
  | 2,ha=>cases ha;exact ⟨_,rfl,hN,rfl,qX rfl,hh⟩
  | 3,ha=>cases ha;exact ⟨_,rfl,rfl⟩
  | 4,ha=>cases ha;exact ⟨_,rfl,sN,rfl,by show (if sN=hN then Cel.ow 2 else if sN=sN then .ow 4 else match S[sN]? with | some o=>.fz o | none=>.no)=_;rw [qY (Bx hne),qX rfl],hs⟩
  | 5,ha=>cases ha;exact ⟨_,rfl,trivial⟩
  | 6,ha=>cases ha;exact ⟨_,rfl,trivial⟩
  | i+7,ha=>cases ha
abbrev eG:ME:=DT (FI 1 (E9 (m2 ixA (AB 0) (AB 3))) (tgN 0) (M5 (ID (m2 dk (m2 bY (AB 2) (AB 0)) (mC (.int 1)))) (mB (m2 (inA true) (AB 0) (AB 5)))) (AB 0))
theorem aa {S:Sto} {tN hN sN:Nat} {takes:List (List Int)} {bits g:Int} {H:HL} {Q:QL} (ht:S[tN]?=some (oL (eT D.int) takes)) (hh:S[hN]?=some (oDK D.int H)) (hs:S[sN]?=some (oDK D.bl Q)) (hne:hN≠sN) (hg:0<=g/\g < takes.length) (hT:∀t∈takes,t.length<=1000/\∀x∈t,0<=x) :
  ∃n S',eG [sR tN,sI bits,sR hN,sI g,sR sN,none,none] S=.ok (.ref n) S'/\Keeps S S'/\S.length<=n/\S'[n]?=some (oL D.int ((Tk takes g).filter λx=>hb bits x&&!(Av Q x).isSome)):=by
 obtain ⟨F,V⟩:=WU (bits:=bits) (g:=g) ht hh hs hne;obtain ⟨t,e1,-⟩:=Rg (l:=takes) hg.1 hg.2;have tm:=hT t (dh e1)
 have key:=Hf (Ir (enc:=D.int) (eb:=D.int) (A:=[.z (oL (eT D.int) takes),.v (D.int bits),.w 2 (oDK D.int H),.v (D.int g),.w 4 (oDK D.bl Q),.u,.u]) (VI.k (Qv (fP (C2 (v:=takes) (i:=0) rfl) (Ba (v:=g) (i:=3) rfl))))
  (λx=>YJ (bI (bF (fN (Ba (v:=bits) (i:=2) rfl) (Ba (v:=x) (i:=0) rfl)) (Lg (v:=1) rfl))) (Jv (SB (Ba (v:=x) (i:=0) rfl) (Ld (v:=Q) (i:=5) rfl)))) (λx=>Ba (v:=x) (i:=0) rfl))
 simp only [As] at key;rw [e1] at key;simp only [As] at key
 have ec:G2 t (λx=>((bX bits x).bind λx_1=>some (Fm x_1 1)).bind (λx=>some (x != 0)) |>.bind λb=>if b=true then some (!(Av Q x).isSome) else some false) (λx=>some x)=some (t.filter λx=>hb bits x&&!(Av Q x).isSome):=Uj (by omega) λx hx=>by
  rw [show bX bits x=some (bits / 2 ^ x.toNat) from qX (tm.2 x hx)];show (if (Fm (bits / 2 ^ x.toNat) 1 != 0)=true then _ else _)=_;show (if hb bits x=true then _ else _)=_
  cases hb bits x <;> rfl
 obtain ⟨d,S',h1,h2,n,rfl,h3,h4⟩:=key _ ec [] _ F S V;refine ⟨n,S',h1,h2,h3,?_⟩;unfold Tk;rw [e1];exact h4
theorem dL {w:List Int} {p:Int->Bool} {i:Nat} {x:Int} (h:∀j,j < i->∀y,w[j]?=some y->p y=false) (hx:w[i]?=some x) (hp:p x=true):w.find? p=some x:=by
 rw [List.find?_eq_some_iff_getElem];obtain ⟨hi,e⟩:=AD.mp hx;refine ⟨hp,i,hi,e,λj hj=>?_⟩;rw [h j hj _ (BM (by lia))];rfl
theorem dJ {w:List Int} {p:Int->Bool} (h:∀j,j < w.length->∀y,w[j]?=some y->p y=false):w.find? p=none:=by
 rw [IG];intro x hx hp;obtain ⟨i,hi,e⟩:=LU hx;rw [h i hi x (by rw [BM hi,e])] at hp;cases hp
abbrev e7 (tN:Nat) (bits:Int) (hN:Nat) (g:Int) (sN:Nat) (z5 z6:Option D):Lo:=[sR tN,sI bits,sR hN,sI g,sR sN,z5,z6]
abbrev bS1:MS:=sIf (mB (m2 (inA true) (AB 6) (AB 2))) (BI (DH (AB 2) (AB 6) (AB 3)) (C5 (mC (.bl true)))) sNx
abbrev bS2 (fr:List D->Sto->Res D):MS:=sIf (mB (m2 (inA true) (AB 6) (AB 4))) (BI (DH (AB 4) (AB 6) (mC (.bl true)))
  (sIf (ID (BH 5 fr (AI (AB 0) (AI (AB 1) (AI (AB 2) (AI (m2 ixA (AB 2) (AB 6)) (AI (AB 4) Aw))))))) (BI (DH (AB 2) (AB 6) (AB 3)) (C5 (mC (.bl true)))) sNx)) sNx
theorem eM {κv:Type} {enc:κv->D} {l:List (Int×κv)} {S:Sto} {n:Nat} (hn:S[n]?=some (oDK enc l)) (x:Int):inA true (.int x) (.ref n) S=.ok (.bl (!(Av l x).isSome)) S:=by
 rw [Ug (Yc hn) (TN hn x)];simp
theorem kJ {κv:Type} {enc:κv->D} {l:List (Int×κv)} {S:Sto} {n:Nat} {x:Int} {v:κv} (hn:S[n]?=some (oDK enc l)) (hv:Av l x=some v):ixA (.ref n) (.int x) S=.ok (enc v) S:=Uf (Yc hn) (by rw [TN hn x,hv];rfl)
theorem Wl (W:Wd) {takes:List (List Int)} {bits:Int} (hT:∀t∈takes,t.length<=1000/\∀x∈t,0<=x):∀(n:Nat) (H:HL) (g:Int) (Q:QL) (z:Bool×HL×QL),FR (Tk takes) bits n H g Q=some z->0<=g/\g < takes.length->(∀x a,Av H x=some a->0<=a/\a < takes.length)->(∀x a,Av z.2.1 x=some a->0<=a/\a < takes.length) /\
  ∀(S:Sto) (tN hN sN:Nat),S[tN]?=some (oL (eT D.int) takes)->S[hN]?=some (oDK D.int H)->S[sN]?=some (oDK D.bl Q)->hN≠sN->∃S',FK W n [.ref tN,.int bits,.ref hN,.int g,.ref sN] S=.ok (.bl z.1) S'/\S'[hN]?=some (oDK D.int z.2.1)/\S'[sN]?=some (oDK D.bl z.2.2)/\K2 hN sN S S':=by
 intro n
 induction n with
 | zero=>intro H g Q z hz;cases hz
 | succ n ih=>
  intro H g Q z hz hg hG;unfold FR at hz
  have hput:∀(H:HL) (x:Int),(∀x a,Av H x=some a->0<=a/\a < takes.length)->∀y a,Av (B3 H x g) y=some a->0<=a/\a < takes.length:=λH x hG y a e=>by
   rw [DS] at e;split at e
   ·cases e;exact hg
   ·exact hG y a e
  have lp:∀(r:List Int) (Hc:HL) (Qc:QL),(∀x a,Av Hc x=some a->0<=a/\a < takes.length)->Ks (FR (Tk takes) bits n) g r Hc Qc=some z->∀x a,Av z.2.1 x=some a->0<=a/\a < takes.length:=by
   intro r
   induction r with
   | nil=>intro Hc Qc hc e;cases e;exact hc
   | cons x r ih2=>
    intro Hc Qc hc e;unfold Ks at e;split at e
    ·exact ih2 Hc Qc hc e
    ·obtain ⟨Q1,-,e⟩:=BJ e
     obtain ⟨g2,e2,e⟩:=BJ e;obtain ⟨z2,e3,e⟩:=BJ e;have:=(ih Hc g2 Q1 z2 e3 (hc x g2 e2) hc).1;split at e
     ·obtain ⟨H',e4,e5⟩:=BJ e
      cases e5;rw [(KR e4).2];exact hput _ x this
     ·exact ih2 _ _ this e
  refine ⟨?_,λS tN hN sN ht hh hs hne=>?_⟩
  ·split at hz
   ·obtain ⟨H',e4,e5⟩:=BJ hz
    cases e5;rw [(KR e4).2];exact hput _ _ hG
   ·exact lp _ _ _ hG hz
  ·have t1:tN≠hN:=λc=>by rw [c,hh] at ht;cases ht
   have t2:tN≠sN:=λc=>by rw [c,hs] at ht;cases ht
   obtain ⟨wN,S1,w1,w2,w3,w4⟩:=aa (bits:=bits) ht hh hs hne hg hT;generalize (Tk takes g).filter (λx=>hb bits x&&!(Av Q x).isSome)=w at hz w4
   have wh:wN≠hN:=λc=>zX (Bl hh) (by lia)
   have ws:wN≠sN:=λc=>zX (Bl hs) (by lia)
   have s5:Bk 5 eG (Cv 7 [.ref tN,.int bits,.ref hN,.int g,.ref sN]) S=.ok (.nx (e7 tN bits hN g sN (some (.ref wN)) none)) S1:=C4 (i:=5) w1;have hh1:=w2.at hh;have hs1:=w2.at hs;have ht1:=w2.at ht;have k1:K2 hN sN S S1:=K2.of w2
   have it:∀z6 S',S'[wN]?=some (oL D.int w)->E9 (AB 5) (e7 tN bits hN g sN (some (.ref wN)) z6) S'=.ok (Em (.ref wN)) S':=λz6 S' h=>Hk (n:=wN) rfl h
   obtain ⟨f,S2,q1,q2⟩:=FZ (v:=Em (.ref wN)) (g:=tgN 6) (b:=bS1) (xs:=w.map D.int) (e:=e7 tN bits hN g sN (some (.ref wN)) none) (S:=S1)
    (λi e S'=>(∃z6,e=e7 tN bits hN g sN (some (.ref wN)) z6)/\S'=S1/\∀j,j < i->∀y,w[j]?=some y->(!(Av H y).isSome)=false)
    (λf S'=>((∃z6,f=.nx (e7 tN bits hN g sN (some (.ref wN)) z6))/\S'=S1/\w.find? (λx=>!(Av H x).isSome)=none)∨∃x,w.find? (λx=>!(Av H x).isSome)=some x/\f=.rt (.bl true)/\S'=S1.set hN (oDK D.int (B3 H x g)))
    ⟨⟨none,rfl⟩,rfl,λj hj=>zX hj (Hd j)⟩ (by rintro i e S' ⟨_,rfl,_⟩;exact ED w4)
    (by
     rintro i d e S' hd ⟨⟨z6,rfl⟩,rfl,hb'⟩;rw [AO] at hd
     cases hx:w[i]? with
     | none=>rw [hx] at hd;cases hd
     | some x=>
      rw [hx] at hd;cases hd;refine ⟨e7 tN bits hN g sN (some (.ref wN)) (some (.int x)),S',rfl,?_⟩;have tst:mB (m2 (inA true) (AB 6) (AB 2)) (e7 tN bits hN g sN (some (.ref wN)) (some (.int x))) S'=.ok (!(Av H x).isSome) S':=Gf (BL rfl rfl (eM hh1 x))
      cases c:(Av H x).isSome with
      | true=>
       rw [c] at tst;refine ⟨_,S',(Dd tst).trans rfl,⟨_,rfl⟩,rfl,λj hj y hy=>?_⟩
       by_cases q:j=i
       ·subst q;rw [hx] at hy;cases hy;rw [c];rfl
       ·exact hb' j (by lia) y hy
      | false=>
       rw [c] at tst;have hf:w.find? (λx=>!(Av H x).isSome)=some x:=dL hb' hx (by rw [c];rfl);rw [hf] at hz;obtain ⟨H',e4,e5⟩:=BJ hz;obtain ⟨hl,-⟩:=KR e4;have dp:=RV (mo:=AB 2) (mi:=AB 6) (mv:=AB 3) (e:=e7 tN bits hN g sN (some (.ref wN)) (some (.int x))) (k:=x) (v:=g) rfl rfl rfl hh1 hl
       exact ⟨.rt (.bl true),_,(Dd tst).trans ((qX rfl).trans ((A3 dp).trans rfl)),.inr ⟨x,hf,rfl,rfl⟩⟩)
    (by
     rintro e S' ⟨⟨z6,rfl⟩,rfl,hb'⟩;rw [AE] at hb'
     exact .inl ⟨⟨z6,rfl⟩,rfl,dJ hb'⟩)
   have run:∀ {S':Sto} {d:D},TU W (FK W n) (Cv 7 [.ref tN,.int bits,.ref hN,.int g,.ref sN]) S=.ok (.rt d) S'->FK W (n+1) [.ref tN,.int bits,.ref hN,.int g,.ref sN] S=.ok d S':=λh=>C6 h
   rcases q2 with ⟨⟨z6,rfl⟩,rfl,hf⟩ | ⟨x,hf,rfl,rfl⟩
   ·rw [hf] at hz
    dsimp only at hz
    obtain ⟨f,S3,p1,p2⟩:=FZ (v:=Em (.ref wN)) (g:=tgN 6) (b:=bS2 (FK W n)) (xs:=w.map D.int) (e:=e7 tN bits hN g sN (some (.ref wN)) z6) (S:=S2)
     (λi e S'=>(∃z6,e=e7 tN bits hN g sN (some (.ref wN)) z6)/\S'[wN]?=some (oL D.int w)/\K2 hN sN S S'/\∃Hc Qc,S'[hN]?=some (oDK D.int Hc)/\S'[sN]?=some (oDK D.bl Qc)/\(∀x a,Av Hc x=some a->0<=a/\a < takes.length)/\Ks (FR (Tk takes) bits n) g (w.drop i) Hc Qc=some z)
     (λf S'=>K2 hN sN S S'/\S'[hN]?=some (oDK D.int z.2.1)/\S'[sN]?=some (oDK D.bl z.2.2)/\((f=.rt (.bl true)/\z.1=true)∨((∃z6,f=.nx (e7 tN bits hN g sN (some (.ref wN)) z6))/\z.1=false)))
     ⟨⟨z6,rfl⟩,w4,k1,H,Q,hh1,hs1,hG,hz⟩ (by rintro i e S' ⟨_,h,_⟩;exact ED h)
     (by
      rintro i d e S' hd ⟨⟨z6,rfl⟩,a1,a2,Hc,Qc,a3,a4,a5,a6⟩;rw [AO] at hd
      cases hx:w[i]? with
      | none=>rw [hx] at hd;cases hd
      | some x=>
       rw [hx] at hd;cases hd;obtain ⟨hi,ex⟩:=AD.mp hx;rw [FF hi,ex] at a6;unfold Ks at a6;refine ⟨e7 tN bits hN g sN (some (.ref wN)) (some (.int x)),S',rfl,?_⟩;have tst:mB (m2 (inA true) (AB 6) (AB 4)) (e7 tN bits hN g sN (some (.ref wN)) (some (.int x))) S'=.ok (!(Av Qc x).isSome) S':=Gf (BL rfl rfl (eM a4 x))
       cases c:(Av Qc x).isSome with
       | true=>
        rw [c] at tst;rw [qX c] at a6;exact ⟨_,S',(Dd tst).trans rfl,⟨_,rfl⟩,a1,a2,Hc,Qc,a3,a4,a5,a6⟩
       | false=>
        rw [c] at tst;rw [qY (by rw [c];exact AX)] at a6;obtain ⟨Q1,b1,a7⟩:=BJ a6;obtain ⟨g2,b2,a8⟩:=BJ a7;obtain ⟨z2,b3,a9⟩:=BJ a8;obtain ⟨hl,rfl⟩:=KR b1
        clear a6 a7 a8
        have dp:=RV (enc:=D.bl) (mo:=AB 4) (mi:=AB 6) (mv:=mC (.bl true)) (e:=e7 tN bits hN g sN (some (.ref wN)) (some (.int x))) (k:=x) (v:=true) rfl rfl rfl a4 hl;have hsl:=Bl a4
        have c3:(S'.set sN (oDK D.bl (B3 Qc x true)))[hN]?=some (oDK D.int Hc):=by rw [AT (Bx hne)];exact a3
        have c4:(S'.set sN (oDK D.bl (B3 Qc x true)))[sN]?=some (oDK D.bl (B3 Qc x true)):=Al hsl
        have c5:(S'.set sN (oDK D.bl (B3 Qc x true)))[tN]?=some (oL (eT D.int) takes):=by rw [AT (Bx t2)];exact a2.at ht t1 t2
        have c1:(S'.set sN (oDK D.bl (B3 Qc x true)))[wN]?=some (oL D.int w):=by rw [AT (Bx ws)];exact a1
        have c2:=a2.sets (oDK D.bl (B3 Qc x true));generalize S'.set sN (oDK D.bl (B3 Qc x true))=S4 at dp c1 c2 c3 c4 c5;obtain ⟨r1,r2⟩:=ih Hc g2 (B3 Qc x true) z2 b3 (a5 x g2 b2) a5;obtain ⟨S5,r3,r4,r5,r6⟩:=r2 S4 tN hN sN c5 c3 c4 hne;have arg:AI (AB 0) (AI (AB 1) (AI (AB 2) (AI (m2 ixA (AB 2) (AB 6)) (AI (AB 4) Aw)))) (e7 tN bits hN g sN (some (.ref wN)) (some (.int x))) S4=.ok [.ref tN,.int bits,.ref hN,.int g2,.ref sN] S4:=Bc rfl (Bc rfl (Bc rfl (Bc (BL (x:=.ref hN) (y:=.int x) rfl rfl (kJ c3 b2)) (Bc rfl rfl))))
        have cal:ID (BH 5 (FK W n) (AI (AB 0) (AI (AB 1) (AI (AB 2) (AI (m2 ixA (AB 2) (AB 6)) (AI (AB 4) Aw)))))) (e7 tN bits hN g sN (some (.ref wN)) (some (.int x))) S4=.ok z2.1 S5:=by
         unfold ID;rw [(By (n:=5) arg rfl).trans r3];rfl
        have d1:=r6.at c1 wh ws;have d2:=c2.trans r6
        cases hb2:z2.1 with
        | true=>
         rw [hb2] at cal;rw [qX hb2] at a9;obtain ⟨H',e4,e5⟩:=BJ a9;obtain ⟨hl2,rfl⟩:=KR e4;cases e5;have dp2:=RV (mo:=AB 2) (mi:=AB 6) (mv:=AB 3) (e:=e7 tN bits hN g sN (some (.ref wN)) (some (.int x))) (k:=x) (v:=g) rfl rfl rfl r4 hl2;refine ⟨.rt (.bl true),_,(Dd tst).trans ((qX rfl).trans ((A3 dp).trans ((Dd cal).trans ((qX rfl).trans ((A3 dp2).trans rfl))))),d2.seth _,Al (Bl r4),?_,.inl ⟨rfl,rfl⟩⟩;rw [AT hne];exact r5
        | false=>
         rw [hb2] at cal;rw [qY (by rw [hb2];exact AX)] at a9
         exact ⟨_,S5,(Dd tst).trans ((qX rfl).trans ((A3 dp).trans ((Dd cal).trans rfl))),⟨_,rfl⟩,d1,d2,z2.2.1,z2.2.2,r4,r5,r1,a9⟩)
     (by
      rintro e S' ⟨⟨z6,rfl⟩,a1,a2,Hc,Qc,a3,a4,a5,a6⟩;rw [AE,List.drop_of_length_le (AN _)] at a6;unfold Ks at a6;cases a6
      exact ⟨a2,a3,a4,.inr ⟨⟨z6,rfl⟩,rfl⟩⟩)
    obtain ⟨p3,p4,p5,p6⟩:=p2;have l1:=(ET (g:=tgN 6) (b:=bS1) (it none S2 w4)).trans q1;have l2:=(ET (g:=tgN 6) (b:=bS2 (FK W n)) (it z6 S2 w4)).trans p1
    rcases p6 with ⟨rfl,p6⟩ | ⟨⟨z7,rfl⟩,p6⟩
    ·rw [p6]
     exact ⟨S3,run ((A3 s5).trans ((A3 l1).trans (Mo l2))),p4,p5,p3⟩
    ·rw [p6]
     exact ⟨S3,run ((A3 s5).trans ((A3 l1).trans ((A3 l2).trans rfl))),p4,p5,p3⟩
   ·rw [hf] at hz
    obtain ⟨H',e4,e5⟩:=BJ hz;obtain ⟨hl,rfl⟩:=KR e4;cases e5;have l1:=(ET (g:=tgN 6) (b:=bS1) (it none S1 w4)).trans q1;refine ⟨_,run ((A3 s5).trans (Mo l1)),Al (Bl hh1),?_,k1.seth _⟩;rw [AT hne];exact hs1
open Classical in
def SR (takes:List (List Int)) (bits:Int) (n:Nat) (H:HL) (g:Int):Option (Bool×HL×QL):=if (∀t∈takes,t.length<=1000/\∀x∈t,0<=x)/\(0<=g/\g < takes.length)/\(∀x a,Av H x=some a->0<=a/\a < takes.length) then FR (Tk takes) bits n H g [] else none
theorem ah {W:Wd} {ρ:Type} {A:List Sl} {R:Rk ρ} {n i t b k:Nat} {H:HL} {takes:List (List Int)} {bits g:Int} (hi:A[i]?=some (.w i (oDK D.int H))) (ht':A[t]?=some (.y (oL (eT D.int) takes))) (hb:A[b]?=some (.v (.int bits))) (hg:A[k]?=some (.v (.int g))) (ht:((A.set i .u).all (Sl.oth i))=true) :
  VS A (CB (BH 5 (FK W n) (AI (AB t) (AI (AB b) (AI (AB i) (AI (AB k) (AI Hj Aw))))))) R ((SR takes bits n H g).bind λz=>some (.nx z.2.1)) (λH'=>A.set i (.w i (oDK D.int H'))):=λf hf S0 e F S hs=>by
 obtain ⟨z,h1,h2⟩:=BJ hf;cases h2;unfold SR at h1;split at h1
 ·rename_i hc
  obtain ⟨c1,c2,c3⟩:=hc;obtain ⟨x,g1,ni,rfl,g2,g3⟩:=hs.sl i _ hi;obtain ⟨x,q1,nt,rfl,q2,q4⟩:=hs.sl t _ ht';obtain ⟨x,b1,rfl⟩:=hs.sl b _ hb;obtain ⟨x,k1,rfl⟩:=hs.sl k _ hg;have q3:=hs.fz _ _ q2;have hl:=Bl g3;have arg:AI (AB t) (AI (AB b) (AI (AB i) (AI (AB k) (AI Hj Aw)))) e S=.ok [.ref nt,.int bits,.ref ni,.int g,.ref S.length] (S++[.dK []]):=Bc (Mg q1) (Bc (Mg b1) (Bc (Mg g1) (Bc (Mg k1) (Bc rfl rfl))));have kk:=Keeps.app S [.dK []];obtain ⟨r1,r2⟩:=Wl W (bits:=bits) c1 n H g [] z h1 c2 c3;obtain ⟨S5,r3,r4,r5,r6⟩:=r2 (S++[.dK []]) nt ni S.length (kk.at q3) (kk.at g3) (B1 _ _) (Am hl);have hp:=hs.put (o':=oDK D.int z.2.1) ht hi g1 g2
  have hk:Keeps (S.set ni (oDK D.int z.2.1)) S5:=by
   refine ⟨by rw [C0];exact A0 kk.1 r6.1,λj hj=>?_⟩;rw [C0] at hj
   by_cases c:j=ni
   ·subst c
    rw [r4,Al hl]
   ·rw [AT (Bx c),r6.2 j (AZ hj kk.1) c (Am hj),kk.2 j hj]
  exact ⟨_,S5,C9 ((By (n:=5) arg rfl).trans r3),e,_,rfl,hp.grow hk,hp.fle S5⟩
 ·cases h1
theorem R6 {W:Wd} {S:Sto} {q:Nat} {w:Nat×List (Int×Int)} (h:S[q]?=some (Gy W w)):Fy W S q w.1 w.2:=⟨⟨_,h,rfl,rfl,rfl⟩⟩
structure Wok (w:Nat×List (Int×Int)):Prop where
 hp:w.1<=60
 hnb:∀x:Int,0<=x->x < w.1->∀y∈nbW w.2 x,0<=y/\y < w.1
 hlen:∀x,(nbW w.2 x).length<=1000
 hsym:∀x y:Int,0<=x->0<=y->y∈nbW w.2 x->x∈nbW w.2 y
 hts:∀x∈w.2,(0<=x.1/\x.1 < w.1)/\x.2∈nbW w.2 x.1
 hall:∀a b:Int,0<=a->a < w.1->b∈nbW w.2 a->(a,b)∈w.2∨(b,a)∈w.2
abbrev Kf (w:Nat×List (Int×Int)):List Int:=(BN w.1).map λx:Nat=>col (nbW w.2) w.1 x
open Classical in
def CT (w:Nat×List (Int×Int)):Option (List Int):=if Wok w/\IM (nbW w.2) w.1 (col (nbW w.2) w.1) then some (Kf w) else none
theorem Gv (W:Wd) (w:Nat×List (Int×Int)):VF (DW W) [.z ((Gy W) w)] (rV (eT D.int)) (CT w):=λv hv S ds ha=>by
 unfold CT at hv;split at hv
 ·rename_i hc
  obtain ⟨ok,h2⟩:=hc;cases hv
  match ds,ha with
  | [d],⟨⟨q,h1,hq⟩,_⟩=>
   subst h1;obtain ⟨o,S',c1,k1,h3⟩:=fU (R6 hq) ok.hp ok.hnb ok.hlen ok.hsym ok.hts ok.hall
   rcases h3 with ⟨_,h3⟩ | ⟨rfl,_⟩
   ·exact zX h2 h3
   ·have s1:Bk 1 (BH 1 (Go W) (AI (AB 0) Aw)) (Cv 2 [.ref q]) S=oN [sR q,some (CS (Kf w))] S':=C4 (i:=1) ((By (ds:=[.ref q]) (S1:=S) rfl rfl).trans c1)
    refine ⟨CS (Kf w),S',C6 (n:=2) (mb:=Ep W) ?_,k1,rfl⟩;unfold Ep;refine (A3 s1).trans ?_;refine DD (A3 (e1:=[sR q,some (CS (Kf w))]) (S1:=S') ((Dd (Gf (BL (x:=CS (Kf w)) (y:=.non) (S1:=S') (S2:=S') rfl rfl rfl))).trans rfl)) rfl
 ·cases hv
def JL (BY:(Nat×List (Int×Int))) (Bp:(List Int)):Option (Fw (List (Int×Int)) Unit):=
 EA (((((some BY).bind λx2=>some (x2.1:Int)).bind Yg).bind λl9=>G2 l9 (λx3=>some true) (λx3=>((some BY).bind λx4=>((some x3).bind λx5=>(some ()).bind λx6=>some (x5,x6)).bind λx7=>some (x4,x7)).bind λz8=>K8 z8.1 z8.2.1)).bind λx10=>some (.nx x10)) λv1=>EA ((((some (1:Int)).bind λx13=>((some BY).bind λx12=>some (x12.1:Int)).bind λx14=>Ya x13 x14).bind λx16=>(some (1:Int)).bind λx17=>some (x16 - x17)).bind λx18=>some (.nx x18)) λv11=>EA ((some []).bind λx20=>some (.nx x20)) λv19=>EA (((some Bp).bind λx21=>some (NT x21)).bind λl31=>Kd l31 v19 λ(s22:(List (Int×Int))) x23=>M4 (λs29=>s29) (((some x23.2).bind λx24=>(some (0:Int)).bind λx25=>some (decide (x24=x25))).bind λx28=>if x28=true then M4 (λv26=>v26) ((SR v1 v11 62 s22 x23.1).bind λx27=>some (.nx x27.2.1)) else some (.nx s22))) λs32=>some (.rt s32)
def FV (BY:(Nat×List (Int×Int))) (Bp:(List Int)):Option (List (Int×Int)):=Ps (JL BY Bp)
theorem OQ (W:Wd) (BY:(Nat×List (Int×Int))) (Bp:(List Int)):VF (JX W) [.z ((Gy W) BY),.v ((eT D.int) Bp)] (rN (oDK D.int)) (FV BY Bp):=by
 refine NJ (n:=7) (b:=LK W) (p:=JL BY Bp) (B:=λ_=>[]) ?_;show VS [.z ((Gy W) BY),.v ((eT D.int) Bp),.u,.u,.u,.u,.u] _ _ _ _;unfold LK JL;exact (Dl (Qt (Hf (Ir (VI.k (WV (Me (C2 rfl)))) (λx3=>Lh) (λx3=>(Gh (Qx (C2 rfl) (SH (Ba rfl) IS)) (λz8=>YK W z8.1 z8.2.1) (λ_=>rfl) Od))))) (λv1=>(Dl (YA (fM (fO (Lg rfl) (Me (C2 rfl))) (Lg rfl))) (λv11=>(Dl (Lc SC) (λv19=>(Dl (YB (s0:=v19) (B:=(λ(s33:(List (Int×Int)))=>[.z ((Gy W) BY),.v ((eT D.int) Bp),.y ((oL (eT D.int)) v1),.v (D.int v11),.w 4 ((oDK D.int) s33),.u,.u])) (OM (Ba rfl)) ae (.same (.same (.same (.same (.same (.same (.same .nil))))))) (λs22 x23=>(Kx (NG (B:=(λ(s30:(List (Int×Int)))=>[.z ((Gy W) BY),.v ((eT D.int) Bp),.y ((oL (eT D.int)) v1),.v (D.int v11),.w 4 ((oDK D.int) s30),.v (D.int x23.1),.v (D.int x23.2)])) (Jv (QA EX Mx (Ba rfl) (Lg rfl))) (Kx (ah (t:=2) (b:=3) (i:=4) (k:=5) rfl rfl rfl rfl rfl) (λv26=>(.same (.same (.same (.same (.same (.same (.same .nil))))))))) (OG (.same (.same (.same (.same (.same (.same (.same .nil))))))))) (λs29=>(.same (.same (.same (.same (.same (.drop (.drop .nil))))))))))) (λs32=>(U9 rfl)))))))))
def HM (BY:(Nat×List (Int×Int))):Option (Fw (List (Int×Int)) Unit):=
 EA ((((some BY).bind λx5=>((((some BY).bind λx2=>(some ()).bind λx3=>some (x2,x3)).bind λz4=>CT z4.1).bind λx6=>(some ()).bind λx7=>some (x6,x7)).bind λx8=>some (x5,x8)).bind λz9=>FV z9.1 z9.2.1).bind λx10=>some (.nx x10)) λv1=>(((some (v1.map (·.1))).bind λl22=>G2 l22 (λx11=>some true) (λx11=>((some x11).bind λx14=>((some v1).bind λl12=>(some x11).bind λx13=>Av l12 x13).bind λx15=>some (if x15 < x14 then x15 else x14)).bind λx20=>((some x11).bind λx18=>((some v1).bind λl16=>(some x11).bind λx17=>Av l16 x17).bind λx19=>some (if x19 > x18 then x19 else x18)).bind λx21=>some (x20,x21))).bind λx23=>some (Dz x23)).bind λx24=>some (.rt x24)
def HP (BY:(Nat×List (Int×Int))):Option (List (Int×Int)):=Ps (HM BY)
theorem Lj (W:Wd) (BY:(Nat×List (Int×Int))):VF (Fs W) [.z ((Gy W) BY)] (rN (oL (eP D.int D.int))) (HP BY):=by
 refine NJ (n:=2) (b:=Jd W) (p:=HM BY) (B:=λ_=>[]) ?_;show VS [.z ((Gy W) BY),.u] _ _ _ _;unfold Jd HM;exact (Dl (Lc (Gh (Qx (C2 rfl) (SH (Gh (Qx (C2 rfl) IS) (λz4=>Gv W z4.1) (λ_=>rfl) Od) IS)) (λz9=>OQ W z9.1 z9.2.1) (λ_=>rfl) Yi)) (λv1=>(jW 1 rfl rfl (ai (R9 (Lf (Hf (Ir (VI.k (fJ rfl)) (λx11=>Lh) (λx11=>(ay (bA (Ba rfl) (QB (Nx rfl) (Ba rfl))) (bB (Ba rfl) (QB (Nx rfl) (Ba rfl)))))))))))))
def E1 (BY:(Nat×List (Int×Int))) (Bp:(List Int)) (BC:(List (Int×Int))):Option (Fw (List (Int×Bool)) Unit):=
 EA (((some BC).bind λx2=>some (x2.map (·.2))).bind λx3=>some (.nx x3)) λv1=>EA ((((some Bp).bind λx5=>some (NT x5)).bind λl12=>G2 l12 (λx6=>((some x6.2).bind λx7=>(some (0:Int)).bind λx8=>some (decide (x7=x8))).bind λx11=>if x11=true then (some x6.1).bind λx9=>(some v1).bind λx10=>some (!decide (x9∈x10)) else some false) (λx6=>some x6.1)).bind λx13=>some (.nx x13)) λv4=>EA ((some []).bind λx15=>some (.nx x15)) λv14=>EA (whF (λ(s16:(List Int)×(List (Int×Bool)))=>(some s16.1).bind λx18=>some (!x18.isEmpty)) (λ(s16:(List Int)×(List (Int×Bool)))=>EA ((Wy s16.1).bind λx20=>some (.nx x20)) λv19=>M4 (λs48=>(s48.2,s48.1)) (((some v19.1).bind λx21=>(some s16.2).bind λx22=>some (!(Av x22 x21).isSome)).bind λx47=>if x47=true then EA ((some true).bind λx24=>(some v19.1).bind λx25=>(Ni s16.2 x25 x24).bind λl26=>some (.nx l26)) λv23=>M4 (λs45=>(v23,s45)) ((((some Bp).bind λl29=>(some v19.1).bind λx30=>atI l29 x30).bind λx27=>(some (0:Int)).bind λx28=>some (decide (x27=x28))).bind λx44=>if x44=true then M4 (λv31=>v31) ((((some BY).bind λx34=>((some v19.1).bind λx35=>(some ()).bind λx36=>some (x35,x36)).bind λx37=>some (x34,x37)).bind λz38=>K8 z38.1 z38.2.1).bind λx32=>(TJ v19.2 x32).bind λl33=>some (.nx l33)) else M4 (λv39=>v39) (((some BC).bind λl42=>(some v19.1).bind λx43=>Av l42 x43).bind λx40=>(Z9 v19.2 x40).bind λl41=>some (.nx l41))) else some (.nx (s16.2,v19.2)))) wN (v4,v14)) λs17=>some (.rt s17.2)
def Dr (BY:(Nat×List (Int×Int))) (Bp:(List Int)) (BC:(List (Int×Int))):Option (List (Int×Bool)):=Ps (E1 BY Bp BC)
theorem Mh (W:Wd) (BY:(Nat×List (Int×Int))) (Bp:(List Int)) (BC:(List (Int×Int))):VF (Gb W) [.z ((Gy W) BY),.v ((eT D.int) Bp),.z ((oDK D.int) BC)] (rN (oDK D.bl)) (Dr BY Bp BC):=by
 refine NJ (n:=7) (b:=Ge W) (p:=E1 BY Bp BC) (B:=λ_=>[]) ?_;show VS [.z ((Gy W) BY),.v ((eT D.int) Bp),.z ((oDK D.int) BC),.u,.u,.u,.u] _ _ _ _;unfold Ge E1;exact (Dl (Qt (SA (C2 rfl))) (λv1=>(Dl (Lc (Hf (R7 (VI.k (OM (Ba rfl))) (λx6=>(YJ (Jv (QA EX Mx (Ba rfl) (Lg rfl))) (Jv (VJ EX (Ba rfl) (Nx rfl))))) (λx6=>(Ba rfl))))) (λv4=>(Dl (Lc SC) (λv14=>(Dl (X9 (s0:=(v4,v14)) (B:=(λ(s50:(List Int)×(List (Int×Bool)))=>[.z ((Gy W) BY),.v ((eT D.int) Bp),.z ((oDK D.int) BC),.y ((oL D.int) v1),.w 4 ((oL D.int) s50.1),.w 5 ((oDK D.bl) s50.2),.u])) (.same (.same (.same (.same (.same (.same (.same .nil))))))) (λs16=>(bH (Ld rfl))) (λs16=>(Dl (aj (i:=4) rfl (by decide) rfl) (λv19=>(Kx (NG (B:=(λ(s49:(List (Int×Bool))×(List Int))=>[.z ((Gy W) BY),.v ((eT D.int) Bp),.z ((oDK D.int) BC),.y ((oL D.int) v1),.w 4 ((oL D.int) s49.2),.w 5 ((oDK D.bl) s49.1),.v (D.int v19.1)])) (Jv (SB (Ba rfl) (Ld rfl))) (Dl (YC rfl (Ba rfl) (Lg rfl) rfl) (λv23=>(Kx (NG (B:=(λ(s46:(List Int))=>[.z ((Gy W) BY),.v ((eT D.int) Bp),.z ((oDK D.int) BC),.y ((oL D.int) v1),.w 4 ((oL D.int) s46),.w 5 ((oDK D.bl) v23),.v (D.int v19.1)])) (Jv (QA EX Mx (YH (Ba rfl) (Ba rfl)) (Lg rfl))) (Kx (am rfl (Gh (Qx (C2 rfl) (SH (Ba rfl) IS)) (λz38=>YK W z38.1 z38.2.1) (λ_=>rfl) Od) rfl) (λv31=>(.same (.same (.same (.same (.same (.same (.same .nil))))))))) (Kx (fF rfl (YI (C2 rfl) (Ba rfl)) rfl) (λv39=>(.same (.same (.same (.same (.same (.same (.same .nil)))))))))) (λs45=>(.same (.same (.same (.same (.same (.same (.same .nil))))))))))) (OG (.same (.same (.same (.same (.same (.same (.same .nil))))))))) (λs48=>(.same (.same (.same (.same (.same (.same (.drop .nil))))))))))))) (λs17=>(U9 rfl)))))))))
def Gi (BY:(Nat×List (Int×Int))):Option (Fw (List Int) Unit):=
 EA ((((some BY).bind λx2=>(some ()).bind λx3=>some (x2,x3)).bind λz4=>CT z4.1).bind λx5=>some (.nx x5)) λv1=>EA ((((some BY).bind λx12=>((some v1).bind λx13=>((((some BY).bind λx7=>((some v1).bind λx8=>(some ()).bind λx9=>some (x8,x9)).bind λx10=>some (x7,x10)).bind λz11=>FV z11.1 z11.2.1).bind λx14=>(some ()).bind λx15=>some (x14,x15)).bind λx16=>some (x13,x16)).bind λx17=>some (x12,x17)).bind λz18=>Dr z18.1 z18.2.1 z18.2.2.1).bind λx19=>some (.nx x19)) λv6=>(((some v1).bind λx20=>some (NT x20)).bind λl28=>G2 l28 (λx21=>((some x21.1).bind λx24=>(some v6).bind λx25=>some ((Av x25 x24).isSome)).bind λx22=>((some x21.2).bind λx26=>(some (1:Int)).bind λx27=>some (decide (x26=x27))).bind λx23=>some (decide (x22=x23))) (λx21=>some x21.1)).bind λx29=>some (.rt x29)
def Gk (BY:(Nat×List (Int×Int))):Option (List Int):=Ps (Gi BY)
theorem Kk (W:Wd) (BY:(Nat×List (Int×Int))):VF (FL W) [.z ((Gy W) BY)] (rV (eT D.int)) (Gk BY):=by
 refine NJ (n:=3) (b:=Ia W) (p:=Gi BY) (B:=λ_=>[]) ?_;show VS [.z ((Gy W) BY),.u,.u] _ _ _ _;unfold Ia Gi;exact (Dl (YA (Gh (Qx (C2 rfl) IS) (λz4=>Gv W z4.1) (λ_=>rfl) Od)) (λv1=>(Dl (Qt (Gh (Qx (C2 rfl) (SH (Ba rfl) (Qx (Lf (Gh (Qx (C2 rfl) (SH (Ba rfl) IS)) (λz11=>OQ W z11.1 z11.2.1) (λ_=>rfl) Yi)) IS))) (λz18=>Mh W z18.1 z18.2.1 z18.2.2.1) (λ_=>rfl) Yi)) (λv6=>(JI (WW (Lf (Hf (R7 (VI.k (OM (Ba rfl))) (λx21=>(Jv (QA ii j8 (bE (Ba rfl) (Nx rfl)) (QA EX Mx (Ba rfl) (Lg rfl))))) (λx21=>(Ba rfl)))))))))))
def JM (BC:Int):Option (Fw Bool Unit):=
 (((some BC).bind λx1=>some true).bind λx4=>if x4=true then ((some BC).bind λx2=>some false).bind λx3=>some (!x3) else some false).bind λx5=>some (.rt x5)
def HQ (BC:Int):Option Bool:=Ps (JM BC)
theorem Lk (W:Wd) (BC:Int):VF (HU W) [.v (D.int BC)] (rV D.bl) (HQ BC):=by
 refine NJ (n:=1) (b:=Je W) (p:=JM BC) (B:=λ_=>[]) ?_;show VS [.v (D.int BC)] _ _ _ _;unfold Je JM;exact (JI (bG (VM (T:="int") (Ba rfl) (λ_ _=>rfl) (by decide +kernel)) (az (VM (T:="int") (Ba rfl) (λ_ _=>rfl) (by decide +kernel)))))
def Gj (BC:(List Int)) (Ie:Int):Option (Fw Bool Unit):=
 EA (((((some BC).bind λx1=>some true).bind λx2=>some (!x2)).bind λx10=>if x10=true then some true else (((some BC).bind λl7=>G2 l7 (λx3=>some true) (λx3=>((some x3).bind λx4=>(some ()).bind λx5=>some (x4,x5)).bind λz6=>HQ z6.1)).bind λx8=>some (x8.all id)).bind λx9=>some (!x9)).bind λx12=>if x12=true then (some false).bind λx11=>some (.rt x11) else some (.nx ())) λ_=>EA (((((some BC).bind λx17=>some (Dm x17)).bind λx15=>(some BC).bind λx16=>some (!decide (x15=x16))).bind λx21=>if x21=true then some true else ((some BC).bind Pj).bind λx18=>((some BC).bind λx20=>some (x20.length:Int)).bind λx19=>some (!decide (x18=x19))).bind λx23=>if x23=true then (some false).bind λx22=>some (.rt x22) else some (.nx ())) λ_=>(((some BC).bind λl30=>G2 l30 (λx26=>some true) (λx26=>(some (0:Int)).bind λx27=>(some x26).bind λx28=>if decide (x27<=x28)=true then (some Ie).bind λx29=>some (decide (x28 < x29)) else some false)).bind λx31=>some (x31.all id)).bind λx32=>some (.rt x32)
def Gm (BC:(List Int)) (Ie:Int):Option Bool:=Ps (Gj BC Ie)
theorem Pi (W:Wd) (BC:(List Int)) (Ie:Int):VF (Gp W) [.v ((eT D.int) BC),.v (D.int Ie)] (rV D.bl) (Gm BC Ie):=by
 refine NJ (n:=2) (b:=Ib W) (p:=Gj BC Ie) (B:=λ_=>[]) ?_;show VS [.v ((eT D.int) BC),.v (D.int Ie)] _ _ _ _;unfold Ib Gj;exact (Dl (NG (B:=(λ(_:Unit)=>[.v ((eT D.int) BC),.v (D.int Ie)])) (SE (Mf (Jv (VM (T:="tuple") (Ba rfl) (λ_ _=>rfl) (by decide +kernel)))) (Mf (Jv (Tz (Qu (Lf (Hf (Ir (VI.k (Qv (Ba rfl))) (λx3=>Lh) (λx3=>(Gh (SH (Ba rfl) IS) (λz6=>Lk W z6.1) (λ_=>rfl) Od)))))))))) (JI (Lg rfl)) (OG (.same (.same .nil)))) (λ_=>(Dl (NG (B:=(λ(_:Unit)=>[.v ((eT D.int) BC),.v (D.int Ie)])) (SE (Jv (YG EX (Lf (WX (Ba rfl))) (Lf (Hf (VC (au (Ba rfl))))))) (Jv (jX EX Mx (WY (Ba rfl)) (bC (Ba rfl))))) (JI (Lg rfl)) (OG (.same (.same .nil)))) (λ_=>(JI (Tz (Qu (Lf (Hf (Ir (VI.k (Qv (Ba rfl))) (λx26=>Lh) (λx26=>(SD eQ eO (Lg rfl) (Ba rfl) (Ba rfl)))))))))))))
def HN (BC:(List (Int×Int))) (Hu:(List (Int×Int))):Option (Fw Bool Unit):=
 EA (((((some BC).bind λx1=>some true).bind λx2=>some (!x2)).bind λx6=>if x6=true then some true else ((some BC).bind λx5=>some (Dz x5)).bind λx3=>(some BC).bind λx4=>some (!decide (x3=x4))).bind λx8=>if x8=true then (some false).bind λx7=>some (.rt x7) else some (.nx ())) λ_=>EA (((some []).bind dM).bind λx12=>some (.nx x12)) λv11=>EA ((some BC).bind λl37=>Kd l37 v11 λ(s13:(List Int)) x14=>EA (((((some x14).bind λx15=>some true).bind λx16=>some (!x16)).bind λx28=>if x28=true then some true else ((some x14).bind λx17=>(some Hu).bind λx18=>some (!inG x17 x18)).bind λx27=>if x27=true then some true else ((((some x14).bind λx19=>some [x19.1,x19.2]).bind λl24=>G2 l24 (λx20=>some true) (λx20=>((some x20).bind λx21=>(some ()).bind λx22=>some (x21,x22)).bind λz23=>HQ z23.1)).bind λx25=>some (x25.all id)).bind λx26=>some (!x26)).bind λx30=>if x30=true then (some false).bind λx29=>some (.rt x29) else some (.nx ())) λ_=>M4 (λv33=>v33) (((some x14).bind λx36=>some [x36.1,x36.2]).bind λx34=>(TJ s13 x34).bind λl35=>some (.nx l35))) λs38=>(((some s38).bind Pj).bind λx40=>((some s38).bind λx42=>some (x42.length:Int)).bind λx41=>some (decide (x40=x41))).bind λx43=>some (.rt x43)
def HR (BC:(List (Int×Int))) (Hu:(List (Int×Int))):Option Bool:=Ps (HN BC Hu)
theorem Qy (W:Wd) (BC:(List (Int×Int))) (Hu:(List (Int×Int))):VF (HV W) [.z ((oL (eP D.int D.int)) BC),.z ((oL (eP D.int D.int)) Hu)] (rV D.bl) (HR BC Hu):=by
 refine NJ (n:=4) (b:=Jf W) (p:=HN BC Hu) (B:=λ_=>[]) ?_;show VS [.z ((oL (eP D.int D.int)) BC),.z ((oL (eP D.int D.int)) Hu),.u,.u] _ _ _ _;unfold Jf HN;exact (Dl (NG (B:=(λ(_:Unit)=>[.z ((oL (eP D.int D.int)) BC),.z ((oL (eP D.int D.int)) Hu),.u,.u])) (SE (Mf (Jv (fQ (C2 rfl) (by decide +kernel)))) (Jv (YG (O8 EX EX) (Lf (R9 (C2 rfl))) (C2 rfl)))) (JI (Lg rfl)) (OG (.same (.same (.same (.same .nil)))))) (λ_=>(Dl (Lc (Hf (YD fG))) (λv11=>(Dl (YB (s0:=v11) (B:=(λ(s39:(List Int))=>[.z ((oL (eP D.int D.int)) BC),.z ((oL (eP D.int D.int)) Hu),.w 2 ((oL D.int) s39),.u])) (fH rfl) ag (.same (.same (.same (.same .nil)))) (λs13 x14=>(Dl (NG (B:=(λ(_:Unit)=>[.z ((oL (eP D.int D.int)) BC),.z ((oL (eP D.int D.int)) Hu),.w 2 ((oL D.int) s13),.v ((eP D.int D.int) x14)])) (SE (Mf (Jv (VM (T:="tuple") (Ba rfl) (λ_ _=>rfl) (by decide +kernel)))) (SE (Jv (VJ (O8 EX EX) (Ba rfl) (C2 rfl))) (Mf (Jv (Tz (Qu (Lf (Hf (Ir (VI.k (Qv (YF (Ba rfl)))) (λx20=>Lh) (λx20=>(Gh (SH (Ba rfl) IS) (λz23=>Lk W z23.1) (λ_=>rfl) Od))))))))))) (JI (Lg rfl)) (OG (.same (.same (.same (.same .nil)))))) (λ_=>(Kx (fD rfl (Hf (VC (av (Ba rfl)))) rfl) (λv33=>(.same (.same (.same (.drop .nil)))))))))) (λs38=>(JI (QA EX Mx (Tx (Ld rfl)) (bD (Ld rfl))))))))))
theorem iM:∀o:Nat,o < 61->∀x:Nat,x < o->hb (1 * 2 ^ o - 1) (x:Int)=true:=by decide +kernel
theorem gv {G Z:List Int} {f:Int->Int} (hG:G.Nodup) (hZ:Z.Nodup) (hl:G.length=Z.length) (hf:∀a∈G,f a∈Z) (hi:∀a∈G,∀b∈G,f a=f b->a=b):∀y∈Z,∃a∈G,f a=y:=by
 intro y hy
 by_cases c:y∈G.map f
 ·obtain ⟨a,h1,h2⟩:=Af.mp c
  exact ⟨a,h1,h2⟩
 ·have nd:(y :: G.map f).Nodup:=CO.mpr ⟨c,nd_map hG hi⟩
  have:=M0 nd (k:=Z) λx hx=>by
   rcases Ay.mp hx with rfl | hx
   ·exact hy
   ·obtain ⟨a,h1,rfl⟩:=Af.mp hx
    exact hf a h1
  rw [A8,AE] at this
  lia
where
 nd_map {G:List Int} {f:Int->Int} (hG:G.Nodup) (hi:∀a∈G,∀b∈G,f a=f b->a=b):(G.map f).Nodup:=by
  unfold MR;rw [Bt];exact HK (λ{a b} ha hb h e=>h (hi a ha b hb e)) hG
section
variable {nb:Int->List Int} {p:Nat}
abbrev U (p:Nat):List Int:=(BN p).map λx:Nat=>(x:Int)
theorem Kq {x:Int}:x∈U p↔0<=x/\x < p:=by
 rw [Af]
 constructor
 ·rintro ⟨n,h,rfl⟩
  have:=Dx.mp h
  lia
 ·rintro ⟨h1,h2⟩
  exact ⟨x.toNat,Dx.mpr (by lia),by lia⟩
def Hz (nb:Int->List Int) (H:HL) (Z:List Int):Prop:=Z.Nodup/\∀y∈Z,∃a,Av H y=some a/\∀x∈nb a,x∈Z
structure Mt (nb:Int->List Int) (p:Nat) (c:Int->Int) (H:HL):Prop where
 ko:KOk (U p) H
 gd:∀x a,Av H x=some a->(0<=a/\a < p)/\c a=0
 on:∀x a,Av H x=some a->x∈nb a
 inj:∀x y a,Av H x=some a->Av H y=some a->x=y
theorem Zf {c:Int->Int} {H H':HL} (m:Mt nb p c H) (m':Mt nb p c H') (hg:∀x a,Av H x=some a->∃y,Av H' y=some a) {Z:List Int} (h:Hz nb H Z):Hz nb H' Z:=by
 refine ⟨h.1,?_⟩
 have h1:∀y:Int,∃a:Int,y∈Z->Av H y=some a/\∀x∈nb a,x∈Z:=λy=>by
  by_cases c:y∈Z
  ·obtain ⟨a,h1⟩:=h.2 y c
   exact ⟨a,λ_=>h1⟩
  ·exact ⟨0,λz=>zX z c⟩
 have ⟨g,hgz⟩:=PQ h1
 have h2:∀a:Int,∃y:Int,(∃x,Av H x=some a)->Av H' y=some a:=λa=>by
  by_cases c:∃x,Av H x=some a
  ·obtain ⟨x,hx⟩:=c
   obtain ⟨y,hy⟩:=hg x a hx;exact ⟨y,λ_=>hy⟩
  ·exact ⟨0,λz=>zX z c⟩
 have ⟨f,hf⟩:=PQ h2
 have hG:(Z.map g).Nodup:=gv.nd_map h.1 λa ha b hb e=>by
  have e1:=(hgz a ha).1;have e2:=(hgz b hb).1;rw [e] at e1;exact m.inj a b _ e1 e2
 have mem:∀a∈Z.map g,∃x∈Z,Av H x=some a/\∀y∈nb a,y∈Z:=λa ha=>by
  obtain ⟨x,hx,rfl⟩:=Af.mp ha;exact ⟨x,hx,hgz x hx⟩
 have key:=gv (G:=Z.map g) (Z:=Z) (f:=f) hG h.1 (AE _) (λa ha=>by
  obtain ⟨x,hx,e,k⟩:=mem a ha
  exact k _ (m'.on _ _ (hf a ⟨x,e⟩))) (λa ha b hb e=>by
  obtain ⟨x,hx,e1,_⟩:=mem a ha;obtain ⟨y,hy,e2,_⟩:=mem b hb;have f1:=hf a ⟨x,e1⟩;have f2:=hf b ⟨y,e2⟩;rw [e,f2] at f1
  exact (B6 f1).symm)
 intro y hy;obtain ⟨a,ha,e⟩:=key y hy;obtain ⟨x,hx,e1,k⟩:=mem a ha;refine ⟨a,?_,k⟩;rw [<-e];exact hf a ⟨x,e1⟩
theorem SO {c:Int->Int} {T:Int->List Int} {bits:Int} (hp:p<=60) (hT:∀g:Int,0<=g->g < p->T g=nb g) (hb':∀x:Int,0<=x->x < p->hb bits x=true) (hnb:∀x:Int,0<=x->x < p->∀y∈nb x,0<=y/\y < p) {H:HL} (m:Mt nb p c H) {g:Int} (hg:(0<=g/\g < p)/\c g=0) (hn:∀x,Av H x≠some g) :
  Ok (FR T bits 62 H g []) λz=>Mt nb p c z.2.1/\((∀a,(∃x,Av z.2.1 x=some a)↔a=g∨∃x,Av H x=some a)∨(z.2.1=H/\∃Z,Hz nb H Z/\∀x∈nb g,x∈Z)):=by
 have w0e:∀a:Int,0<=a->a < p->w0 T bits a=nb a:=λa h0 h1=>by
  unfold w0;rw [hT a h0 h1]
  exact WQ.mpr λx hx=>hb' x (hnb a h0 h1 x hx).1 (hnb a h0 h1 x hx).2
 have sn0:∀x,¬sn ([]:QL) x:=λx h=>by cases h
 refine (SQ (T:=T) (bits:=bits) (U:=U p) (Gd:=λa=>(0<=a/\a < p)/\c a=0) (λa ha x hx=>?_) (by simp;lia) 62 H g [] m.ko UK m.gd hg (by simp;lia)).imp λz hz=>?_
 ·rw [hT a ha.1.1 ha.1.2] at hx
  exact Kq.mpr (hnb a ha.1.1 ha.1.2 x hx)
 ·cases hb2:z.1 with
  | true=>
   obtain ⟨_,g2⟩:=hz.h6 hb2
   obtain ⟨⟨m1,m2⟩,m3⟩:=g2 ⟨λx _ a e=>by rw [w0e a (m.gd x a e).1.1 (m.gd x a e).1.2];exact m.on x a e,λx y a _ _ e1 e2=>m.inj x y a e1 e2⟩ λx _=>hn x
   refine ⟨⟨hz.h1,hz.h3,λx a e=>?_,λx y a e1 e2=>m2 x y a (sn0 x) (sn0 y) e1 e2⟩,.inl λa=>?_⟩
   ·have:=m1 x (sn0 x) a e
    rwa [w0e a (hz.h3 x a e).1.1 (hz.h3 x a e).1.2] at this
   ·have:=m3 a
    exact ⟨λ⟨x,e⟩=>(this.mp ⟨x,sn0 x,e⟩).imp id λ⟨x,_,e⟩=>⟨x,e⟩,λh=>by
     obtain ⟨x,_,e⟩:=this.mpr (h.imp id λ⟨x,e⟩=>⟨x,sn0 x,e⟩)
     exact ⟨x,e⟩⟩
  | false=>
   obtain ⟨h1,h2,h3⟩:=hz.h5 hb2;refine ⟨by rw [h1];exact m,.inr ⟨h1,z.2.2.map (·.1),⟨hz.h2.nd,λy hy=>?_⟩,λx hx=>?_⟩⟩
   ·rcases h3 y ((Gu _ _).mpr hy) with h | ⟨a,e,k⟩
    ·exact zX h (sn0 y)
    ·refine ⟨a,e,λx hx=>(Gu _ _).mp (k x ?_)⟩
     rw [w0e a (m.gd y a e).1.1 (m.gd y a e).1.2];exact hx
   ·refine (Gu _ _).mp (h2 x ?_)
    rw [w0e g hg.1.1 hg.1.2];exact hx
end
theorem LH {β:Type} (p:Nat) (f:Nat->β):NT ((BN p).map f)=(BN p).map λx:Nat=>((x:Int),f x):=by
 apply Cz
 intro i;unfold NT;rw [AO,U3,AO,AO]
 by_cases h:i < p
 ·rw [Bh h]
  simp
 ·rw [BO (by simpa using h)]
  rfl
theorem Yf (p:Nat):Ws 0 p=U p:=by
 unfold Ws U
 refine B2 λx _=>?_
 simp
section
variable {w:Nat×List (Int×Int)}
theorem ZB {x:Int} (h0:0<=x) (h1:x < w.1):K8 w x=some (nbW w.2 x):=by
 have r:EV w x=some ():=by
  unfold EV EU;simp [h0,h1];rfl
 have hl:(J4 w.1 w.2).length=w.1:=by unfold J4;simp
 obtain ⟨y,e1,e2⟩:=Rg (l:=J4 w.1 w.2) (i:=x) h0 (by rw [hl];exact h1)
 have e3:y=nbW w.2 x:=by
  unfold J4 at e2;rw [AO,Bh (by lia)] at e2;exact (B6 e2).symm
 unfold K8 Q6;simp only [As,r,D9,e1,e3];rfl
abbrev cw (w:Nat×List (Int×Int)):Int->Int:=col (nbW w.2) w.1
theorem bO (hp:w.1<=60):(((some w).bind λx2=>some (x2.1:Int)).bind Yg).bind (λl9=>G2 l9 (λx3=>some true) (λx3=>((some w).bind λx4=>((some x3).bind λx5=>(some ()).bind λx6=>some (x5,x6)).bind λx7=>some (x4,x7)).bind λz8=>K8 z8.1 z8.2.1))=some ((U w.1).map (nbW w.2)):=by
 simp only [As];rw [bd (by lia) (by lia)];simp only [As];rw [B9,Yf,JB (f:=nbW w.2) (by simp;lia) λx hx=>ZB (Kq.mp hx).1 (Kq.mp hx).2]
theorem Tk_p {x:Int} (h0:0<=x) (h1:x < w.1):Tk ((U w.1).map (nbW w.2)) x=nbW w.2 x:=by
 have hl:((U w.1).map (nbW w.2)).length=w.1:=by simp
 obtain ⟨y,e1,e2⟩:=Rg (l:=(U w.1).map (nbW w.2)) (i:=x) h0 (by rw [hl];exact h1);unfold Tk;rw [e1];rw [AO,AO,Bh (by lia)] at e2;have:nbW w.2 ((x.toNat:Nat):Int)=y:=B6 e2;rw [BZ h0] at this;exact this.symm
def Ut (w:Nat×List (Int×Int)) (H:HL) (g:Int):Prop:=(∃x,Av H x=some g)∨∃Z,Hz (nbW w.2) H Z/\∀x∈nbW w.2 g,x∈Z
theorem UF (ok:Wok w):Ok (FV w (Kf w)) λH=>Mt (nbW w.2) w.1 (cw w) H/\∀g:Int,0<=g->g < w.1->cw w g=0->Ut w H g:=by
 unfold FV JL;rw [bO ok.hp];simp only [As,D9]
 have hsh:Ya 1 (w.1:Int)=some (1 * 2 ^ w.1):=by
  have hc:aC 1 (w.1:Int):=⟨by lia,by have:=ok.hp;lia,by decide⟩;unfold Ya;rw [qX hc,B9]
 rw [hsh];simp only [As,D9];rw [LH]
 have hb':∀x:Int,0<=x->x < w.1->hb (1 * 2 ^ w.1 - 1) x=true:=λx h0 h1=>by
  have:=iM w.1 (by have:=ok.hp;lia) x.toNat (by lia);rwa [BZ h0] at this
 have nd1:((BN w.1).map λx:Nat=>((x:Int),col (nbW w.2) w.1 x)).map (·.1)=U w.1:=by
  rw [At];rfl
 have ndU:(U w.1).Nodup:=by
  unfold U MR;rw [Bt]
  exact (aF (n:=w.1)).imp λh e=>h (by lia)
 refine OkF.out (OkF.seq (OkF.for (λpre H=>Mt (nbW w.2) w.1 (cw w) H/\(∀x a,Av H x=some a->a∈pre.map (·.1))/\∀z∈pre,z.2=0->Ut w H z.1) ?_ ?_) ?_)
 ·exact ⟨⟨UK,λx a e=>(nomatch e),λx a e=>(nomatch e),λx y a e=>(nomatch e)⟩,λx a e=>(nomatch e),λz hz=>(nomatch hz)⟩
 ·intro pre z H hz hpre ⟨m,h1,h2⟩
  obtain ⟨n,hn,e⟩:=Af.mp hz;have hnp:=Dx.mp hn
  have ez:z.2=cw w z.1:=by rw [<-e]
  have hz1:0<=z.1/\z.1 < w.1:=by rw [<-e];dsimp only;lia
  have hnot:z.1∉pre.map (·.1):=λhm=>by
   have h3:((pre++[z]).map (·.1)) <+: U w.1:=by rw [<-nd1];exact hpre.map _
   have h4:=h3.sublist.nodup ndU;rw [A2,CI] at h4;exact h4.2.2 z.1 hm z.1 (by simp) rfl
  have full_mono:∀H':HL,Mt (nbW w.2) w.1 (cw w) H'->(∀x a,Av H x=some a->∃y,Av H' y=some a)->∀g,Ut w H g->Ut w H' g:=λH' m' hg g h=>by
   rcases h with ⟨x,e⟩ | ⟨Z,hZ,k⟩
   ·exact .inl (hg x g e)
   ·exact .inr ⟨Z,Zf m m' hg hZ,k⟩
  refine OkF.map (N:=λH'=>Mt (nbW w.2) w.1 (cw w) H'/\(∀x a,Av H' x=some a->a∈(pre++[z]).map (·.1))/\∀y∈pre++[z],y.2=0->Ut w H' y.1) ?_ λ_ h=>h
  refine OkF.ite (λc=>?_) λc=>?_
  ·have c0:z.2=0:=of_decide_eq_true c
   have hsz:SR ((U w.1).map (nbW w.2)) (1 * 2 ^ w.1 - 1) 62 H z.1=FR (Tk ((U w.1).map (nbW w.2))) (1 * 2 ^ w.1 - 1) 62 H z.1 []:=by
    unfold SR;refine qX ⟨λt ht=>?_,⟨hz1.1,by simp;exact hz1.2⟩,λx a e=>by simp;exact (m.gd x a e).1⟩;obtain ⟨x,hx,rfl⟩:=Af.mp ht;obtain ⟨x0,x1⟩:=Kq.mp hx;exact ⟨ok.hlen x,λy hy=>(ok.hnb x x0 x1 y hy).1⟩
   rw [hsz]
   refine OkF.map (N:=λH'=>Mt (nbW w.2) w.1 (cw w) H'/\(∀x a,Av H' x=some a->a∈(pre++[z]).map (·.1))/\∀y∈pre++[z],y.2=0->Ut w H' y.1) ?_ λ_ h=>h
   refine OkF.of (SO ok.hp (λg=>Tk_p) hb' ok.hnb m ⟨hz1,by rw [<-ez];exact c0⟩ λx e=>hnot (h1 x z.1 e)) λr ⟨m',hr⟩=>OkF.nx ?_
   rcases hr with hr | ⟨e1,Z,hZ,k⟩
   ·refine ⟨m',λx a e=>?_,λy hy y0=>?_⟩
    ·rw [A2]
     rcases (hr a).mp ⟨x,e⟩ with rfl | ⟨x',e'⟩
     ·exact A5 _ (by simp)
     ·exact A4 _ (h1 x' a e')
    ·rcases Ai.mp hy with hy | hy
     ·exact full_mono _ m' (λx a e=>(hr a).mpr (.inr ⟨x,e⟩)) _ (h2 y hy y0)
     ·rw [AQ.mp hy]
      exact .inl ((hr z.1).mpr (.inl rfl))
   ·rw [e1]
    refine ⟨m,λx a e=>by rw [A2];exact A4 _ (h1 x a e),λy hy y0=>?_⟩
    rcases Ai.mp hy with hy | hy
    ·exact h2 y hy y0
    ·rw [AQ.mp hy]
     exact .inr ⟨Z,hZ,k⟩
  ·have c0:¬z.2=0:=of_decide_eq_false c
   refine OkF.nx ⟨m,λx a e=>by rw [A2];exact A4 _ (h1 x a e),λy hy y0=>?_⟩
   rcases Ai.mp hy with hy | hy
   ·exact h2 y hy y0
   ·rw [AQ.mp hy] at y0
    exact zX y0 c0
 ·intro H ⟨m,_,h2⟩
  refine OkF.rt ⟨m,λg h0 h1 hc=>?_⟩;exact h2 (g,cw w g) (Af.mpr ⟨g.toNat,Dx.mpr (by lia),by rw [BZ h0]⟩) hc
end
end M
namespace L4
theorem X8 {ρ σ:Type} {c:σ->Option Bool} {q:σ->Option (Fw ρ σ)} (I:σ->Prop) (μ:σ->Nat) (h:∀s,I s->c s=some false∨(c s=some true/\∃s',q s=some (.nx s')/\I s'/\μ s' < μ s)) :
  ∀(n:Nat) (s:σ),I s->μ s < n->∃s',whF c q n s=some (.nx s')/\I s'/\c s'=some false
 | 0,s,_,hn=>zX hn (Hd _)
 | n+1,s,hI,hn=>by
  unfold whF
  rcases h s hI with hc | ⟨hc,s',hq,h2,h3⟩
  ·rw [hc]
   exact ⟨s,rfl,hI,hc⟩
  ·rw [hc]
   simp only [As,if_true];rw [hq];exact X8 I μ h n s' h2 (by lia)
end L4
namespace M
open PySem L2 L4
section
variable {w:Nat×List (Int×Int)} {H:HL}
theorem dZ {x:Int} (h0:0<=x) (h1:x < w.1):atI (Kf w) x=some (cw w x):=by
 have hl:(Kf w).length=w.1:=by simp
 obtain ⟨y,e1,e2⟩:=Rg (l:=Kf w) (i:=x) h0 (by rw [hl];exact h1);rw [e1];rw [AO,Bh (by lia)] at e2;have:col (nbW w.2) w.1 ((x.toNat:Nat):Int)=y:=B6 e2;rw [BZ h0] at this;rw [<-this]
def HZ (w:Nat×List (Int×Int)) (H:HL) (y:Int):Prop:=∃Z,Hz (nbW w.2) H Z/\y∈Z
def Gx (w:Nat×List (Int×Int)) (H:HL) (x:Int):Prop:=(0<=x/\x < w.1)/\(cw w x=0->∀y∈nbW w.2 x,HZ w H y)/\(cw w x≠0->HZ w H x)
theorem HZ.at {y:Int} (h:HZ w H y):∃a,Av H y=some a/\∀x∈nbW w.2 a,HZ w H x:=by
 obtain ⟨Z,hZ,hy⟩:=h;obtain ⟨a,e,k⟩:=hZ.2 y hy;exact ⟨a,e,λx hx=>⟨Z,hZ,k x hx⟩⟩
def bb (w:Nat×List (Int×Int)) (H:HL) (g:Int):Prop:=(0<=g/\g < w.1)/\cw w g=0/\∀x,Av H x≠some g
structure LI (w:Nat×List (Int×Int)) (H:HL) (s:List Int×QL):Prop where
 ga:∀x∈s.1,Gx w H x
 gq:∀x,sn s.2 x->Gx w H x
 ko:KOk (U w.1) s.2
 cl:∀x,sn s.2 x->(cw w x=0->∀y∈nbW w.2 x,sn s.2 y∨y∈s.1)/\(cw w x≠0->∀a,Av H x=some a->sn s.2 a∨a∈s.1)
 ro:∀g,bb w H g->sn s.2 g∨g∈s.1
 le:s.1.length+61 * (60 - s.2.length)<=3720
structure Rch (w:Nat×List (Int×Int)) (H:HL) (Q:QL):Prop where
 gq:∀x,sn Q x->Gx w H x
 cl:∀x,sn Q x->(cw w x=0->∀y∈nbW w.2 x,sn Q y)/\(cw w x≠0->∀a,Av H x=some a->sn Q a)
 ro:∀g,bb w H g->sn Q g
theorem dX (x:Int):cw w x=0∨cw w x=1:=d7 _
theorem kD (ok:Wok w) (hnd:∀x,(nbW w.2 x).Nodup) {x:Int} (h0:0<=x) (h1:x < w.1):(nbW w.2 x).length<=60:=A0 (NM w.1 _ (hnd x) (ok.hnb x h0 h1)) ok.hp
theorem Wv (ok:Wok w) (hnd:∀x,(nbW w.2 x).Nodup) (h2:IM (nbW w.2) w.1 (cw w)) (m:Mt (nbW w.2) w.1 (cw w) H) (hf:∀g:Int,0<=g->g < w.1->cw w g=0->Ut w H g):Ok (Dr w (Kf w) H) (Rch w H):=by
 unfold Dr E1;simp only [As,D9];rw [LH]
 have hvals:∀g:Int,g∈H.map (·.2)↔∃x,Av H x=some g:=λg=>by
  constructor
  ·intro h
   obtain ⟨⟨y,a⟩,hy,e⟩:=Af.mp h;refine ⟨y,?_⟩;dsimp only at e;subst e;unfold Av;have:=m.ko.nd
   have key:∀l:HL,(l.map (·.1)).Nodup->(y,a)∈l->(l.find? λkv=>decide (kv.1=y))=some (y,a):=by
    intro l
    induction l with
    | nil=>intro _ h;cases h
    | cons z l ih=>
     intro nd h;rw [Az,CO] at nd;rw [BP]
     rcases Ay.mp h with h | h
     ·subst h;simp
     ·have:z.1≠y:=λe=>nd.1 (Af.mpr ⟨(y,a),h,e.symm⟩)
      rw [wY this];exact ih nd.2 h
   rw [key H this hy];rfl
  ·rintro ⟨x,h⟩
   unfold Av at h
   cases hq:H.find? (λkv=>decide (kv.1=x)) with
   | none=>rw [hq] at h;cases h
   | some kv=>
    rw [hq] at h;cases h;exact Af.mpr ⟨kv,Qo hq,rfl⟩
 rw [MF (P:=λx6:Int×Int=>decide (x6.2=0)&&!decide (x6.1∈H.map (·.2))) (f:=λx6:Int×Int=>x6.1) (by simp;have:=ok.hp;lia) (λx _=>by
  by_cases c:x.2=0 <;> simp [c]) λx _ _=>rfl]
 simp only [As,D9];generalize hA:(((BN w.1).map λx:Nat=>((x:Int),col (nbW w.2) w.1 x)).filter λx6:Int×Int=>decide (x6.2=0)&&!decide (x6.1∈H.map (·.2))).map (λx6:Int×Int=>x6.1)=A
 have hAm:∀g,g∈A↔bb w H g:=λg=>by
  rw [<-hA,Af]
  constructor
  ·rintro ⟨z,hz,rfl⟩
   obtain ⟨h3,h4⟩:=CP.mp hz;obtain ⟨n,hn,rfl⟩:=Af.mp h3;have hn:=Dx.mp hn;rw [Ji] at h4;refine ⟨by dsimp only;lia,of_decide_eq_true h4.1,λx e=>?_⟩;have:=(hvals _).mpr ⟨x,e⟩;rw [wX this] at h4;cases h4.2
  ·rintro ⟨h3,h4,h5⟩
   refine ⟨(g,cw w g),CP.mpr ⟨Af.mpr ⟨g.toNat,Dx.mpr (by lia),by rw [BZ h3.1]⟩,?_⟩,rfl⟩
   have:g∉H.map (·.2):=λz=>by
    obtain ⟨x,e⟩:=(hvals g).mp z;exact h5 x e
   rw [wX h4,wY this];rfl
 have hAl:A.length<=60:=by
  rw [<-hA,AE];refine A0 (KQ _ _) ?_;simp;exact ok.hp
 have gA:∀g,bb w H g->Gx w H g:=λg hg=>⟨hg.1,λ_ y hy=>by
  rcases hf g hg.1.1 hg.1.2 hg.2.1 with ⟨x,e⟩ | ⟨Z,hZ,k⟩
  ·exact zX e (hg.2.2 x)
  ·exact ⟨Z,hZ,k y hy⟩,λc=>zX hg.2.1 c⟩
 have hop:∀x:Int,0<=x->x < w.1->∀y∈nbW w.2 x,cw w x=0->cw w y≠0:=λx h0 h1 y hy c e=>h2 x y h0 h1 hy (by rw [c,e])
 obtain ⟨s',e1,hI,hc⟩:=X8 (ρ:=QL) (c:=λ(s16:(List Int)×(List (Int×Bool)))=>some (!s16.1.isEmpty)) (q:=λ(s16:(List Int)×(List (Int×Bool)))=>EA ((Wy s16.1).bind λx20=>some (.nx x20)) λv19=>M4 (λs48=>(s48.2,s48.1)) (if (!(Av s16.2 v19.1).isSome)=true then EA ((Ni s16.2 v19.1 true).bind λl26=>some (.nx l26)) λv23=>M4 (λs45=>(v23,s45)) (((atI (Kf w) v19.1).bind λx27=>some (decide (x27=0))).bind λx44=>if x44=true then M4 (λv31=>v31) ((K8 w v19.1).bind λx32=>(TJ v19.2 x32).bind λl33=>some (.nx l33)) else M4 (λv39=>v39) ((Av H v19.1).bind λx40=>(Z9 v19.2 x40).bind λl41=>some (.nx l41))) else some (.nx (s16.2,v19.2)))) (LI w H) (λs=>s.1.length+61 * (60 - s.2.length)) (λs hI=>by
  obtain ⟨l,Q⟩:=s
  rcases List.eq_nil_or_concat l with rfl | ⟨r,x,er⟩
  ·exact .inl rfl
  ·rw [List.concat_eq_append] at er
   subst er;refine .inr ⟨by simp,?_⟩
   have hpop:Wy (r++[x])=some (x,r):=by
    unfold Wy;rw [List.getLast?_append];simp
   have hxg:=hI.ga x (by simp);have hle:=hI.le;dsimp only at hle;rw [Ah,Ck] at hle;have hQl:=hI.ko.len;dsimp only at hQl;rw [show (U w.1).length=w.1 by simp] at hQl;have hp:=ok.hp;dsimp only;rw [hpop];simp only [As,D9]
   by_cases c:sn Q x
   ·refine ⟨(r,Q),by rw [qY (by rw [c];decide)];rfl,⟨λy hy=>hI.ga y (by simp [hy]),hI.gq,hI.ko,λy hy=>?_,λg hg=>?_,by dsimp only;lia⟩,by dsimp only;rw [Ah,Ck];lia⟩
    ·obtain ⟨k1,k2⟩:=hI.cl y hy
     refine ⟨λc0 z hz=>?_,λc0 a ha=>?_⟩
     ·rcases k1 c0 z hz with h | h
      ·exact .inl h
      ·rcases Ai.mp h with h | h
       ·exact .inr h
       ·rw [AQ.mp h];exact .inl c
     ·rcases k2 c0 a ha with h | h
      ·exact .inl h
      ·rcases Ai.mp h with h | h
       ·exact .inr h
       ·rw [AQ.mp h];exact .inl c
    ·rcases hI.ro g hg with h | h
     ·exact .inl h
     ·rcases Ai.mp h with h | h
      ·exact .inr h
      ·rw [AQ.mp h];exact .inl c
   ·have cf:(Av Q x).isSome=false:=by cases q:(Av Q x).isSome;rfl;exact zX q c
    rw [qX (by rw [cf];rfl),Q7 hI.ko (by simp;lia)];simp only [As,D9];rw [dZ hxg.1.1 hxg.1.2];simp only [As];have Nm:=KOk.more cf true;have ko1:KOk (U w.1) (B3 Q x true):=hI.ko.put (Kq.mpr hxg.1) true;have hQ1:=ko1.len;rw [show (U w.1).length=w.1 by simp] at hQ1
    have fin:∀N:List Int,N.length<=60->(∀y∈N,Gx w H y)->(cw w x=0->∀y∈nbW w.2 x,y∈N)->(cw w x≠0->∀a,Av H x=some a->a∈N)->LI w H (r++N,B3 Q x true)/\(r++N).length+61 * (60 - (B3 Q x true).length) < (r++[x]).length+61 * (60 - Q.length):=λN hN gN n1 n2=>by
     refine ⟨⟨λy hy=>?_,λy hy=>?_,ko1,λy hy=>?_,λg hg=>?_,?_⟩,?_⟩
     ·rcases Ai.mp hy with hy | hy
      ·exact hI.ga y (by simp [hy])
      ·exact gN y hy
     ·rcases E7.mp hy with rfl | hy
      ·exact hxg
      ·exact hI.gq y hy
     ·have up:∀z,sn Q z∨z∈(r++[x])->sn (B3 Q x true) z∨z∈r++N:=λz hz=>by
       rcases hz with h | h
       ·exact .inl (E7.mpr (.inr h))
       ·rcases Ai.mp h with h | h
        ·exact .inr (A4 _ h)
        ·rw [AQ.mp h];exact .inl (E7.mpr (.inl rfl))
      rcases E7.mp hy with rfl | hy
      ·exact ⟨λc0 z hz=>.inr (A5 _ (n1 c0 z hz)),λc0 a ha=>.inr (A5 _ (n2 c0 a ha))⟩
      ·obtain ⟨k1,k2⟩:=hI.cl y hy
       exact ⟨λc0 z hz=>up z (k1 c0 z hz),λc0 a ha=>up a (k2 c0 a ha)⟩
     ·rcases hI.ro g hg with h | h
      ·exact .inl (E7.mpr (.inr h))
      ·rcases Ai.mp h with h | h
       ·exact .inr (A4 _ h)
       ·rw [AQ.mp h];exact .inl (E7.mpr (.inl rfl))
     ·dsimp only;rw [Ah];lia
     ·rw [Ah,Ah,Ck];lia
    by_cases c0:cw w x=0
    ·rw [wX c0,qX rfl,ZB hxg.1.1 hxg.1.2]
     have hl:=kD ok hnd hxg.1.1 hxg.1.2;simp only [As];rw [Vt (by lia)];obtain ⟨f1,f2⟩:=fin (nbW w.2 x) hl (λy hy=>⟨ok.hnb x hxg.1.1 hxg.1.2 y hy,λcy=>zX cy (hop x hxg.1.1 hxg.1.2 y hy c0),λ_=>hxg.2.1 c0 y hy⟩) (λ_ y hy=>hy) (λcn=>zX c0 cn);exact ⟨(r++nbW w.2 x,B3 Q x true),rfl,f1,f2⟩
    ·rw [wY c0,qY AX]
     obtain ⟨a,ea,ka⟩:=(hxg.2.2 c0).at;rw [ea];simp only [As];rw [dj (by lia)];obtain ⟨ga,gc⟩:=m.gd x a ea;obtain ⟨f1,f2⟩:=fin [a] (by simp) (λy hy=>by rw [AQ.mp hy];exact ⟨ga,λ_=>ka,λcn=>zX gc cn⟩) (λcn=>zX cn c0) (λ_ b hb=>by rw [ea] at hb;cases hb;simp)
     exact ⟨(r++[a],B3 Q x true),rfl,f1,f2⟩) wN (A,[]) ⟨λx hx=>gA x ((hAm x).mp hx),λx h=>(nomatch h),UK,λx h=>(nomatch h),λg hg=>.inr ((hAm g).mpr hg),by dsimp only;simp;lia⟩ (by dsimp only;simp;unfold wN;lia)
 rw [e1];refine ⟨s'.2,rfl,?_⟩;obtain ⟨l,Q⟩:=s'
 have hl:l=[]:=by
  cases l with
  | nil=>rfl
  | cons _ _=>cases hc
 subst hl;exact ⟨hI.gq,λx hx=>⟨λc0 y hy=>((hI.cl x hx).1 c0 y hy).elim id (λh=>nomatch h),λc0 a ha=>((hI.cl x hx).2 c0 a ha).elim id (λh=>nomatch h)⟩,λg hg=>(hI.ro g hg).elim id (λh=>nomatch h)⟩
end
theorem TF (v:Nat->Int):∀i:Nat,((BN i).map v).Nodup->Dv v i=(BN i).map v
 | 0,_=>rfl
 | i+1,h=>by
  rw [Ju,A2] at h ⊢;obtain ⟨h1,_,h3⟩:=CI.mp h;rw [kn,TF v i h1];unfold kl;rw [qY]
  ·rfl
  ·intro z
   obtain ⟨y,hy,e⟩:=FE.mp z;exact h3 y hy (v i) (by simp) (by simpa using e)
theorem Ll {ns:List Int} (h:ns.Nodup):Kz ns=ns.length:=by
 have e:(BN ns.length).map (λi=>ns.getD i 0)=ns:=by
  apply Cz
  intro j;rw [AO]
  by_cases hj:j < ns.length
  ·rw [Bh hj,BM hj]
   simp [hj]
  ·rw [BO (by rw [List.length_range];lia),BO (by lia)]
   rfl
 unfold Kz;rw [TF _ _ (by rw [e];exact h),e]
theorem Jz (l:List (Int×Int)):(Dz l).Perm l:=by
 have:=(D6 (l.map λx=>[x.1,x.2])).map bN;rw [At] at this
 have e:l.map (bN∘λx=>[x.1,x.2])=l:=by
  conv=>rhs;rw [<-Ki l]
  exact B2 λ_ _=>rfl
 rw [e] at this;exact this
theorem UB (l:List (Int×Int)):(Dz l).map (λx=>[x.1,x.2])=Gw (l.map λx=>[x.1,x.2]):=by
 unfold Dz;rw [At]
 conv=>rhs;rw [<-Ki (Gw _)]
 refine B2 λr hr=>?_
 obtain ⟨x,_,rfl⟩:=Af.mp ((D6 _).mem_iff.mp hr);rfl
theorem UC (l:List (Int×Int)):Dz (Dz l)=Dz l:=by
 show (Gw ((Dz l).map λx=>[x.1,x.2])).map bN=_;rw [UB,Mn (D6 _) (Jy _) (Jy _)];rfl
theorem U8 (x:Int):HQ x=some true:=rfl
theorem WA (p:Nat):(U p).Nodup:=by
 unfold U MR;rw [Bt]
 exact (aF (n:=p)).imp λh e=>h (by lia)
theorem U_up (p:Nat):(U p).Pairwise (· < ·):=by
 unfold U;rw [Bt]
 exact (List.pairwise_lt_range (n:=p)).imp λh=>by lia
section
variable {w:Nat×List (Int×Int)} {H:HL} {Q:QL}
def pr (H:HL) (y:Int):Int×Int:=match Av H y with
 | some a=>(if a < y then a else y,if a > y then a else y)
 | none=>(0,0)
abbrev prs (H:HL):List (Int×Int):=(H.map (·.1)).map (pr H)
abbrev cvr (w:Nat×List (Int×Int)) (Q:QL):List Int:=(U w.1).filter λx=>decide ((Av Q x).isSome=decide (cw w x=1))
theorem JS {y:Int} (h:y∈H.map (·.1)):∃a,Av H y=some a:=Ig.mp ((Gu H y).mpr h)
theorem Qw {y a:Int} (h:Av H y=some a):y∈H.map (·.1):=(Gu H y).mp (by rw [h];rfl)
theorem cK (ok:Wok w) (h2:IM (nbW w.2) w.1 (cw w)) (e:FV w (Kf w)=some H) (m:Mt (nbW w.2) w.1 (cw w) H):HP w=some (Dz (prs H)):=by
 unfold HP HM;have ec:CT w=some (Kf w):=qX ⟨ok,h2⟩;simp only [As,ec,e,D9];have hl:=m.ko.len;rw [show (U w.1).length=w.1 by simp] at hl
 rw [JB (f:=pr H) (by simp;have:=ok.hp;lia) λy hy=>by
  obtain ⟨a,ha⟩:=JS hy;unfold pr;rw [ha]
  rfl]
 rfl
theorem dY (ok:Wok w) (h2:IM (nbW w.2) w.1 (cw w)) (e:FV w (Kf w)=some H) (eq:Dr w (Kf w) H=some Q):Gk w=some (cvr w Q):=by
 unfold Gk Gi;have ec:CT w=some (Kf w):=qX ⟨ok,h2⟩;simp only [As,ec,e,eq,D9];rw [LH,MF (P:=λx:Int×Int=>decide ((Av Q x.1).isSome=decide (x.2=1))) (f:=λx:Int×Int=>x.1) (by simp;have:=ok.hp;lia) (λ_ _=>rfl) λ_ _ _=>rfl];show some _=some _;rw [aT,At];unfold cvr U;rw [aT];rfl
theorem Xc (ok:Wok w) (h2:IM (nbW w.2) w.1 (cw w)) (m:Mt (nbW w.2) w.1 (cw w) H) (R:Rch w H Q):(cvr w Q).length=H.length:=by
 have hop:∀x a,Av H x=some a->cw w x≠0:=λx a e c=>by
  obtain ⟨g1,g2⟩:=m.gd x a e;exact h2 a x g1.1 g1.2 (m.on x a e) (by rw [g2,c])
 have hin:∀x a,Av H x=some a->0<=x/\x < w.1:=λx a e=>Kq.mp (m.ko.sub x (Qw e))
 have hsnd:∀x,(Av Q x).isSome=true↔sn Q x:=λx=>Iff.rfl
 have c1:∀x,cw w x≠0->cw w x=1:=λx h=>(dX x).elim (λz=>zX z h) id
 have mem:∀z,z∈cvr w Q↔(0<=z/\z < w.1)/\(sn Q z↔cw w z=1):=λz=>by
  rw [CP,Kq]
  refine and_congr_right λ_=>?_
  rw [decide_eq_true_iff]
  by_cases c:sn Q z
  ·rw [show (Av Q z).isSome=true from c]
   constructor
   ·intro h;exact ⟨λ_=>of_decide_eq_true h.symm,λ_=>c⟩
   ·intro h;exact (wX (h.mp c)).symm
  ·have:(Av Q z).isSome=false:=by cases q:(Av Q z).isSome;rfl;exact zX q c
   rw [this]
   constructor
   ·intro h;exact ⟨λz=>zX z c,λz=>zX z (of_decide_eq_false h.symm)⟩
   ·intro h;exact (wY λz=>c (h.mpr z)).symm
 have ⟨f,hf⟩:∃f:Int->Int,∀y,f y=if sn Q y then y else (Av H y).getD 0:=⟨_,λ_=>rfl⟩
 have nd:((H.map (·.1)).map f).Nodup:=gv.nd_map m.ko.nd λy hy y' hy' e=>by
  obtain ⟨a,ea⟩:=JS hy;obtain ⟨a',ea'⟩:=JS hy';rw [hf,hf,ea,ea'] at e
  by_cases c:sn Q y <;> by_cases c':sn Q y'
  ·rw [qX c,qX c'] at e;exact e
  ·rw [qX c,qY c'] at e
   exact zX (show cw w y=0 by rw [e];exact (m.gd y' a' ea').2) (hop y a ea)
  ·rw [qY c,qX c'] at e
   exact zX (show cw w y'=0 by rw [<-e];exact (m.gd y a ea).2) (hop y' a' ea')
  ·rw [qY c,qY c'] at e
   have e:a=a':=e;subst e;exact m.inj y y' a ea ea'
 have ndc:(cvr w Q).Nodup:=(WA w.1).sublist LV
 have h3:∀z∈(H.map (·.1)).map f,z∈cvr w Q:=λz hz=>by
  obtain ⟨y,hy,rfl⟩:=Af.mp hz;obtain ⟨a,ea⟩:=JS hy;rw [hf,ea]
  by_cases c:sn Q y
  ·rw [qX c]
   exact (mem y).mpr ⟨hin y a ea,λ_=>c1 y (hop y a ea),λ_=>c⟩
  ·rw [qY c]
   obtain ⟨g1,g2⟩:=m.gd y a ea;refine (mem a).mpr ⟨g1,λh=>zX ((R.cl a h).1 g2 y (m.on y a ea)) c,λh=>zX (g2.symm.trans h) (by decide)⟩
 have h4:∀z∈cvr w Q,z∈(H.map (·.1)).map f:=λz hz=>by
  obtain ⟨h5,h6⟩:=(mem z).mp hz
  by_cases c:sn Q z
  ·have h7:=h6.mp c
   obtain ⟨a,ea,_⟩:=((R.gq z c).2.2 (by rw [h7];decide)).at;exact Af.mpr ⟨z,Qw ea,by rw [hf,qX c]⟩
  ·have h7:cw w z=0:=(dX z).elim id λh=>zX (h6.mpr h) c
   by_cases hx:∃x,Av H x=some z
   ·obtain ⟨x,ex⟩:=hx
    refine Af.mpr ⟨x,Qw ex,?_⟩;rw [hf,qY,ex]
    ·rfl
    ·exact λcx=>c ((R.cl x cx).2 (hop x z ex) z ex)
   ·exact zX (R.ro z ⟨h5,h7,λx e=>hx ⟨x,e⟩⟩) c
 have l1:=M0 nd h3;have l2:=M0 ndc h4;rw [AE,AE] at l1 l2
 lia
theorem io (ok:Wok w) (h2:IM (nbW w.2) w.1 (cw w)) (R:Rch w H Q) {x y:Int} (h0:0<=x) (h1:x < w.1) (hy:y∈nbW w.2 x):x∈cvr w Q∨y∈cvr w Q:=by
 have hyr:=ok.hnb x h0 h1 y hy;have hne:=h2 x y h0 h1 hy
 have key:∀a b:Int,(0<=a/\a < w.1)->(0<=b/\b < w.1)->cw w a=0->cw w b=1->b∈nbW w.2 a->a∈cvr w Q∨b∈cvr w Q:=λa b ha hb ca cb hab=>by
  by_cases c:sn Q a
  ·have:=(R.cl a c).1 ca b hab
   refine .inr (CP.mpr ⟨Kq.mpr hb,?_⟩);rw [show (Av Q b).isSome=true from this,wX cb];rfl
  ·refine .inl (CP.mpr ⟨Kq.mpr ha,?_⟩)
   have:(Av Q a).isSome=false:=by cases q:(Av Q a).isSome;rfl;exact zX q c
   rw [this,wY (show ¬cw w a=1 by rw [ca];decide)];rfl
 rcases dX (w:=w) x with cx | cx <;> rcases dX (w:=w) y with cy | cy
 ·exact zX (cx.trans cy.symm) hne
 ·exact key x y ⟨h0,h1⟩ hyr cx cy hy
 ·exact (key y x hyr ⟨h0,h1⟩ cy cx (ok.hsym x y h0 hyr.1 hy)).symm
 ·exact zX (cx.trans cy.symm) hne
theorem cm (hp:w.1<=60):Gm (cvr w Q) w.1=some true:=by
 have nd:(cvr w Q).Nodup:=(WA w.1).sublist LV;have hl:(cvr w Q).length<=60:=A0 (KQ _ _) (by simp;exact hp)
 have hs:Dm (cvr w Q)=cvr w Q:=by
  refine (D5 _).eq_of_pairwise (λa b _ _ h1 h2=>Pd h1 h2) (Jx _) ?_
  exact ((U_up w.1).sublist LV).imp λh=>Int.le_of_lt h
 unfold Gm Gj;simp only [As];rw [JB (f:=λ_=>true) (by lia) λx _=>U8 x];simp only [As,hs];rw [show Pj (cvr w Q)=some ((cvr w Q).length:Int) by unfold Pj;rw [qX (by lia),Ll nd]];simp only [As]
 rw [JB (f:=λ_=>true) (by lia) λx hx=>by
  obtain ⟨h0,h1⟩:=Kq.mp (CP.mp hx).1
  simp [h0,h1]]
 have ha:∀l:List Int,((l.map λ_=>true).all id)=true:=λl=>G5.mpr λb hb=>by obtain ⟨_,_,rfl⟩:=Af.mp hb;rfl
 simp only [ha,Lb,As,if_false,CU,decide_true,D9];rfl
theorem US (ok:Wok w) (h2:IM (nbW w.2) w.1 (cw w)) (m:Mt (nbW w.2) w.1 (cw w) H) {us:List (Int×Int)} (hlt:∀t∈us,t.1 < t.2) (hu:∀t,t∈w.2↔t∈us):HR (Dz (prs H)) us=some true:=by
 have hl:=m.ko.len;rw [show (U w.1).length=w.1 by simp] at hl;have hp:=ok.hp
 have hop:∀x a,Av H x=some a->cw w x≠0:=λx a e c=>by
  obtain ⟨g1,g2⟩:=m.gd x a e;exact h2 a x g1.1 g1.2 (m.on x a e) (by rw [g2,c])
 have hmem:∀t∈Dz (prs H),t∈us:=λt ht=>by
  obtain ⟨y,hy,e⟩:=Af.mp ((Jz _).mem_iff.mp ht);obtain ⟨a,ea⟩:=JS hy;obtain ⟨g1,g2⟩:=m.gd y a ea;unfold pr at e;rw [ea] at e;dsimp only at e;rw [<-e]
  rcases ok.hall a y g1.1 g1.2 (m.on y a ea) with h | h
  ·have:=hlt _ ((hu _).mp h)
   dsimp only at this;rw [qX this,qY (by lia)];exact (hu _).mp h
  ·have:=hlt _ ((hu _).mp h)
   dsimp only at this;rw [qY (by lia),qX this];exact (hu _).mp h
 have hlen:(Dz (prs H)).length<=60:=by
  rw [(Jz _).length_eq];simp
  lia
 have hnd:((Dz (prs H)).flatMap λt=>[t.1,t.2]).Nodup:=by
  have pm:((Dz (prs H)).flatMap λt=>[t.1,t.2]).Perm ((prs H).flatMap λt=>[t.1,t.2]):=PP _ (Jz _);rw [pm.nodup_iff];unfold MR;rw [List.pairwise_flatMap];refine ⟨λt ht=>?_,?_⟩
  ·have:=hlt t (hmem t ((Jz _).mem_iff.mpr ht))
   simp
   lia
  ·unfold prs
   rw [Bt];refine HK (λ{y y'} hy hy' hne=>?_) m.ko.nd;obtain ⟨a,ea⟩:=JS hy;obtain ⟨a',ea'⟩:=JS hy'
   have els:∀y a,Av H y=some a->∀z∈[(pr H y).1,(pr H y).2],z=y∨z=a:=λy a e z hz=>by
    unfold pr at hz;rw [e] at hz;simp only [Ay,CD,or_false] at hz
    rcases hz with rfl | rfl
    ·split <;> simp
    ·split <;> simp
   intro z hz z' hz' e;subst e
   rcases els y a ea z hz with rfl | rfl <;> rcases els y' a' ea' z hz' with h | h
   ·exact hne h
   ·exact hop z a ea (by rw [h];exact (m.gd y' a' ea').2)
   ·exact hop y' a' ea' (by rw [<-h];exact (m.gd y z ea).2)
   ·subst h;exact hne (m.inj y y' z ea ea')
 refine Ok.is ?_;unfold HR HN;simp only [As,UC,few0];simp only [Lb,decide_true,As,D9,if_false,CU];refine OkF.out (OkF.seq (OkF.for (λpre met=>met=pre.flatMap λt=>[t.1,t.2]) rfl ?_) ?_)
 ·intro pre t met ht hpre hI
  subst hI
  have hpl:pre.length<=60:=by
   have:=hpre.length_le;rw [Ah] at this
   lia
  have hfl:(pre.flatMap λt:Int×Int=>[t.1,t.2]).length<=120:=by
   rw [WN]
   have:(pre.map λt:Int×Int=>[t.1,t.2].length)=BU pre.length 2:=by
    rw [Ts];exact ⟨by simp,λb hb=>by obtain ⟨_,_,rfl⟩:=Af.mp hb;rfl⟩
   rw [this,Tb]
   lia
  rw [cr.mpr (hmem t ht),JB (f:=λ_=>true) (by simp) λx _=>U8 x];simp only [Lb,As,D9,if_false,CU,Az,Hy,Rv,id,List.all_nil,e8];rw [Vt (by simp;simp at hfl;lia)];refine OkF.nx ?_;show _=(pre++[t]).flatMap _;rw [WP];rfl
 ·intro met hI
  subst hI
  have hfl:((Dz (prs H)).flatMap λt:Int×Int=>[t.1,t.2]).length<=120:=by
   rw [WN]
   have:((Dz (prs H)).map λt:Int×Int=>[t.1,t.2].length)=BU (Dz (prs H)).length 2:=by
    rw [Ts];exact ⟨by simp,λb hb=>by obtain ⟨_,_,rfl⟩:=Af.mp hb;rfl⟩
   rw [this,Tb]
   lia
  rw [show Pj ((Dz (prs H)).flatMap λt:Int×Int=>[t.1,t.2])=some (((Dz (prs H)).flatMap λt:Int×Int=>[t.1,t.2]).length:Int) by unfold Pj;rw [qX (by lia),Ll hnd]];simp only [As,decide_true];exact OkF.rt rfl
end
theorem XV (W:Wd) {S:Sto} {t m:Nat} {ts:List (Int×Int)} {c:Int} (ht:S[t]?=some (.lst (ts.map pairD))) (hm1:1<=m) (hm:m<=60) (hf:FB m ts) (hl:ts.length<=80000) {e:Lo} {mp mt:ME} {mc:ML} (h1:mp e S=.ok (.int m) S) (h2:AI mt mc e S=.ok [.ref t,.int c] S) :
  ∃(q:Nat) (S':Sto),Os W.Web 3 (Ho W) (AI mp (AI (BH 2 (DZ W) (AI mt mc)) Aw)) e S=.ok (.ref q) S'/\Keeps S S'/\S.length<=q/\S'[q]?=some (Gy W (m,Df ts)):=by
 obtain ⟨us,c1,p1,l1⟩:=WZ W c ht hl;obtain ⟨S',c2,K,hw⟩:=fC W (p:=m) (d:=.ref S.length) (S:=S++[.lst (us.map pairD)]) (ps:=us) hm1 hm (λS' k=>ED (k.at (B1 _ _))) (by lia) (hf.of p1) (ml:=AI mp (AI (BH 2 (DZ W) (AI mt mc)) Aw)) (e:=e) (S0:=S) (Bc h1 (Bc ((By h2 rfl).trans c1) rfl));rw [bK p1] at hw;exact ⟨_,S',c2,(Keeps.app _ _).trans K,by simp,hw⟩
theorem fB {m:Nat} {us:List (Int×Int)} (u:Eb m 0 us) (hm:m<=60):Wok (m,Df us)/\(∀x,(nbW (Df us) x).Nodup)/\∀x:Int×Int,x∈Df us↔x∈us:=by
 have hnd:∀x,(nbW (Df us) x).Nodup:=λx=>by
  rw [LA u];exact (D5 _).nodup_iff.mpr (L0 u.2 λt ht=>(u.1 t ht).2.1)
 have hlen:∀x,(nbW (Df us) x).length<=1000:=λx=>by
  have:=NM m (nbW (Df us) x) (hnd x) λz hz=>by
   rw [LA u] at hz;exact eE u hz
  lia
 have hmem:∀x:Int×Int,x∈Df us↔x∈us:=λx=>by
  have:=(Ml us).mem_iff (a:=x);rwa [u.nrm] at this
 refine ⟨⟨hm,ZD u,hlen,Vb u,λx hx=>?_,λa b ha0 ha hb=>?_⟩,hnd,hmem⟩
 ·have hx:=(hmem x).mp hx
  have b:=u.1 x hx;refine ⟨⟨b.1,by dsimp only;omega⟩,?_⟩;show x.2∈nbW (Df us) x.1;rw [LA u];refine Mw.mpr (.inl ?_);rw [BZ b.1];exact hx
 ·have hb:b∈nbW (Df us) a:=hb
  rw [LA u] at hb;have:=Mw.mp hb;rw [BZ ha0] at this
  rcases this with h | h
  ·exact .inl ((hmem _).mpr h)
  ·exact .inr ((hmem _).mpr h)
theorem fV {m:Nat} {us:List (Int×Int)} (u:Eb m 0 us) (hm:m<=60) {cf:Int->Int} (hc:∀x∈us,cf x.1 % 2≠cf x.2 % 2):IM (nbW (Df us)) m (col (nbW (Df us)) m):=by
 refine Uk (ZD u) (Vb u) (c:=λx=>cf x % 2) (λx _ _=>d7 _) λa b ha0 ha hb=>?_
 have hb:b∈nbW (Df us) a:=hb;rw [LA u] at hb;have:=Mw.mp hb;rw [BZ ha0] at this
 rcases this with h | h
 ·exact hc _ h
 ·exact λe=>hc _ h e.symm
theorem W7 {w:Nat×List (Int×Int)} (ok:Wok w) (hnd:∀x,(nbW w.2 x).Nodup) (h2:IM (nbW w.2) w.1 (cw w)):∃H Q,Mt (nbW w.2) w.1 (cw w) H/\Rch w H Q/\HP w=some (Dz (prs H))/\Gk w=some (cvr w Q):=by
 obtain ⟨H,e1,m,hf⟩:=UF ok;obtain ⟨Q,e2,R⟩:=Wv ok hnd h2 m hf;exact ⟨H,Q,m,R,cK ok h2 e1 m,dY ok h2 e1 e2⟩
theorem Zd {r:List Int} (neg:Bool) (y:Int) (S:Sto):inA neg (.int y) (CS r) S=.ok (.bl (if neg then !decide (y∈r) else decide (y∈r))) S:=cq (d:=CS r) rfl neg y
theorem YO {m:ME} {e:Lo} {S S1:Sto} {b:Bool} (h:m e S=.ok (.bl b) S1):ID m e S=.ok b S1:=by
 unfold ID;rw [h];rfl
theorem good (W:Wd) (nd:W.excs.Nodup) (ns:List Int) (hns:ns.length<=63):∃S',Zq W [.fro (ns.map D.int)] []=.ok (.bl true) S':=by
 obtain ⟨m,t,us,S1,c1,K1,t1,u1,l1,hm1,hm,cf,hcf⟩:=XQ W ns []
 have s1:Wo (BH 1 (FM W) (AI (AB 0) Aw)) (E5 2 (Bn (tgN 1) (Bn (tgN 2) FH))) (Cv 9 [.fro (ns.map D.int)]) []=oN [sF ns,sI m,sR t,none,none,none,none,none,none] S1:=by
  have c1':BH 1 (FM W) (AI (AB 0) Aw) (Cv 9 [.fro (ns.map D.int)]) []=.ok (.tup [.int m,.ref t]) S1:=(By (ds:=[.fro (ns.map D.int)]) (S1:=[]) rfl rfl).trans c1;unfold Wo;rw [c1'];rfl
 obtain ⟨h,hc⟩:=V0 W ns 0 S1;obtain ⟨q,S2,c2,K2,q2,w2⟩:=XV W (c:=h) t1 hm1 hm u1.fit (by lia) (e:=[sF ns,sI m,sR t,none,none,none,none,none,none]) (mp:=AB 1) (mt:=AB 2) (mc:=AI (BH 2 (DJ W) (AI (AB 0) (AI (mC (.int 0)) Aw))) Aw) rfl (Bc rfl (Bc ((By (ds:=[.fro (ns.map D.int),.int 0]) (S1:=S1) rfl rfl).trans hc) rfl));have s2:Bk 3 (Os W.Web 3 (Ho W) (AI (AB 1) (AI (BH 2 (DZ W) (AI (AB 2) (AI (BH 2 (DJ W) (AI (AB 0) (AI (mC (.int 0)) Aw))) Aw))) Aw))) [sF ns,sI m,sR t,none,none,none,none,none,none] S1=oN [sF ns,sI m,sR t,sR q,none,none,none,none,none] S2:=C4 (i:=3) c2;obtain ⟨ok,hnd,hmem⟩:=fB u1 hm;have h2:=fV u1 hm hcf;obtain ⟨H,Q,mt,R,e3,e4⟩:=W7 ok hnd h2;have t2:=K2.at t1;obtain ⟨d3,S3,c3,K3,n3,rfl,g3,a3⟩:=Lj W (m,Df us) _ e3 S2 [.ref q] ⟨⟨q,rfl,w2⟩,trivial⟩;have s3:Bk 4 (BH 1 (Fs W) (AI (AB 3) Aw)) [sF ns,sI m,sR t,sR q,none,none,none,none,none] S2=oN [sF ns,sI m,sR t,sR q,sR n3,none,none,none,none] S3:=C4 (i:=4) ((By (ds:=[.ref q]) (S1:=S2) rfl rfl).trans c3);have w3:=K3.at w2;have t3:=K3.at t2;obtain ⟨d4,S4,c4,K4,r4⟩:=Kk W (m,Df us) _ e4 S3 [.ref q] ⟨⟨q,rfl,w3⟩,trivial⟩;have r4:d4=CS (cvr (m,Df us) Q):=r4;subst r4;generalize hC:cvr (m,Df us) Q=C at c4 e4;generalize hP:Dz (prs H)=P at a3 e3;have s4:Bk 5 (BH 1 (FL W) (AI (AB 3) Aw)) [sF ns,sI m,sR t,sR q,sR n3,none,none,none,none] S3=oN [sF ns,sI m,sR t,sR q,sR n3,some (CS C),none,none,none] S4:=C4 (i:=5) ((By (ds:=[.ref q]) (S1:=S3) rfl rfl).trans c4);have w4:=K4.at w3;have t4:=K4.at t3;have a4:=K4.at a3
 have hlp:HR P us=some true:=by rw [<-hP];exact US ok h2 mt (λt ht=>(u1.1 t ht).2.1) hmem
 have his:Gm C (m:Int)=some true:=by rw [<-hC];exact cm (w:=(m,Df us)) hm
 have hlen:C.length=P.length:=by
  rw [<-hC,<-hP,(Jz _).length_eq,Xc ok h2 mt R];simp
 have hPl:P.length<=60:=by
  rw [<-hlen,<-hC];exact A0 (KQ _ _) (by simp;exact hm)
 obtain ⟨d5,S5,c5,K5,r5⟩:=Qy W P us _ hlp S4 [.ref n3,.ref t] ⟨⟨n3,rfl,a4⟩,⟨t,rfl,t4⟩,trivial⟩;have r5:d5=.bl true:=r5;subst r5;obtain ⟨d6,S6,c6,K6,r6⟩:=Pi W C m _ his S5 [CS C,.int m] ⟨rfl,rfl,trivial⟩;have r6:d6=.bl true:=r6;subst r6;have K46:=K5.trans K6;have w6:=K46.at w4;have t6:=K46.at t4;have a6:=K46.at a4
 have tst:mOr (Kc (ID (BH 2 (HV W) (AI (AB 4) (AI (AB 2) Aw))))) (mOr (Kc (ID (BH 2 (Gp W) (AI (AB 5) (AI (AB 1) Aw))))) (mB (m2 (eqD true) (HD (AB 5)) (HD (AB 4))))) [sF ns,sI m,sR t,sR q,sR n3,some (CS C),none,none,none] S4=.ok false S6:=by
  refine (Q8 (S1:=S5) (Oo (b:=true) (YO ((By (ds:=[.ref n3,.ref t]) (S1:=S4) rfl rfl).trans c5)))).trans ?_;refine (Q8 (S1:=S6) (Oo (b:=true) (YO ((By (ds:=[CS C,.int m]) (S1:=S5) rfl rfl).trans c6)))).trans ?_;refine Gf (BL (S1:=S6) (S2:=S6) (JQ (d:=CS C) (ds:=C.map D.int) rfl rfl) (JQ (d:=.ref n3) (ds:=P.map (eP D.int D.int)) rfl (Ce a6)) (ZC ?_));rw [AE,AE,hlen];simp
 have hcov:∀x∈us,x.1∈C∨x.2∈C:=λx hx=>by
  obtain ⟨b1,b2⟩:=ok.hts x ((hmem x).mpr hx);rw [<-hC];exact io ok h2 R b1.1 b1.2 b2
 obtain ⟨f,S7,p7,⟨z6,z7,rfl⟩,rfl⟩:=FZ (v:=Em (.ref t)) (g:=E5 2 (Bn (tgN 6) (Bn (tgN 7) FH))) (b:=sIf (M5 (mB (m2 (inA true) (AB 6) (AB 5))) (mB (m2 (inA true) (AB 7) (AB 5)))) (C5 (mC (.bl false))) sNx) (xs:=us.map pairD) (e:=[sF ns,sI m,sR t,sR q,sR n3,some (CS C),none,none,none]) (S:=S6)
  (λi e S'=>(∃z6 z7,e=[sF ns,sI m,sR t,sR q,sR n3,some (CS C),z6,z7,none])/\S'=S6)
  (λf S'=>(∃z6 z7,f=.nx [sF ns,sI m,sR t,sR q,sR n3,some (CS C),z6,z7,none])/\S'=S6)
  ⟨⟨none,none,rfl⟩,rfl⟩ (by rintro i e S' ⟨_,rfl⟩;exact ED t6)
  (by
   rintro i d e S' hd ⟨⟨z6,z7,rfl⟩,rfl⟩;rw [AO] at hd
   cases hq:us[i]? with
   | none=>rw [hq] at hd;cases hd
   | some x=>
    rw [hq] at hd;cases hd;refine ⟨[sF ns,sI m,sR t,sR q,sR n3,some (CS C),sI x.1,sI x.2,none],S',rfl,?_⟩;have i1:=Gf (BL (ma:=AB 6) (mb:=AB 5) (e:=[sF ns,sI m,sR t,sR q,sR n3,some (CS C),sI x.1,sI x.2,none]) (S:=S') (S1:=S') (S2:=S') rfl rfl (Zd (r:=C) true x.1 S'));have i2:=Gf (BL (ma:=AB 7) (mb:=AB 5) (e:=[sF ns,sI m,sR t,sR q,sR n3,some (CS C),sI x.1,sI x.2,none]) (S:=S') (S1:=S') (S2:=S') rfl rfl (Zd (r:=C) true x.2 S'))
    by_cases c:x.1∈C
    ·rw [wX c] at i1
     exact ⟨_,S',(Dd (V6 i1)).trans rfl,⟨_,_,rfl⟩,rfl⟩
    ·have c':=(hcov x (BD hq)).resolve_left c
     rw [wY c] at i1;rw [wX c'] at i2
     exact ⟨_,S',(Dd ((V7 i1).trans i2)).trans rfl,⟨_,_,rfl⟩,rfl⟩)
  (by rintro e S' ⟨⟨z6,z7,rfl⟩,rfl⟩;exact ⟨⟨z6,z7,rfl⟩,rfl⟩)
 have s6:=(ET (m:=E9 (AB 2)) (g:=E5 2 (Bn (tgN 6) (Bn (tgN 7) FH))) (b:=sIf (M5 (mB (m2 (inA true) (AB 6) (AB 5))) (mB (m2 (inA true) (AB 7) (AB 5)))) (C5 (mC (.bl false))) sNx) (e:=[sF ns,sI m,sR t,sR q,sR n3,some (CS C),none,none,none]) (S:=S7) (Hk (n:=t) rfl t6)).trans p7;have hl8:=cc (m:=AB 4) (e:=[sF ns,sI m,sR t,sR q,sR n3,some (CS C),z6,z7,none]) (S:=S7) (S1:=S7) rfl (Ce a6) (by simp;lia);have s7:Bk 8 (DT (mN NQ (Jo (AB 4)))) [sF ns,sI m,sR t,sR q,sR n3,some (CS C),z6,z7,none] S7=oN [sF ns,sI m,sR t,sR q,sR n3,some (CS C),z6,z7,sR S7.length] (S7++[.lst (P.map (eP D.int D.int))]):=C4 (i:=8) hl8;have a9:=(Keeps.app S7 [.lst (P.map (eP D.int D.int))]).at a6;have hx:=Hs (mo:=AB 4) (ma:=Gz (AI (mC (.int 0)) (AI (mC (.int 0)) Aw))) (e:=[sF ns,sI m,sR t,sR q,sR n3,some (CS C),z6,z7,sR S7.length]) (S:=S7++[.lst (P.map (eP D.int D.int))]) (S1:=S7++[.lst (P.map (eP D.int D.int))]) (S2:=S7++[.lst (P.map (eP D.int D.int))]) (y:=.tup [.int 0,.int 0]) (n:=n3) rfl a9 (Mi (ds:=[.int 0,.int 0]) rfl (by simp)) a9 (ZP (by simp;lia));generalize hS:(S7++[Ob.lst (P.map (eP D.int D.int))]).set n3 (Ob.lst (P.map (eP D.int D.int)++[D.tup [.int 0,.int 0]]))=S9 at hx
 have keep:∀j ob,j≠n3->S7[j]?=some ob->S9[j]?=some ob:=λj ob hj hb=>by
  rw [<-hS,AT (Bx hj)];exact (Keeps.app S7 _).at hb
 have hlt3:n3 < S7.length:=Bl a6
 have held:S9[S7.length]?=some (oL (eP D.int D.int) P):=by
  rw [<-hS,AT (by lia)];exact B1 _ _
 have hq3:q≠n3:=Am (AZ (Bl w2) g3);have ht3:t≠n3:=Am (AZ (Bl t2) g3);have w9:=keep q _ hq3 w6;have t9:=keep t _ ht3 t6;obtain ⟨d10,S10,c10,K10,n10,rfl,_,a10⟩:=Lj W (m,Df us) _ e3 S9 [.ref q] ⟨⟨q,rfl,w9⟩,trivial⟩;obtain ⟨d11,S11,c11,K11,r11⟩:=Kk W (m,Df us) _ e4 S10 [.ref q] ⟨⟨q,rfl,K10.at w9⟩,trivial⟩;have r11:d11=CS C:=r11;subst r11;obtain ⟨S12,c12,K12⟩:=YT W (R6 (K11.at (K10.at w9))) (K11.at (K10.at t9)) u1.nrm;refine ⟨S12,C6 (n:=9) (mb:=Z5 W) ?_⟩;unfold Z5;refine (A3 s1).trans ((A3 s2).trans ((A3 s3).trans ((A3 s4).trans ?_)));refine (Vh tst).trans ((A3 s6).trans ((A3 s7).trans ((A3 (C9 hx)).trans (HA ?_))));refine V8 (S1:=S10) (BL (x:=.ref n10) (y:=.ref S7.length) (S1:=S10) (S2:=S10) ((By (ds:=[.ref q]) (S1:=S9) rfl rfl).trans c10) rfl ?_) (V8 (S1:=S11) (BL (x:=CS C) (y:=CS C) (S1:=S11) (S2:=S11) ((By (ds:=[.ref q]) (S1:=S10) rfl rfl).trans c11) rfl (ie C false S11)) ((By (ds:=[.ref q,.int m,.ref t]) (S1:=S11) rfl rfl).trans c12));rw [QS (O8 EX EX) false a10 (K10.at held)];simp
end M
def PySem.W.Fast.tw15293696311088076256:Nat:=0
def PySem.W.Fast.tw14367844385804845283:Nat:=0
def PySem.W.Fast.tw1673950237483398304:Nat:=0
def PySem.W.Fast.tw2352513709607728011:Nat:=0
def PySem.W.Fast.tw5226054311485935518:Nat:=0
def PySem.W.Fast.tw15723663481030650001:Nat:=0
def PySem.W.Fast.tw7662469292997848726:Nat:=0
def PySem.W.Fast.tw10908269111690434474:Nat:=0
def PySem.W.Fast.tw291367213530943501:Nat:=0
def PySem.W.Fast.tw15492233888995765945:Nat:=0
def PySem.W.Fast.tw7853780275989420295:Nat:=0
def PySem.W.Fast.tw12278723082716472875:Nat:=0
def PySem.W.Fast.tw1543136332745653352:Nat:=0
def PySem.W.Fast.tw9780212424845307835:Nat:=0
def PySem.W.Fast.tw10307912377616494705:Nat:=0
def PySem.W.Fast.tw863521796140772654:Nat:=0
def PySem.W.Fast.tw4369105651063835373:Nat:=0
def PySem.W.Fast.tw3375474360874379711:Nat:=0
def PySem.W.Fast.tw10791362778232424608:Nat:=0
def PySem.W.Fast.tw539813367071751:Nat:=0
def PySem.W.Fast.tw8087066181781095893:Nat:=0
def PySem.W.Fast.tw2538941915882396981:Nat:=0
def PySem.W.Fast.tw3574643510760953270:Nat:=0
def PySem.W.Fast.tw16366828103024385679:Nat:=0
def PySem.W.Fast.tw13734691239657686692:Nat:=0
def PySem.W.Fast.tw17676815492990768623:Nat:=0
def PySem.W.Fast.tw7210613535195065246:Nat:=0
def PySem.W.Fast.tw11670477357979588050:Nat:=0
def PySem.W.Fast.tw9792156713757940023:Nat:=0
def PySem.W.Fast.tw16455612586889499052:Nat:=0
def PySem.W.Fast.tw12175992849709997142:Nat:=0
def PySem.W.Fast.tw10497964296421892518:Nat:=0
def PySem.W.Fast.tw12756246856295730837:Nat:=0
def PySem.W.Fast.tw9732224534936291644:Nat:=0
def PySem.W.Fast.tw5700099411876206550:Nat:=0
def PySem.W.Fast.tw6581581033696658758:Nat:=0
namespace M
open PySem PySem.Spec PyProof.Rows L2 PySem.W
theorem ir {l:OpenLaw} {w:A9} {K:Frag} {h:Bw} {mg:Str->Option AC} {fa:AK} (X:K.In h) (G:h.Ns Ae mg) (hfa:mg "law" = some (.ref fa))
  {f1 f2 f3 f4 f5 f6 f7 f8 f9 f10 f11 f12 f13 f14 f15 f16 f17 f18 f19 f20 f21 f22 f23 f24 f25 f26 f27 cWeb:AK} {tk_MOST_PLACES:Tok}
  {od1 an1 od2 an2 od3 an3 od4 an4 od5 an5 od6 an6 od7 an7 od8 an8 od9 an9 od10 an10 od11 an11 od12 an12 od13 an13 od14 an14 od15 an15 od16 an16 od17 an17 od18 an18 od19 an19 od20 an20 od21 an21 od22 an22 od23 an23 od24 an24 od25 an25 od26 an26 od27 an27:Option AK} {sl1 sl2 sl3 sl4 sl5 sl6 sl7 sl8 sl9 sl10 sl11 sl12 sl13 sl14 sl15 sl16 sl17 sl18 sl19 sl20 sl21 sl22 sl23 sl24 sl25 sl26 sl27:Array (Option AC)} {oc1 kV1 dc1 pm1 cd1 ct1 oc2 kV2 dc2 pm2 cd2 ct2 oc3 kV3 dc3 pm3 cd3 ct3 oc4 kV4 dc4 pm4 cd4 ct4 oc5 kV5 dc5 pm5 cd5 ct5 oc6 kV6 dc6 pm6 cd6 ct6 oc7 kV7 dc7 pm7 cd7 ct7 oc8 kV8 dc8 pm8 cd8 ct8 oc9 kV9 dc9 pm9 cd9 ct9 oc10 kV10 dc10 pm10 cd10 ct10 oc11 kV11 dc11 pm11 cd11 ct11 oc12 kV12 dc12 pm12 cd12 ct12 oc13 kV13 dc13 pm13 cd13 ct13 oc14 kV14 dc14 pm14 cd14 ct14 oc15 kV15 dc15 pm15 cd15 ct15 oc16 kV16 dc16 pm16 cd16 ct16 oc17 kV17 dc17 pm17 cd17 ct17 oc18 kV18 dc18 pm18 cd18 ct18 oc19 kV19 dc19 pm19 cd19 ct19 oc20 kV20 dc20 pm20 cd20 ct20 oc21 kV21 dc21 pm21 cd21 ct21 oc22 kV22 dc22 pm22 cd22 ct22 oc23 kV23 dc23 pm23 cd23 ct23 oc24 kV24 dc24 pm24 cd24 ct24 oc25 kV25 dc25 pm25 cd25 ct25 oc26 kV26 dc26 pm26 cd26 ct26 oc27 kV27 dc27 pm27 cd27 ct27:AC}
  (a_Web:EO K Ae "Web" = some (some (.ref cWeb)))
  (a1:EO K Ae "checked_ties" = some (some (.ref f1)))
  (l1:K.lookup f1=some ⟨oc1,od1,.func (fnOf "checked_ties" "checked_ties" (Bv Dp) (Bm Dp) (An Dp) .none kV1 dc1 pm1 an1 cd1 ct1),sl1⟩)
  (k1c:codeIn K cd1 "checked_ties" = true)
  (k1:keepIn K (.ref f1)=true)
  (a2:EO K Ae "near_sets_of" = some (some (.ref f2)))
  (l2:K.lookup f2=some ⟨oc2,od2,.func (fnOf "near_sets_of" "near_sets_of" (Bv Do) (Bm Do) (An Do) .none kV2 dc2 pm2 an2 cd2 ct2),sl2⟩)
  (k2c:codeIn K cd2 "near_sets_of" = true)
  (k2:keepIn K (.ref f2)=true)
  (a3:findIn K (.ref cWeb) "__init__" = some (some (.ref f3)))
  (i3:isFn K (.ref f3)=true)
  (l3:K.lookup f3=some ⟨oc3,od3,.func (fnOf "__init__" "Web.__init__" (Bv GU) (Bm GU) (An GU) .none kV3 dc3 pm3 an3 cd3 ct3),sl3⟩)
  (k3c:codeIn K cd3 "Web.__init__" = true)
  (k3:keepIn K (.ref f3)=true)
  (a4:EO K Ae "refuse_no_place" = some (some (.ref f4)))
  (l4:K.lookup f4=some ⟨oc4,od4,.func (fnOf "refuse_no_place" "refuse_no_place" (Bv Cq) (Bm Cq) (An Cq) .none kV4 dc4 pm4 an4 cd4 ct4),sl4⟩)
  (k4c:codeIn K cd4 "refuse_no_place" = true)
  (k4:keepIn K (.ref f4)=true)
  (a5:EO K Ae "near" = some (some (.ref f5)))
  (l5:K.lookup f5=some ⟨oc5,od5,.func (fnOf "near" "near" (Bv Mp) (Bm Mp) (An Mp) .none kV5 dc5 pm5 an5 cd5 ct5),sl5⟩)
  (k5c:codeIn K cd5 "near" = true)
  (k5:keepIn K (.ref f5)=true)
  (a6:EO K Ae "steps_from" = some (some (.ref f6)))
  (l6:K.lookup f6=some ⟨oc6,od6,.func (fnOf "steps_from" "steps_from" (Bv Ev) (Bm Ev) (An Ev) .none kV6 dc6 pm6 an6 cd6 ct6),sl6⟩)
  (k6c:codeIn K cd6 "steps_from" = true)
  (k6:keepIn K (.ref f6)=true)
  (a7:EO K Ae "parts_of" = some (some (.ref f7)))
  (l7:K.lookup f7=some ⟨oc7,od7,.func (fnOf "parts_of" "parts_of" (Bv GP) (Bm GP) (An GP) .none kV7 dc7 pm7 an7 cd7 ct7),sl7⟩)
  (k7c:codeIn K cd7 "parts_of" = true)
  (k7:keepIn K (.ref f7)=true)
  (a8:EO K Ae "steps_in_parts" = some (some (.ref f8)))
  (l8:K.lookup f8=some ⟨oc8,od8,.func (fnOf "steps_in_parts" "steps_in_parts" (Bv DB) (Bm DB) (An DB) .none kV8 dc8 pm8 an8 cd8 ct8),sl8⟩)
  (k8c:codeIn K cd8 "steps_in_parts" = true)
  (k8:keepIn K (.ref f8)=true)
  (a9:EO K Ae "first_clash" = some (some (.ref f9)))
  (l9:K.lookup f9=some ⟨oc9,od9,.func (fnOf "first_clash" "first_clash" (Bv EG) (Bm EG) (An EG) .none kV9 dc9 pm9 an9 cd9 ct9),sl9⟩)
  (k9c:codeIn K cd9 "first_clash" = true)
  (k9:keepIn K (.ref f9)=true)
  (a10:EO K Ae "two_colours" = some (some (.ref f10)))
  (l10:K.lookup f10=some ⟨oc10,od10,.func (fnOf "two_colours" "two_colours" (Bv EE) (Bm EE) (An EE) .none kV10 dc10 pm10 an10 cd10 ct10),sl10⟩)
  (k10c:codeIn K cd10 "two_colours" = true)
  (k10:keepIn K (.ref f10)=true)
  (a11:EO K Ae "settle" = some (some (.ref f11)))
  (l11:K.lookup f11=some ⟨oc11,od11,.func (fnOf "settle" "settle" (Bv Iu) (Bm Iu) (An Iu) .none kV11 dc11 pm11 an11 cd11 ct11),sl11⟩)
  (k11c:codeIn K cd11 "settle" = true)
  (k11:keepIn K (.ref f11)=true)
  (a12:EO K Ae "colours_or_refused" = some (some (.ref f12)))
  (l12:K.lookup f12=some ⟨oc12,od12,.func (fnOf "colours_or_refused" "colours_or_refused" (Bv CQ) (Bm CQ) (An CQ) .none kV12 dc12 pm12 an12 cd12 ct12),sl12⟩)
  (k12c:codeIn K cd12 "colours_or_refused" = true)
  (k12:keepIn K (.ref f12)=true)
  (a13:EO K Ae "partners" = some (some (.ref f13)))
  (l13:K.lookup f13=some ⟨oc13,od13,.func (fnOf "partners" "partners" (Bv GR) (Bm GR) (An GR) .none kV13 dc13 pm13 an13 cd13 ct13),sl13⟩)
  (k13c:codeIn K cd13 "partners" = true)
  (k13:keepIn K (.ref f13)=true)
  (a14:EO K Ae "most_pairs" = some (some (.ref f14)))
  (l14:K.lookup f14=some ⟨oc14,od14,.func (fnOf "most_pairs" "most_pairs" (Bv Ew) (Bm Ew) (An Ew) .none kV14 dc14 pm14 an14 cd14 ct14),sl14⟩)
  (k14c:codeIn K cd14 "most_pairs" = true)
  (k14:keepIn K (.ref f14)=true)
  (a15:EO K Ae "places_reached" = some (some (.ref f15)))
  (l15:K.lookup f15=some ⟨oc15,od15,.func (fnOf "places_reached" "places_reached" (Bv DC) (Bm DC) (An DC) .none kV15 dc15 pm15 an15 cd15 ct15),sl15⟩)
  (k15c:codeIn K cd15 "places_reached" = true)
  (k15:keepIn K (.ref f15)=true)
  (a16:EO K Ae "least_cover" = some (some (.ref f16)))
  (l16:K.lookup f16=some ⟨oc16,od16,.func (fnOf "least_cover" "least_cover" (Bv EF) (Bm EF) (An EF) .none kV16 dc16 pm16 an16 cd16 ct16),sl16⟩)
  (k16c:codeIn K cd16 "least_cover" = true)
  (k16:keepIn K (.ref f16)=true)
  (a17:EO K Ae "_law_cell_at" = some (some (.ref f17)))
  (l17:K.lookup f17=some ⟨oc17,od17,.func (fnOf "_law_cell_at" "_law_cell_at" (Bv Dq) (Bm Dq) (An Dq) .none kV17 dc17 pm17 an17 cd17 ct17),sl17⟩)
  (k17c:codeIn K cd17 "_law_cell_at" = true)
  (k17:keepIn K (.ref f17)=true)
  (a18:EO K Ae "_law_mixed" = some (some (.ref f18)))
  (l18:K.lookup f18=some ⟨oc18,od18,.func (fnOf "_law_mixed" "_law_mixed" (Bv E0) (Bm E0) (An E0) .none kV18 dc18 pm18 an18 cd18 ct18),sl18⟩)
  (k18c:codeIn K cd18 "_law_mixed" = true)
  (k18:keepIn K (.ref f18)=true)
  (a19:EO K Ae "_law_whole" = some (some (.ref f19)))
  (l19:K.lookup f19=some ⟨oc19,od19,.func (fnOf "_law_whole" "_law_whole" (Bv Ex) (Bm Ex) (An Ex) .none kV19 dc19 pm19 an19 cd19 ct19),sl19⟩)
  (k19c:codeIn K cd19 "_law_whole" = true)
  (k19:keepIn K (.ref f19)=true)
  (a20:EO K Ae "_law_pool" = some (some (.ref f20)))
  (l20:K.lookup f20=some ⟨oc20,od20,.func (fnOf "_law_pool" "_law_pool" (Bv Fe) (Bm Fe) (An Fe) .none kV20 dc20 pm20 an20 cd20 ct20),sl20⟩)
  (k20c:codeIn K cd20 "_law_pool" = true)
  (k20:keepIn K (.ref f20)=true)
  (a21:EO K Ae "_law_ties" = some (some (.ref f21)))
  (l21:K.lookup f21=some ⟨oc21,od21,.func (fnOf "_law_ties" "_law_ties" (Bv Fc) (Bm Fc) (An Fc) .none kV21 dc21 pm21 an21 cd21 ct21),sl21⟩)
  (k21c:codeIn K cd21 "_law_ties" = true)
  (k21:keepIn K (.ref f21)=true)
  (a22:EO K Ae "_law_turned" = some (some (.ref f22)))
  (l22:K.lookup f22=some ⟨oc22,od22,.func (fnOf "_law_turned" "_law_turned" (Bv EI) (Bm EI) (An EI) .none kV22 dc22 pm22 an22 cd22 ct22),sl22⟩)
  (k22c:codeIn K cd22 "_law_turned" = true)
  (k22:keepIn K (.ref f22)=true)
  (a23:EO K Ae "_law_halves" = some (some (.ref f23)))
  (l23:K.lookup f23=some ⟨oc23,od23,.func (fnOf "_law_halves" "_law_halves" (Bv EK) (Bm EK) (An EK) .none kV23 dc23 pm23 an23 cd23 ct23),sl23⟩)
  (k23c:codeIn K cd23 "_law_halves" = true)
  (k23:keepIn K (.ref f23)=true)
  (a24:EO K Ae "_law_is_set" = some (some (.ref f24)))
  (l24:K.lookup f24=some ⟨oc24,od24,.func (fnOf "_law_is_set" "_law_is_set" (Bv EJ) (Bm EJ) (An EJ) .none kV24 dc24 pm24 an24 cd24 ct24),sl24⟩)
  (k24c:codeIn K cd24 "_law_is_set" = true)
  (k24:keepIn K (.ref f24)=true)
  (a25:EO K Ae "_law_stays" = some (some (.ref f25)))
  (l25:K.lookup f25=some ⟨oc25,od25,.func (fnOf "_law_stays" "_law_stays" (Bv Ey) (Bm Ey) (An Ey) .none kV25 dc25 pm25 an25 cd25 ct25),sl25⟩)
  (k25c:codeIn K cd25 "_law_stays" = true)
  (k25:keepIn K (.ref f25)=true)
  (a26:EO K Ae "_law_pairs" = some (some (.ref f26)))
  (l26:K.lookup f26=some ⟨oc26,od26,.func (fnOf "_law_pairs" "_law_pairs" (Bv Ez) (Bm Ez) (An Ez) .none kV26 dc26 pm26 an26 cd26 ct26),sl26⟩)
  (k26c:codeIn K cd26 "_law_pairs" = true)
  (k26:keepIn K (.ref f26)=true)
  (a27:EO K Ae "law" = some (some (.ref f27)))
  (l27:K.lookup f27=some ⟨oc27,od27,.func (fnOf "law" "law" (Bv QF) (Bm QF) (An QF) .none kV27 dc27 pm27 an27 cd27 ct27),sl27⟩)
  (k27c:codeIn K cd27 "law" = true)
  (k27:keepIn K (.ref f27)=true)
  (pg_Web:plainGet K cWeb Str.empty=true)
  (hd_Web:hasDictIn K cWeb=true)
  (po_Web:plainOver K cWeb=true)
  (sa_Web:findIn K (.ref cWeb) "__setattr__" = some (some (.builtin "object.__setattr__")))
  (mk_Web:makesIn K cWeb=true)
  (kc_Web:keepIn K (.ref cWeb)=true)
  (n_Web_places:findIn K (.ref cWeb) "places" = some none)
  (n_Web_ties:findIn K (.ref cWeb) "ties" = some none)
  (n_Web_near_sets:findIn K (.ref cWeb) "near_sets" = some none)
  (z_all:EO K Ae "all" = some none)
  (z_bool:EO K Ae "bool" = some none)
  (z_enumerate:EO K Ae "enumerate" = some none)
  (z_int:EO K Ae "int" = some none)
  (z_isinstance:EO K Ae "isinstance" = some none)
  (z_len:EO K Ae "len" = some none)
  (z_list:EO K Ae "list" = some none)
  (z_max:EO K Ae "max" = some none)
  (z_min:EO K Ae "min" = some none)
  (z_range:EO K Ae "range" = some none)
  (z_set:EO K Ae "set" = some none)
  (z_sorted:EO K Ae "sorted" = some none)
  (z_sum:EO K Ae "sum" = some none)
  (z_tuple:EO K Ae "tuple" = some none)
  (g_MOST_PLACES:EO K Ae "MOST_PLACES" = some (some (.int 60 tk_MOST_PLACES)))
  : ∃(W:Wd) (T:Txt K mg W),fa=T.d_law.f/\W.excs.Nodup/\∀(s:AG) (v:AC),Tg s T.d_law.fd ⟨[v],[]⟩ [("script",v)]:=by
 have F1:=Cj (st:=Dp) l1 k1c k1
 have b1:=F1.binds (ps:=["places", "ties"]) λ_ _ _ _ _ _ us hl=>by obtain ⟨a,b,rfl⟩:=L5 hl;rfl
 have F2:=Cj (st:=Do) l2 k2c k2
 have b2:=F2.binds (ps:=["places", "ties"]) λ_ _ _ _ _ _ us hl=>by obtain ⟨a,b,rfl⟩:=L5 hl;rfl
 have F3:=Cj (st:=GU) l3 k3c k3
 have b3:=F3.binds (ps:=["self", "places", "ties"]) λ_ _ _ _ _ _ us hl=>by obtain ⟨a,b,c,rfl⟩:=ZQ hl;rfl
 have F4:=Cj (st:=Cq) l4 k4c k4
 have b4:=F4.binds (ps:=["web", "place"]) λ_ _ _ _ _ _ us hl=>by obtain ⟨a,b,rfl⟩:=L5 hl;rfl
 have F5:=Cj (st:=Mp) l5 k5c k5
 have b5:=F5.binds (ps:=["web", "place"]) λ_ _ _ _ _ _ us hl=>by obtain ⟨a,b,rfl⟩:=L5 hl;rfl
 have F6:=Cj (st:=Ev) l6 k6c k6
 have b6:=F6.binds (ps:=["web", "start"]) λ_ _ _ _ _ _ us hl=>by obtain ⟨a,b,rfl⟩:=L5 hl;rfl
 have F7:=Cj (st:=GP) l7 k7c k7
 have b7:=F7.binds (ps:=["web"]) λ_ _ _ _ _ _ us hl=>by obtain ⟨a,rfl⟩:=Nm hl;rfl
 have F8:=Cj (st:=DB) l8 k8c k8
 have b8:=F8.binds (ps:=["web"]) λ_ _ _ _ _ _ us hl=>by obtain ⟨a,rfl⟩:=Nm hl;rfl
 have F9:=Cj (st:=EG) l9 k9c k9
 have b9:=F9.binds (ps:=["web", "steps"]) λ_ _ _ _ _ _ us hl=>by obtain ⟨a,b,rfl⟩:=L5 hl;rfl
 have F10:=Cj (st:=EE) l10 k10c k10
 have b10:=F10.binds (ps:=["web"]) λ_ _ _ _ _ _ us hl=>by obtain ⟨a,rfl⟩:=Nm hl;rfl
 have F11:=Cj (st:=Iu) l11 k11c k11
 have b11:=F11.binds (ps:=["takes", "bits", "holders", "guard", "seen"]) λ_ _ _ _ _ _ us hl=>by obtain ⟨a,b,c,d,e,rfl⟩:=len5 hl;rfl
 have F12:=Cj (st:=CQ) l12 k12c k12
 have b12:=F12.binds (ps:=["web"]) λ_ _ _ _ _ _ us hl=>by obtain ⟨a,rfl⟩:=Nm hl;rfl
 have F13:=Cj (st:=GR) l13 k13c k13
 have b13:=F13.binds (ps:=["web", "colours"]) λ_ _ _ _ _ _ us hl=>by obtain ⟨a,b,rfl⟩:=L5 hl;rfl
 have F14:=Cj (st:=Ew) l14 k14c k14
 have b14:=F14.binds (ps:=["web"]) λ_ _ _ _ _ _ us hl=>by obtain ⟨a,rfl⟩:=Nm hl;rfl
 have F15:=Cj (st:=DC) l15 k15c k15
 have b15:=F15.binds (ps:=["web", "colours", "found"]) λ_ _ _ _ _ _ us hl=>by obtain ⟨a,b,c,rfl⟩:=ZQ hl;rfl
 have F16:=Cj (st:=EF) l16 k16c k16
 have b16:=F16.binds (ps:=["web"]) λ_ _ _ _ _ _ us hl=>by obtain ⟨a,rfl⟩:=Nm hl;rfl
 have F17:=Cj (st:=Dq) l17 k17c k17
 have b17:=F17.binds (ps:=["script", "k"]) λ_ _ _ _ _ _ us hl=>by obtain ⟨a,b,rfl⟩:=L5 hl;rfl
 have F18:=Cj (st:=E0) l18 k18c k18
 have b18:=F18.binds (ps:=["cell", "salt"]) λ_ _ _ _ _ _ us hl=>by obtain ⟨a,b,rfl⟩:=L5 hl;rfl
 have F19:=Cj (st:=Ex) l19 k19c k19
 have b19:=F19.binds (ps:=["found"]) λ_ _ _ _ _ _ us hl=>by obtain ⟨a,rfl⟩:=Nm hl;rfl
 have F20:=Cj (st:=Fe) l20 k20c k20
 have b20:=F20.binds (ps:=["script", "start"]) λ_ _ _ _ _ _ us hl=>by obtain ⟨a,b,rfl⟩:=L5 hl;rfl
 have F21:=Cj (st:=Fc) l21 k21c k21
 have b21:=F21.binds (ps:=["pool", "many", "thick"]) λ_ _ _ _ _ _ us hl=>by obtain ⟨a,b,c,rfl⟩:=ZQ hl;rfl
 have F22:=Cj (st:=EI) l22 k22c k22
 have b22:=F22.binds (ps:=["ties", "cell"]) λ_ _ _ _ _ _ us hl=>by obtain ⟨a,b,rfl⟩:=L5 hl;rfl
 have F23:=Cj (st:=EK) l23 k23c k23
 have b23:=F23.binds (ps:=["script"]) λ_ _ _ _ _ _ us hl=>by obtain ⟨a,rfl⟩:=Nm hl;rfl
 have F24:=Cj (st:=EJ) l24 k24c k24
 have b24:=F24.binds (ps:=["found", "many"]) λ_ _ _ _ _ _ us hl=>by obtain ⟨a,b,rfl⟩:=L5 hl;rfl
 have F25:=Cj (st:=Ey) l25 k25c k25
 have b25:=F25.binds (ps:=["web", "many", "ties"]) λ_ _ _ _ _ _ us hl=>by obtain ⟨a,b,c,rfl⟩:=ZQ hl;rfl
 have F26:=Cj (st:=Ez) l26 k26c k26
 have b26:=F26.binds (ps:=["found", "ties"]) λ_ _ _ _ _ _ us hl=>by obtain ⟨a,b,rfl⟩:=L5 hl;rfl
 have F27:=Cj (st:=QF) l27 k27c k27
 have b27:=F27.binds (ps:=["script"]) λ_ _ _ _ _ _ us hl=>by obtain ⟨a,rfl⟩:=Nm hl;rfl
 let W:Wd:=⟨cWeb⟩
 let T:Txt K mg W:={
  d_checked_ties:=⟨f1,_,F1,b1,EQ X G a1⟩
  d_near_sets_of:=⟨f2,_,F2,b2,EQ X G a2⟩
  d_Web_init:=⟨f3,_,F3,b3⟩
  d_refuse_no_place:=⟨f4,_,F4,b4,EQ X G a4⟩
  d_near:=⟨f5,_,F5,b5,EQ X G a5⟩
  d_steps_from:=⟨f6,_,F6,b6,EQ X G a6⟩
  d_parts_of:=⟨f7,_,F7,b7,EQ X G a7⟩
  d_steps_in_parts:=⟨f8,_,F8,b8,EQ X G a8⟩
  d_first_clash:=⟨f9,_,F9,b9,EQ X G a9⟩
  d_two_colours:=⟨f10,_,F10,b10,EQ X G a10⟩
  d_settle:=⟨f11,_,F11,b11,EQ X G a11⟩
  d_colours_or_refused:=⟨f12,_,F12,b12,EQ X G a12⟩
  d_partners:=⟨f13,_,F13,b13,EQ X G a13⟩
  d_most_pairs:=⟨f14,_,F14,b14,EQ X G a14⟩
  d_places_reached:=⟨f15,_,F15,b15,EQ X G a15⟩
  d_least_cover:=⟨f16,_,F16,b16,EQ X G a16⟩
  d__law_cell_at:=⟨f17,_,F17,b17,EQ X G a17⟩
  d__law_mixed:=⟨f18,_,F18,b18,EQ X G a18⟩
  d__law_whole:=⟨f19,_,F19,b19,EQ X G a19⟩
  d__law_pool:=⟨f20,_,F20,b20,EQ X G a20⟩
  d__law_ties:=⟨f21,_,F21,b21,EQ X G a21⟩
  d__law_turned:=⟨f22,_,F22,b22,EQ X G a22⟩
  d__law_halves:=⟨f23,_,F23,b23,EQ X G a23⟩
  d__law_is_set:=⟨f24,_,F24,b24,EQ X G a24⟩
  d__law_stays:=⟨f25,_,F25,b25,EQ X G a25⟩
  d__law_pairs:=⟨f26,_,F26,b26,EQ X G a26⟩
  d_law:=⟨f27,_,F27,b27,EQ X G a27⟩
  c_Web:=⟨⟨pg_Web,hd_Web,po_Web,sa_Web⟩,⟨mk_Web,a3,i3,kc_Web⟩,EQ X G a_Web⟩
  n_Web_places:=n_Web_places
  n_Web_ties:=n_Web_ties
  n_Web_near_sets:=n_Web_near_sets
  b_all:=DF X G z_all
  b_bool:=DF X G z_bool
  b_enumerate:=DF X G z_enumerate
  b_int:=DF X G z_int
  b_isinstance:=DF X G z_isinstance
  b_len:=DF X G z_len
  b_list:=DF X G z_list
  b_max:=DF X G z_max
  b_min:=DF X G z_min
  b_range:=DF X G z_range
  b_set:=DF X G z_set
  b_sorted:=DF X G z_sorted
  b_sum:=DF X G z_sum
  b_tuple:=DF X G z_tuple
  g_MOST_PLACES:=⟨tk_MOST_PLACES,EQ X G g_MOST_PLACES⟩ }
 refine ⟨W,T,?_,E4,λs v=>.of_eq rfl⟩;have e:=hfa.symm.trans (EQ X G a27);cases e;rfl
theorem walk {l:OpenLaw} {q:Ak} {loose:List Str} {XP:(Str->Option AC)->Bw->Prop} {YP:A9->Bw->Prop} {d:DefRec} {K:Params->Frag} (hn:l.most=some 63) (hdf:d.params.defaults=[])
  (hY:∀(w:A9) (h:Bw),YP w h->(K w.params).In h)
  (F:∀(w:A9) (mg:Str->Option AC) (fa:AK) (h:Bw),(K w.params).In h->h.Ns Ae mg->mg d.name=some (.ref fa) ->
   ∃(W:Wd) (T:Txt (K w.params) mg W),fa=T.d_law.f/\W.excs.Nodup/\∀(s:AG) (v:AC),Tg s T.d_law.fd ⟨[v],[]⟩ [("script",v)])
  (good:∀(W:Wd),W.excs.Nodup->∀ns:List Int,ns.length<=63->∃S',Zq W [.fro (ns.map D.int)] []=.ok (.bl true) S') :
  WalkO q loose XP YP l.row.toRowW d [] (λf vs=>WI f vs):=
 L2.ab (n:=63) (k:=66) (x:="script") (CX:=λw=>CXG l.prog w) (sp:=λw=>YV (K w.params)) hn (by decide) hdf ⟨rfl,by decide,by decide⟩ hY
  (λw mg fa h KX G hmg=>by
   obtain ⟨W,T,e,nd,hb⟩:=F w mg fa h KX G hmg;subst e
   exact ⟨T.d_law.fd,hb,λbase _ _=>ZR (gw T) (good W nd)⟩)
  (λ_ _ a ns hl hO hS=>⟨a,ns,rfl,iY hO hS,hl,λ_=>rfl⟩) (λw H s e s' z=>im z)
end M
open PySem PySem.W PyProof.Rows
set_option maxRecDepth 100000 in
set_option maxHeartbeats 0 in
theorem PySem.Challenge.cw_guardround_k41_the_most_pairs_holds : PySem.Challenge.rw_guardround_k41_the_most_pairs.Holds := by
 w_on;o_law;k_head;(case hw=>w_witness2)
 k_fill
 refine M.walk (l:=Gr) rfl rfl (λw h Y=>by first | exact kIn_of Y | exact km_in_of Y) ?F M.good
 case F=>
  intro w mg fa h KX G hmg;refine' M.ir (l:=Gr) (w:=w) KX G hmg ?a_Web ?a1 ?l1 ?k1c ?k1 ?a2 ?l2 ?k2c ?k2 ?a3 ?i3 ?l3 ?k3c ?k3 ?a4 ?l4 ?k4c ?k4 ?a5 ?l5 ?k5c ?k5 ?a6 ?l6 ?k6c ?k6 ?a7 ?l7 ?k7c ?k7 ?a8 ?l8 ?k8c ?k8 ?a9 ?l9 ?k9c ?k9 ?a10 ?l10 ?k10c ?k10 ?a11 ?l11 ?k11c ?k11 ?a12 ?l12 ?k12c ?k12 ?a13 ?l13 ?k13c ?k13 ?a14 ?l14 ?k14c ?k14 ?a15 ?l15 ?k15c ?k15 ?a16 ?l16 ?k16c ?k16 ?a17 ?l17 ?k17c ?k17 ?a18 ?l18 ?k18c ?k18 ?a19 ?l19 ?k19c ?k19 ?a20 ?l20 ?k20c ?k20 ?a21 ?l21 ?k21c ?k21 ?a22 ?l22 ?k22c ?k22 ?a23 ?l23 ?k23c ?k23 ?a24 ?l24 ?k24c ?k24 ?a25 ?l25 ?k25c ?k25 ?a26 ?l26 ?k26c ?k26 ?a27 ?l27 ?k27c ?k27 ?pg_Web ?hd_Web ?po_Web ?sa_Web ?mk_Web ?kc_Web ?n_Web_places ?n_Web_ties ?n_Web_near_sets ?z_all ?z_bool ?z_enumerate ?z_int ?z_isinstance ?z_len ?z_list ?z_max ?z_min ?z_range ?z_set ?z_sorted ?z_sum ?z_tuple ?g_MOST_PLACES
  (case a_Web | a1 | l1 | k1c | k1 | a2 | l2 | k2c | k2 | a3 | i3 | l3 | k3c | k3 | a4 | l4 | k4c | k4 | a5 | l5 | k5c | k5 | a6 | l6 | k6c | k6 | a7 | l7 | k7c | k7 | a8 | l8 | k8c | k8 | a9 | l9 | k9c | k9 | a10 | l10 | k10c | k10 | a11 | l11 | k11c | k11 | a12 | l12 | k12c | k12 | a13 | l13 | k13c | k13 | a14 | l14 | k14c | k14 | a15 | l15 | k15c | k15 | a16 | l16 | k16c | k16 | a17 | l17 | k17c | k17 | a18 | l18 | k18c | k18 | a19 | l19 | k19c | k19 | a20 | l20 | k20c | k20 | a21 | l21 | k21c | k21 | a22 | l22 | k22c | k22 | a23 | l23 | k23c | k23 | a24 | l24 | k24c | k24 | a25 | l25 | k25c | k25 | a26 | l26 | k26c | k26 | a27 | l27 | k27c | k27 | pg_Web | hd_Web | po_Web | sa_Web | mk_Web | kc_Web | n_Web_places | n_Web_ties | n_Web_near_sets | z_all | z_bool | z_enumerate | z_int | z_isinstance | z_len | z_list | z_max | z_min | z_range | z_set | z_sorted | z_sum | z_tuple | g_MOST_PLACES=>k_is)
#print axioms PySem.Challenge.cw_guardround_k41_the_most_pairs_holds
