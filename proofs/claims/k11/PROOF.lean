import PyProof.Rows.All
import Wide.All
import OpenK.AllK
import Wide.FinOn
import Lean
import PyProof.EqAt
import PyProof.EqKinds
import PyProof.TupleCall
import PyProof.ExcBaseAll.ValueError
import PyProof.NsDelKeeps
import PyProof.NeKinds
import PyProof.Rows.SortShell
import PyProof.Rows.FStr
import PyProof.FString
import PyProof.ExcAttrAll.ValueError
import PyProof.ExcArgsOwn
import PyProof.Rows.SortRuns
import PyProof.TupleIter
import PyProof.Dict
import KE.KDictSum
import PyProof.TupleOfSeq
import PyProof.EnumMake
import PyProof.SliceList
import PyProof.MinMaxWalk
import PyProof.Rows.EnumRows
import PyProof.WalkInts
import PyProof.WalksMore
import PyProof.Rows.SeqCalls
import KE.KRevIter
import PyProof.CollectIter
import PyProof.TupleOfGen
import PyProof.Rows.FactsT2
import PyProof.ListRange
import PyProof.Rows.CallKwBuiltin
import PyProof.Rows.SetFrom
import PyProof.SetRoads
import PyProof.Rows.Range3
import PyProof.ZipIter
import PyProof.Rows.ZipGen
import PyProof.Rows.RuleM_int
import PyProof.Rows.AssignMoreSeq
import PySem.Challenge.RW_guardround_k11_whole_watch_apart_clubs
set_option Elab.async false
set_option linter.all false
set_option maxRecDepth 100000
set_option maxHeartbeats 8000000
noncomputable section
open Array renaming append_assoc->U2,getD_eq_getD_getElem?->Eg,getElem?_eq_some_iff->Ev,getElem?_setIfInBounds_ne->L6,length_toList->Bo,mem_extract_iff_getElem->Mv,mem_of_getElem?->Cq,mem_toList_iff->BM,perm_iff_toList_perm->Eu,toList->bV,toList_append->BB,toList_map->IL,toList_modify->Tv,toList_push->Hl,toList_reverse->Et,toList_setIfInBounds->OV
open Array.Perm renaming refl->LO
open Bool renaming and_eq_true->FD,and_true->bU,eq_iff_iff->OJ,false_eq_true->DZ,false_ne_true->AR,false_or->bT,not_eq_true'->Hs,not_true->bS,or_eq_true->Yq,true_and->bR
open Eq renaming trans->CA
open False renaming elim->Dj
open ForInStep renaming yield->GU
open Function renaming comp_def->SV
open Int renaming ediv_one->ez,emod_lt_of_pos->Hc,emod_nonneg->Ja,le_antisymm->ah,lt_of_le_of_lt->Wa,natCast_add->ag,toNat_natCast->Bf,toNat_of_nonneg->D7,zero_add->HK
open List renaming all_eq_true->BW,all_map->eS,any_cons->Gc,any_eq_true->D6,any_toArray->Ih,append_assoc->BJ,append_nil->Bq,drop_eq_getElem_cons->By,drop_length->Mu,eq_nil_of_length_eq_zero->NF,ext_getElem?->Ch,extract->Ly,filterMap_cons->KQ,filterMap_cons_none->FP,filterMap_cons_some->FO,filter_append->WN,filter_sublist->Uz,find?_append->Hr,find?_cons->B1,find?_eq_none->Cu,find?_some->Yp,flatMap_append->Uy,flatMap_cons->WX,flatten_append->KP,flatten_cons->Di,foldl->WM,forIn_cons->JC,forIn_nil->O0,getD_eq_getElem?_getD->HN,getElem?_append_left->Ag,getElem?_append_right->BI,getElem?_drop->WL,getElem?_eq_getElem->Aw,getElem?_eq_none->CL,getElem?_eq_none_iff->CJ,getElem?_eq_some_iff->AG,getElem?_map->AV,getElem?_range->BC,getElem?_replicate->Fb,getElem?_set_ne->A9,getElem?_set_self->As,getElem?_set_self'->Q0,getElem?_take_of_lt->Qr,length->NE,length_append->A2,length_cons->BA,length_drop->Yf,length_erase_of_mem->Qq,length_map->AK,length_nil->Yo,length_pos_of_mem->SD,length_range->Lx,length_replicate->JZ,length_reverse->Ux,length_singleton->JY,length_take->B4,lookup->Gk,lookup_cons->B3,map->Js,mapM_toArray->WW,map_append->A3,map_congr_left->B6,map_cons->A5,map_id->Tq,map_map->BZ,map_nil->Lw,map_reverse->Ye,map_take->bQ,mem_append->Aj,mem_append_left->CF,mem_append_right->Ay,mem_cons->A4,mem_cons_of_mem->Al,mem_cons_self->A6,mem_filter->OH,mem_filterMap->LN,mem_flatMap->Bs,mem_iff_getElem->Tp,mem_map->BF,mem_map_of_mem->B5,mem_of_find?_eq_some->Po,mem_of_getElem?->Ai,mem_of_mem_take->To,mem_range->CM,mem_reverse->Yd,mem_singleton->AL,mergeSort_perm->Uw,nil_append->Yn,nodup_append->Ft,nodup_cons->EV,nodup_nil->Oz,not_mem_nil->D5,of_mem_zip->OG,pairwise_append->BN,pairwise_cons->LM,pairwise_iff_getElem->Pn,pairwise_lt_range->SC,pairwise_map->Cg,pairwise_mergeSort->Qz,pairwise_reverse->JX,pairwise_singleton->CB,perm_append_comm->JW,range->Ac,range_succ->DB,range_succ_eq_map->Fs,replicate->An,replicate_succ->DH,reverse_cons->Hq,set_append_right->JV,set_set->eR,singleton_append->GR,size_toArray->Ab,sum_append->OF,sum_cons->KZ,take_add_one->Em,take_append_drop->Ct,take_length->Br,take_of_length_le->Cf,take_sublist->WV,zipIdx_nil->Ym
open List.Pairwise renaming imp_of_mem->eu,nil->O2
open List.Perm renaming append_left->EF,append_right->OT,of_eq->Ts,trans->Tr
open Nat renaming add_le_add_left->KY,add_zero->et,le_of_eq->SS,le_of_lt->Mb,le_of_not_lt->ND,le_refl->AS,le_succ->Jy,le_trans->Aq,lt_irrefl->Dl,lt_of_le_of_lt->A7,lt_of_lt_of_le->Ad,lt_succ_of_lt->Ma,lt_succ_self->FE,lt_trans->eo,min_eq_left->ae,min_le_right->NC,min_self->en,ne_of_gt->MZ,ne_of_lt->Ax,not_lt_zero->OQ,succ_ne_self->Yl,zero_add->DN,zero_le->EK
open Nat.succ renaming inj->IH
open Ne renaming symm->CS
open Option renaming bind_some->GK,getD_none->WK,getD_some->Lv,isNone_iff_eq_none->OP,isSome_iff_exists->Oy,isSome_map->LL
open Option.some renaming inj->DW
open Or renaming inl->Qp,inr->Qo
open Prod renaming ext->Tn
open PyProof renaming noPylong_small->Pm
open PyProof.Rows renaming AllBare->HG,IntsAre->FY,IsTup->eU,Keyed->Ao,SortKind->FK,SortSt->BH,Subscript_->SO,arrOf->AT,boot_any->g8,boot_isinstance->KO,boot_max->g7,boot_min->gz,boot_range->SL,boot_sorted->gy,boot_sum->gw,boot_tuple->MY,bubble->bN,callWith_builtin1->gv,callWith_type1->Bz,elem'_eq->Yk,envOfC->Jw,failedOf->HH,firstOfTuple'->Ut,general'->SJ,listUpdate_at->Us,ltAt'->eK,mirror->IJ,mirror_perm->Qn,pendingOf->AU,reverseSlice'->Mt,reverseSlice'_eq->Jj,seqEpoch_at->Yj,seqObj->HZ,slot_tuple_getitem->FN,sortedHeap->bJ,subscriptTail->Ms,subscriptTail_builtinR->WS,tuples'->eI,wpS_bind->AO,wpS_forRange->B2,wpS_get->Ga,wpS_modify->DM,wpS_mono->DC,wpS_pure->AQ
open PyProof.Rows.IsTup renaming new->WZ
open PyProof.Rows.SortSt renaming mk'->GF
open PySem renaming Addr->AI,Around->A8,BindsTo->SF,CmpOp->Qu,DictEntry->Lz,FuncData->DY,GenState->SU,Heap->Bk,IsEnum->Pq,IsPart->Pp,IsRange->eV,IsRangeIter->Qs,ItemsOf->eT,Keyword->WY,Model->OS,NameKind->OR,Paired->Gb,PassesOwn->WJ,Program->Ar,Result->bO,Scope->HJ,Shared->AF,Stmt->Cp,Value->AD,Within->Qy,World->BG,again->WE,assign->M6,assignEach->Ek,atKey->SM,attributeBase->Fq,backTo->Ej,behindInMarks->CI,binaryOp->DX,bindC->WD,bindL->WC,bootBuiltins->FW,builtinsNs->bM,cLine->D3,call->Uu,call_meets->SK,callerA->OO,cellsFrom->ei,checkBuiltinCall->Pj,codeAny->Hn,codeAny_builtin->Qx,codeAny_mono->ON,compareOp->Bd,concat_meets->WT,eval->B0,firstArgMember->LQ,foldedSetIterable->FC,getItem->Lu,holding->eM,isTrue->SI,letOwnedTupleGo->KN,mainGlobals->AZ,mem_of_lookup->D2,model->AW,noFill_tuple_add->Pi,noteFrame->WB,preSum->bL,pyIter->bK,pyNext->Ph,rawInt->ES,relabel->Hm,seq_tuple_add->Ur,setField->Yi,sizeLine_eq->Yh,sliceBounds->Ee,slicePick->WA,slot_list_getitem->OM,standAt->eJ,starEach->AX,subscripted->Qm,swapsWith->FV,sysModules->Df,truthy->bI,tupleKind->Pg,tupleKind_room_in1->II,typeIs_int->bH,valueAt->OL,wpAny->Ah,wpAny_Call_Name_kw->Fw,wpAny_Dict_empty->eh,wpAny_Name->bG,wpAny_assign_Name->eG,wpAny_attempt->HF,wpAny_bind->AB,wpAny_call->SH,wpAny_callSpecial?_slot->DL,wpAny_call_entry->Dd,wpAny_comprehension_free->Uq,wpAny_dictEntries->OK,wpAny_dictEpoch->Qw,wpAny_eqBool_int->ee,wpAny_execs_cons->ed,wpAny_execs_nil->KM,wpAny_field->DD,wpAny_fieldsOf->LP,wpAny_getItem_list_slice->Uo,wpAny_holding->Fp,wpAny_isInstance->eZ,wpAny_isOneOf_keyiter->KR,wpAny_isTrue_Compare1->Yb,wpAny_loadPart->SG,wpAny_loadPart'->KL,wpAny_mono->Eh,wpAny_newObj_type->Bj,wpAny_of_eq->Ql,wpAny_passesOwn->HY,wpAny_pure->AM,wpAny_pyIter_enum->Ix,wpAny_pyIter_list->eE,wpAny_pyIter_range->bF,wpAny_pyIter_rangeiter->WR,wpAny_pyIter_tuple->Fv,wpAny_pyNext_range_end->WQ,wpAny_rule->bE,wpAny_setField->FJ,wpAny_truthy_bool->Co,wpAny_typeNameOfWhole_keyiter->Ed,wpAny_typeNameOf_keyiter->Fo,wpAny_typeOf->WP
open PySem.Around renaming under->Qv,under_plainId->Jb
open PySem.Builtin.Dict renaming dictSlotNone->hU,showsAll->NH
open PySem.Builtin.Dict_items renaming ownsTuple->Iy
open PySem.Builtin.List renaming listExtendWith->hG,listItems->HQ,listTooLong->Gu
open PySem.Builtin.ObjectAttr renaming bindTo->Yg
open PySem.Builtin.Range renaming rangeFitsLong->fC,rangeSize->BV,small->Db
open PySem.Builtin.Slice renaming sliceAdjust->Gd,sliceApplied->Ka,sliceFields->fB,slicePartIndex->fA,slicePlaces->EX
open PySem.Builtin.SmallTypes renaming nextOf->D9
open PySem.Builtin.Tuple renaming tupleExact->Ci,tupleItemsOf->e8
open PySem.Calls renaming Name_function_global->OU,callWith_builtin->Q4,evalArgs_plain->SW,spliced_cons->U1,spliced_nil->LS
open PySem.Challenge renaming pw_guardround_k11_whole_watch_apart_clubs->bP,rw_guardround_k11_whole_watch_apart_clubs->Cd
open PySem.Code renaming frames->e7,isFrame->SE
open PySem.Data renaming cell->Q3,fields->NG
open PySem.EntryCells renaming newEntry->Ps
open PySem.F renaming args_dict_keyiterator_next_1->Jk,args_object_init_2->Wb,args_tuple_add_2->Ha,args_tuple_iterator_next_1->Pr,called_tuple->Q2,entry_dict_keyiterator_next->Jr,entry_tuple_add->Ho,entry_tuple_iterator_next->Qt,excAttr_ValueError->NB,plainAttrs_list->Ox,plain_list_iadd->aj,plain_tuple_new->ai,slot_dict_iter->Pl,slot_dict_keyiterator_next->CO,slot_enumerate_next->WO,slot_int_rmul->eW,slot_tuple_add->IK,slot_tuple_iterator_next->FF
open PySem.Heap renaming ExtBut->Tu,SameBut->EM,get?_none_of_le->Tt,get?_push_of_some->AJ,get?_push_size->Af,get?_update_ne->U0,get?_update_other->EL,get?_update_self->Ef,lt_size->Aa,size_push->HP
open PySem.Heap.IsSliceOf renaming new->OI
open PySem.Heap.SameBut renaming refl->g9,update->Fx
open PySem.IsRange renaming new->Q1
open PySem.NameKind renaming free->HM
open PySem.Obj renaming cls_mapFields->IG,data_mapFields->CG,isFreed_of_fields->El,mapFields->C0,mapSeq->Hb
open PySem.Paired renaming length->EU,snoc->SB
open PySem.SeqAt.EqAt renaming of_refs->eX
open PySem.SeqAt.RcAt renaming lists->gt,lists_lengths->WF,tuples->ej
open PySem.SeqAt.RcNeAt renaming lists->aa,lists_lengths->R7
open PySem.Str renaming empty->M7,ofString->HI
open PySem.Value renaming bool->KS,builtin->aZ,bytes->eQ,float->SN,int->MV,isInt->eP,isStrOf->aY,none->BO,ref->Au,str->MU,type->FX
open PySem.W renaming Frag->AA,InstAt->WU,Looks->GH,callWith_K->SR,cellsFrom_some->Pk,clsIn->EJ,codeIn->NA,emptyDict->CW,excIn->Yc,findIn->CV,findObj->WI,fnOf->Go,handedIn->Uv,hasDictIn->KW,hideAll->Ig,hideAll_get->SA,hideAll_none->JB,instObj->Da,kdu_collect->R9,keepIn->Fa,kia_one->CD,kitAny->Cv,kitOne->Bn,kitx_dict->Tl,kitx_list->Tk,lookIn->M9,looks_findIn->JA,looks_subIn->R8,makesIn->WH,methodObj->KU,mg_none_of->Ei,mg_of->DA,mroIn->Jq,nsOkIn->M8,of_hideAll->Jx,plainGet->LR,plainOver->Tj,specialIn->Ti,subIn->Jp,tail_of_in->SQ,takerIn->MX,takesIn->WG,typeIn->Iz
open PySem.W.Looks renaming here->em,ld->ek
open PySem.W.WData renaming int->gs
open PySem.W.WShape renaming has->eO
open PySem.Walks renaming range->eN
open PySem.Within renaming cons->gu
open Sum renaming inl->FZ,inr->MW
open True renaming intro->EI
namespace L2
open PySem PySem.Spec PyProof.Rows
abbrev Key:=Sum Int Str
def PQ:Key->AD->Bool
 | .inl k,v=>eP k v
 | .inr x,v=>aY x v
def keyH (w:BG):Key->Int
 | .inl k=>hashInt k
 | .inr x=>hashStr w x
theorem DI:∀ {k:Key} {v:AD},PQ k v=true->(∃i t,k=FZ i/\v=MV i t)∨(∃x t,k=MW x/\v=MU x t)
 | .inl i,v,h=>by
  obtain ⟨t,e⟩:=AD.isInt_shape (k:=i) (v:=v) h;exact .inl ⟨i,t,rfl,e⟩
 | .inr x,v,h=>by
  obtain ⟨t,e⟩:=AD.isStrOf_shape (x:=x) (v:=v) h;exact .inr ⟨x,t,rfl,e⟩
theorem Ve (i:Int) (t:Tok):PQ (.inl i) (.int i t)=true:=by simp [PQ,eP]
theorem Vd (x:Str) (t:Tok):PQ (.inr x) (.str x t)=true:=by simp [PQ,aY]
theorem dA (a b:Int):decide ((FZ a:Key)=FZ b)=(a==b):=by
 by_cases e:a=b
 ·subst e;simp
 ·have h:¬(FZ a:Key)=FZ b:=λq=>e (FZ.inj q)
  rw [decide_eq_false h];exact (beq_eq_false_iff_ne.mpr e).symm
theorem cx (a b:Str):decide ((MW a:Key)=MW b)=decide (a=b):=by
 by_cases e:a=b
 ·subst e;simp
 ·have h:¬(MW a:Key)=MW b:=λq=>e (MW.inj q)
  rw [decide_eq_false h,decide_eq_false e]
theorem cz (a:Int) (b:Str):decide ((FZ a:Key)=MW b)=false:=decide_eq_false (λq=>nomatch q)
theorem cy (a:Str) (b:Int):decide ((MW a:Key)=FZ b)=false:=decide_eq_false (λq=>nomatch q)
def EB (prog:Ar) (w:BG):PySem.KeyKind prog w Key where
 is:=PQ
 hash:=keyH w
 inj:=λv a b ha hb=>by
  rcases DI ha with ⟨i,t,rfl,rfl⟩ | ⟨x,t,rfl,rfl⟩
  ·rcases DI hb with ⟨j,u,rfl,e⟩ | ⟨y,u,rfl,e⟩
   ·injection e with e1 _;rw [e1]
   ·exact nomatch e
  ·rcases DI hb with ⟨j,u,rfl,e⟩ | ⟨y,u,rfl,e⟩
   ·exact nomatch e
   ·injection e with e1 _;rw [e1]
 byValue:=λk v h=>by
  rcases DI h with ⟨i,t,rfl,rfl⟩ | ⟨x,t,rfl,rfl⟩ <;> rfl
 pyHash:=λhv h=>by
  rcases DI hv with ⟨i,t,rfl,rfl⟩ | ⟨x,t,rfl,rfl⟩
  ·exact wpAny_pyHash_int h
  ·exact wpAny_pyHash_str h
 eqBool:=λhu hv h=>by
  rcases DI hu with ⟨i,t,rfl,rfl⟩ | ⟨x,t,rfl,rfl⟩
  ·rcases DI hv with ⟨j,u,rfl,rfl⟩ | ⟨y,u,rfl,rfl⟩
   ·rw [dA] at h;exact ee h
   ·rw [cz] at h;exact SeqAt.EqAt.int_str i t y u _ _ _ _ h
  ·rcases DI hv with ⟨j,u,rfl,rfl⟩ | ⟨y,u,rfl,rfl⟩
   ·rw [cy] at h;exact SeqAt.EqAt.str_int x t j u _ _ _ _ h
   ·rw [cx] at h;exact wpAny_eqBool_str h
 «strs»:=λk x t v h=>by
  rcases DI h with ⟨i,u,rfl,e⟩ | ⟨y,u,rfl,e⟩
  ·exact nomatch e
  ·injection e with e1 _
   subst e1
   cases v <;> rfl
theorem RW (prog:Ar) (w:BG) (i:Int) (t:Tok):(EB prog w).is (.inl i) (.int i t)=true:=Ve i t
theorem RV (prog:Ar) (w:BG) (x:Str) (t:Tok):(EB prog w).is (.inr x) (.str x t)=true:=Vd x t
end L2
namespace L2
open PySem PySem.Spec PyProof.Rows
inductive V where
 | non | bl (b:Bool) | int (i:Int) | str (x:Str) | byt (b:Array UInt8) | flt (b:UInt64) | ref (a:AI) | ty (n:String)
 deriving DecidableEq
def RelV:V->AD->Prop
 | .non,u=>u=BO
 | .bl b,u=>u=KS b
 | .int i,u=>∃t,u=MV i t
 | .str x,u=>∃t,u=MU x t
 | .byt b,u=>∃t,u=eQ b t
 | .flt b,u=>∃t,u=SN b t
 | .ref a,u=>u=Au a
 | .ty n,u=>u=FX n
abbrev BU:List V->List AD->Prop:=Gb RelV
theorem BU.length {xs:List V} {us:List AD} (r:BU xs us):xs.length=us.length:=EU r
theorem BU.get:∀ {xs:List V} {us:List AD} {i:Nat} {x:V},BU xs us->xs[i]?=some x->∃u,us[i]?=some u/\RelV x u
 | _,_,_,_,.nil,e=>by simp at e
 | _,_,0,_,.cons r _,e=>by simp at e;subst e;exact ⟨_,rfl,r⟩
 | _,_,i+1,x,.cons _ t,e=>by
  obtain ⟨u,h1,h2⟩:=BU.get (i:=i) (x:=x) t (by simpa using e);exact ⟨u,by simpa using h1,h2⟩
theorem BU.append:∀ {xs ys:List V} {us ws:List AD},BU xs us->BU ys ws->BU (xs++ys) (us++ws)
 | _,_,_,_,.nil,s=>s
 | _,_,_,_,.cons r t,s=>.cons r (BU.append t s)
theorem BU.take:∀ {xs:List V} {us:List AD} (n:Nat),BU xs us->BU (xs.take n) (us.take n)
 | _,_,0,_=>.nil
 | _,_,_+1,.nil=>.nil
 | _,_,n+1,.cons r t=>.cons r (BU.take n t)
theorem BU.drop:∀ {xs:List V} {us:List AD} (n:Nat),BU xs us->BU (xs.drop n) (us.drop n)
 | _,_,0,r=>r
 | _,_,_+1,.nil=>.nil
 | _,_,n+1,.cons _ t=>BU.drop n t
def Ls:Option V->Option AD->Prop
 | some v,some u=>RelV v u
 | none,none=>True
 | _,_=>False
def KV {κ:Type}:List (κ×V)->List (κ×AD)->Prop:=Gb λ(p:κ×V) (q:κ×AD)=>p.1=q.1/\RelV p.2 q.2
def kV:Key->V
 | .inl i=>.int i
 | .inr x=>.str x
inductive HO where
 /-- a list -/
 | lst (xs:List V)
 /-- a tuple (never changes) -/
 | tup (xs:List V)
 /-- a dict whose keys are ints and texts;one whose keys are tuples of ints and texts (the empty one is both) -/
 | dK (kvs:List (Key×V)) | dT (kvs:List (List Key×V))
 /-- a set of ints: its members,its size -/
 | set (S:Int->Bool) (n:Nat)
 /-- an instance of the class at C,its dict at dx,its attributes -/
 | ins (C dx:AI) (fs:List (Str×V))
 /-- the dict of the instance at x -/
 | own (x:AI)
 /-- the dict of an exception -/
 | xd (fs:List (Str×V))
 /-- a bound method,f of x -/
 | met (f x:AI)
 /-- a range object lo,lo+1,.. below hi -/
 | rng (lo hi:Int)
 /-- a thing that is known to the object (the script;a dict while a loop walks it): read,never written while it is so -/
 | frz (o:Obj) (u:HO)
 /-- a code object's table -/
 | tbl (ps:Array AD)
 /-- any other thing,by what is true of its one object (a def of one's own: SetO a S n:=HO.ext λh=>..) -/
 | ext (φ:Bk->Prop)
abbrev Hp:=AI->Option HO
def upd (H:Hp) (a:AI) (o:HO):Hp:=λb=>if b=a then some o else H b
theorem Be {H:Hp} {a:AI} {o:HO}:upd H a o a=some o:=by unfold upd;rw [if_pos rfl]
theorem BR {H:Hp} {a b:AI} {o:HO} (h:b≠a):upd H a o b=H b:=by unfold upd;rw [if_neg h]
theorem fz {H:Hp} {a b:AI} {o u:HO} (h:H a=some o) (h':H b=some u) (d:o≠u):a≠b:=by
 intro e;subst e;rw [h] at h';exact d (DW h')
theorem Bh {H:Hp} {a b:AI} {o:HO} (h:H a=some o) (h':H b=none):a≠b:=by
 intro e;subst e;rw [h] at h';cases h'
section
variable (P:Ar) (w:BG)
def Cn (H:Hp) (h:Bk) (a:AI):HO->Prop
 | .lst xs=>xs.length<=sizeLine/\∃(its:List AD) (n:Nat),BU xs its/\h.get? a=some { cls:=.type "list",data:=.seq its.toArray n }
 | .tup xs=>xs.length<=sizeLine/\∃its:List AD,BU xs its/\eU h a its.toArray
 | .dK kvs=>kvs.length<=sizeLine/\(a==Df)=false/\∃vs,KV kvs vs/\h.DictOf (EB P w) a vs
 | .dT kvs=>kvs.length<=sizeLine/\(a==Df)=false/\∃xs:List (List Key×AI×AD),
   Gb (λ(p:List Key×V) (q:List Key×AI×AD)=>p.1=q.1/\H q.2.1=some (.tup (p.1.map kV))/\RelV p.2 q.2.2) kvs xs /\
   ∃o es ep,h.get? a=some o/\o.ExactDict/\o.data=.dict es ep/\es.toList=xs.map (entryOfKey (Pg (EB P w)))/\(xs.map (·.1)).Nodup
 | .set S n=>h.SetOf (intKind P w) a S n
 | .ins C dx fs=>H dx=some (.own a)/\fs.length<=1000/\dx≠a/\h.get? a=some (Da C dx) /\
   ∃mA,h.Ns1 dx mA/\(∀f,Ls (fs.lookup f) (mA f))/\Qy mA (fs.map (·.1))
 | .own _=>∃o,h.get? a=some o
 | .xd fs=>∃mA,h.Ns1 a mA/\∀f,Ls (fs.lookup f) (mA f)
 | .rng lo hi=>∃t u v,h.get? a=some { cls:=.type "range",data:=.fields #[.int lo t,.int hi u,.int 1 v] }
 | .frz o u=>h.get? a=some o/\Cn H h a u
 | .tbl ps=>h.get? a=some { cls:=.none,data:=.fields ps }
 | .met f x=>h.get? a=some (KU (.ref f) (.ref x))
 | .ext φ=>φ h/\(∃o,h.get? a=some o)/\∀h1 h2:Bk,φ h1->(∀o,h1.get? a=some o->h2.get? a=some o)->φ h2
def HOk (H:Hp) (h:Bk):Prop:=∀a o,H a=some o->Cn P w H h a o
end
section
variable {P:Ar} {w:BG} {H H':Hp} {h h':Bk} {a:AI} {o:HO}
theorem Cn.lt (x:Cn P w H h a o):a < h.objs.size:=by
 cases o with
 | lst xs=>obtain ⟨_,_,_,_,e⟩:=x;exact Aa e
 | tup xs=>obtain ⟨_,_,_,p⟩:=x;exact p.lt
 | dK kvs=>obtain ⟨_,_,_,_,o,_,_,e,_⟩:=x;exact Aa e
 | dT kvs=>obtain ⟨_,_,_,_,o,_,_,e,_⟩:=x;exact Aa e
 | set S n=>obtain ⟨o,_,_,_,e,_⟩:=x;exact Aa e
 | ins C dx fs=>obtain ⟨_,_,_,e,_⟩:=x;exact Aa e
 | own y=>obtain ⟨_,e⟩:=x;exact Aa e
 | xd fs=>obtain ⟨_,⟨_,_,_,e,_⟩,_⟩:=x;exact Aa e
 | rng lo hi=>obtain ⟨_,_,_,e⟩:=x;exact Aa e
 | frz ob u=>obtain ⟨e,_⟩:=x;exact Aa e
 | tbl ps=>exact Aa (show h.get? a=some _ from x)
 | met f y=>exact Aa (show h.get? a=some _ from x)
 | ext φ=>obtain ⟨_,⟨_,e⟩,_⟩:=x;exact Aa e
theorem Gb.mapP {α β:Type} {F G:α->β->Prop}:∀ {l₁:List α} {l₂:List β},Gb F l₁ l₂->(∀a b,F a b->G a b)->Gb G l₁ l₂
 | _,_,.nil,_=>.nil
 | _,_,.cons r t,f=>.cons (f _ _ r) (Gb.mapP t f)
theorem Cn.stay (x:Cn P w H h a o) (k:∀b u,(b=a∨H b=some (.own a))->h.get? b=some u->h'.get? b=some u)
  (ho:∀b,H b=some (.own a)->H' b=some (.own a)) (ht:∀b xs,H b=some (.tup xs)->H' b=some (.tup xs)):Cn P w H' h' a o:=by
 induction o with
 | lst xs=>obtain ⟨z,its,n,r,e⟩:=x;exact ⟨z,its,n,r,k _ _ (.inl rfl) e⟩
 | tup xs=>obtain ⟨z,its,r,ob,e,c⟩:=x;exact ⟨z,its,r,ob,k _ _ (.inl rfl) e,c⟩
 | dK kvs=>obtain ⟨z,y,vs,r,ob,es,ep,e,c⟩:=x;exact ⟨z,y,vs,r,ob,es,ep,k _ _ (.inl rfl) e,c⟩
 | dT kvs=>
  obtain ⟨z,y,xs,r,ob,es,ep,e,c⟩:=x;exact ⟨z,y,xs,Gb.mapP r λp q z=>⟨z.1,ht _ _ z.2.1,z.2.2⟩,ob,es,ep,k _ _ (.inl rfl) e,c⟩
 | set S n=>obtain ⟨ob,es,ep,t,e,c⟩:=x;exact ⟨ob,es,ep,t,k _ _ (.inl rfl) e,c⟩
 | ins C dx fs=>
  obtain ⟨d,z,ne,e,mA,⟨od,es,ep,e2,c⟩,r⟩:=x;exact ⟨ho _ d,z,ne,k _ _ (.inl rfl) e,mA,⟨od,es,ep,k _ _ (.inr d) e2,c⟩,r⟩
 | own y=>obtain ⟨ob,e⟩:=x;exact ⟨ob,k _ _ (.inl rfl) e⟩
 | xd fs=>obtain ⟨mA,⟨od,es,ep,e,c⟩,r⟩:=x;exact ⟨mA,⟨od,es,ep,k _ _ (.inl rfl) e,c⟩,r⟩
 | rng lo hi=>obtain ⟨t,u,v,e⟩:=x;exact ⟨t,u,v,k _ _ (.inl rfl) e⟩
 | frz ob u ih=>obtain ⟨e,q⟩:=x;exact ⟨k _ _ (.inl rfl) e,ih q⟩
 | tbl ps=>
  have e:h.get? a=some { cls:=.none,data:=.fields ps }:=x;show h'.get? a=some { cls:=.none,data:=.fields ps };exact k a _ (.inl rfl) e
 | met f y=>
  have e:h.get? a=some (KU (.ref f) (.ref y)):=x;show h'.get? a=some (KU (.ref f) (.ref y));exact k a _ (.inl rfl) e
 | ext φ=>obtain ⟨p,⟨o,e⟩,st⟩:=x;exact ⟨st _ _ p λo q=>k _ _ (.inl rfl) q,⟨o,k _ _ (.inl rfl) e⟩,st⟩
theorem HOk.lt (x:HOk P w H h) (e:H a=some o):a < h.objs.size:=(x a o e).lt
theorem HOk.fresh (x:HOk P w H h) (e:h.objs.size<=a):H a=none:=by
 cases q:H a with
 | none=>rfl
 | some u=>exact absurd (Ad (x.lt q) e) (Dl _)
theorem HOk.kept (x:HOk P w H h) (k:∀b u,h.get? b=some u->h'.get? b=some u):HOk P w H h':=λa o e=>
 (x a o e).stay (λb u _ q=>k b u q) (λ_ q=>q) λ_ _ q=>q
theorem HOk.laid (x:HOk P w H h) (k:∀b u,h.get? b=some u->h'.get? b=some u) (hp:h.objs.size<=a) (new:Cn P w (upd H a o) h' a o):HOk P w (upd H a o) h':=λb u e=>by
 have hn:=x.fresh hp
 by_cases hb:b=a
 ·subst hb;rw [Be] at e;cases e;exact new
 ·rw [BR hb] at e
  exact (x b u e).stay (λc v _ q=>k c v q) (λc q=>by rw [BR (Bh q hn)];exact q) λc xs q=>by rw [BR (Bh q hn)];exact q
end
def Rd (H:Hp) (a:AI) (u:HO):Prop:=H a=some u∨∃o,H a=some (.frz o u)
theorem Rd.ok {P:Ar} {w:BG} {H:Hp} {h:Bk} {a:AI} {u:HO} (r:Rd H a u) (x:HOk P w H h):Cn P w H h a u:=by
 rcases r with r | ⟨o,r⟩
 ·exact x a u r
 ·obtain ⟨_,q⟩:=x a _ r
  exact q
def Mut:Option HO->Prop
 | some (.lst _)=>True
 | some (.dK _)=>True
 | some (.dT _)=>True
 | some (.set _ _)=>True
 | some (.ins _ _ _)=>True
 | some (.ext _)=>True
 | _=>False
section
variable {P:Ar} {w:BG} {H:Hp} {h h':Bk} {x e:AI} {o':HO}
theorem HOk.write (ok:HOk P w H h) (mu:Mut (H x)) (he:e=x∨H e=some (.own x)) (k:∀b u,b≠e->h.get? b=some u->h'.get? b=some u) (heo:∃u,h'.get? e=some u)
  (new:Cn P w (upd H x o') h' x o'):HOk P w (upd H x o') h':=λb u q=>by
 have nown:∀c y,H c=some (.own y)->c≠x:=λc y r z=>by subst z;rw [r] at mu;exact mu
 have ntup:∀c xs,H c=some (.tup xs)->c≠x:=λc xs r z=>by subst z;rw [r] at mu;exact mu
 by_cases hb:b=x
 ·subst hb;rw [Be] at q;cases q;exact new
 ·rw [BR hb] at q
  by_cases hbe:b=e
  ·have q':H b=some (.own x):=by
    rcases he with z | z
    ·exact absurd (hbe.trans z) hb
    ·rw [hbe];exact z
   rw [q] at q';cases q';obtain ⟨v,hv⟩:=heo;exact ⟨v,by rw [hbe];exact hv⟩
  ·refine (ok b u q).stay (λc v hc r=>k c v ?_ r) (λc r=>by rw [BR (nown c b r)];exact r) λc xs r=>by rw [BR (ntup c xs r)];exact r
   rcases hc with rfl | hc
   ·exact hbe
   ·rintro rfl
    rcases he with z | z
    ·exact nown c b hc z
    ·rw [hc] at z;cases z;exact hb rfl
end
structure Un (fs ex:List AI) (H H':Hp) (h h':Bk):Prop where
 keep:∀b o,h.get? b=some o->H b=none->b∉fs->b∉ex->h'.get? b=some o
 slot:∀b o,h.get? b=some o->H b=none->b∈fs->b∉ex->∃sl,h'.get? b=some { o with slots:=sl }
 free:∀b o,h.get? b=some o->H b=none->b∉ex->H' b=none
 there:∀b o,h.get? b=some o->b∉ex->∃o',h'.get? b=some o'
 tups:∀b xs,H b=some (.tup xs)->H' b=some (.tup xs)
 frzs:∀b o u,H b=some (.frz o u)->H' b=some (.frz o u)
 tbls:∀b ps,H b=some (.tbl ps)->∃more,H' b=some (.tbl (ps++more))
section
variable {fs fs' ex ex':List AI} {H H1 H2:Hp} {h h1 h2 h':Bk} {a x e:AI} {o:HO}
theorem Un.any (u:Un fs ex H H1 h h1) {b:AI} {ob:Obj} (q:h.get? b=some ob) (n:H b=none) (hx:b∉ex):∃sl,h1.get? b=some { ob with slots:=sl }:=by
 by_cases hb:b∈fs
 ·exact u.slot b ob q n hb hx
 ·exact ⟨ob.slots,u.keep b ob q n hb hx⟩
theorem Un.kept (k:∀b u,h.get? b=some u->h'.get? b=some u):Un fs ex H H h h':=
 ⟨λb ob q _ _ _=>k b ob q,λb ob q _ _ _=>⟨ob.slots,k b ob q⟩,λ_ _ _ n _=>n,λb ob q _=>⟨ob,k b ob q⟩,λ_ _ q=>q,λ_ _ _ q=>q,λ_ ps q=>⟨#[],by rw [q];simp⟩⟩
theorem Un.refl:Un fs ex H H h h:=Un.kept λ_ _ q=>q
theorem Un.laid (k:∀b u,h.get? b=some u->h'.get? b=some u) (hp:h.objs.size<=a) (hn:H a=none):Un fs ex H (upd H a o) h h' where
 keep:=λb u q _ _ _=>k b u q
 slot:=λb u q _ _ _=>⟨u.slots,k b u q⟩
 free:=λb u q n _=>by rw [BR (Ax (Ad (Aa q) hp))];exact n
 there:=λb u q _=>⟨u,k b u q⟩
 tups:=λb xs q=>by rw [BR (Bh q hn)];exact q
 frzs:=λb u xs q=>by rw [BR (Bh q hn)];exact q
 tbls:=λb ps q=>⟨#[],by rw [BR (Bh q hn),q];simp⟩
theorem Un.write (mu:Mut (H x)) (he:e=x∨H e=some (.own x)) (k:∀b u,b≠e->h.get? b=some u->h'.get? b=some u) (heo:∃u,h'.get? e=some u):Un fs ex H (upd H x o) h h':=by
 have hx:∀b,H b=none->b≠x:=λb n z=>by subst z;rw [n] at mu;exact mu
 have hb:∀b,H b=none->b≠e:=λb n z=>by
  subst z
  rcases he with r | r
  ·exact hx b n r
  ·rw [n] at r;cases r
 have hm:∀b u,H b=some u->¬Mut (some u)->b≠x:=λb u q nm z=>by subst z;rw [q] at mu;exact nm mu
 refine ⟨λb u q n _ _=>k b u (hb b n) q,λb u q n _ _=>⟨u.slots,k b u (hb b n) q⟩,λb u q n _=>by rw [BR (hx b n)];exact n,λb u q _=>?_,
  λb xs q=>by rw [BR (hm b _ q λz=>z)];exact q,λb u xs q=>by rw [BR (hm b _ q λz=>z)];exact q,λb ps q=>⟨#[],by rw [BR (hm b _ q λz=>z),q];simp⟩⟩
 by_cases hbe:b=e
 ·subst hbe;exact heo
 ·exact ⟨u,k b u hbe q⟩
end
def trk (h:Bk) (H:Hp):List AI:=(Ac h.objs.size).filter λa=>(H a).isSome
def QM (h:Bk) (H:Hp):Bk:=Ig h (trk h H)
theorem Vj (h:Bk) (H:Hp):(QM h H).objs.size=h.objs.size:=PySem.W.hideAll_size _ _
theorem Xy {h:Bk} {H:Hp} {b:AI} {o:Obj} (e:h.get? b=some o) (n:H b=none):(QM h H).get? b=some o:=
 SA _ e λhm=>by
  have q:(H b).isSome=true:=(OH.mp hm).2;rw [n] at q;simp at q
theorem Zk {h:Bk} {H:Hp} {b:AI} {o:Obj} (e:(QM h H).get? b=some o):h.get? b=some o/\H b=none:=by
 have e':h.get? b=some o:=Jx (trk h H) e;refine ⟨e',?_⟩
 cases q:H b with
 | none=>rfl
 | some x=>
  have hm:b∈trk h H:=OH.mpr ⟨CM.mpr (Aa e'),by simp [q]⟩;have z:(QM h H).get? b=none:=JB (trk h H) hm;rw [z] at e;cases e
end L2
namespace L2
open PySem PySem.Spec PyProof.Rows
structure Mod (K:AA) (mg:Str->Option AD) (base:Bk):Prop where
 kin:K.In base
 glob:base.Ns AZ mg
 blt:∃mb,base.Ns bM mb/\∀x:Str,x≠"__name__"->mb x=FW x
 nolimit:base.NoLimit
structure Cx where
 prog:Ar
 w:BG
 K:AA
 mg:Str->Option AD
 base:Bk
 A:A8
 N:List Str
 s₀:AF
 H₀:Hp
 env:Env
 outer:List Env
 stack:List Env
 ex:List AI
 fn:Str->Bool
 calm:Bool
 pn:List (AI×Obj)
 xe:AD->AF->Prop
def frs (l:List Env):List AI:=l.filterMap (·.frame)
abbrev Cx.fs (X:Cx):List AI:=frs X.outer
def Vis (sc:HJ) (x:Str):Prop:=sc.names.lookup x=some .local∨sc.names.lookup x=some .cell∨sc.names.lookup x=some .free
def Loc (sc:HJ) (x:Str):Prop:=sc.names.lookup x=some .local∨sc.names.lookup x=some .cell
def Look (env:Env) (h:Bk) (m:Str->Option AD) (x:Str) (u:AD):Prop:=
 (env.kindOf x=some .local/\m x=some u)∨((env.kindOf x=some .cell∨env.kindOf x=some .free)/\∃c,env.cells.lookup x=some c/\h.IsCell c (some u))
structure Cx.Ok (X:Cx):Prop where
 mod:Mod X.K X.mg X.base
 kind:X.env.scope.kind=.function
 glob:X.env.globals=AZ
 blt:X.env.builtins=bM
 above:X.s₀.heap.objs.size<=X.env.locals
 inj:∀x y c,X.env.cells.lookup x=some c->X.env.cells.lookup y=some c->x=y
 has:∀x,(X.env.kindOf x=some .cell∨X.env.kindOf x=some .free)->∃c,X.env.cells.lookup x=some c
 cab:∀x c,X.fn x=true->X.env.cells.lookup x=some c->X.s₀.heap.objs.size<=c
 hd:X.calm=true->X.A.handled=none
 frames:X.A.frames=some X.stack
 stk:X.stack=X.outer∨(X.stack=X.env :: X.outer/\X.env.frame=some X.env.locals)
 exf:∀b∈X.ex,b≠X.env.locals/\∀x c,X.env.cells.lookup x=some c->c≠b
 bs:∀b o,X.base.get? b=some o->X.s₀.heap.get? b=some o/\X.H₀ b=none
 bsz:X.base.objs.size<=X.s₀.heap.objs.size
 noex:∀b o,X.base.get? b=some o->b∉X.ex
 exfs:∀b∈X.ex,b∉X.fs
 funs:X.s₀.heap.FunFrames X.base X.outer
 frf:∀b∈X.fs,X.H₀ b=none
structure Inv (X:Cx) (pins:List (AI×Obj)) (σ:List (Option V)) (H:Hp) (s:AF):Prop where
 ok:X.Ok
 os:s.os=X.s₀.os
 bare:HG s.gens
 base:Un X.fs X.ex X.H₀ H X.s₀.heap s.heap
 loc:∃m,s.heap.Ns X.env.locals m/\∀(i:Nat) (x:Str) (v:V),X.N[i]?=some x->σ[i]?=some (some v)->Vis X.env.scope x->∃u,RelV v u/\Look X.env s.heap m x u
 cell:∀x c,X.env.cells.lookup x=some c->∃v,s.heap.IsCell c v
 free:H X.env.locals=none
 freeC:∀x c,X.env.cells.lookup x=some c->H c=none
 pin:∀p∈X.pn++pins,s.heap.get? p.1=some p.2/\H p.1=none/\p.1≠X.env.locals/\p.1∉X.fs/\∀v,p.2.data≠.cell v
 hok:HOk X.prog X.w H s.heap
 len:σ.length=X.N.length
section
variable {X:Cx} {pins:List (AI×Obj)} {σ:List (Option V)} {H H':Hp} {s:AF} {h':Bk}
theorem Cx.Ok.nofr (ok:X.Ok) {b:AI} {o:Obj} (e:X.base.get? b=some o):b∉X.fs:=λhb=>by
 have:=(ok.funs.mem hb).1;rw [e] at this;cases this
theorem Inv.bs (I:Inv X pins σ H s):∀b o,X.base.get? b=some o->s.heap.get? b=some o/\H b=none:=λb o e=>
 ⟨I.base.keep b o (I.ok.bs b o e).1 (I.ok.bs b o e).2 (I.ok.nofr e) (I.ok.noex b o e),I.base.free b o (I.ok.bs b o e).1 (I.ok.bs b o e).2 (I.ok.noex b o e)⟩
theorem Inv.bk (I:Inv X pins σ H s):∀b o,X.base.get? b=some o->s.heap.get? b=some o:=λb o e=>(I.bs b o e).1
theorem Inv.mod (I:Inv X pins σ H s):Mod X.K X.mg X.base:=I.ok.mod
theorem Inv.kIn (I:Inv X pins σ H s):X.K.In s.heap:=I.ok.mod.kin.keeps I.bk
theorem Inv.lt (I:Inv X pins σ H s):X.env.locals < s.heap.objs.size:=let ⟨_,hn,_⟩:=I.loc;hn.lt
theorem Inv.sz (I:Inv X pins σ H s):X.s₀.heap.objs.size<=s.heap.objs.size:=Aq I.ok.above (Mb I.lt)
theorem Inv.nofs (I:Inv X pins σ H s) {a:AI} (h:s.heap.objs.size<=a):a∉X.fs:=λhb=>by
 obtain ⟨_,o,ho,_⟩:=I.ok.funs.mem hb;exact absurd (Ad (Aa ho) (Aq I.sz h)) (Dl _)
theorem Inv.cne (I:Inv X pins σ H s):∀x c,X.env.cells.lookup x=some c->c≠X.env.locals:=λx c e z=>by
 obtain ⟨v,o,ho,hd⟩:=I.cell x c e;obtain ⟨m,⟨o',es,ep,ho',hd',_⟩,_⟩:=I.loc;rw [z,ho'] at ho;cases ho;rw [hd'] at hd;cases hd
theorem Inv.funs (I:Inv X pins σ H s):s.heap.FunFrames X.base X.outer:=by
 have all:∀(l:List Env),(∀b∈frs l,b∈X.fs)->X.s₀.heap.FunFrames X.base l->s.heap.FunFrames X.base l:=by
  intro l
  induction l with
  | nil=>intro _ _;trivial
  | cons env r ih=>
   intro hs hl;obtain ⟨hk,⟨L,o,hf,hn,ho,hd⟩,hr⟩:=hl;have hL:L∈X.fs:=hs L (by unfold frs;rw [KQ,hf];exact A6)
   obtain ⟨sl,e⟩:=I.base.slot L o ho (I.ok.frf L hL) hL λz=>I.ok.exfs L z hL
   exact ⟨hk,⟨L,_,hf,hn,e,hd⟩,ih (λb hb=>hs b (by unfold frs;rw [KQ,hf];exact Al _ hb)) hr⟩
 exact all X.outer (λ_ hb=>hb) I.ok.funs
theorem Inv.stack (I:Inv X pins σ H s):s.heap.FunFrames X.base X.stack:=by
 rcases I.ok.stk with e | ⟨e,hf⟩
 ·rw [e];exact I.funs
 ·rw [e]
  obtain ⟨m,hn,_⟩:=I.loc;refine .cons (by rw [I.ok.kind];decide) hf hn ?_ I.funs;exact Tt (Aq I.ok.bsz I.ok.above)
theorem Inv.stkSub (I:Inv X pins σ H s):∀b∈frs X.stack,b∈X.env.locals :: X.fs:=λb hb=>by
 rcases I.ok.stk with e | ⟨e,hf⟩
 ·rw [e] at hb;exact Al _ hb
 ·rw [e] at hb
  unfold frs at hb;rw [KQ,hf] at hb;exact hb
theorem Inv.stkFree (I:Inv X pins σ H s):∀b∈frs X.stack,H b=none:=λb hb=>by
 rcases A4.mp (I.stkSub b hb) with e | hb
 ·rw [e];exact I.free
 ·obtain ⟨_,o,ho,_⟩:=I.ok.funs.mem hb
  exact I.base.free b o ho (I.ok.frf b hb) λz=>I.ok.exfs b z hb
theorem Inv.step {g':Array SU} {t':Nat} {d':Drawn} {ch:List AI} (I:Inv X pins σ H s)
  (hch:∀b∈ch,(b∈X.ex∨X.s₀.heap.objs.size<=b)/\b≠X.env.locals/\(∀x c,X.env.cells.lookup x=some c->c≠b)/\∀p∈X.pn++pins,p.1≠b)
  (keep:∀b o,b≠X.env.locals->b∉X.fs->b∉ch->s.heap.get? b=some o->H b=none->h'.get? b=some o)
  (slot:∀b o,b≠X.env.locals->b∈X.fs->b∉ch->s.heap.get? b=some o->H b=none->∃sl,h'.get? b=some { o with slots:=sl }) (free:∀b o,b∉ch->s.heap.get? b=some o->H b=none->H' b=none)
  (there:∀b o,b∉ch->s.heap.get? b=some o->∃o',h'.get? b=some o')
  (tups:∀b xs,H b=some (.tup xs)->H' b=some (.tup xs)) (frzs:∀b o u,H b=some (.frz o u)->H' b=some (.frz o u)) (tbls:∀b ps,H b=some (.tbl ps)->∃more,H' b=some (.tbl (ps++more)))
  (ns:∀m,s.heap.Ns X.env.locals m->h'.Ns X.env.locals m) (hok:HOk X.prog X.w H' h') (hg:HG g') :
  Inv X pins σ H' { s with heap:=h',gens:=g',drawn:=d',toks:=t' }:=by
 have neL:∀b o,X.s₀.heap.get? b=some o->b≠X.env.locals:=λb o e=>Ax (Ad (Aa e) I.ok.above)
 have neC:∀b o,X.s₀.heap.get? b=some o->b∉X.ex->b∉ch:=λb o e hx hb=>by
  rcases (hch b hb).1 with z | z
  ·exact hx z
  ·exact absurd (Ad (Aa e) z) (Dl _)
 have cellK:∀x c,X.env.cells.lookup x=some c->∀v,s.heap.IsCell c v->h'.IsCell c v:=λx c e v ⟨o,ho,hd⟩=>by
  have nch:c∉ch:=λz=>(hch c z).2.2.1 x c e rfl
  by_cases hc:c∈X.fs
  ·obtain ⟨sl,q⟩:=slot c o (I.cne x c e) hc nch ho (I.freeC x c e)
   exact ⟨_,q,hd⟩
  ·exact ⟨o,keep c o (I.cne x c e) hc nch ho (I.freeC x c e),hd⟩
 refine ⟨I.ok,I.os,hg,⟨λb o e n hb hx=>?_,λb o e n hb hx=>?_,λb o e n hx=>?_,λb o e hx=>?_,λb xs e=>tups b xs (I.base.tups b xs e),λb o xs e=>frzs b o xs (I.base.frzs b o xs e),λb ps e=>?_⟩,?_,λx c e=>?_,?_,λx c e=>?_,λp hp=>?_,hok,I.len⟩
 ·exact keep b o (neL b o e) hb (neC b o e hx) (I.base.keep b o e n hb hx) (I.base.free b o e n hx)
 ·obtain ⟨sl,e1⟩:=I.base.slot b o e n hb hx
  obtain ⟨sl',e2⟩:=slot b _ (neL b o e) hb (neC b o e hx) e1 (I.base.free b o e n hx);exact ⟨sl',e2⟩
 ·obtain ⟨o',e1⟩:=I.base.there b o e hx
  exact free b o' (neC b o e hx) e1 (I.base.free b o e n hx)
 ·obtain ⟨o',e1⟩:=I.base.there b o e hx
  exact there b o' (neC b o e hx) e1
 ·obtain ⟨m1,e1⟩:=I.base.tbls b ps e
  obtain ⟨m2,e2⟩:=tbls b _ e1;exact ⟨m1++m2,by rw [e2,U2]⟩
 ·obtain ⟨m,hn,hl⟩:=I.loc
  refine ⟨m,ns m hn,λi x v e1 e2 e3=>?_⟩;obtain ⟨u,r,l⟩:=hl i x v e1 e2 e3;refine ⟨u,r,?_⟩
  rcases l with l | ⟨k,c,e,z⟩
  ·exact .inl l
  ·exact .inr ⟨k,c,e,cellK x c e _ z⟩
 ·obtain ⟨v,z⟩:=I.cell x c e
  exact ⟨v,cellK x c e v z⟩
 ·obtain ⟨m,⟨o,_,_,ho,_⟩,_⟩:=I.loc
  exact free _ o (λz=>(hch _ z).2.1 rfl) ho I.free
 ·obtain ⟨v,o,ho,hd⟩:=I.cell x c e
  exact free c o (λz=>(hch c z).2.2.1 x c e rfl) ho (I.freeC x c e)
 ·obtain ⟨e,n,ne,nf,d⟩:=I.pin p hp
  have nch:p.1∉ch:=λz=>(hch p.1 z).2.2.2 p hp rfl
  exact ⟨keep p.1 p.2 ne nf nch e n,free p.1 p.2 nch e n,ne,nf,d⟩
theorem Inv.stepN {g':Array SU} {t':Nat} {d':Drawn} {ch:List AI} (I:Inv X pins σ H s)
  (hch:∀b∈ch,(b∈X.ex∨X.s₀.heap.get? b=none)/\b≠X.env.locals/\(∀x c,X.env.cells.lookup x=some c->c≠b)/\∀p∈X.pn++pins,p.1≠b)
  (keep:∀b o,b≠X.env.locals->b∉X.fs->b∉ch->s.heap.get? b=some o->H b=none->h'.get? b=some o)
  (slot:∀b o,b≠X.env.locals->b∈X.fs->b∉ch->s.heap.get? b=some o->H b=none->∃sl,h'.get? b=some { o with slots:=sl }) (free:∀b o,b∉ch->s.heap.get? b=some o->H b=none->H' b=none)
  (there:∀b o,b∉ch->s.heap.get? b=some o->∃o',h'.get? b=some o')
  (tups:∀b xs,H b=some (.tup xs)->H' b=some (.tup xs)) (frzs:∀b o u,H b=some (.frz o u)->H' b=some (.frz o u)) (tbls:∀b ps,H b=some (.tbl ps)->∃more,H' b=some (.tbl (ps++more)))
  (ns:∀m,s.heap.Ns X.env.locals m->h'.Ns X.env.locals m) (hok:HOk X.prog X.w H' h') (hg:HG g') :
  Inv X pins σ H' { s with heap:=h',gens:=g',drawn:=d',toks:=t' }:=by
 have neL:∀b o,X.s₀.heap.get? b=some o->b≠X.env.locals:=λb o e=>Ax (Ad (Aa e) I.ok.above)
 have neC:∀b o,X.s₀.heap.get? b=some o->b∉X.ex->b∉ch:=λb o e hx hb=>by
  rcases (hch b hb).1 with z | z
  ·exact hx z
  ·rw [z] at e;cases e
 have cellK:∀x c,X.env.cells.lookup x=some c->∀v,s.heap.IsCell c v->h'.IsCell c v:=λx c e v ⟨o,ho,hd⟩=>by
  have nch:c∉ch:=λz=>(hch c z).2.2.1 x c e rfl
  by_cases hc:c∈X.fs
  ·obtain ⟨sl,q⟩:=slot c o (I.cne x c e) hc nch ho (I.freeC x c e)
   exact ⟨_,q,hd⟩
  ·exact ⟨o,keep c o (I.cne x c e) hc nch ho (I.freeC x c e),hd⟩
 refine ⟨I.ok,I.os,hg,⟨λb o e n hb hx=>?_,λb o e n hb hx=>?_,λb o e n hx=>?_,λb o e hx=>?_,λb xs e=>tups b xs (I.base.tups b xs e),λb o xs e=>frzs b o xs (I.base.frzs b o xs e),λb ps e=>?_⟩,?_,λx c e=>?_,?_,λx c e=>?_,λp hp=>?_,hok,I.len⟩
 ·exact keep b o (neL b o e) hb (neC b o e hx) (I.base.keep b o e n hb hx) (I.base.free b o e n hx)
 ·obtain ⟨sl,e1⟩:=I.base.slot b o e n hb hx
  obtain ⟨sl',e2⟩:=slot b _ (neL b o e) hb (neC b o e hx) e1 (I.base.free b o e n hx);exact ⟨sl',e2⟩
 ·obtain ⟨o',e1⟩:=I.base.there b o e hx
  exact free b o' (neC b o e hx) e1 (I.base.free b o e n hx)
 ·obtain ⟨o',e1⟩:=I.base.there b o e hx
  exact there b o' (neC b o e hx) e1
 ·obtain ⟨m1,e1⟩:=I.base.tbls b ps e
  obtain ⟨m2,e2⟩:=tbls b _ e1;exact ⟨m1++m2,by rw [e2,U2]⟩
 ·obtain ⟨m,hn,hl⟩:=I.loc
  refine ⟨m,ns m hn,λi x v e1 e2 e3=>?_⟩;obtain ⟨u,r,l⟩:=hl i x v e1 e2 e3;refine ⟨u,r,?_⟩
  rcases l with l | ⟨k,c,e,z⟩
  ·exact .inl l
  ·exact .inr ⟨k,c,e,cellK x c e _ z⟩
 ·obtain ⟨v,z⟩:=I.cell x c e
  exact ⟨v,cellK x c e v z⟩
 ·obtain ⟨m,⟨o,_,_,ho,_⟩,_⟩:=I.loc
  exact free _ o (λz=>(hch _ z).2.1 rfl) ho I.free
 ·obtain ⟨v,o,ho,hd⟩:=I.cell x c e
  exact free c o (λz=>(hch c z).2.2.1 x c e rfl) ho (I.freeC x c e)
 ·obtain ⟨e,n,ne,nf,d⟩:=I.pin p hp
  have nch:p.1∉ch:=λz=>(hch p.1 z).2.2.2 p hp rfl
  exact ⟨keep p.1 p.2 ne nf nch e n,free p.1 p.2 nch e n,ne,nf,d⟩
theorem Inv.un {t':Nat} (I:Inv X pins σ H s) (u:Un X.fs [] H H' s.heap h') (hok:HOk X.prog X.w H' h'):Inv X pins σ H' { s with heap:=h',toks:=t' }:=by
 obtain ⟨m,⟨o,es,ep,ho,r⟩,_⟩:=id I.loc;obtain ⟨sl,hL⟩:=u.any ho I.free (by simp)
 exact I.step (g':=s.gens) (d':=s.drawn) (ch:=[]) (λ_ z=>nomatch z) (λb o _ hb _ e n=>u.keep b o e n hb (by simp)) (λb o _ hb _ e n=>u.slot b o e n hb (by simp)) (λb o _ e n=>u.free b o e n (by simp)) (λb o _ e=>u.there b o e (by simp)) u.tups u.frzs u.tbls (λm' hm=>by
  obtain ⟨o',es',ep',ho',r'⟩:=hm;rw [ho] at ho';cases ho'
  exact ⟨_,es',ep',hL,r'⟩) hok I.bare
theorem Inv.call {g':Array SU} {t':Nat} {d':Drawn} {ch:List AI} (I:Inv X pins σ H s) (u:Un (frs X.stack) ch H H' s.heap h') (hok:HOk X.prog X.w H' h') (hg:HG g')
  (hch:∀b∈ch,(b∈X.ex∨X.s₀.heap.objs.size<=b)/\b≠X.env.locals/\(∀x c,X.env.cells.lookup x=some c->c≠b)/\∀p∈X.pn++pins,p.1≠b) :
  Inv X pins σ H' { s with heap:=h',gens:=g',drawn:=d',toks:=t' }:=by
 obtain ⟨m,⟨o,es,ep,ho,r⟩,_⟩:=id I.loc
 obtain ⟨sl,hL⟩:=u.any ho I.free λz=>(hch _ z).2.1 rfl
 exact I.step (ch:=ch) hch (λb o hL hb hc e n=>u.keep b o e n (λz=>(A4.mp (I.stkSub b z)).elim hL hb) hc) (λb o _ _ hc e n=>u.any e n hc) (λb o hc e n=>u.free b o e n hc) (λb o hc e=>u.there b o e hc) u.tups u.frzs u.tbls (λm' hm=>by
  obtain ⟨o',es',ep',ho',r'⟩:=hm;rw [ho] at ho';cases ho'
  exact ⟨_,es',ep',hL,r'⟩) hok hg
theorem Inv.turned {t':Nat} {it:AI} (I:Inv X pins σ H s) (k:∀b o,b≠it->s.heap.get? b=some o->h'.get? b=some o) (hn:H it=none) (hL:it≠X.env.locals)
  (h1:it∈X.ex∨X.s₀.heap.objs.size<=it) (h2:∀x c,X.env.cells.lookup x=some c->c≠it) (h3:∀p∈X.pn++pins,p.1≠it):Inv X pins σ H { s with heap:=h',toks:=t' }:=by
 have nit:∀b u,H b=some u->b≠it:=λb u e z=>by rw [z,hn] at e;cases e
 refine I.step (g':=s.gens) (d':=s.drawn) (ch:=[it]) (λb hb=>?_) (λb o _ _ hc e _=>k b o (λz=>hc (by simp [z])) e) (λb o _ _ hc e _=>⟨o.slots,k b o (λz=>hc (by simp [z])) e⟩) (λ_ _ _ _ n=>n)
  (λb o hc e=>⟨o,k b o (λz=>hc (by simp [z])) e⟩) (λ_ _ e=>e) (λ_ _ _ e=>e) (λb ps e=>⟨#[],by rw [e];simp⟩) (λm hm=>?_) (λb u e=>?_) I.bare
 ·have e:b=it:=by simpa using hb
  subst e;exact ⟨h1,hL,h2,h3⟩
 ·obtain ⟨o,es,ep,ho,r⟩:=hm
  exact ⟨o,es,ep,k _ o (CS hL) ho,r⟩
 ·refine (I.hok b u e).stay (λc v hc q=>k c v ?_ q) (λ_ q=>q) λ_ _ q=>q
  rcases hc with z | z
  ·rw [z];exact nit b u e
  ·exact nit c _ z
theorem Inv.tok (I:Inv X pins σ H s) (t:Nat):Inv X pins σ H { s with toks:=t }:=I.un (h':=s.heap) (t':=t) Un.refl I.hok
theorem Inv.kept {t':Nat} (I:Inv X pins σ H s) (k:∀b u,s.heap.get? b=some u->h'.get? b=some u):Inv X pins σ H { s with heap:=h',toks:=t' }:=I.un (Un.kept k) (I.hok.kept k)
theorem Inv.laid {a:AI} {o:HO} {t':Nat} (I:Inv X pins σ H s) (k:∀b u,s.heap.get? b=some u->h'.get? b=some u) (hp:s.heap.objs.size<=a) (new:Cn X.prog X.w (upd H a o) h' a o) :
  Inv X pins σ (upd H a o) { s with heap:=h',toks:=t' }:=I.un (Un.laid k hp (I.hok.fresh hp)) (I.hok.laid k hp new)
theorem Inv.write {x e:AI} {o:HO} {t':Nat} (I:Inv X pins σ H s) (mu:Mut (H x)) (he:e=x∨H e=some (.own x)) (k:∀b u,b≠e->s.heap.get? b=some u->h'.get? b=some u) (heo:∃u,h'.get? e=some u)
  (new:Cn X.prog X.w (upd H x o) h' x o):Inv X pins σ (upd H x o) { s with heap:=h',toks:=t' }:=I.un (Un.write mu he k heo) (I.hok.write mu he k heo new)
theorem Inv.pins_of {pins':List (AI×Obj)} (I:Inv X pins σ H s) (h:∀p∈pins',s.heap.get? p.1=some p.2/\H p.1=none/\p.1≠X.env.locals/\p.1∉X.fs/\∀v,p.2.data≠.cell v):Inv X pins' σ H s:=
 ⟨I.ok,I.os,I.bare,I.base,I.loc,I.cell,I.free,I.freeC,λp hp=>(Aj.mp hp).elim (λz=>I.pin p (CF _ z)) (h p),I.hok,I.len⟩
theorem Ni {N:List Str} (hN:N.Nodup) {i j:Nat} {x:Str} (a:N[i]?=some x) (b:N[j]?=some x):i=j:=by
 obtain ⟨h1,e1⟩:=AG.mp a;obtain ⟨h2,e2⟩:=AG.mp b;exact (List.getElem_inj hN).mp (e1.trans e2.symm)
theorem O6 {M:OS} {A:A8} {E:AD->AF->Prop} {i:Nat} {x:Str} {v:V} {u:AD} {Q:Unit->AF->Prop} (I:Inv X pins σ H s) (hN:X.N.Nodup) (hi:X.N[i]?=some x) (hx:Loc X.env.scope x) (r:RelV v u)
  (h:∀s',Inv X pins (σ.set i (some v)) H s'->(∃a,EM a s.heap s'.heap/\(a=X.env.locals∨X.env.cells.lookup x=some a))->Q () s') (hf:X.fn x=true∨X.env.scope.names.lookup x=some .local:=by first | exact .inl rfl | exact .inr rfl | assumption):Ah M A (storeName X.env x u) Q E s:=by
 obtain ⟨m,hn,hl⟩:=id I.loc
 have hcls:(X.env.scope.kind==.class||(X.env.scope.kind==.module&&X.env.locals != X.env.globals))=false:=by rw [I.ok.kind];rfl
 have hiσ:i < σ.length:=by rw [I.len];exact (AG.mp hi).1
 have cne:=I.cne
 have tracked:∀ {a:AI} {h':Bk},(∃o,s.heap.get? a=some o/\H a=none)->EM a s.heap h'->HOk X.prog X.w H h':=λ{a h'} ha hs b ob e=>by
  obtain ⟨_,_,hfree⟩:=ha
  refine (I.hok b ob e).stay (λc w' hc q=>(hs.2 c ?_).trans q) (λ_ q=>q) λ_ _ q=>q
  rintro rfl
  rcases hc with rfl | hc
  ·rw [hfree] at e;cases e
  ·rw [hfree] at hc;cases hc
 rcases hx with hk | hk
 ·refine wpAny_storeName_local hk hn (λh' hn' hs=>?_) hcls
  obtain ⟨oL,_,_,hoL,_⟩:=id hn;refine h _ ⟨I.ok,I.os,I.bare,⟨λb o e n hb hx=>?_,λb o e n hb hx=>?_,I.base.free,λb o e hx=>?_,I.base.tups,I.base.frzs,I.base.tbls⟩,⟨_,hn',λj y v' e1 e2 e3=>?_⟩,λy c e=>?_,I.free,I.freeC,λp hp=>?_,tracked ⟨oL,hoL,I.free⟩ hs,by simpa using I.len⟩ ⟨_,hs,.inl rfl⟩
  ·exact (hs.2 b (Ax (Ad (Aa e) I.ok.above))).trans (I.base.keep b o e n hb hx)
  ·obtain ⟨sl,e1⟩:=I.base.slot b o e n hb hx
   exact ⟨sl,(hs.2 b (Ax (Ad (Aa e) I.ok.above))).trans e1⟩
  ·obtain ⟨o',e1⟩:=I.base.there b o e hx
   exact ⟨o',(hs.2 b (Ax (Ad (Aa e) I.ok.above))).trans e1⟩
  ·by_cases hj:j=i
   ·subst hj
    rw [hi] at e1;cases e1;rw [As hiσ] at e2;cases e2;exact ⟨u,r,.inl ⟨hk,by simp⟩⟩
   ·rw [A9 (CS hj)] at e2
    obtain ⟨u',r',q⟩:=hl j y v' e1 e2 e3;refine ⟨u',r',?_⟩
    rcases q with ⟨k,e⟩ | ⟨k,c,e,z⟩
    ·refine .inl ⟨k,?_⟩
     have:y≠x:=λe=>hj (Ni hN e1 (e▸hi))
     simp [this,e]
    ·exact .inr ⟨k,c,e,z.sameBut hs (cne y c e)⟩
  ·obtain ⟨w',z⟩:=I.cell y c e
   exact ⟨w',z.sameBut hs (cne y c e)⟩
  ·obtain ⟨e,n,ne,nf,d⟩:=I.pin p hp
   exact ⟨(hs.2 p.1 ne).trans e,n,ne,nf,d⟩
 ·have hfn:X.fn x=true:=by
   rcases hf with z | z
   ·exact z
   ·rw [z] at hk;cases hk
  obtain ⟨c,hc⟩:=I.ok.has x (.inl hk);obtain ⟨w',z⟩:=I.cell x c hc;refine wpAny_storeName_cell I.ok.kind hk hc z (λh' hc' hs=>?_);obtain ⟨oc,hoc,hocd⟩:=id z;refine h { s with heap:=h' } ⟨I.ok,I.os,I.bare,⟨λb o e n hb hx=>?_,λb o e n hb hx=>?_,I.base.free,λb o e hx=>?_,I.base.tups,I.base.frzs,I.base.tbls⟩,⟨m,hn.sameBut hs (CS (cne x c hc)),λj y v' e1 e2 e3=>?_⟩,λy c' e=>?_,I.free,I.freeC,λp hp=>?_,tracked ⟨oc,hoc,I.freeC x c hc⟩ hs,by simpa using I.len⟩ ⟨c,hs,.inr hc⟩
  ·exact (hs.2 b (Ax (Ad (Aa e) (I.ok.cab x c hfn hc)))).trans (I.base.keep b o e n hb hx)
  ·obtain ⟨sl,e1⟩:=I.base.slot b o e n hb hx
   exact ⟨sl,(hs.2 b (Ax (Ad (Aa e) (I.ok.cab x c hfn hc)))).trans e1⟩
  ·obtain ⟨o',e1⟩:=I.base.there b o e hx
   exact ⟨o',(hs.2 b (Ax (Ad (Aa e) (I.ok.cab x c hfn hc)))).trans e1⟩
  ·by_cases hj:j=i
   ·subst hj
    rw [hi] at e1;cases e1;rw [As hiσ] at e2;cases e2;exact ⟨u,r,.inr ⟨.inl hk,c,hc,hc'⟩⟩
   ·rw [A9 (CS hj)] at e2
    obtain ⟨u',r',q⟩:=hl j y v' e1 e2 e3;refine ⟨u',r',?_⟩
    rcases q with q | ⟨k,c',e,z'⟩
    ·exact .inl q
    ·refine .inr ⟨k,c',e,z'.sameBut hs ?_⟩
     rintro rfl;exact hj (Ni hN e1 (I.ok.inj _ _ _ e hc▸hi))
  ·by_cases hcc:c'=c
   ·subst hcc;exact ⟨_,hc'⟩
   ·obtain ⟨w2,z2⟩:=I.cell y c' e
    exact ⟨w2,z2.sameBut hs hcc⟩
  ·obtain ⟨e,n,ne,nf,d⟩:=I.pin p hp
   refine ⟨(hs.2 p.1 ?_).trans e,n,ne,nf,d⟩;intro q;rw [q,hoc] at e;have q':oc=p.2:=DW e;exact d w' (by rw [<-q'];exact hocd)
theorem NR {M:OS} {A:A8} {E:AD->AF->Prop} {i:Nat} {x:Str} {v:V} {u:AD} {Q:Unit->AF->Prop} (I:Inv X pins σ H s) (hN:X.N.Nodup) (hi:X.N[i]?=some x) (hx:Loc X.env.scope x) (r:RelV v u)
  (h:∀s',Inv X pins (σ.set i (some v)) H s'->Q () s') (hf:X.fn x=true∨X.env.scope.names.lookup x=some .local:=by first | exact .inl rfl | exact .inr rfl | assumption):Ah M A (storeName X.env x u) Q E s:=
 O6 I hN hi hx r (λs' I' _=>h s' I') hf
theorem Inv.call' {s':AF} {ch:List AI} (I:Inv X pins σ H s) (ho:s'.os=s.os) (u:Un (frs X.stack) ch H H' s.heap s'.heap) (hok:HOk X.prog X.w H' s'.heap) (hg:HG s'.gens)
  (hch:∀b∈ch,(b∈X.ex∨X.s₀.heap.objs.size<=b)/\b≠X.env.locals/\(∀x c,X.env.cells.lookup x=some c->c≠b)/\∀p∈X.pn++pins,p.1≠b):Inv X pins σ H' s':=by
 obtain ⟨h',g',d',t',o'⟩:=s';have e:o'=s.os:=ho;subst e;exact I.call (g':=g') (t':=t') (d':=d') u hok hg hch
end
abbrev XK:=AD->Option AI->Hp->Prop
abbrev St:=List (Option V)
abbrev VK:=V->Hp->Prop
abbrev TE:=St->Hp->VK->Prop
abbrev TT:=St->Hp->(Bool->Hp->Prop)->Prop
abbrev TA:=St->Hp->(List V->Hp->Prop)->Prop
structure R4 where
 nx:St->Hp->Prop
 rt:VK
 bk:St->Hp->Prop:=λ_ _=>False
 ct:St->Hp->Prop:=λ_ _=>False
abbrev TS:=R4->St->Hp->Prop
def EP (X:Cx) (pins:List (AI×Obj)) (σ:St) (Q:VK) (u:AD) (s':AF):Prop:=∃v H',Inv X pins σ H' s'/\RelV v u/\Q v H'
def TP (X:Cx) (pins:List (AI×Obj)) (σ:St) (Q:Bool->Hp->Prop) (b:Bool) (s':AF):Prop:=∃H',Inv X pins σ H' s'/\Q b H'
def AP (X:Cx) (pins:List (AI×Obj)) (σ:St) (Q:List V->Hp->Prop) (us:List AD) (s':AF):Prop:=∃vs H',Inv X pins σ H' s'/\BU vs us/\Q vs H'
def SP (X:Cx) (pins:List (AI×Obj)) (D:R4) (f:Flow) (s':AF):Prop:=
 match f with
 | .next=>∃σ' H',Inv X pins σ' H' s'/\D.nx σ' H'
 | .brk=>∃σ' H',Inv X pins σ' H' s'/\D.bk σ' H'
 | .cont=>∃σ' H',Inv X pins σ' H' s'/\D.ct σ' H'
 | .ret u=>∃v σ' H',Inv X pins σ' H' s'/\RelV v u/\D.rt v H'
def PE (X:Cx) (e:Expr) (t:TE):Prop:=
 ∀(pins:List (AI×Obj)) (s:AF) (σ:St) (H:Hp) (Q:VK),Inv X pins σ H s->t σ H Q->Ah (AW X.prog X.w) X.A (B0 e X.env) (EP X pins σ Q) X.xe s
def PT (X:Cx) (e:Expr) (t:TT):Prop:=
 ∀(pins:List (AI×Obj)) (s:AF) (σ:St) (H:Hp) (Q:Bool->Hp->Prop),Inv X pins σ H s->t σ H Q->Ah (AW X.prog X.w) X.A (SI e X.env (B0 e X.env)) (TP X pins σ Q) X.xe s
def PW (X:Cx) (e:Expr) (t:TT):Prop:=
 ∀(whole:Sem AD) (pins:List (AI×Obj)) (s:AF) (σ:St) (H:Hp) (Q:Bool->Hp->Prop),Inv X pins σ H s->t σ H Q->Ah (AW X.prog X.w) X.A (SI e X.env whole) (TP X pins σ Q) X.xe s
theorem PW.pt {X:Cx} {e:Expr} {t:TT} (h:PW X e t):PT X e t:=h _
def PA (X:Cx) (es:List Expr) (t:TA):Prop:=
 ∀(pos:Pos) (pins:List (AI×Obj)) (s:AF) (σ:St) (H:Hp) (Q:List V->Hp->Prop),Inv X pins σ H s->t σ H Q->Ah (AW X.prog X.w) X.A (spliced (Ej pos (AX es X.env))) (AP X pins σ Q) X.xe s
def PS (X:Cx) (st:Cp) (t:TS):Prop:=
 ∀(pins:List (AI×Obj)) (s:AF) (σ:St) (H:Hp) (D:R4),Inv X pins σ H s->t D σ H->Ah (AW X.prog X.w) X.A (exec st X.env) (SP X pins D) X.xe s
def PSs (X:Cx) (st:List Cp) (t:TS):Prop:=
 ∀(pins:List (AI×Obj)) (s:AF) (σ:St) (H:Hp) (D:R4),Inv X pins σ H s->t D σ H->Ah (AW X.prog X.w) X.A (execs st X.env) (SP X pins D) X.xe s
theorem thn {α:Type} {t:Sem α} {Q Q':α->AF->Prop} {M:OS} {A:A8} {E:AD->AF->Prop} {s:AF} (h:Ah M A t Q E s) (hQ:∀a s,Q a s->Q' a s):Ah M A t Q' E s:=Eh h hQ λ_ _ x=>x
end L2
namespace L2
open PySem PySem.Spec PyProof.Rows
section
variable {X:Cx}
def bf (i:Nat):TE:=λσ H Q=>∃v,σ[i]?=some (some v)/\Q v H
def tC (v:V):TE:=λ_ H Q=>Q v H
theorem cJ {i:Nat} {x:Str} {pos:Pos} (hN:X.N[i]?=some x) (hv:Vis X.env.scope x) (hd:(x==("__debug__" : Str))=false:=by decide) (hcd:(x==("__classdict__" : Str))=false:=by decide):PE X (.Name x pos) (bf i):=by
 intro pins s σ H Q I h;obtain ⟨v,e,h⟩:=h;obtain ⟨m,hn,hl⟩:=I.loc;obtain ⟨u,r,l⟩:=hl i x v hN e hv;have fin:EP X pins σ Q u s:=⟨v,H,I,r,h⟩
 rcases l with ⟨hk,hm⟩ | ⟨hk,c,hc,hcell⟩
 ·exact bG (wpAny_loadName_local I.ok.kind hk hn hm fin) hd
 ·rcases hk with hk | hk
  ·exact bG (wpAny_loadName_cell I.ok.kind hk hc hcell fin) hd
  ·exact bG (wpAny_loadName_free I.ok.kind hk hc hcell fin hcd) hd
theorem cO {i j pos}:PE X (.Constant (.int i) j pos) (tC (.int i)):=λ_ _ _ H _ I h=>wpAny_Constant_int ⟨.int i,H,I.tok _,⟨_,rfl⟩,h⟩
theorem ff {b j pos}:PE X (.Constant (.bool b) j pos) (tC (.bl b)):=λ_ _ _ H _ I h=>Constant_bool ⟨.bl b,H,I,rfl,h⟩
theorem cM {j pos}:PE X (.Constant .none j pos) (tC .non):=λ_ _ _ H _ I h=>Constant_none ⟨.non,H,I,rfl,h⟩
theorem cK {x j pos}:PE X (.Constant (.str x) j pos) (tC (.str x)):=λ_ _ _ H _ I h=>Calls.Constant_str ⟨.str x,H,I.tok _,⟨_,rfl⟩,h⟩
def Gl (X:Cx) (x:Str):Prop:=X.env.kindOf x=some .globalImplicit
theorem Kr {E:AD->AF->Prop} {pins:List (AI×Obj)} {s:AF} {σ:St} {H:Hp} {x:Str} {u:AD} {pos:Pos} {Q:AD->AF->Prop} (I:Inv X pins σ H s) (hg:Gl X x) (hm:X.mg x=some u) (h:Q u s)
  (hd:(x==("__debug__" : Str))=false:=by decide):Ah (AW X.prog X.w) X.A (B0 (.Name x pos) X.env) Q E s:=
 OU I.ok.kind hg (Calls.loadGlobal_global (by rw [I.ok.glob];exact I.mod.glob.keeps I.bk) hm h) hd
theorem IV {E:AD->AF->Prop} {pins:List (AI×Obj)} {s:AF} {σ:St} {H:Hp} {x:Str} {u:AD} {pos:Pos} {Q:AD->AF->Prop} (I:Inv X pins σ H s) (hg:Gl X x) (hm:X.mg x=none) (hv:FW x=some u) (h:Q u s)
  (hn:x≠"__name__":=by decide) (hd:(x==("__debug__" : Str))=false:=by decide):Ah (AW X.prog X.w) X.A (B0 (.Name x pos) X.env) Q E s:=by
 obtain ⟨mb,h1,h2⟩:=I.mod.blt;exact OU I.ok.kind hg (Calls.loadGlobal_builtin (by rw [I.ok.glob];exact I.mod.glob.keeps I.bk) hm (by rw [I.ok.blt];exact h1.keeps I.bk) ((h2 x hn).trans hv) h) hd
theorem HU {x:Str} {v:V} {u:AD} {pos:Pos} (hg:Gl X x) (hm:X.mg x=some u) (r:RelV v u) (hd:(x==("__debug__" : Str))=false:=by decide):PE X (.Name x pos) (tC v):=
 λ_ _ _ H _ I h=>Kr I hg hm ⟨v,H,I,r,h⟩ hd
theorem Zc {x:Str} {v:V} {u:AD} {pos:Pos} (hg:Gl X x) (hm:X.mg x=none) (hv:FW x=some u) (r:RelV v u) (hn:x≠"__name__":=by decide) (hd:(x==("__debug__" : Str))=false:=by decide):PE X (.Name x pos) (tC v):=
 λ_ _ _ H _ I h=>IV I hg hm hv ⟨v,H,I,r,h⟩ hn hd
variable {a b:Expr} {ta tb:TE} {pos:Pos}
def PC (X:Cx) (op:Qu) (a b:Expr) (t:TE):Prop:=
 ∀(pins:List (AI×Obj)) (s:AF) (σ:St) (H:Hp) (Q:VK),Inv X pins σ H s->t σ H Q ->
  Ah (AW X.prog X.w) X.A (B0 a X.env) (λv s₁=>Ah (AW X.prog X.w) X.A (B0 b X.env) (λu s₂=>Ah (AW X.prog X.w) X.A (Bd op v u) (EP X pins σ Q) X.xe s₂) X.xe s₁) X.xe s
def tB (t:TE):TT:=λσ H Q=>t σ H λx H1=>∃c,x=.bl c/\Q c H1
theorem cQ {op:Qu} {t:TE} (h:PC X op a b t) (h1:CI op b=false:=by first | exact nobehind _ (by decide) (by decide) | rfl):PE X (.Compare a [op] [b] pos) t:=λpins s σ H Q I hw=>wpAny_Compare1 (h pins s σ H Q I hw) h1
theorem W8 {op:Qu} {t:TE} (h:PC X op a b t) (h1:CI op b=false:=by first | exact nobehind _ (by decide) (by decide) | rfl):PT X (.Compare a [op] [b] pos) (tB t):=by
 intro pins s σ H Q I hw;refine Yb (thn (h pins s σ H _ I hw) λv s1 h1=>thn h1 λu s2 h2=>thn h2 λc s3 ⟨x,H1,I1,r1,q1⟩=>?_) h1;obtain ⟨d,rfl,q⟩:=q1;cases r1;exact Co ⟨H1,I1,q⟩
theorem cA {e:Expr} {t:TE} (h:PE X e t) (he:∀whole,SI e X.env whole=(do let v <-whole;eJ e.pos;eM [v] (bI v)):=by intro _;rfl):PT X e (tB t):=by
 intro pins s σ H Q I hw;refine isTrue_plain (thn (h pins s σ H _ I hw) λv s1 ⟨x,H1,I1,r1,q1⟩=>?_) (he _);obtain ⟨d,rfl,q⟩:=q1;cases r1;exact Co ⟨H1,I1,q⟩
variable {tA tB':TT} {rest:List Expr}
def fM (t u:TT):TT:=λσ H Q=>t σ H λc H1=>if c=true then u σ H1 Q else Q false H1
def tOr (t u:TT):TT:=λσ H Q=>t σ H λc H1=>if c=true then Q true H1 else u σ H1 Q
def tNot (t:TT):TT:=λσ H Q=>t σ H λc H1=>Q (!c) H1
theorem ZG (ha:PT X a tA):PW X (.BoolOp .And [a] pos) tA:=by
 intro wh pins s σ H Q I h;refine isTrue_and (thn (ha pins s σ H Q I h) λc s1 e=>?_)
 cases c with
 | true=>exact isTrue_and_nil e
 | false=>exact e
theorem bw (ha:PT X a tA):PW X (.BoolOp .Or [a] pos) tA:=by
 intro wh pins s σ H Q I h;refine isTrue_or (thn (ha pins s σ H Q I h) λc s1 e=>?_)
 cases c with
 | false=>exact isTrue_or_nil e
 | true=>exact e
theorem bx (ha:PT X a tA) (hb:PW X (.BoolOp .And (b :: rest) pos) tB'):PW X (.BoolOp .And (a :: b :: rest) pos) (fM tA tB'):=by
 intro wh pins s σ H Q I h;refine isTrue_and (thn (ha pins s σ H _ I h) λc s1 ⟨H1,I1,q1⟩=>?_)
 cases c with
 | true=>exact hb wh pins s1 σ H1 Q I1 q1
 | false=>exact ⟨H1,I1,q1⟩
theorem fW (ha:PT X a tA) (hb:PW X (.BoolOp .Or (b :: rest) pos) tB'):PW X (.BoolOp .Or (a :: b :: rest) pos) (tOr tA tB'):=by
 intro wh pins s σ H Q I h;refine isTrue_or (thn (ha pins s σ H _ I h) λc s1 ⟨H1,I1,q1⟩=>?_)
 cases c with
 | true=>exact ⟨H1,I1,q1⟩
 | false=>exact hb wh pins s1 σ H1 Q I1 q1
theorem cB (ha:PT X a tA):PT X (.UnaryOp .Not a pos) (tNot tA):=by
 intro pins s σ H Q I h;exact isTrue_not (ha pins s σ H (λc H1=>Q (!c) H1) I h)
def fL (ta tb:TE):TE:=λσ H Q=>ta σ H λx H1=>∃c,x=.bl c/\if c=true then tb σ H1 Q else Q (.bl false) H1
theorem cL {op} {t:TE} (h:PE X a t):PE X (.BoolOp op [a] pos) t:=λpins s σ H Q I hw=>BoolOp_one (h pins s σ H Q I hw)
theorem cS (ha:PE X a ta) (hb:PE X (.BoolOp .And (b :: rest) pos) tb):PE X (.BoolOp .And (a :: b :: rest) pos) (fL ta tb):=by
 intro pins s σ H Q I h;refine BoolOp_and (thn (ha pins s σ H _ I h) λv s1 ⟨x,H1,I1,r1,q1⟩=>?_);obtain ⟨c,rfl,q1⟩:=q1;cases r1;refine Co ?_
 cases c with
 | true=>exact hb pins s1 σ H1 Q I1 q1
 | false=>exact ⟨.bl false,H1,I1,rfl,q1⟩
def tIf (t:TT) (ta tb:TE):TE:=λσ H Q=>t σ H λc H1=>if c=true then ta σ H1 Q else tb σ H1 Q
theorem XJ {c:Expr} (hc:PT X c tA) (ha:PE X a ta) (hb:PE X b tb):PE X (.IfExp c a b pos) (tIf tA ta tb):=by
 intro pins s σ H Q I h;refine wpAny_IfExp (thn (hc pins s σ H _ I h) λd s1 ⟨H1,I1,q1⟩=>?_)
 cases d with
 | true=>exact ha pins s1 σ H1 Q I1 q1
 | false=>exact hb pins s1 σ H1 Q I1 q1
end
end L2
namespace L2
open PySem PySem.Spec PyProof.Rows
def SqL (K:AA) (H:Hp) (a:AI) (xs:List V):Prop:=
 Rd H a (.lst xs) ∨
  ∃(o:Obj) (its:Array AD) (n:Nat),K.lookup a=some o/\o.cls=.type "list"/\o.dict=none/\o.data=.seq its n/\its.size<=sizeLine/\BU xs its.toList
def SqT (K:AA) (H:Hp) (a:AI) (xs:List V):Prop:=
 Rd H a (.tup xs) ∨
  ∃(o:Obj) (its:Array AD) (n:Nat),K.lookup a=some o/\o.cls=.type "tuple"/\o.data=.seq its n/\its.size<=sizeLine/\BU xs its.toList
def absV:AD->Option V
 | .none=>some .non
 | .bool b=>some (.bl b)
 | .int i _=>some (.int i)
 | .str x _=>some (.str x)
 | .bytes b _=>some (.byt b)
 | .float b _=>some (.flt b)
 | .ref a=>some (.ref a)
 | .type n=>some (.ty n)
 | _=>none
theorem RelV.abs {x:V} {u:AD} (r:RelV x u):absV u=some x:=by
 cases x with
 | non=>cases r;rfl
 | bl _=>cases r;rfl
 | int _=>obtain ⟨t,rfl⟩:=r;rfl
 | str _=>obtain ⟨t,rfl⟩:=r;rfl
 | byt _=>obtain ⟨t,rfl⟩:=r;rfl
 | flt _=>obtain ⟨t,rfl⟩:=r;rfl
 | ref _=>cases r;rfl
 | ty _=>cases r;rfl
theorem RelV.inj {x y:V} {u:AD} (r:RelV x u) (q:RelV y u):x=y:=DW (r.abs.symm.trans q.abs)
theorem BU.inj:∀ {xs ys:List V} {us:List AD},BU xs us->BU ys us->xs=ys
 | _,_,_,.nil,.nil=>rfl
 | _,_,_,.cons r t,.cons r' t'=>by rw [r.inj r',BU.inj t t']
section
variable {X:Cx} {pins:List (AI×Obj)} {σ:St} {H:Hp} {s:AF} {a:AI} {xs ys:List V}
theorem Inv.list (I:Inv X pins σ H s) (h:SqL X.K H a xs):∃its:List AD,BU xs its/\PlainL s.heap a its.toArray/\xs.length<=sizeLine:=by
 rcases h with h | ⟨o,its,n,hk,hc,hd,hs,hz,r⟩
 ·obtain ⟨z,its,n,r,e⟩:=h.ok I.hok
  exact ⟨its,r,⟨_,n,e,rfl,rfl,rfl⟩,z⟩
 ·refine ⟨its.toList,r,⟨o,n,I.kIn a o hk,hc,hd,by simpa using hs⟩,?_⟩
  have e:=r.length;simp only [Bo] at e;omega
theorem Inv.tuple (I:Inv X pins σ H s) (h:SqT X.K H a xs):∃its:List AD,BU xs its/\eU s.heap a its.toArray/\xs.length<=sizeLine:=by
 rcases h with h | ⟨o,its,n,hk,hc,hs,hz,r⟩
 ·obtain ⟨z,its,r,p⟩:=h.ok I.hok
  exact ⟨its,r,p,z⟩
 ·refine ⟨its.toList,r,⟨o,I.kIn a o hk,hc,n,by simpa using hs⟩,?_⟩
  have e:=r.length;simp only [Bo] at e;omega
theorem Inv.list_inj (I:Inv X pins σ H s) (h:SqL X.K H a xs) (h':SqL X.K H a ys):xs=ys:=by
 obtain ⟨its,r,⟨o,n,e,_,_,d⟩,_⟩:=I.list h;obtain ⟨its',r',⟨o',n',e',_,_,d'⟩,_⟩:=I.list h';rw [e] at e';cases e';rw [d] at d'
 injection d' with d1 _
 have:its=its':=by simpa using congrArg bV d1
 subst this;exact r.inj r'
theorem Inv.tuple_inj (I:Inv X pins σ H s) (h:SqT X.K H a xs) (h':SqT X.K H a ys):xs=ys:=by
 obtain ⟨its,r,⟨o,e,_,n,d⟩,_⟩:=I.tuple h;obtain ⟨its',r',⟨o',e',_,n',d'⟩,_⟩:=I.tuple h';rw [e] at e';cases e';rw [d] at d'
 injection d' with d1 _
 have:its=its':=by simpa using congrArg bV d1
 subst this;exact r.inj r'
end
section
variable {X:Cx} {pins:List (AI×Obj)} {σ:St} {H:Hp} {s:AF} {E:AD->AF->Prop}
end
section
variable {X:Cx} {st:Cp} {rest:List Cp} {t u:TS} {e:Expr} {te:TE} {pos:Pos}
def fE:TS:=λD σ H=>D.nx σ H
def tSeq (t u:TS):TS:=λD σ H=>t { D with nx:=u D } σ H
theorem ZL:PSs X [] fE:=λ_ _ σ H _ I h=>KM ⟨σ,H,I,h⟩
theorem XA (h1:PS X st t) (h2:PSs X rest u):PSs X (st :: rest) (tSeq t u):=by
 intro pins s σ H D I h;refine ed (thn (h1 pins s σ H { D with nx:=u D } I h) λf s1 q=>?_)
 cases f with
 | next=>
  obtain ⟨σ',H',I',q⟩:=q;exact h2 pins s1 σ' H' D I' q
 | ret v=>exact q
 | brk=>exact q
 | cont=>exact q
theorem ZK (h1:PS X st t):PSs X [st] t:=by
 intro pins s σ H D I h;refine ed (thn (h1 pins s σ H D I h) λf s1 q=>?_)
 cases f with
 | next=>exact KM q
 | ret v=>exact q
 | brk=>exact q
 | cont=>exact q
theorem Inv.quiet {pins:List (AI×Obj)} {σ:St} {H:Hp} {s:AF} (I:Inv X pins σ H s):interactive X.env=false:=by simp [interactive,I.ok.kind]
def fG (te:TE):TS:=λD σ H=>te σ H λ_ H1=>D.nx σ H1
theorem ZM (he:PE X e te) (hs:FV e none pos.line X.env=pure false:=by rfl):PS X (.Expr e pos) (fG te):=by
 intro pins s σ H D I h;exact wpAny_Expr_any (thn (he pins s σ H _ I h) λv s1 ⟨x,H1,I1,r1,q1⟩=>⟨σ,H1,I1,q1⟩) I.quiet hs
def tRet (te:TE):TS:=λD σ H=>te σ H D.rt
theorem cD (he:PE X e te):PS X (.Return (some e) pos) (tRet te):=by
 intro pins s σ H D I h;exact wpAny_Return_some (thn (he pins s σ H _ I h) λv s1 ⟨x,H1,I1,r1,q1⟩=>⟨x,σ,H1,I1,r1,q1⟩)
def tIfS (c:TT) (t u:TS):TS:=λD σ H=>c σ H λb H1=>if b=true then t D σ H1 else u D σ H1
theorem fX {c:Expr} {a b:List Cp} {tc:TT} (hc:PT X c tc) (ha:PSs X a t) (hb:PSs X b u):PS X (.If c a b pos) (tIfS tc t u):=by
 intro pins s σ H D I h;refine wpAny_If (thn (hc pins s σ H _ I h) λd s1 ⟨H1,I1,q1⟩=>?_)
 cases d with
 | true=>exact ha pins s1 σ H1 D I1 q1
 | false=>exact hb pins s1 σ H1 D I1 q1
end
abbrev TG:=V->St->Hp->(St->Hp->Prop)->Prop
abbrev TGs:=List V->St->Hp->(St->Hp->Prop)->Prop
def PG (X:Cx) (target:Expr) (t:TG):Prop:=
 ∀(pins:List (AI×Obj)) (s:AF) (σ:St) (H:Hp) (v:V) (u:AD) (Q:St->Hp->Prop),Inv X pins σ H s->RelV v u->t v σ H Q ->
  Ah (AW X.prog X.w) X.A (M6 target X.env u) (λ_ s'=>∃σ' H',Inv X pins σ' H' s'/\Q σ' H') X.xe s
def PGs (X:Cx) (ts:List Expr) (t:TGs):Prop:=
 ∀(pins:List (AI×Obj)) (s:AF) (σ:St) (H:Hp) (vs:List V) (us:List AD) (Q:St->Hp->Prop),Inv X pins σ H s->BU vs us->t vs σ H Q ->
  Ah (AW X.prog X.w) X.A (assignInOrder ((Ek ts X.env).map (·.2)) us) (λ_ s'=>∃σ' H',Inv X pins σ' H' s'/\Q σ' H') X.xe s
section
variable {X:Cx} {pos:Pos}
def UY (i:Nat):TG:=λv σ H Q=>Q (σ.set i (some v)) H
theorem ZV {i:Nat} {x:Str} (hN:X.N.Nodup) (hi:X.N[i]?=some x) (hx:Loc X.env.scope x) (hf:X.fn x=true∨X.env.scope.names.lookup x=some .local:=by first | exact .inl rfl | exact .inr rfl | assumption):PG X (.Name x pos) (UY i):=by
 intro pins s σ H v u Q I r h;exact eG (NR I hN hi hx r (λs' I'=>⟨_,H,I',h⟩) hf)
def gNil:TGs:=λvs σ H Q=>vs=[]/\Q σ H
def gf (t:TG) (u:TGs):TGs:=λvs σ H Q=>∃v r,vs=v :: r/\t v σ H λσ' H'=>u r σ' H' Q
theorem ZU:PGs X [] gNil:=by
 intro pins s σ H vs us Q I r h;obtain ⟨e,h⟩:=h;subst e;cases r;exact assignInOrder_nil ⟨σ,H,I,h⟩
theorem XF {e:Expr} {es:List Expr} {t:TG} {u:TGs} (h1:PG X e t) (h2:PGs X es u)
  (hs:(Ek (e :: es) X.env).map (·.2)=M6 e X.env :: (Ek es X.env).map (·.2):=by rfl):PGs X (e :: es) (gf t u):=by
 intro pins s σ H vs us Q I r h;obtain ⟨v,vr,e1,h⟩:=h;subst e1
 cases r with
 | cons r rr=>
  rw [hs];refine assignInOrder_cons (thn (h1 pins s σ H _ _ _ I r h) λ_ s1 ⟨σ1,H1,I1,q1⟩=>?_);exact h2 pins s1 σ1 H1 _ _ Q I1 rr q1
def gTup (K:AA) (n:Nat) (t:TGs):TG:=λv σ H Q=>∃a xs,v=.ref a/\SqT K H a xs/\xs.length=n/\t xs σ H Q
theorem cI {es:List Expr} {k:Nat} {t:TGs} {n:Nat} (hc:X.calm=true) (h:PGs X es t)
  (hn:(Ek es X.env).length=n:=by rfl) (hst:(Ek es X.env).findIdx? (·.1)=none:=by rfl):PG X (.Tuple es k pos) (gTup X.K n t):=by
 intro pins s σ H v u Q I r hw;obtain ⟨a,xs,e1,hq,hl,hw⟩:=hw;subst e1;cases r;obtain ⟨its,rv,ht,hz⟩:=I.tuple hq
 refine assign_Tuple_tuple (I.ok.hd hc) ht (by simp [hn,<-hl,rv.length]) hst λh' hx=>?_
 have I1:Inv X pins σ H { s with heap:=h' }:=I.kept (t':=s.toks) λb o e=>hx b o (Ax (Aa e)) e
 exact h pins _ σ H xs _ Q I1 (by simpa using rv) hw
def bj (te:TE) (g:TG):TS:=λD σ H=>te σ H λx H1=>g x σ H1 D.nx
theorem cG {tg e:Expr} {te:TE} {g:TG} (he:PE X e te) (hg:PG X tg g) (hs:swapsWithSole [tg] e pos.line X.env=pure false:=by rfl) (hw:swappedStores [tg] e X.env=pure none:=by rfl)
  (h1:(Ek [tg] X.env).map (·.2)=[M6 tg X.env]:=by rfl):PS X (.Assign [tg] e pos) (bj te g):=by
 intro pins s σ H D I h;refine wpAny_Assign_stores (thn (he pins s σ H _ I h) λv s1 ⟨x,H1,I1,r1,q1⟩=>?_) hs hw;rw [h1]
 exact thn (hg pins s1 σ H1 x v _ I1 r1 q1) λ_ s2 q=>q
theorem cC {i:Nat} {x:Str} {e:Expr} {te:TE} {pos':Pos} (hN:X.N.Nodup) (hi:X.N[i]?=some x) (hx:Loc X.env.scope x) (he:PE X e te) (hs:FV e (some (.Name x pos')) pos.line X.env=pure false:=by rfl) (hf:X.fn x=true∨X.env.scope.names.lookup x=some .local:=by first | exact .inl rfl | exact .inr rfl | assumption) :
  PS X (.Assign [.Name x pos'] e pos) (bj te (UY i)):=by
 intro pins s σ H D I h;refine wpAny_Assign_Name (thn (he pins s σ H _ I h) λv s1 ⟨y,H1,I1,r1,q1⟩=>?_) hs;exact NR I1 hN hi hx r1 (λs2 I2=>⟨_,H1,I2,q1⟩) hf
end
section
variable {X:Cx} {pos:Pos}
end
structure It where
 go:Nat->Hp->Prop
 yld:Nat->Hp->V->Hp->Prop
 stop:Nat->Hp->Prop
def KI (X:Cx) (pins:List (AI×Obj)) (H:Hp) (b:AI):Prop:=
 H b=none/\b≠X.env.locals/\b∉X.fs/\(b∈X.ex∨X.s₀.heap.objs.size<=b)/\(∀x c,X.env.cells.lookup x=some c->c≠b)/\∀p∈X.pn++pins,p.1≠b
theorem Inv.fpOk {X:Cx} {pins:List (AI×Obj)} {σ:St} {H H':Hp} {s:AF} {b:AI} (I:Inv X pins σ H s) (hb:s.heap.objs.size<=b) (hn:H' b=none):KI X pins H' b:=by
 refine ⟨hn,MZ (Ad I.lt hb),I.nofs hb,.inr (Aq I.sz hb),λx c e z=>?_,λp hp z=>?_⟩
 ·obtain ⟨v,q⟩:=I.cell x c e
  exact absurd (Ad q.lt (by rw [z];exact hb)) (Dl _)
 ·exact absurd (Ad (Aa (I.pin p hp).1) (by rw [z];exact hb)) (Dl _)
structure Qg (P:Ar) (w:BG) (K:AA) (tg:Expr) (J:It) (fp:List AI) (it:AI) (tn:Nat->Bk->Prop):Prop where
 mem:it∈fp
 obj:∀i h,tn i h->∀b∈fp,∃o,h.get? b=some o/\∀v,o.data≠.cell v
 keep:∀i h h',tn i h->(∀b∈fp,∀o,h.get? b=some o->h'.get? b=some o)->tn i h'
 item:∀(X:Cx),X.prog=P->X.w=w->X.K=K->X.calm=true->∀(i:Nat) (pins:List (AI×Obj)) (s:AF) (σ:St) (H:Hp) (E:AD->AF->Prop),Inv X pins σ H s->(∀b∈fp,KI X pins H b)->tn i s.heap->J.go i H ->
  Ah (AW P w) X.A (Ph (.ref it)) (λr s1=>∃u,r=some u /\
   Ah (AW P w) X.A (KN tg (.ref it) u) (λ_ s2=>∃x H',Inv X pins σ H' s2/\RelV x u/\J.yld i H x H'/\tn (i+1) s2.heap/\∀b∈fp,H' b=none) E s1) E s
 done:∀(X:Cx),X.prog=P->X.w=w->X.K=K->X.calm=true->∀(i:Nat) (pins:List (AI×Obj)) (s:AF) (σ:St) (H:Hp) (E:AD->AF->Prop),Inv X pins σ H s->(∀b∈fp,KI X pins H b)->tn i s.heap->J.stop i H ->
  Ah (AW P w) X.A (Ph (.ref it)) (λr s1=>r=none/\Inv X pins σ H s1) E s
 self:∀(A:A8) (i:Nat) (s:AF) (Q:AD->AF->Prop) (E:AD->AF->Prop),tn i s.heap->Q (.ref it) s->Ah (AW P w) A (bK (.ref it)) Q E s
abbrev TI:=St->Hp->(It->Hp->Prop)->Prop
def PIE (X:Cx) (pins:List (AI×Obj)) (σ:St) (tg:Expr) (R:It->Hp->Prop) (itv:AD) (s2:AF):Prop:=
 ∃(it:AI) (fp:List AI) (tn:Nat->Bk->Prop) (J:It) (H':Hp),itv=.ref it/\Inv X pins σ H' s2/\Qg X.prog X.w X.K tg J fp it tn/\tn 0 s2.heap/\(∀b∈fp,KI X pins H' b)/\R J H'
def PI (X:Cx) (tg iter:Expr) (wi:TI):Prop:=
 ∀(pins:List (AI×Obj)) (s:AF) (σ:St) (H:Hp) (R:It->Hp->Prop),Inv X pins σ H s->wi σ H R ->
  Ah (AW X.prog X.w) X.A (B0 iter X.env) (λv s1=>Ah (AW X.prog X.w) X.A (bK v) (PIE X pins σ tg R) X.xe s1) X.xe s
theorem UR {M:OS} {A:A8} {E:AD->AF->Prop} {s:AF} {tg:Expr} {it:AI} {u:AD} {o:Obj} {n:String} {vs:Array AD} {Q:Unit->AF->Prop} (ho:s.heap.get? it=some o) (hc:o.cls=.type n) (hd:o.data=.fields vs)
  (hn:["enumerate", "zip", "dict_itemiterator", "dict_reverseitemiterator", "odict_iterator", "itertools.zip_longest", "itertools.pairwise"].contains n=false) (hQ:Q () s):Ah M A (KN tg (.ref it) u) Q E s:=by
 unfold KN
 cases tg <;> first
  | exact AM hQ
  | (cases u <;> first
    | exact AM hQ
    | (refine AB (wpAny_load ho ?_)
       rw [hc,hd];show Ah M A (if (["enumerate", "zip", "dict_itemiterator", "dict_reverseitemiterator", "odict_iterator", "itertools.zip_longest", "itertools.pairwise"].contains n&&vs[0]?==some (ES _))=true then _ else _) Q E s;rw [if_neg (by intro h;rw [hn,Bool.false_and] at h;cases h)]
       exact AM hQ))
def Itl (K:AA) (a:AI):It:=
 ⟨λi H=>∃xs x,SqL K H a xs/\xs[i]?=some x,λi H x H'=>H'=H/\∀xs,SqL K H a xs->xs[i]?=some x,λi H=>∃xs,SqL K H a xs/\xs.length<=i⟩
def Itt (K:AA) (a:AI):It:=
 ⟨λi H=>∃xs x,SqT K H a xs/\xs[i]?=some x,λi H x H'=>H'=H/\∀xs,SqT K H a xs->xs[i]?=some x,λi H=>∃xs,SqT K H a xs/\xs.length<=i⟩
def Itr (lo:Int) (n:Nat):It:=⟨λi _=>i < n,λi H x H'=>H'=H/\x=.int (lo+i),λi _=>n<=i⟩
theorem U6 {P:Ar} {w:BG} {K:AA} {tg:Expr} (a it:AI):Qg P w K tg (Itl K a) [it] it (λi h=>h.IsListIter it a i) where
 mem:=by simp
 obj:=λi h st b hb=>by
  have e:b=it:=by simpa using hb
  subst e;obtain ⟨o,e,c,d⟩:=st;exact ⟨o,e,λv z=>by rw [d] at z;cases z⟩
 keep:=λi h h' st k=>st.at λo e=>k it (by simp) o e
 item:=by
  intro X hP hw hK hc i pins s σ H E I hf st hg;subst hP hw hK;obtain ⟨xs,x,hq,hx⟩:=hg;obtain ⟨its,rv,p,hz⟩:=I.list hq;obtain ⟨u,hu,ru⟩:=rv.get hx;obtain ⟨f0,f1,f2,f3,f4,f5⟩:=hf it (by simp)
  refine wpAny_pyNext_list_item st p.isList (x:=u) (by simpa using hu) λh' st' sb=>?_
  have I1:Inv X pins σ H { s with heap:=h' }:=I.turned (t':=s.toks) (λb o hb e=>(sb.2 b hb).trans e) f0 f1 f3 f4 f5;obtain ⟨o,e,c,d⟩:=id st';exact ⟨u,rfl,UR (s:={ s with heap:=h' }) e c d (by decide) ⟨x,H,I1,ru,⟨rfl,λys hy=>by rw [I.list_inj hy hq];exact hx⟩,st',λb hb=>(hf b hb).1⟩⟩
 done:=by
  intro X hP hw hK hc i pins s σ H E I hf st hg;subst hP hw hK;obtain ⟨xs,hq,hx⟩:=hg;obtain ⟨its,rv,p,hz⟩:=I.list hq;obtain ⟨f0,f1,f2,f3,f4,f5⟩:=hf it (by simp);have hl:=rv.length
  exact wpAny_pyNext_list_end (I.ok.hd hc) st p.isList (by simp;omega) λh' eb=>⟨rfl,I.turned (t':=s.toks) (λb o hb e=>eb b o hb e) f0 f1 f3 f4 f5⟩
 self:=λ_ _ _ _ _ st h=>wpAny_pyIter_listiter st h
theorem SY {P:Ar} {w:BG} {K:AA} {tg:Expr} (a it:AI):Qg P w K tg (Itt K a) [it] it (λi h=>h.IsTupleIter it a i) where
 mem:=by simp
 obj:=λi h st b hb=>by
  have e:b=it:=by simpa using hb
  subst e;obtain ⟨o,e,c,d⟩:=st;exact ⟨o,e,λv z=>by rw [d] at z;cases z⟩
 keep:=λi h h' st k=>st.at λo e=>k it (by simp) o e
 item:=by
  intro X hP hw hK hc i pins s σ H E I hf st hg;subst hP hw hK;obtain ⟨xs,x,hq,hx⟩:=hg;obtain ⟨its,rv,p,hz⟩:=I.tuple hq;obtain ⟨u,hu,ru⟩:=rv.get hx;obtain ⟨f0,f1,f2,f3,f4,f5⟩:=hf it (by simp)
  refine wpAny_pyNext_tuple_item st (show s.heap.IsTuple a its.toArray from p) (x:=u) (by simpa using hu) λh' st' sb=>?_
  have I1:Inv X pins σ H { s with heap:=h' }:=I.turned (t':=s.toks) (λb o hb e=>(sb.2 b hb).trans e) f0 f1 f3 f4 f5;obtain ⟨o,e,c,d⟩:=id st';exact ⟨u,rfl,UR (s:={ s with heap:=h' }) e c d (by decide) ⟨x,H,I1,ru,⟨rfl,λys hy=>by rw [I.tuple_inj hy hq];exact hx⟩,st',λb hb=>(hf b hb).1⟩⟩
 done:=by
  intro X hP hw hK hc i pins s σ H E I hf st hg;subst hP hw hK;obtain ⟨xs,hq,hx⟩:=hg;obtain ⟨its,rv,p,hz⟩:=I.tuple hq;obtain ⟨f0,f1,f2,f3,f4,f5⟩:=hf it (by simp);have hl:=rv.length
  exact wpAny_pyNext_tuple_end (I.ok.hd hc) st (show s.heap.IsTuple a its.toArray from p) (by simp;omega) λh' eb=>⟨rfl,I.turned (t':=s.toks) (λb o hb e=>eb b o hb e) f0 f1 f3 f4 f5⟩
 self:=λ_ _ _ _ _ st h=>wpAny_pyIter_tupleiter st h
theorem SZ {P:Ar} {w:BG} {K:AA} {tg:Expr} (it:AI) (lo:Int) (n:Nat):Qg P w K tg (Itr lo n) [it] it (λi h=>Qs h it (lo+(i:Nat) * 1) ((n:Int) - (i:Nat)) 1) where
 mem:=by simp
 obj:=λi h st b hb=>by
  have e:b=it:=by simpa using hb
  subst e
  exact ⟨_,st,λv z=>by
   have z':NG _=Q3 v:=z
   cases z'⟩
 keep:=λi h h' st k=>k it (by simp) _ st
 item:=by
  intro X hP hw hK hc i pins s σ H E I hf st hg;subst hP hw hK;obtain ⟨f0,f1,f2,f3,f4,f5⟩:=hf it (by simp);have W:=eN (prog:=X.prog) (w:=X.w) (I.ok.hd hc) it lo 1 n
  refine W.item i s _ _ hg st λv h' tk hv st' kk=>?_
  obtain ⟨t,rfl⟩:=hv;have I1:Inv X pins σ H { s with heap:=h',toks:=tk }:=I.turned (λb o hb e=>kk b o (by simpa using hb) e) f0 f1 f3 f4 f5;refine ⟨_,rfl,UR (s:={ s with heap:=h',toks:=tk }) (n:="range_iterator") st' rfl rfl (by decide) ⟨.int (lo+i),H,I1,⟨t,?_⟩,⟨rfl,rfl⟩,st',λb hb=>(hf b hb).1⟩⟩;rw [Int.mul_one]
 done:=by
  intro X hP hw hK hc i pins s σ H E I hf st hg;subst hP hw hK;obtain ⟨f0,f1,f2,f3,f4,f5⟩:=hf it (by simp)
  exact WQ (I.ok.hd hc) st (by have:n<=i:=hg;omega) λh' eb=>⟨rfl,I.turned (t':=s.toks) (λb o hb e=>eb b o hb e) f0 f1 f3 f4 f5⟩
 self:=λ_ _ _ _ _ st h=>WR st h
end L2
namespace L2
open PySem PySem.Spec PyProof.Rows
section
variable {X:Cx} {tg:Expr}
def gY (K:AA) (tl:TE):TI:=λσ H R=>tl σ H λx H1=>∃a,x=.ref a/\(∃xs,SqL K H1 a xs)/\R (Itl K a) H1
def iTup (K:AA) (tl:TE):TI:=λσ H R=>tl σ H λx H1=>∃a,x=.ref a/\(∃xs,SqT K H1 a xs)/\R (Itt K a) H1
theorem ZS {l:Expr} {tl:TE} (hl:PE X l tl):PI X tg l (gY X.K tl):=by
 intro pins s σ H R I h
 refine thn (hl pins s σ H _ I h) λv s1 ⟨x,H1,I1,r1,q1⟩=>?_
 obtain ⟨a,e,⟨xs,hq⟩,q⟩:=q1;subst e;cases r1;obtain ⟨its,rv,p,hz⟩:=I1.list hq;refine eE p.isList ?_;refine ⟨s1.heap.objs.size,[s1.heap.objs.size],_,_,H1,rfl,I1.kept (t':=s1.toks) λb o e=>AJ _ e,U6 a _,⟨_,Af _ rfl,rfl,rfl⟩,λb hb=>?_,q⟩
 have e:b=s1.heap.objs.size:=by simpa using hb
 subst e;exact I1.fpOk (AS _) (I1.hok.fresh (AS _))
theorem cH {l:Expr} {tl:TE} (hl:PE X l tl):PI X tg l (iTup X.K tl):=by
 intro pins s σ H R I h
 refine thn (hl pins s σ H _ I h) λv s1 ⟨x,H1,I1,r1,q1⟩=>?_
 obtain ⟨a,e,⟨xs,hq⟩,q⟩:=q1;subst e;cases r1;obtain ⟨its,rv,p,hz⟩:=I1.tuple hq;refine Fv (show s1.heap.IsTuple a its.toArray from p) ?_;refine ⟨s1.heap.objs.size,[s1.heap.objs.size],_,_,H1,rfl,I1.kept (t':=s1.toks) λb o e=>AJ _ e,SY a _,⟨_,Af _ rfl,rfl,rfl⟩,λb hb=>?_,q⟩
 have e:b=s1.heap.objs.size:=by simpa using hb
 subst e;exact I1.fpOk (AS _) (I1.hok.fresh (AS _))
theorem RO {pins:List (AI×Obj)} {σ:St} {H:Hp} {s:AF} {R:It->Hp->Prop} {E:AD->AF->Prop} {lo hi:Int} {t u v:Tok} {tk:Nat} (I:Inv X pins σ H s) (h1:-(2 ^ 62)<=lo) (h2:lo < 2 ^ 62) (h3:-(2 ^ 62)<=hi) (h4:hi < 2 ^ 62)
  (q:R (Itr lo (hi - lo).toNat) H):Ah (AW X.prog X.w) X.A (bK (.ref s.heap.objs.size)) (PIE X pins σ tg R) E { s with heap:=s.heap.push { cls:=.type "range",data:=.fields #[.int lo t,.int hi u,.int 1 v] },toks:=tk }:=by
 refine bF (Q1 ..) (small_one h1 h2 h3 h4) ?_
 have I1:Inv X pins σ H { s with heap:=s.heap.push { cls:=.type "range",data:=.fields #[.int lo t,.int hi u,.int 1 v] },toks:=tk }:=I.kept λb o e=>AJ _ e
 refine ⟨(s.heap.push { cls:=.type "range",data:=.fields #[.int lo t,.int hi u,.int 1 v] }).objs.size,[(s.heap.push { cls:=.type "range",data:=.fields #[.int lo t,.int hi u,.int 1 v] }).objs.size],_,_,H,rfl,
  I1.kept (t':=tk) λb o e=>AJ _ e,SZ _ lo (hi - lo).toNat,?_,λb hb=>?_,q⟩
 ·have e1:lo+((0:Nat):Int) * 1=lo:=by simp
  have e2:(((hi - lo).toNat:Nat):Int) - ((0:Nat):Int)=BV lo hi 1:=by rw [rangeSize_one];split <;> omega
  show Qs _ _ (lo+((0:Nat):Int) * 1) ((((hi - lo).toNat:Nat):Int) - ((0:Nat):Int)) 1;rw [e1,e2];exact Af _ rfl
 ·have e:b=(s.heap.push { cls:=.type "range",data:=.fields #[.int lo t,.int hi u,.int 1 v] }).objs.size:=by simpa using hb
  subst e;exact I1.fpOk (AS _) (I1.hok.fresh (AS _))
def gW (ta:TA):TI:=λσ H R=>ta σ H λvs H1=>∃j:Int,vs=[.int j]/\-(2 ^ 62)<=j/\j < 2 ^ 62/\R (Itr 0 j.toNat) H1
def gR (ta:TA):TI:=λσ H R=>ta σ H λvs H1=>∃i j:Int,vs=[.int i,.int j]/\(-(2 ^ 62)<=i/\i < 2 ^ 62/\-(2 ^ 62)<=j/\j < 2 ^ 62)/\R (Itr i (j - i).toNat) H1
theorem VP {a:Expr} {ta:TA} {p pos:Pos} (hg:Gl X "range") (hm:X.mg "range" = none) (ha:PA X [a] ta) (hs:AX [a] X.env=[(false,B0 a X.env)]:=by rfl):PI X tg (.Call (.Name "range" p) [a] [] pos) (gW ta):=by
 intro pins s σ H R I h;refine Call_ (IV I hg hm SL (Bz (thn (ha pos pins s σ H _ I h) λus s1 ⟨vs,H1,I1,r1,q1⟩=>?_) hs rfl));obtain ⟨j,e,q1,q2,q⟩:=q1;subst e
 cases r1 with
 | cons r rr=>
  cases rr;obtain ⟨t,rfl⟩:=r;exact call_range_1 (RO I1 (by omega) (by omega) q1 q2 (by simpa using q))
theorem VO {a b:Expr} {ta:TA} {p pos:Pos} (hg:Gl X "range") (hm:X.mg "range" = none) (ha:PA X [a,b] ta) (hs:AX [a,b] X.env=[(false,B0 a X.env),(false,B0 b X.env)]:=by rfl) (hs2:AX [b] X.env=[(false,B0 b X.env)]:=by rfl) :
  PI X tg (.Call (.Name "range" p) [a,b] [] pos) (gR ta):=by
 intro pins s σ H R I h;refine Call_ (IV I hg hm SL (Bz (thn (ha pos pins s σ H _ I h) λus s1 ⟨vs,H1,I1,r1,q1⟩=>?_) (by rw [hs,hs2]) (by rw [hs2];rfl)));obtain ⟨i,j,e,⟨q1,q2,q3,q4⟩,q⟩:=q1;subst e
 cases r1 with
 | cons r rr=>
  cases rr with
  | cons r' rr=>
   cases rr;obtain ⟨t,rfl⟩:=r;obtain ⟨t',rfl⟩:=r';exact call_range_2 (RO I1 q1 q2 q3 q4 q)
def tFor (wi:TI) (g:TG) (tb:TS):TS:=λD σ H=>wi σ H λJ H1=>∃W:Nat->Nat->St->Hp->Prop,(∃m,W 0 m σ H1)/\∀i m σ H,W i m σ H ->
 (J.stop i H/\D.nx σ H)∨(J.go i H/\∃N:St->Hp->Prop,(∀σ' H',N σ' H'->∃m',m' < m/\W (i+1) m' σ' H')/\∀x H',J.yld i H x H'->g x σ H' λσ2 H2=>tb { D with nx:=N,ct:=N,bk:=D.nx } σ2 H2)
def Nb (fp:List AI) (h:Bk):List (AI×Obj):=fp.filterMap λb=>(h.get? b).map λo=>(b,o)
theorem IS {fp:List AI} {h:Bk} {b:AI} {o:Obj} (hb:b∈fp) (e:h.get? b=some o):(b,o)∈Nb fp h:=LN.mpr ⟨b,hb,by rw [e];rfl⟩
theorem VW {fp:List AI} {h:Bk} {p:AI×Obj} (hp:p∈Nb fp h):p.1∈fp/\h.get? p.1=some p.2:=by
 obtain ⟨b,hb,e⟩:=LN.mp hp
 cases q:h.get? b with
 | none=>rw [q] at e;cases e
 | some o=>
  rw [q] at e;have e':(b,o)=p:=DW e;subst e';exact ⟨hb,q⟩
theorem Inv.pinned {pins:List (AI×Obj)} {σ:St} {H:Hp} {s:AF} {fp:List AI} (I:Inv X pins σ H s) (hf:∀b∈fp,KI X pins H b) (ho:∀b∈fp,∃o,s.heap.get? b=some o/\∀v,o.data≠.cell v):Inv X (pins++Nb fp s.heap) σ H s:=
 I.pins_of λp hp=>(Aj.mp hp).elim (λz=>I.pin p (Ay _ z)) λz=>by
  obtain ⟨hb,e⟩:=VW z;obtain ⟨f0,f1,f2,_⟩:=hf p.1 hb;obtain ⟨o,e',d⟩:=ho p.1 hb;rw [e] at e';cases e';exact ⟨e,f0,f1,f2,d⟩
theorem Inv.unpinned {pins pl:List (AI×Obj)} {σ:St} {H:Hp} {s:AF} (I:Inv X (pins++pl) σ H s):Inv X pins σ H s:=I.pins_of λp hp=>I.pin p (Ay _ (CF _ hp))
theorem cE {iter:Expr} {body:List Cp} {wi:TI} {g:TG} {tb:TS} {pos:Pos} (hp:WJ (AW X.prog X.w) X.A X.env X.xe) (hc:X.calm=true) (hi:PI X tg iter wi) (hg:PG X tg g) (hb:PSs X body tb)
  (hs:∀x,FC iter X.env x=pure x:=by intro _;rfl):PS X (.For tg iter body [] pos) (tFor wi g tb):=by
 intro pins s σ H D I h;refine wpAny_For (thn (hi pins s σ H _ I h) λv s1 h1=>thn h1 λitv s2 h2=>?_) hs;obtain ⟨it,fp,tn,J,H2,e,I2,T,st2,f2,W,⟨m0,w0⟩,turn⟩:=h2;subst e
 have stat:∀ {H':Hp},(∀b∈fp,H' b=none)->∀b∈fp,KI X pins H' b:=λhn b hb=>⟨hn b hb,(f2 b hb).2⟩
 refine codeAny_forLoop_any (λn s'=>∃i σ' H',Inv X pins σ' H' s'/\tn i s'.heap/\(∀b∈fp,H' b=none)/\W i n σ' H') ?_ m0 ⟨0,σ,H2,I2,st2,λb hb=>(f2 b hb).1,w0⟩;rintro n s3 ⟨i,σ3,H3,I3,st3,fr3,w3⟩
 rcases turn i n σ3 H3 w3 with ⟨stop,qn⟩ | ⟨go,N,hN,step⟩
 ·refine HY hp (thn (T.done X rfl rfl rfl hc i pins s3 σ3 H3 X.xe I3 (stat fr3) st3 stop) λr s4 ⟨hr,I4⟩=>?_)
  subst hr;exact KM ⟨σ3,H3,I4,qn⟩
 ·refine HY hp (thn (T.item X rfl rfl rfl hc i pins s3 σ3 H3 X.xe I3 (stat fr3) st3 go) λr s4 ⟨u,hr,h4⟩=>?_)
  subst hr;refine HY hp (thn h4 λ_ s5 ⟨x,H5,I5,r5,y5,st5,fr5⟩=>?_);have I5':=I5.pinned (stat fr5) (T.obj _ _ st5);refine HY hp (thn (hg _ s5 σ3 H5 x u _ I5' r5 (step x H5 y5)) λ_ s6 ⟨σ6,H6,I6,q6⟩=>?_);refine HY hp (thn (hb _ s6 σ6 H6 _ I6 q6) λf s7 q7=>?_)
  have WE:∀ {σ7:St} {H7:Hp},Inv X (pins++Nb fp s5.heap) σ7 H7 s7->N σ7 H7->∃m,m < n/\∃i σ' H',Inv X pins σ' H' s7/\tn i s7.heap/\(∀b∈fp,H' b=none)/\W i m σ' H':=λ{σ7 H7} I7 n7=>by
   obtain ⟨m',hm,w7⟩:=hN σ7 H7 n7;refine ⟨m',hm,i+1,σ7,H7,I7.unpinned,T.keep _ _ _ st5 λb hb o e=>(I7.pin (b,o) (Ay _ (Ay _ (IS hb e)))).1,λb hb=>?_,w7⟩;obtain ⟨o,e,d⟩:=T.obj _ _ st5 b hb;exact (I7.pin (b,o) (Ay _ (Ay _ (IS hb e)))).2.1
  cases f with
  | next=>obtain ⟨σ7,H7,I7,n7⟩:=q7;exact WE I7 n7
  | cont=>obtain ⟨σ7,H7,I7,n7⟩:=q7;exact WE I7 n7
  | brk=>obtain ⟨σ7,H7,I7,q7⟩:=q7;exact ⟨σ7,H7,I7.unpinned,q7⟩
  | ret v=>obtain ⟨x7,σ7,H7,I7,r7,q7⟩:=q7;exact ⟨x7,σ7,H7,I7.unpinned,r7,q7⟩
end
end L2
namespace L2
open PySem PySem.Spec PyProof.Rows
abbrev R2:=V->V->Hp->VK->Prop
def OpR (X:Cx) (f:AD->AD->Sem AD) (r:R2):Prop:=
 ∀(pins:List (AI×Obj)) (s:AF) (σ:St) (H:Hp) (x y:V) (v u:AD) (Q:VK),Inv X pins σ H s->RelV x v->RelV y u->r x y H Q ->
  Ah (AW X.prog X.w) X.A (f v u) (EP X pins σ Q) X.xe s
def UnR (X:Cx) (f:AD->Sem AD) (r:V->Hp->VK->Prop):Prop:=
 ∀(pins:List (AI×Obj)) (s:AF) (σ:St) (H:Hp) (x:V) (v:AD) (Q:VK),Inv X pins σ H s->RelV x v->r x H Q ->
  Ah (AW X.prog X.w) X.A (f v) (EP X pins σ Q) X.xe s
def IF (X:Cx) (f:AD) (r:List V->Hp->VK->Prop):Prop:=
 ∀(pins:List (AI×Obj)) (s:AF) (σ:St) (H:Hp) (xs:List V) (us:List AD) (Q:VK),Inv X pins σ H s->BU xs us->r xs H Q ->
  Ah (AW X.prog X.w) X.A (call f us) (EP X pins σ Q) X.xe s
def TruR (X:Cx) (r:V->Hp->(Bool->Hp->Prop)->Prop):Prop:=
 ∀(pins:List (AI×Obj)) (s:AF) (σ:St) (H:Hp) (x:V) (v:AD) (Q:Bool->Hp->Prop),Inv X pins σ H s->RelV x v->r x H Q ->
  Ah (AW X.prog X.w) X.A (bI v) (TP X pins σ Q) X.xe s
def tOp (r:R2) (ta tb:TE):TE:=λσ H Q=>ta σ H λx H1=>tb σ H1 λy H2=>r x y H2 Q
def tUn (r:V->Hp->VK->Prop) (ta:TE):TE:=λσ H Q=>ta σ H λx H1=>r x H1 Q
def rI (C:Int->Int->Prop) (g:Int->Int->V):R2:=λx y H Q=>∃i j,x=.int i/\y=.int j/\C i j/\Q (g i j) H
def rI0 (g:Int->Int->V):R2:=λx y H Q=>∃i j,x=.int i/\y=.int j/\Q (g i j) H
def rU (g:Int->V):V->Hp->VK->Prop:=λx H Q=>∃i,x=.int i/\Q (g i) H
section
variable {X:Cx} {a b c:Expr} {ta tb tc:TE} {pos:Pos}
theorem dr (ha:PE X a ta) (hb:PE X b tb) {pins:List (AI×Obj)} {s:AF} {σ:St} {H:Hp} {R:V->V->Hp->Prop} (I:Inv X pins σ H s)
  (h:ta σ H λx H1=>tb σ H1 λy H2=>R x y H2) {Q:AD->AF->Prop} {f:AD->AD->Sem AD}
  (hf:∀v u s2 x y H2,Inv X pins σ H2 s2->RelV x v->RelV y u->R x y H2->Ah (AW X.prog X.w) X.A (f v u) Q X.xe s2) :
  Ah (AW X.prog X.w) X.A (B0 a X.env) (λv s₁=>Ah (AW X.prog X.w) X.A (B0 b X.env) (λu s₂=>Ah (AW X.prog X.w) X.A (f v u) Q X.xe s₂) X.xe s₁) X.xe s:=by
 refine thn (ha pins s σ H _ I h) λv s1 ⟨x,H1,I1,r1,q1⟩=>?_
 refine thn (hb pins s1 σ H1 _ I1 q1) λu s2 ⟨y,H2,I2,r2,q2⟩=>?_
 exact hf v u s2 x y H2 I2 r1 r2 q2
theorem fZ {op:Operator} {r:R2} (ho:OpR X (DX op) r) (ha:PE X a ta) (hb:PE X b tb):PE X (.BinOp a op b pos) (tOp r ta tb):=by
 intro pins s σ H Q I h;exact wpAny_BinOp (dr ha hb I h λv u s2 x y H2 I2 rx ry q=>ho pins s2 σ H2 x y v u Q I2 rx ry q)
theorem fY {op:UnaryOp} {r:V->Hp->VK->Prop} (ho:UnR X (unaryOp op) r) (ha:PE X a ta):PE X (.UnaryOp op a pos) (tUn r ta):=by
 intro pins s σ H Q I h;exact UnaryOp_ (thn (ha pins s σ H _ I h) λv s1 ⟨x,H1,I1,r1,q1⟩=>ho pins s1 σ H1 x v Q I1 r1 q1)
theorem opI {f:AD->AD->Sem AD} {C:Int->Int->Prop} {g:Int->Int->Int}
  (rule:∀(i j:Int) (t u:Tok) (s:AF) (Q:AD->AF->Prop) (E:AD->AF->Prop),C i j->Q (.int (g i j) s.toks) { s with toks:=s.toks+1 }->Ah (AW X.prog X.w) X.A (f (.int i t) (.int j u)) Q E s) :
  OpR X f (rI C λi j=>.int (g i j)):=by
 intro pins s σ H x y v u Q I rx ry h;obtain ⟨i,j,rfl,rfl,hc,q⟩:=h;obtain ⟨t,rfl⟩:=rx;obtain ⟨t',rfl⟩:=ry;exact rule i j t t' s _ _ hc ⟨.int (g i j),H,I.tok _,⟨_,rfl⟩,q⟩
theorem fo {f:AD->AD->Sem AD} {g:Int->Int->Int}
  (rule:∀(i j:Int) (t u:Tok) (s:AF) (Q:AD->AF->Prop) (E:AD->AF->Prop),Q (.int (g i j) s.toks) { s with toks:=s.toks+1 }->Ah (AW X.prog X.w) X.A (f (.int i t) (.int j u)) Q E s) :
  OpR X f (rI0 λi j=>.int (g i j)):=by
 intro pins s σ H x y v u Q I rx ry h;obtain ⟨i,j,rfl,rfl,q⟩:=h;obtain ⟨t,rfl⟩:=rx;obtain ⟨t',rfl⟩:=ry;exact rule i j t t' s _ _ ⟨.int (g i j),H,I.tok _,⟨_,rfl⟩,q⟩
theorem Zj {f:AD->AD->Sem AD} {g:Int->Int->Bool}
  (rule:∀(i j:Int) (t u:Tok) (s:AF) (Q:AD->AF->Prop) (E:AD->AF->Prop),Q (.bool (g i j)) s->Ah (AW X.prog X.w) X.A (f (.int i t) (.int j u)) Q E s) :
  OpR X f (rI0 λi j=>.bl (g i j)):=by
 intro pins s σ H x y v u Q I rx ry h;obtain ⟨i,j,rfl,rfl,q⟩:=h;obtain ⟨t,rfl⟩:=rx;obtain ⟨t',rfl⟩:=ry;exact rule i j t t' s _ _ ⟨.bl (g i j),H,I,rfl,q⟩
def aX (i j:Int):Prop:=0 < j/\j < 1073741824
def V8 (i j:Int):Prop:=(-(2 ^ 64) < i/\i < 2 ^ 64)∨(-(2 ^ 64) < j/\j < 2 ^ 64)
theorem V8.ok {i j:Int} (h:V8 i j):IntMulOk i j:=by
 rcases h with ⟨h1,h2⟩ | ⟨h1,h2⟩
 ·exact .of_left (intBits_le_64 h1 h2)
 ·exact .of_right (intBits_le_64 h1 h2)
theorem cf:OpR X (DX .Add) (rI0 λi j=>.int (i+j)):=fo λ_ _ _ _ _ _ _ q=>add_int q
theorem cW:OpR X (DX .Sub) (rI0 λi j=>.int (i - j)):=fo λ_ _ _ _ _ _ _ q=>sub_int q
theorem cY:OpR X (DX .Mult) (rI V8 λi j=>.int (i * j)):=opI λ_ _ _ _ _ _ _ hc q=>mul_int q hc.ok
theorem Zg:OpR X (DX .FloorDiv) (rI aX λi j=>.int (i / j)):=opI λi j _ _ _ _ _ hc q=>by
 have h1:(0:Int) < j:=hc.1;have h2:j < 1073741824:=hc.2;exact floordiv_int (by omega) (by rw [Int.fdiv_eq_ediv_of_nonneg i (by omega)];exact q) (.inl (Pm (by omega)))
theorem cZ:OpR X (DX .Mod) (rI (λ_ j=>0 < j) λi j=>.int (i % j)):=opI λi j _ _ _ _ _ hc q=>by
 have h1:(0:Int) < j:=hc;exact mod_int' (by omega) (by rw [Int.fmod_eq_emod_of_nonneg i (by omega)];exact q)
theorem unI {f:AD->Sem AD} {g:Int->Int}
  (rule:∀(i:Int) (t:Tok) (s:AF) (Q:AD->AF->Prop) (E:AD->AF->Prop),Q (.int (g i) s.toks) { s with toks:=s.toks+1 }->Ah (AW X.prog X.w) X.A (f (.int i t)) Q E s) :
  UnR X f (rU λi=>.int (g i)):=by
 intro pins s σ H x v Q I rx h;obtain ⟨i,rfl,q⟩:=h;obtain ⟨t,rfl⟩:=rx;exact rule i t s _ _ ⟨.int (g i),H,I.tok _,⟨_,rfl⟩,q⟩
theorem bW:UnR X (unaryOp .USub) (rU λi=>.int (-i)):=unI λ_ _ _ _ _ q=>neg_int q
end
section
variable {X:Cx} {a b c:Expr} {ta tb tc:TE} {pos:Pos}
theorem YE {pins:List (AI×Obj)} {σ:St} {H:Hp} {s:AF} {Q:VK} {k k':Bool} (I:Inv X pins σ H s) (q:Q (.bl k) H) (e:k=k'):EP X pins σ Q (.bool k') s:=by
 subst e;exact ⟨.bl k,H,I,rfl,q⟩
theorem fh:OpR X (Bd .Lt) (rI0 λi j=>.bl (decide (i < j))):=Zj λ_ _ _ _ _ _ _ q=>lt_int q
theorem fj:OpR X (Bd .LtE) (rI0 λi j=>.bl (decide (i<=j))):=Zj λ_ _ _ _ _ _ _ q=>le_int q
theorem fk:OpR X (Bd .Gt) (rI0 λi j=>.bl (decide (j < i))):=Zj λ_ _ _ _ _ _ _ q=>gt_int q
theorem fm:OpR X (Bd .GtE) (rI0 λi j=>.bl (decide (j<=i))):=Zj λ_ _ _ _ _ _ _ q=>ge_int q
theorem cb:OpR X (Bd .Is) (λx y H Q=>y=.non/\Q (.bl (decide (x=.non))) H):=by
 intro pins s σ H x y v u Q I rx ry h;obtain ⟨rfl,q⟩:=h;cases ry;refine is_none_gen (YE I q ?_)
 cases x <;> first
  | (cases rx;rfl)
  | (obtain ⟨t,rfl⟩:=rx;rfl)
theorem Zf:OpR X (Bd .IsNot) (λx y H Q=>y=.non/\Q (.bl (!decide (x=.non))) H):=by
 intro pins s σ H x y v u Q I rx ry h;obtain ⟨rfl,q⟩:=h;cases ry;refine isnot_none_gen (YE I q ?_)
 cases x <;> first
  | (cases rx;rfl)
  | (obtain ⟨t,rfl⟩:=rx;rfl)
theorem OpR.or {f:AD->AD->Sem AD} {r r':R2} (h:OpR X f r) (h':OpR X f r'):OpR X f (λx y H Q=>r x y H Q∨r' x y H Q):=by
 intro pins s σ H x y v u Q I rx ry q
 rcases q with q | q
 ·exact h pins s σ H x y v u Q I rx ry q
 ·exact h' pins s σ H x y v u Q I rx ry q
theorem DF (b:Expr) {op:Qu} (h:op≠.In:=by decide) (h2:op≠.NotIn:=by decide):CI op b=false:=by
 have e1:(op==Qu.In)=false:=by cases op <;> first | rfl | exact absurd rfl h
 have e2:(op==Qu.NotIn)=false:=by cases op <;> first | rfl | exact absurd rfl h2
 cases b <;> simp [CI,e1,e2]
theorem Za {op:Qu} {r:R2} (ho:OpR X (Bd op) r) (ha:PE X a ta) (hb:PE X b tb) (hm:CI op b=false):PE X (.Compare a [op] [b] pos) (tOp r ta tb):=by
 intro pins s σ H Q I h;exact wpAny_Compare1 (dr ha hb I h λv u s2 x y H2 I2 rx ry q=>ho pins s2 σ H2 x y v u Q I2 rx ry q) hm
def am (t:TE):TT:=λσ H Q=>t σ H λx H'=>∃k,x=.bl k/\Q k H'
theorem ZJ {op:Qu} {r:R2} (ho:OpR X (Bd op) r) (ha:PE X a ta) (hb:PE X b tb) (hm:CI op b=false):PT X (.Compare a [op] [b] pos) (am (tOp r ta tb)):=by
 intro pins s σ H Q I h
 refine Yb (thn (ha pins s σ H _ I h) λv s1 ⟨x,H1,I1,r1,q1⟩=>thn (hb pins s1 σ H1 _ I1 q1) λu s2 ⟨y,H2,I2,r2,q2⟩=>
  thn (ho pins s2 σ H2 x y v u _ I2 r1 r2 q2) λc s3 ⟨z,H3,I3,r3,k,e,q3⟩=>?_) hm
 subst e;cases r3;exact Co ⟨H3,I3,q3⟩
def Wo (r r':R2) (ta tb tc:TE):TE:=λσ H Q=>ta σ H λx H1=>tb σ H1 λy H2=>r x y H2 λz H3=>∃k,z=.bl k /\
 (if k=true then tc σ H3 λw' H4=>r' y w' H4 Q else Q (.bl false) H3)
theorem W9 {op op':Qu} {r r':R2} (ho:OpR X (Bd op) r) (ho':OpR X (Bd op') r') (ha:PE X a ta) (hb:PE X b tb) (hc:PE X c tc)
  (hm:lastMarks [op,op'] [b,c]=false:=by with_unfolding_all rfl):PT X (.Compare a [op,op'] [b,c] pos) (am (Wo r r' ta tb tc)):=by
 intro pins s σ H Q I h
 refine isTrue_chain (thn (ha pins s σ H _ I h) λv s1 ⟨x,H1,I1,r1,q1⟩=>test_link (thn (hb pins s1 σ H1 _ I1 q1) λu s2 ⟨y,H2,I2,r2,q2⟩=>
  thn (ho pins s2 σ H2 x y v u _ I2 r1 r2 q2) λd s3 ⟨z,H3,I3,r3,k,e,q3⟩=>?_)) hm
 subst e;cases r3;refine Co ?_
 cases k with
 | false=>
  obtain ⟨k',e',q'⟩:=q3;cases e';exact ite_ff ⟨H3,I3,q'⟩
 | true=>
  refine ite_tt (test_last (thn (hc pins s3 σ H3 _ I3 q3) λw' s4 ⟨z',H4,I4,r4,q4⟩=>thn (ho' pins s4 σ H4 y z' u w' _ I4 r2 r4 q4) λd' s5 ⟨z2,H5,I5,r5,k2,e2,q5⟩=>?_));subst e2;cases r5;exact Co ⟨H5,I5,q5⟩
def d7 (K:AA) (x:V) (H:Hp) (k:Bool):Prop:=
 match x with
 | .non=>k=false
 | .bl b=>k=b
 | .int i=>k=(i != 0)
 | .str y=>y.length<=sizeLine/\k=((y.length:Int) != 0)
 | .byt y=>y.size<=sizeLine/\k=((y.size:Int) != 0)
 | .ref p=>(∃xs,SqL K H p xs/\k = !xs.isEmpty)∨(∃xs,SqT K H p xs/\k = !xs.isEmpty)∨∃kvs,H p=some (.dK kvs)/\k = !kvs.isEmpty
 | _=>False
theorem TM {κ:Type} {kvs:List (κ×V)} {vs:List (κ×AD)} (r:KV kvs vs):(!vs.isEmpty) = !kvs.isEmpty:=by
 cases r <;> rfl
theorem Nt {xs:List V} {its:List AD} (r:BU xs its):(!its.toArray.isEmpty) = !xs.isEmpty:=by
 cases r <;> simp
theorem QI:(sizeLine:Nat) < 2 ^ 63:=by rw [Yh];decide
theorem bZ:TruR X (λx H Q=>∃k,d7 X.K x H k/\Q k H):=by
 intro pins s σ H x v Q I rx h;obtain ⟨k,e,q⟩:=h;have hl:=QI;have hs:sizeLine=16777216:=Yh
 cases x with
 | non=>
  cases rx;have e':k=false:=e;subst e';exact truthy_none ⟨H,I,q⟩
 | bl b=>
  cases rx;have e':k=b:=e;subst e';exact Co ⟨H,I,q⟩
 | int i=>
  obtain ⟨t,rfl⟩:=rx;have e':k=(i != 0):=e;subst e';exact PySem.P.truthy_int ⟨H,I,q⟩
 | str y=>
  obtain ⟨t,rfl⟩:=rx;obtain ⟨hy,e'⟩:y.length<=sizeLine/\k=((y.length:Int) != 0):=e;subst e';exact PySem.P.truthy_str (by omega) ⟨H,I.tok _,q⟩
 | byt y=>
  obtain ⟨t,rfl⟩:=rx;obtain ⟨hy,e'⟩:y.size<=sizeLine/\k=((y.size:Int) != 0):=e;subst e';exact PySem.W.truthy_bytes (by omega) ⟨H,I.tok _,q⟩
 | ref p=>
  cases rx
  have e':(∃xs,SqL X.K H p xs/\k = !xs.isEmpty)∨(∃xs,SqT X.K H p xs/\k = !xs.isEmpty)∨∃kvs,H p=some (.dK kvs)/\k = !kvs.isEmpty:=e
  rcases e' with ⟨xs,hx,e'⟩ | ⟨xs,hx,e'⟩ | ⟨kvs,hx,e'⟩
  ·subst e'
   obtain ⟨its,r,pl,hz⟩:=I.list hx;have hlen:=r.length;exact wpAny_truthy_list pl.isList (by simp only [Ab];omega) ⟨H,I.tok _,by rw [Nt r];exact q⟩
  ·subst e'
   obtain ⟨its,r,pl,hz⟩:=I.tuple hx;have hlen:=r.length;exact truthy_tuple pl (by simp only [Ab];omega) ⟨H,I.tok _,by rw [Nt r];exact q⟩
  ·subst e'
   obtain ⟨hz,hS,vs,r,m⟩:kvs.length<=sizeLine/\(p==Df)=false/\∃vs,KV kvs vs/\s.heap.DictOf (EB X.prog X.w) p vs:=I.hok p _ hx
   have hlen:kvs.length=vs.length:=EU r;exact wpAny_truthy_dict hS m (by omega) ⟨H,I.tok _,by rw [TM r];exact q⟩
 | _=>exact (show False from e).elim
theorem W7 (ha:PE X a ta) (he:∀whole,SI a X.env whole=(do let v <-whole;eJ a.pos;eM [v] (bI v))) :
  PT X a (λσ H Q=>ta σ H λx H'=>∃k,d7 X.K x H' k/\Q k H'):=by
 intro pins s σ H Q I h;exact isTrue_plain (thn (ha pins s σ H _ I h) λv s1 ⟨x,H1,I1,r1,q1⟩=>bZ pins s1 σ H1 x v Q I1 r1 q1) (he _)
theorem vals1 {x:V} {us:List AD} (r:BU [x] us):∃u,us=[u]/\RelV x u:=by
 cases r with
 | cons r1 r2=>cases r2;exact ⟨_,rfl,r1⟩
theorem vals2 {x y:V} {us:List AD} (r:BU [x,y] us):∃u w',us=[u,w']/\RelV x u/\RelV y w':=by
 cases r with
 | cons r1 r2=>
  cases r2 with
  | cons r3 r4=>cases r4;exact ⟨_,_,rfl,r1,r3⟩
theorem V3 (hc:X.calm=true):IF X (.builtin "max") (λxs H Q=>∃i j,xs=[.int i,.int j]/\Q (.int (if j > i then j else i)) H):=by
 intro pins s σ H xs us Q I r h;obtain ⟨i,j,rfl,q⟩:=h;obtain ⟨u,w',rfl,⟨t,rfl⟩,⟨t',rfl⟩⟩:=vals2 r
 refine max_two_ints (I.ok.hd hc) λh' tk k=>⟨_,H,I.kept k,?_,q⟩
 by_cases hj:j > i
 ·rw [if_pos hj,if_pos hj];exact ⟨_,rfl⟩
 ·rw [if_neg hj,if_neg hj];exact ⟨_,rfl⟩
theorem V2 (hc:X.calm=true):IF X (.builtin "min") (λxs H Q=>∃i j,xs=[.int i,.int j]/\Q (.int (if j < i then j else i)) H):=by
 intro pins s σ H xs us Q I r h;obtain ⟨i,j,rfl,q⟩:=h;obtain ⟨u,w',rfl,⟨t,rfl⟩,⟨t',rfl⟩⟩:=vals2 r
 refine min_two_ints (I.ok.hd hc) λh' tk k=>⟨_,H,I.kept k,?_,q⟩
 by_cases hj:j < i
 ·rw [if_pos hj,if_pos hj];exact ⟨_,rfl⟩
 ·rw [if_neg hj,if_neg hj];exact ⟨_,rfl⟩
end
end L2
namespace L2
open PySem PySem.Spec PyProof.Rows
structure V7 (h:Bk) (x dx C:AI) (mA:Str->Option AD):Prop where
 obj:h.get? x=some (Da C dx)
 ns:h.Ns1 dx mA
 ne:dx≠x
theorem Vc {h:Bk} {dx:AI} {mA:Str->Option AD} (n:h.Ns1 dx mA):∃od,h.get? dx=some od/\∀name,M9 name od=some (mA name):=by
 obtain ⟨o,es,ep,ho,hd,hk,_,hm⟩:=n;refine ⟨o,ho,λname=>?_⟩;have e:=hm name;unfold nsFind findBy at e;rw [<-Array.find?_toList] at e;unfold M9;rw [hd];dsimp only;split
 ·rename_i y q
  rw [q] at e;exact congrArg some e
 ·rename_i q
  rw [q] at e
  have a:es.toList.any (·.refKey)=false:=by
   rw [List.any_eq_false];intro y hy;obtain ⟨z,t,hkey⟩:=hk y (BM.mp hy);simp [Lz.refKey,hkey]
  have a':¬es.toList.any (·.refKey)=true:=by rw [a];exact AR
  rw [if_neg a'];exact congrArg some e
theorem V7.look {h:Bk} {x dx C:AI} {mA:Str->Option AD} (I:V7 h x dx C mA):∃od,WU h x (Da C dx) C (some od)/\∀name,M9 name od=some (mA name):=
 let ⟨od,ho,hl⟩:=Vc I.ns
 ⟨od,⟨I.obj,rfl,rfl,ho⟩,hl⟩
section
variable {prog:Ar} {w:BG} {A:A8} {E:AD->AF->Prop} {s:AF} {K:AA} {x dx C f:AI} {mA:Str->Option AD} {name:Str} {v:AD}
theorem Z2 {expr:Bool} {Q:AD->AF->Prop} (X:K.In s.heap) (I:V7 s.heap x dx C mA) (hg:LR K C name=true) (hh:KW K C=true)
  (ha:CV K (.ref C) name=some none) (hv:mA name=some v) (hv':Uv v=true) (h:Q v { s with toks:=s.toks+1 }) :
  Ah (AW prog w) A (getAttr (.ref x) name expr) Q E s:=by
 obtain ⟨od,J,hl⟩:=I.look;exact PySem.W.get_value X J (PySem.W.plainGet_of hg).1 (PySem.W.findObj_own hh ha rfl (by rw [hl,hv])) hv' h
theorem Y8 {ns:List Str} {Q:Unit->AF->Prop} (X:K.In s.heap) (I:V7 s.heap x dx C mA)
  (hs:CV K (.ref C) "__setattr__" = some (some (.builtin "object.__setattr__"))) (hp:Tj K C=true) (ht:MX K C name=some none) (hh:KW K C=true)
  (hw:Qy mA ns) (hsz:ns.length<=sizeLine)
  (h:∀h',V7 h' x dx C (λy=>if y=name then some v else mA y)->EM dx s.heap h'->Q () { s with heap:=h',toks:=s.toks+2 }) :
  Ah (AW prog w) A (setAttr (.ref x) name v) Q E s:=by
 obtain ⟨od,J,hl⟩:=I.look;refine PySem.W.set_plain X J hs (PySem.W.osa_open (s:={ s with toks:=s.toks+1 }) (r:=none) X J hp ht λb=>?_);obtain ⟨cd,hc,hd'⟩:=PySem.W.any_some hh;have hx:s.heap.get? x=some ⟨.ref C,some dx,.plain,#[]⟩:=I.obj;refine AB (AM (AB (AB (SG hx (AB (em (s:={ s with toks:=s.toks+1 }) (PySem.W.looks_clsIn X hc) ?_))))));rw [hd'];refine AM (a:=some dx) (AB (AM (AB ?_)))
 refine wpAny_nsSet1 (s:={ s with toks:=s.toks+1 }) I.ns λh' hn2 hs2=>?_
 obtain ⟨oD,esD,epD,hoD,hdD,hcD⟩:=hn2.count (gu name v hw);refine AB (wpAny_lookBehind hoD (by rw [hdD];exact pastItsLine_dict (Aq hcD (by rw [BA];omega))) ?_);exact AM (h _ ⟨(hs2.2 _ (CS I.ne)).trans I.obj,hn2,I.ne⟩ hs2)
theorem Xe {R:bO->AF->Prop} {vs:List AD} {kw:List (Str×AD)} (X:K.In s.heap) (hm:WH K C=true)
  (hi:CV K (.ref C) "__init__" = some (some (.ref f))) (hf:Iz K (.ref f)=some (.type "function"))
  (h:Hn (AW prog w) (A.under (.builtin "type.__call__" ⟨.ref C :: vs,kw⟩)) (.call (.ref f) ⟨.ref (s.heap.objs.size+1) :: vs,kw⟩) (PySem.W.InitBack (s.heap.objs.size+1) R)
   { s with heap:=(s.heap.push CW).push (Da C s.heap.objs.size) }) :
  Hn (AW prog w) A (.call (.ref C) ⟨vs,kw⟩) R s:=by
 obtain ⟨hh,g,d,t,os⟩:=s;exact PySem.W.make_core (PySem.W.makes_of X hm) (JA X hi) (λself=>PySem.W.bind_fn X self hf) (.inl rfl) h
end
def putF (f:Str) (v:V):List (Str×V)->List (Str×V)
 | []=>[(f,v)]
 | (g,x) :: r=>if g=f then (g,v) :: r else (g,x) :: putF f v r
theorem MH (f g:Str) (v:V):∀fs:List (Str×V),(putF f v fs).lookup g=if g=f then some v else fs.lookup g
 | []=>by
  show Gk g [(f,v)]=_
  by_cases h:g=f
  ·have hb:(g==f)=true:=beq_iff_eq.mpr h
   simp only [Gk,hb,if_pos h]
  ·have hb:(g==f)=false:=beq_eq_false_iff_ne.mpr h
   simp only [Gk,hb,if_neg h]
 | (k,x) :: r=>by
  have ih:=MH f g v r;rw [show putF f v ((k,x) :: r)=(if k=f then (k,v) :: r else (k,x) :: putF f v r) from rfl]
  by_cases hk:k=f
  ·rw [if_pos hk]
   by_cases h:g=k
   ·have hb:(g==k)=true:=beq_iff_eq.mpr h
    simp only [Gk,hb,if_pos (h.trans hk)]
   ·have hb:(g==k)=false:=beq_eq_false_iff_ne.mpr h
    simp only [Gk,hb,if_neg (λe:g=f=>h (e.trans hk.symm))]
  ·rw [if_neg hk]
   by_cases h:g=k
   ·have hb:(g==k)=true:=beq_iff_eq.mpr h
    simp only [Gk,hb,if_neg (λe:g=f=>hk (h.symm.trans e))]
   ·have hb:(g==k)=false:=beq_eq_false_iff_ne.mpr h
    simp only [Gk,hb];exact ih
theorem Lj (f:Str) (v:V):∀fs:List (Str×V),f∈(putF f v fs).map (·.1)/\∀g,g∈fs.map (·.1)->g∈(putF f v fs).map (·.1)
 | []=>⟨by simp [putF],λg h=>by simp at h⟩
 | (k,x) :: r=>by
  obtain ⟨i1,i2⟩:=Lj f v r;rw [show putF f v ((k,x) :: r)=(if k=f then (k,v) :: r else (k,x) :: putF f v r) from rfl]
  by_cases hk:k=f
  ·rw [if_pos hk]
   subst hk;exact ⟨by simp,λg h=>by simpa using h⟩
  ·rw [if_neg hk]
   refine ⟨?_,λg h=>?_⟩
   ·rw [A5]
    exact Al _ i1
   ·rw [A5] at h ⊢
    rcases A4.mp h with e | e
    ·exact A4.mpr (.inl e)
    ·exact Al _ (i2 g e)
theorem MM (f:Str) (v:V):∀fs:List (Str×V),(putF f v fs).length<=fs.length+1
 | []=>by simp [putF]
 | (k,x) :: r=>by
  have ih:=MM f v r;rw [show putF f v ((k,x) :: r)=(if k=f then (k,v) :: r else (k,x) :: putF f v r) from rfl]
  by_cases hk:k=f
  ·rw [if_pos hk,BA,BA];omega
  ·rw [if_neg hk,BA,BA];omega
theorem Ls.some_of {v:V} {o:Option AD} (r:Ls (some v) o):∃u,o=some u/\RelV v u:=by
 cases o with
 | none=>exact (show False from r).elim
 | some u=>exact ⟨u,rfl,r⟩
theorem Vl {v:V} {u:AD} (r:RelV v u):Uv u=true:=by
 cases v with
 | non=>cases (show u=BO from r);rfl
 | bl b=>cases (show u=KS b from r);rfl
 | int i=>obtain ⟨t,e⟩:=(show ∃t,u=MV i t from r);cases e;rfl
 | str x=>obtain ⟨t,e⟩:=(show ∃t,u=MU x t from r);cases e;rfl
 | byt b=>obtain ⟨t,e⟩:=(show ∃t,u=eQ b t from r);cases e;rfl
 | flt b=>obtain ⟨t,e⟩:=(show ∃t,u=SN b t from r);cases e;rfl
 | ref a=>cases (show u=Au a from r);rfl
 | ty n=>cases (show u=FX n from r);rfl
section
variable {P:Ar} {w:BG} {H H':Hp} {h h':Bk} {a C dx:AI} {fs fs':List (Str×V)}
theorem QL (hok:HOk P w H h) (e:H a=some (.ins C dx fs)):∃mA,V7 h a dx C mA/\(∀f,Ls (fs.lookup f) (mA f))/\Qy mA (fs.map (·.1))/\fs.length<=1000/\H dx=some (.own a):=by
 obtain ⟨d,z,ne,ob,mA,n,r,q⟩:=(show Cn P w H h a (.ins C dx fs) from hok a _ e);exact ⟨mA,⟨ob,n,ne⟩,r,q,z,d⟩
end
structure Cls (K:AA) (C:AI):Prop where
 pg:LR K C M7=true
 hd:KW K C=true
 po:Tj K C=true
 sa:CV K (.ref C) "__setattr__" = some (some (.builtin "object.__setattr__"))
theorem Cls.get {K:AA} {C:AI} (c:Cls K C) (f:Str):LR K C f=true:=c.pg
def HE (K:AA) (C:AI) (f:Str):Prop:=CV K (.ref C) f=some none
theorem HE.taker {K:AA} {C:AI} {f:Str} (n:HE K C f):MX K C f=some none:=by
 unfold MX;rw [show CV K (.ref C) f=some none from n];rfl
section
variable {X:Cx} {pins:List (AI×Obj)} {σ:St} {H:Hp} {s:AF} {a C dx:AI} {fs:List (Str×V)} {f:Str} {v:V} {A:A8} {E:AD->AF->Prop}
theorem TQ {b:Bool} {Q:AD->AF->Prop} (I:Inv X pins σ H s) (e:H a=some (.ins C dx fs)) (c:Cls X.K C) (n:HE X.K C f) (l:fs.lookup f=some v)
  (h:∀u s',Inv X pins σ H s'->RelV v u->Q u s'):Ah (AW X.prog X.w) A (getAttr (.ref a) f b) Q E s:=by
 obtain ⟨mA,O,r,_,_,_⟩:=QL I.hok e;obtain ⟨u,hu,ru⟩:=Ls.some_of (v:=v) (o:=mA f) (by rw [<-l];exact r f);exact Z2 I.kIn O (c.get f) c.hd n hu (Vl ru) (h u _ (I.tok _) ru)
theorem Sj {y:V} {u:AD} {Q:Unit->AF->Prop} (I:Inv X pins σ H s) (e:H a=some (.ins C dx fs)) (c:Cls X.K C) (n:HE X.K C f) (hl:fs.length < 1000) (ry:RelV y u)
  (h:∀s',Inv X pins σ (upd H a (.ins C dx (putF f y fs))) s'->Q () s'):Ah (AW X.prog X.w) A (setAttr (.ref a) f u) Q E s:=by
 obtain ⟨mA,O,r,wi,_,ho⟩:=QL I.hok e
 have hz:(fs.map (·.1)).length<=sizeLine:=by rw [AK,Yh];omega
 refine Y8 I.kIn O c.sa c.po n.taker c.hd wi hz λh' O' sb=>h _ ?_
 have hd:∃o,h'.get? dx=some o:=let ⟨o,_,_,e',_⟩:=O'.ns;⟨o,e'⟩
 refine I.write (x:=a) (e:=dx) (by rw [e];exact EI) (.inr ho) (λb q hb z=>(sb.2 b hb).trans z) hd ?_;refine ⟨by rw [BR O.ne];exact ho,?_,O.ne,O'.obj,_,O'.ns,λg=>?_,λg hg=>?_⟩
 ·have:=MM f y fs;omega
 ·show Ls ((putF f y fs).lookup g) (if g=f then some u else mA g)
  rw [MH]
  by_cases q:g=f
  ·rw [if_pos q,if_pos q];exact ry
  ·rw [if_neg q,if_neg q];exact r g
 ·by_cases q:g=f
  ·rw [q];exact (Lj f y fs).1
  ·refine (Lj f y fs).2 g (wi g λz=>hg ?_)
   show (if g=f then some u else mA g)=none;rw [if_neg q];exact z
theorem Inv.made (I:Inv X pins σ H s):Inv X pins σ (upd (upd H s.heap.objs.size (.own (s.heap.objs.size+1))) (s.heap.objs.size+1) (.ins C s.heap.objs.size []))
  { s with heap:=(s.heap.push CW).push (Da C s.heap.objs.size) }:=by
 have e1:(s.heap.push CW).get? s.heap.objs.size=some CW:=Af s.heap rfl
 have e2:((s.heap.push CW).push (Da C s.heap.objs.size)).get? (s.heap.objs.size+1)=some (Da C s.heap.objs.size):=by
  have:=Af (s.heap.push CW) (o:=Da C s.heap.objs.size) rfl;rwa [HP] at this
 have e3:(s.heap.push CW).Ns s.heap.objs.size (λ_=>none):=⟨CW,#[],_,e1,rfl,(λe he=>absurd he (by simp)),λ_=>rfl⟩;have I1:=I.laid (a:=s.heap.objs.size) (o:=.own (s.heap.objs.size+1)) (h':=s.heap.push CW) (t':=s.toks) (λb u q=>AJ _ q) (AS _) ⟨_,e1⟩;refine I1.laid (a:=s.heap.objs.size+1) (o:=.ins C s.heap.objs.size []) (t':=s.toks) (λb u q=>AJ _ q) (SS (HP _ _)) ?_;have ne:s.heap.objs.size≠s.heap.objs.size+1:=Ax (FE _);refine ⟨by rw [BR ne,Be],EK _,ne,e2,λ_=>none,(Bk.Ns1.of_empty e3).at λo q=>AJ _ q,λ_=>EI,λy hy=>absurd rfl hy⟩
theorem aL {prog:Ar} {w:BG} {env:Env} {e:Expr} {f:Str} {pos:Pos} {s:AF} {Q:AD->AF->Prop} (hb:Fq e f env (B0 e env)=B0 e env)
  (h:Ah (AW prog w) A (B0 e env) (λo s₁=>Ah (AW prog w) A (getAttr o f true) Q E s₁) E s):Ah (AW prog w) A (B0 (.Attribute e f pos) env) Q E s:=
 Attribute_any_ h (by rw [arm_eval_Attribute,hb])
end
def tFld (K:AA) (ta:TE) (f:Str):TE:=λσ H Q=>ta σ H λx H1=>∃a C dx fs v,x=.ref a/\H1 a=some (.ins C dx fs)/\Cls K C/\HE K C f/\fs.lookup f=some v/\Q v H1
def sFld (K:AA) (ta tv:TE) (f:Str):TS:=λD σ H=>tv σ H λy H1=>ta σ H1 λx H2=>∃a C dx fs,x=.ref a/\H2 a=some (.ins C dx fs)/\Cls K C/\HE K C f/\fs.length < 1000 /\
 D.nx σ (upd H2 a (.ins C dx (putF f y fs)))
section
variable {X:Cx} {o e value:Expr} {f:Str} {pos pos' tpos:Pos} {ta tv:TE}
theorem cP (he:PE X e ta) (hb:Fq e f X.env (B0 e X.env)=B0 e X.env):PE X (.Attribute e f pos) (tFld X.K ta f):=by
 intro pins s σ H Q I h;refine aL hb (thn (he pins s σ H _ I h) λu s1 ⟨x,H1,I1,rx,a,C,dx,fs,v,ex,ea,c,n,l,q⟩=>?_);subst ex;obtain rfl:u=Au a:=rx
 exact TQ I1 ea c n l λu' s2 I2 ru=>⟨v,H1,I2,ru,q⟩
theorem cF (ha:PE X o ta) (hv:PE X value tv) (hs:FV value (some (.Attribute o f pos')) pos.line X.env=pure false):PS X (.Assign [.Attribute o f pos'] value pos) (sFld X.K ta tv f):=by
 intro pins s σ H D I h;refine plainObj_wpAny_Assign_Attribute (thn (hv pins s σ H _ I h) λu s1 ⟨y,H1,I1,ry,q⟩=>thn (ha pins s1 σ H1 _ I1 q) λov s2 ⟨x,H2,I2,rx,a,C,dx,fs,ex,ea,c,n,l,q2⟩=>?_) hs;subst ex;obtain rfl:ov=Au a:=rx
 exact Sj I2 ea c n l ry λs3 I3=>⟨σ,_,I3,q2⟩
end
section
variable {X:Cx} {pins:List (AI×Obj)} {σ:St} {H:Hp} {s:AF} {A:A8} {E:AD->AF->Prop} {Q:AD->AF->Prop} {c:AD} {b:Bool}
inductive LH (K:AA) (H:Hp):V->AD->Prop where
 | non:LH K H .non (.type "NoneType")
 | bl (x:Bool):LH K H (.bl x) (.type "bool")
 | int (i:Int):LH K H (.int i) (.type "int")
 | str (x:Str):LH K H (.str x) (.type "str")
 | flt (x:UInt64):LH K H (.flt x) (.type "float")
 | lst {a:AI} {xs:List V} (e:H a=some (.lst xs)):LH K H (.ref a) (.type "list")
 | frz {a:AI} {o:Obj} {xs:List V} (e:H a=some (.frz o (.lst xs))):LH K H (.ref a) (.type "list")
 | tup {a:AI} {xs:List V} (e:H a=some (.tup xs)):LH K H (.ref a) (.type "tuple")
 | dK {a:AI} {kvs:List (Key×V)} (e:H a=some (.dK kvs)):LH K H (.ref a) (.type "dict")
 | dT {a:AI} {kvs:List (List Key×V)} (e:H a=some (.dT kvs)):LH K H (.ref a) (.type "dict")
 | ins {a C dx:AI} {fs:List (Str×V)} (e:H a=some (.ins C dx fs)) (cl:Cls K C) (ha:CV K (.ref C) "__class__" = some (some (.builtin "object.__class__")))
   (hn:Ti K (.builtin "object.__class__") "__get__" = some (some (.builtin "getset_descriptor.__get__"))) (htk:WG K (.builtin "object.__class__")=some true)
   (hm:Jq K C (.type "object")=some true):LH K H (.ref a) (.ref C)
theorem Vg {x:V} {u t:AD} (I:Inv X pins σ H s) (rx:RelV x u) (ty:LH X.K H x t) (e:Bn X.K t c=some b) (h:∀tk,Q (.bool b) { s with toks:=tk }) :
  Ah (AW X.prog X.w) A (call (.builtin "isinstance") [u,c]) Q E s:=by
 cases ty with
 | non=>cases (show u=BO from rx);exact CD PySem.W.kitx_none I.kIn EI e (λz=>nomatch z) h
 | bl y=>cases (show u=KS y from rx);exact CD PySem.W.kitx_bool I.kIn EI e (λz=>nomatch z) h
 | int i=>obtain ⟨t,q⟩:=(show ∃t,u=MV i t from rx);cases q;exact CD PySem.W.kitx_int I.kIn EI e (λz=>nomatch z) h
 | str y=>obtain ⟨t,q⟩:=(show ∃t,u=MU y t from rx);cases q;exact CD PySem.W.kitx_str I.kIn EI e (λz=>nomatch z) h
 | flt y=>obtain ⟨t,q⟩:=(show ∃t,u=SN y t from rx);cases q;exact CD PySem.W.kitx_float I.kIn EI e (λz=>nomatch z) h
 | @lst a xs ea=>
  cases (show u=Au a from rx);obtain ⟨_,_,n,_,h1⟩:=(show Cn X.prog X.w H s.heap a (.lst xs) from I.hok a _ ea);exact CD Tk I.kIn ⟨_,h1,rfl⟩ e (λz=>nomatch z) h
 | @frz a ob xs ea=>
  cases (show u=Au a from rx);obtain ⟨_,_,_,n,_,h1⟩:=(show Cn X.prog X.w H s.heap a (.frz ob (.lst xs)) from I.hok a _ ea);exact CD Tk I.kIn ⟨_,h1,rfl⟩ e (λz=>nomatch z) h
 | @tup a xs ea=>
  cases (show u=Au a from rx);obtain ⟨_,_,_,p⟩:=(show Cn X.prog X.w H s.heap a (.tup xs) from I.hok a _ ea);obtain ⟨o,h1,h2,_⟩:=p;exact CD PySem.W.kitx_tuple I.kIn ⟨o,h1,h2⟩ e (λz=>nomatch z) h
 | @dK a kvs ea=>
  cases (show u=Au a from rx);obtain ⟨_,_,vs,_,p⟩:=(show Cn X.prog X.w H s.heap a (.dK kvs) from I.hok a _ ea);obtain ⟨o,es,ep,h1,h2,_⟩:=p;exact CD Tl I.kIn ⟨o,h1,h2.1⟩ e (λz=>nomatch z) h
 | @dT a kvs ea=>
  cases (show u=Au a from rx);obtain ⟨_,_,xs,_,o,es,ep,h1,h2,_⟩:=(show Cn X.prog X.w H s.heap a (.dT kvs) from I.hok a _ ea);exact CD Tl I.kIn ⟨o,h1,h2.1⟩ e (λz=>nomatch z) h
 | @ins a C dx fs ea cl ha hn htk hm=>
  cases (show u=Au a from rx);obtain ⟨mA,O,_⟩:=QL I.hok ea;obtain ⟨od,J,_⟩:=O.look;exact CD (PySem.W.kitx_own (cl.get _) cl.hd ha hn htk hm) I.kIn J e (λz=>nomatch z) h
end
end L2
namespace L2
open PySem PySem.Spec PyProof.Rows
structure Gj (k:Nat) (A:A8):Prop where
 hd:A.handled=none
 dp:A.depth+3 * k+5 < recursionLimit
 un:A.units+16 * k+200 < D3
theorem Gj.mono {j k:Nat} {A:A8} (r:Gj k A) (h:j<=k):Gj j A:=⟨r.hd,by have:=r.dp;omega,by have:=r.un;omega⟩
theorem Gj.deeper {k:Nat} {A:A8} (r:Gj (k+1) A) (env:Env):Gj k (A.deeper env):=
 ⟨r.hd,by have:=r.dp;show A.depth+1+3 * k+5 < _;omega,by have:=r.un;show A.units+3+16 * k+200 < _;omega⟩
theorem TB {A:A8} {C:AI} {us:List AD} {kw:List (Str×AD)}:(A.under (.builtin "type.__call__" ⟨.ref C :: us,kw⟩)).depth=A.depth+1:=by
 first | rfl | simp [Qv,Code.weight,Code.isCreation,Code.isGuard,Code.isCaller,e7,SE,guardIds]
theorem Sz {A:A8} {C:AI} {us:List AD} {kw:List (Str×AD)}:(A.under (.builtin "type.__call__" ⟨.ref C :: us,kw⟩)).units=A.units+1:=by
 first | rfl | simp [Qv,Code.cUnits,e7,SE]
theorem Gj.make {k:Nat} {A:A8} (r:Gj (k+1) A) (C:AI) (us:List AD) (kw:List (Str×AD)):Gj k (A.under (.builtin "type.__call__" ⟨.ref C :: us,kw⟩)):=
 ⟨r.hd,by have:=r.dp;rw [TB];omega,by have:=r.un;rw [Sz];omega⟩
theorem Gj.depth {k:Nat} {A:A8} (r:Gj k A):A.depth < recursionLimit:=by have:=r.dp;omega
theorem Gj.units {k:Nat} {A:A8} (r:Gj k A):A.units+64 < D3:=by have:=r.un;omega
def tNil:TA:=λ_ H Q=>Q [] H
def fJ (ta:TE) (tr:TA):TA:=λσ H Q=>ta σ H λx H1=>tr σ H1 λxs H2=>Q (x :: xs) H2
section
variable {X:Cx} {e:Expr} {es:List Expr} {te:TE} {t:TA} {pos:Pos}
theorem He:PA X [] tNil:=λ_ _ _ _ H Q I h=>LS ⟨[],H,I,.nil,h⟩
theorem FI (ha:PE X e te) (hr:PA X es t) (hs:AX (e :: es) X.env=(false,B0 e X.env) :: AX es X.env:=by rfl):PA X (e :: es) (fJ te t):=by
 intro pos pins s σ H Q I h;rw [hs];show Ah _ _ (spliced ((false,B0 e X.env) :: Ej pos (AX es X.env))) _ _ s;refine U1 (thn (ha pins s σ H _ I h) λu s1 ⟨x,H1,I1,r1,q1⟩=>?_)
 exact thn (hr pos pins s1 σ H1 _ I1 q1) λus s2 ⟨xs,H2,I2,r2,q2⟩=>⟨x :: xs,H2,I2,.cons r1 r2,q2⟩
def tTup (t:TA):TE:=λσ H Q=>t σ H λxs H1=>xs.length<=sizeLine/\∀p,H1 p=none->Q (.ref p) (upd H1 p (.tup xs))
def tLst (t:TA):TE:=λσ H Q=>t σ H λxs H1=>xs.length<=sizeLine/\∀p,H1 p=none->Q (.ref p) (upd H1 p (.lst xs))
theorem XH {x1} (h:PA X es t):PE X (.Tuple es x1 pos) (tTup t):=by
 intro pins s σ H Q I hq;refine wpAny_Tuple_spliced (thn (h pos pins s σ H _ I hq) λus s1 ⟨xs,H1,I1,r,z,q⟩=>⟨by rw [<-r.length];exact z,?_⟩);have hf:H1 s1.heap.objs.size=none:=I1.hok.fresh (AS _);refine ⟨.ref s1.heap.objs.size,upd H1 s1.heap.objs.size (.tup xs),I1.laid (t':=s1.toks) (λb u e=>AJ _ e) (AS _) ?_,rfl,q _ hf⟩;exact ⟨z,us,r,⟨_,Af _ rfl,rfl,_,rfl⟩⟩
theorem cN (h:PA X es t):PE X (.List es pos) (tLst t):=by
 intro pins s σ H Q I hq;refine wpAny_List_spliced (thn (h pos pins s σ H _ I hq) λus s1 ⟨xs,H1,I1,r,z,q⟩=>⟨by rw [<-r.length];exact z,?_⟩);have hf:H1 s1.heap.objs.size=none:=I1.hok.fresh (AS _);refine ⟨.ref s1.heap.objs.size,upd H1 s1.heap.objs.size (.lst xs),I1.laid (t':=s1.toks) (λb u e=>AJ _ e) (AS _) ?_,rfl,q _ hf⟩;exact ⟨z,us,0,r,Af _ rfl⟩
end
abbrev Sp:=List V->Hp->VK->XK->Prop
abbrev CXT:=List Env->Hp->AF->XK->AD->AF->Prop
structure Tg (P:Ar) (w:BG) (K:AA) (mg:Str->Option AD) (base:Bk) (A:A8) (outer:List Env) (s:AF) (H:Hp):Prop where
 frames:A.frames=some outer
 mod:Mod K mg base
 bs:∀b o,base.get? b=some o->s.heap.get? b=some o/\H b=none
 bsz:base.objs.size<=s.heap.objs.size
 funs:s.heap.FunFrames base outer
 frf:∀b∈frs outer,H b=none
 hok:HOk P w H s.heap
 bare:HG s.gens
def CE (outer:List Env) (P:Ar) (w:BG) (H:Hp) (s:AF) (Q:VK) (u:AD) (s':AF):Prop:=
 ∃v H',s'.os=s.os/\HG s'.gens/\Un (frs outer) [] H H' s.heap s'.heap/\HOk P w H' s'.heap/\RelV v u/\Q v H'
def CR (CX:CXT) (outer:List Env) (P:Ar) (w:BG) (H:Hp) (s:AF) (Q:VK) (E:XK) (r:bO) (s':AF):Prop:=
 match r with
 | .ok (.ret u)=>CE outer P w H s Q u s'
 | .ok _=>False
 | .error e=>CX outer H s E e s'
structure De (P:Ar) (w:BG) (K:AA) (mg:Str->Option AD) (base:Bk) (CX:CXT) (k:Nat) (f:AI) (fd:DY) (ps:List Str) (sp:Sp):Prop where
 len:∀vs H Q E,sp vs H Q E->vs.length=ps.length
 run:∀(A:A8) (outer:List Env) (s:AF) (H:Hp) (args:Args) (us:List AD) (vs:List V) (Q:VK) (E:XK),Gj k A->Tg P w K mg base A outer s H->SF s fd args (ps.zip us)->BU vs us->sp vs H Q E ->
  Hn (AW P w) A (.call (.ref f) args) (CR CX outer P w H s Q E) s
theorem De.imp {P:Ar} {w:BG} {K:AA} {mg:Str->Option AD} {base:Bk} {CX:CXT} {k:Nat} {f:AI} {fd:DY} {ps:List Str} {sp sp':Sp} (F:De P w K mg base CX k f fd ps sp)
  (h:∀vs H Q E,sp' vs H Q E->sp vs H Q E):De P w K mg base CX k f fd ps sp':=
 ⟨λvs H Q E q=>F.len vs H Q E (h _ _ _ _ q),λA outer s H args us vs Q E hr he hb hv hs=>F.run A outer s H args us vs Q E hr he hb hv (h _ _ _ _ hs)⟩
theorem Tg.make {P:Ar} {w:BG} {K:AA} {mg:Str->Option AD} {base:Bk} {A:A8} {outer:List Env} {s:AF} {H:Hp} (e:Tg P w K mg base A outer s H) (C:AI) (us:List AD) (kw:List (Str×AD)) :
  Tg P w K mg base (A.under (.builtin "type.__call__" ⟨.ref C :: us,kw⟩)) outer s H:=⟨by first | exact e.frames | (simpa [Qv,Code.envs,SE,pushEnvs] using e.frames),e.mod,e.bs,e.bsz,e.funs,e.frf,e.hok,e.bare⟩
section
variable {X:Cx} {pins:List (AI×Obj)} {σ:St} {H:Hp} {s s':AF}
theorem Inv.env0 (I:Inv X pins σ H s):Tg X.prog X.w X.K X.mg X.base X.A X.stack s H:=
 ⟨I.ok.frames,I.ok.mod,I.bs,Aq I.ok.bsz I.sz,I.stack,I.stkFree,I.hok,I.bare⟩
theorem Inv.after {Q:VK} {u:AD} (I:Inv X pins σ H s) (h:CE X.stack X.prog X.w H s Q u s'):EP X pins σ Q u s':=by
 obtain ⟨v,H',os,bare,un,hok,r,q⟩:=h;obtain ⟨hh,g,d,t,os'⟩:=s';obtain rfl:os'=s.os:=os;exact ⟨v,H',I.call (h':=hh) (g':=g) (d':=d) (t':=t) (ch:=[]) un hok bare (λb z=>absurd z (by simp)),r,q⟩
end
def fK (sp:Sp) (dvs:List V) (E:St->XK) (t:TA):TE:=λσ H Q=>t σ H λvs H1=>sp (vs++dvs) H1 Q (E σ)
def fF (C:AI) (sp:Sp) (dvs:List V) (E:St->XK) (t:TA):TE:=λσ H Q=>t σ H λvs H1=>∀x dx,H1 x=none->H1 dx=none->dx≠x ->
 sp (.ref x :: (vs++dvs)) (upd (upd H1 dx (.own x)) x (.ins C dx [])) (λv H2=>v=.non/\Q (.ref x) H2) (E σ)
def Binds (K:AA) (fd:DY) (ps:List Str) (ds:List AD):Prop:=
 ∀(s:AF) (us:List AD),K.In s.heap->(us++ds).length=ps.length->SF s fd ⟨us,[]⟩ (ps.zip (us++ds))
theorem Binds.all {K:AA} {fd:DY} {ps:List Str} (h:∀us:List AD,us.length=ps.length->bindArgs fd ⟨us,[]⟩=pure (ps.zip us)):Binds K fd ps []:=λs us _ hl=>by
 rw [Bq] at hl ⊢;exact .of_eq (h us hl)
def KH (CX:CXT) (X:Cx) (E:St->XK):Prop:=∀(pins:List (AI×Obj)) (σ:St) (H:Hp) (s:AF) (e:AD) (s':AF),Inv X pins σ H s->CX X.stack H s (E σ) e s'->X.xe e s'
section
variable {X:Cx} {CX:CXT} {k:Nat} {f C:AI} {fd:DY} {ps:List Str} {sp:Sp} {dvs:List V} {ds:List AD} {E:St->XK} {x m:Str} {p pos apos:Pos} {e o:Expr} {es:List Expr} {ta:TE} {t:TA}
theorem bt {pins:List (AI×Obj)} {σ:St} {H:Hp} {s:AF} {Q:VK} {us:List AD} {vs:List V} (F:De X.prog X.w X.K X.mg X.base CX k f fd ps sp) (hr:Gj k X.A) (hb:Binds X.K fd ps ds) (hd:BU dvs ds) (hx:KH CX X E)
  (I:Inv X pins σ H s) (r:BU vs us) (h:sp (vs++dvs) H Q (E σ)):Ah (AW X.prog X.w) X.A (call (.ref f) us) (EP X pins σ Q) X.xe s:=by
 have r2:BU (vs++dvs) (us++ds):=r.append hd
 have hl:(us++ds).length=ps.length:=by rw [<-r2.length];exact F.len _ _ _ _ h
 refine SH (ON (F.run X.A X.stack s H ⟨us,[]⟩ (us++ds) (vs++dvs) Q (E σ) hr I.env0 (hb s us I.kIn hl) r2 h) λr s' hq=>?_)
 cases r with
 | error e=>exact hx pins σ H s e s' I hq
 | ok fl=>
  cases fl with
  | ret u=>exact I.after hq
  | next=>exact Dj hq
  | brk=>exact Dj hq
  | cont=>exact Dj hq
theorem Zb (F:De X.prog X.w X.K X.mg X.base CX k f fd ps sp) (hr:Gj k X.A) (hg:Gl X x) (hm:X.mg x=some (.ref f)) (hk:Fa X.K (.ref f)=true) (hb:Binds X.K fd ps ds) (hd:BU dvs ds) (hx:KH CX X E)
  (ha:PA X (e :: es) t) (hdb:(x==("__debug__" : Str))=false:=by decide) (he:AX (e :: es) X.env=(false,B0 e X.env) :: AX es X.env:=by rfl) (hpl:(Ej pos (AX es X.env)).any (·.1)=false:=by rfl) :
  PE X (.Call (.Name x p) (e :: es) [] pos) (fK sp dvs E t):=by
 intro pins s σ H Q I h;refine Fw (Kr I hg hm ?_ hdb);refine SR (h₀:=X.base) I.ok.mod.kin hk (thn (ha pos pins s σ H _ I h) λus s1 ⟨vs,H1,I1,r,q⟩=>⟨I1.kIn,?_⟩) he hpl;exact bt F hr hb hd hx I1 r q
structure Mk (K:AA) (C f:AI):Prop where
 makes:WH K C=true
 init:CV K (.ref C) "__init__" = some (some (.ref f))
 fn:PySem.W.isFn K (.ref f)=true
 kp:Fa K (.ref C)=true
theorem W2 {pins:List (AI×Obj)} {σ:St} {H:Hp} {s:AF} {Q:VK} {us:List AD} {vs:List V} (M:Mk X.K C f) (F:De X.prog X.w X.K X.mg X.base CX k f fd ps sp) (hr:Gj (k+1) X.A) (hb:Binds X.K fd ps ds) (hd:BU dvs ds)
  (hx:KH CX X E) (I:Inv X pins σ H s) (r:BU vs us)
  (h:∀x dx,H x=none->H dx=none->dx≠x->sp (.ref x :: (vs++dvs)) (upd (upd H dx (.own x)) x (.ins C dx [])) (λv H2=>v=.non/\Q (.ref x) H2) (E σ)) :
  Ah (AW X.prog X.w) X.A (call (.ref C) us) (EP X pins σ Q) X.xe s:=by
 have hq:=h (s.heap.objs.size+1) s.heap.objs.size (I.hok.fresh (Jy _)) (I.hok.fresh (AS _)) (Ax (FE _));have I2:=Inv.made (C:=C) I;have r2:BU (V.ref (s.heap.objs.size+1) :: (vs++dvs)) (Au (s.heap.objs.size+1) :: (us++ds)):=.cons rfl (r.append hd)
 have hl:(Au (s.heap.objs.size+1) :: us++ds).length=ps.length:=by
  have e:=r2.length;rw [F.len _ _ _ _ hq] at e;exact e.symm
 refine SH (Xe (f:=f) I.kIn M.makes M.init (beq_iff_eq.mp M.fn) (ON (F.run _ X.stack _ _ ⟨Au (s.heap.objs.size+1) :: us,[]⟩ (Au (s.heap.objs.size+1) :: (us++ds)) _ _ (E σ) (hr.make C us [])
  (I2.env0.make C us []) (hb _ (Au (s.heap.objs.size+1) :: us) I2.kIn hl) r2 hq) λr s' hq'=>?_))
 cases r with
 | error e=>exact hx pins σ _ _ e s' I2 hq'
 | ok fl=>
  cases fl with
  | ret u=>
   obtain ⟨v,H',I3,rv,ev,q3⟩:=I2.after hq';subst ev;exact ⟨rv,⟨V.ref (s.heap.objs.size+1),H',I3,rfl,q3⟩⟩
  | next=>exact Dj hq'
  | brk=>exact Dj hq'
  | cont=>exact Dj hq'
theorem ZX (M:Mk X.K C f) (F:De X.prog X.w X.K X.mg X.base CX k f fd ps sp) (hr:Gj (k+1) X.A) (hg:Gl X x) (hm:X.mg x=some (.ref C)) (hb:Binds X.K fd ps ds) (hd:BU dvs ds) (hx:KH CX X E)
  (ha:PA X (e :: es) t) (hdb:(x==("__debug__" : Str))=false:=by decide) (he:AX (e :: es) X.env=(false,B0 e X.env) :: AX es X.env:=by rfl) (hpl:(Ej pos (AX es X.env)).any (·.1)=false:=by rfl) :
  PE X (.Call (.Name x p) (e :: es) [] pos) (fF C sp dvs E t):=by
 intro pins s σ H Q I h;refine Fw (Kr I hg hm ?_ hdb);refine SR (h₀:=X.base) I.ok.mod.kin M.kp (thn (ha pos pins s σ H _ I h) λus s1 ⟨vs,H1,I1,r,q⟩=>⟨I1.kIn,?_⟩) he hpl;exact W2 M F hr hb hd hx I1 r q
end
section
variable {X:Cx} {CX:CXT} {k:Nat} {f C:AI} {fd:DY} {ps ks:List Str} {sp:Sp} {E:St->XK} {x m:Str} {p pos apos kpos:Pos} {e o:Expr} {es:List Expr} {kws:List WY} {te ta:TE} {t tk:TA} {nm:Option Str}
variable {g:List AD->List AD->List AD} {gV:List V->List V->List V}
end
structure Bu (N P:List Str) (sc:HJ):Prop where
 kind:sc.kind=.function
 co:sc.isCoroutine=false
 gen:sc.isGenerator=false
 nd:N.Nodup
 pre:N.take P.length=P
 par:∀x∈P,sc.names.lookup x=some .local∨sc.names.lookup x=some .cell
 nofree:∀y∈sc.names,y.2≠.free
theorem PZ {kindOf:Str->Option OR} {x:Str}:∀ {binds:List (Str×AD)} {m:Str->Option AD},(∀v,(x,v)∉binds)->WC kindOf binds m x=m x
 | [],_,_=>rfl
 | (n,v) :: r,m,h=>by
  unfold WC;rw [PZ λw hw=>h w (Al _ hw)];split
  ·have:x≠n:=by rintro rfl;exact h v A6
   simp [this]
  ·rfl
theorem Pb {kindOf:Str->Option OR} {x:Str}:∀ {binds:List (Str×AD)} {m:Str->Option AD},(∀v,(x,v)∉binds)->WD kindOf binds m x=m x
 | [],_,_=>rfl
 | (n,v) :: r,m,h=>by
  unfold WD;rw [Pb λw hw=>h w (Al _ hw)];split
  ·rfl
  ·have:x≠n:=by rintro rfl;exact h v A6
   simp [this]
theorem Pa {kindOf:Str->Option OR} {x:Str} {v:AD}:∀ {P:List Str} {vs:List AD} {i:Nat} {m:Str->Option AD},P.Nodup->P[i]?=some x->vs[i]?=some v->kindOf x=some .local ->
  WC kindOf (P.zip vs) m x=some v
 | [],_,_,_,_,h,_,_=>by simp at h
 | _ :: _,[],_,_,_,_,h,_=>by simp at h
 | p :: P,w :: vs,0,m,nd,h1,h2,hk=>by
  simp at h1 h2;subst h1;subst h2;show WC kindOf ((p,w) :: P.zip vs) m p=_;unfold WC;rw [PZ λv hv=>(EV.mp nd).1 (OG hv).1,if_pos hk];simp
 | p :: P,w :: vs,i+1,m,nd,h1,h2,hk=>by
  show WC kindOf ((p,w) :: P.zip vs) m x=_;unfold WC;exact Pa (i:=i) (EV.mp nd).2 (by simpa using h1) (by simpa using h2) hk
theorem Pc {kindOf:Str->Option OR} {x:Str} {v:AD}:∀ {P:List Str} {vs:List AD} {i:Nat} {m:Str->Option AD},P.Nodup->P[i]?=some x->vs[i]?=some v->kindOf x≠some .local ->
  WD kindOf (P.zip vs) m x=some v
 | [],_,_,_,_,h,_,_=>by simp at h
 | _ :: _,[],_,_,_,_,h,_=>by simp at h
 | p :: P,w :: vs,0,m,nd,h1,h2,hk=>by
  simp at h1 h2;subst h1;subst h2;show WD kindOf ((p,w) :: P.zip vs) m p=_;unfold WD;rw [Pb λv hv=>(EV.mp nd).1 (OG hv).1,if_neg hk];simp
 | p :: P,w :: vs,i+1,m,nd,h1,h2,hk=>by
  show WD kindOf ((p,w) :: P.zip vs) m x=_;unfold WD;exact Pc (i:=i) (EV.mp nd).2 (by simpa using h1) (by simpa using h2) hk
def start (N:List Str) (vs:List V):St:=vs.map some++An (N.length - vs.length) none
def QV (CX:CXT) (P:Ar) (w:BG) (K:AA) (mg:Str->Option AD) (base:Bk) (N:List Str) (qual:Str) (scope:HJ) (f:AI) (cd:AD) (A:A8) (outer:List Env) (s:AF) (H:Hp) (E:XK):Cx where
 prog:=P
 w:=w
 K:=K
 mg:=mg
 base:=base
 A:=A.deeper (Jw qual scope s.heap.objs.size f cd)
 N:=N
 s₀:=s
 H₀:=H
 env:=Jw qual scope s.heap.objs.size f cd
 outer:=outer
 stack:=Jw qual scope s.heap.objs.size f cd :: outer
 ex:=[]
 calm:=true
 fn:=λ_=>true
 pn:=[]
 xe:=λe s'=>Ah (AW P w) (A.deeper (Jw qual scope s.heap.objs.size f cd)) (leaving (Jw qual scope s.heap.objs.size f cd) e) (λ_ s''=>CX outer H s E e s'') (λe' s''=>CX outer H s E e' s'') s'
theorem Rz {sc:HJ} {n:Nat} {x:Str} (h:sc.names.lookup x=some .cell):∃c,(ei n sc.names []).lookup x=some c:=by
 have q:=Pk sc.names n [] (.inl h);exact Oy.mp q
theorem Vh {CX:CXT} {P:Ar} {w:BG} {K:AA} {mg:Str->Option AD} {base:Bk} {N ps:List Str} {qual:Str} {scope:HJ} {f:AI} {cd:AD} {A:A8} {outer:List Env} {s s1:AF} {H:Hp} {E:XK} {us:List AD} {vs:List V}
  (S:Bu N ps scope) (hd:A.handled=none) (e0:Tg P w K mg base A outer s H) (hl:vs.length=ps.length) (r:BU vs us)
  (x:InCallC s s.heap.objs.size (WC (Jw qual scope s.heap.objs.size f cd).kindOf (ps.zip us) λ_=>none) (ei (s.heap.objs.size+1) scope.names []) (WD (Jw qual scope s.heap.objs.size f cd).kindOf (ps.zip us) λ_=>none) s1) :
  Inv (QV CX P w K mg base N qual scope f cd A outer s H E) [] (start N vs) H s1:=by
 have hpl:ps.length<=N.length:=by have:=congrArg NE S.pre;rw [B4] at this;omega
 obtain ⟨h1,tk,rfl,hk⟩:=x.done
 have noA:∀b:AI,b∉(QV CX P w K mg base N qual scope f cd A outer s H E).ex:=λb z=>absurd (show b∈([]:List AI) from z) (by simp)
 refine ⟨⟨e0.mod,S.kind,rfl,rfl,AS _,λy z c h1 h2=>?_,λy hy=>?_,λy c _ h=>?_,λ_=>hd,A8.frames_deeper e0.frames,.inr ⟨rfl,rfl⟩,λb z=>absurd z (noA b),e0.bs,e0.bsz,λb _ _=>noA b,λb z=>absurd z (noA b),e0.funs,e0.frf⟩,
  rfl,e0.bare,Un.kept hk,⟨_,x.toInCall.ns,λi y v h1 h2 h3=>?_⟩,λy c h=>⟨_,x.cell y c h⟩,e0.hok.fresh (AS _),λy c h=>?_,λp hp=>absurd (show p∈([]:List (AI×Obj)) from hp) (by simp),e0.hok.kept hk,?_⟩
 ·exact name_of_addr x.apart (D2 h1) (D2 h2)
 ·have hy:scope.names.lookup y=some .cell∨scope.names.lookup y=some .free:=hy
  rcases hy with hy | hy
  ·exact Rz hy
  ·exact absurd rfl (S.nofree _ (D2 hy))
 ·exact Mb (x.above y c (D2 h))
 ·have hi:i < vs.length:=by
   unfold start at h2
   by_cases hi:i < vs.length
   ·exact hi
   ·rw [BI (by simpa using hi)] at h2
    rw [Fb] at h2
    split at h2 <;> cases h2
  have ha:vs[i]?=some v:=by
   unfold start at h2;rw [Ag (by simpa using hi),AV] at h2
   cases e:vs[i]? with
   | none=>rw [e] at h2;cases h2
   | some a=>rw [e] at h2;cases h2;rfl
  obtain ⟨u,hu,rv⟩:=r.get ha
  have hp:ps[i]?=some y:=by
   rw [<-S.pre,Qr (by omega)];exact h1
  have ndP:ps.Nodup:=by rw [<-S.pre];exact S.nd.sublist (WV _ _)
  refine ⟨u,rv,?_⟩
  rcases S.par y (Ai hp) with k | k
  ·exact .inl ⟨k,Pa ndP hp hu k⟩
  ·obtain ⟨c,e⟩:=Rz (n:=s.heap.objs.size+1) k
   refine .inr ⟨.inl k,c,e,?_⟩;have q:=x.cell y c e;rw [Pc ndP hp hu (by show scope.names.lookup y≠_;rw [k];decide)] at q;exact q
 ·exact e0.hok.fresh (Mb (x.above y c (D2 h)))
 ·unfold start
  show _=N.length;rw [A2,AK,JZ];omega
theorem gh {CX:CXT} {P:Ar} {w:BG} {K:AA} {mg:Str->Option AD} {base:Bk} {k:Nat} {f:AI} {name qual:Str} {params:Arguments} {body:List Cp} {scope:HJ} {dV kV doc pm cdv ct oc:AD} {an od:Option AI}
  {osl:Array (Option AD)} {N ps:List Str} {sp:Sp} (lk:K.lookup f=some ⟨oc,od,.func (Go name qual params body scope dV kV doc pm an cdv ct),osl⟩) (hcd:NA K cdv qual=true) (S:Bu N ps scope)
  (len:∀vs H Q E,sp vs H Q E->vs.length=ps.length)
  (hbody:∀(A:A8) (outer:List Env) (s:AF) (H:Hp) (vs:List V) (Q:VK) (E:XK),Gj k (A.deeper (Jw qual scope s.heap.objs.size f cdv))->sp vs H Q E ->
   ∃t,PSs (QV CX P w K mg base N qual scope f cdv A outer s H E) body t/\t { nx:=λ_ H'=>Q .non H',rt:=Q } (start N vs) H) :
  De P w K mg base CX (k+1) f (Go name qual params body scope dV kV doc pm an cdv ct) ps sp:=by
 refine ⟨len,λA outer s H args us vs Q E hr e0 hb r hsp=>?_⟩;have hl:=len _ _ _ _ hsp
 have KX:K.In s.heap:=e0.mod.kin.keeps λb o e=>(e0.bs b o e).1
 have lim:s.heap.NoLimit:=e0.mod.nolimit.keeps λb o e=>(e0.bs b o e).1
 have hkind:∀y∈ps.zip us,scope.names.lookup y.1=some .local∨(scope.names.lookup y.1=some .cell/\((ei (s.heap.objs.size+1) scope.names []).lookup y.1).isSome=true):=λ⟨n,v⟩ hy=>by
  rcases S.par n (OG hy).1 with q | q
  ·exact .inl q
  ·exact .inr ⟨q,Pk _ _ _ (.inl q)⟩
 refine codeAny_call_function hr.depth (KX _ _ lk) rfl S.co S.gen rfl (PySem.W.codeRec_of KX hcd) (hb _ _ _ _ ?_)
 refine wpAny_newFunctionEnv_cells S.kind hkind λenv he s1 x=>?_
 subst he;refine ⟨lim.keeps x.toInCall.keep,codeAny_func ?_⟩;obtain ⟨t,ht,hq⟩:=hbody A outer s H vs Q E (hr.deeper _) hsp;have I:Inv (QV CX P w K mg base N qual scope f cdv A outer s H E) [] (start N vs) H s1:=Vh S hr.hd e0 hl r x
 refine Eh (ht [] s1 (start N vs) H _ I hq) (λfl s' hs=>?_) λe s' hs=>hs
 have fin:∀ {σ':St} {H':Hp} {v:V} {u:AD},Inv (QV CX P w K mg base N qual scope f cdv A outer s H E) [] σ' H' s'->RelV v u->Q v H'->CE outer P w H s Q u s':=
  λ{σ' H' v u} J rv q=>⟨v,H',J.os,J.bare,J.base,J.hok,rv,q⟩
 cases fl with
 | ret u=>
  obtain ⟨v,σ',H',J,rv,q⟩:=hs;exact fin J rv q
 | next=>
  obtain ⟨σ',H',J,q⟩:=hs;exact fin (v:=V.non) (u:=BO) J rfl q
 | brk=>
  obtain ⟨_,_,_,q⟩:=hs;exact Dj q
 | cont=>
  obtain ⟨_,_,_,q⟩:=hs;exact Dj q
end L2
namespace L2
open PySem PySem.Spec PyProof.Rows
section
variable {X:Cx} {x:Str} {p pos:Pos} {e:Expr} {es:List Expr} {t:TA} {id T:String} {r:List V->Hp->VK->Prop}
def tCB (r:List V->Hp->VK->Prop) (t:TA):TE:=λσ H Q=>t σ H λvs H1=>r vs H1 Q
theorem Hu (hc:IF X (.builtin id) r) (hg:Gl X x) (hm:X.mg x=none) (hv:FW x=some (.builtin id)) (ha:PA X (e :: es) t) (hn:x≠"__name__":=by decide) (hdb:(x==("__debug__" : Str))=false:=by decide)
  (he:AX (e :: es) X.env=(false,B0 e X.env) :: AX es X.env:=by rfl) (hpl:(Ej pos (AX es X.env)).any (·.1)=false:=by rfl):PE X (.Call (.Name x p) (e :: es) [] pos) (tCB r t):=by
 intro pins s σ H Q I h;refine Fw (IV I hg hm hv ?_ hn hdb);exact gv (thn (ha pos pins s σ H _ I h) λus s1 ⟨vs,H1,I1,r1,q1⟩=>hc pins s1 σ H1 vs us Q I1 r1 q1) he hpl
theorem VR (hc:IF X (.type T) r) (hg:Gl X x) (hm:X.mg x=none) (hv:FW x=some (.type T)) (ha:PA X (e :: es) t) (hn:x≠"__name__":=by decide) (hdb:(x==("__debug__" : Str))=false:=by decide)
  (he:AX (e :: es) X.env=(false,B0 e X.env) :: AX es X.env:=by rfl) (hpl:(Ej pos (AX es X.env)).any (·.1)=false:=by rfl):PE X (.Call (.Name x p) (e :: es) [] pos) (tCB r t):=by
 intro pins s σ H Q I h;refine Fw (IV I hg hm hv ?_ hn hdb);exact Bz (thn (ha pos pins s σ H _ I h) λus s1 ⟨vs,H1,I1,r1,q1⟩=>hc pins s1 σ H1 vs us Q I1 r1 q1) he hpl
end
end L2
namespace HT
open PySem PyProof.Rows
section
open PySem.SeqAt
open PySem.AutoSeq1 (wpAny_loadPart')
open PySem.MeetsSeq PySem.MeetsSeq2 PySem.MeetsSeq3
end
section
variable {prog:Ar} {w:BG} {A:A8} {E:AD->AF->Prop} {s:AF}
theorem aH {t b:AI} {vs ws:List AD} {Q:AD->AF->Prop} (ht:eU s.heap t vs.toArray) (hb:eU s.heap b ws.toArray) (hv:vs≠[])
  (h1:ws=[]->Q (.ref t) s) (h2:ws≠[]->Q (.ref s.heap.objs.size) { s with heap:=s.heap.push { cls:=.type "tuple",data:=.seq (vs++ws).toArray } })
  (hsz:vs.length+ws.length<=sizeLine):Ah (AW prog w) A (DX .Add (.ref t) (.ref b)) Q E s:=by
 obtain ⟨⟨cls,dd,data,sl⟩,ho,hc,n,hd⟩:=id ht;obtain ⟨⟨cls2,dd2,data2,sl2⟩,ho2,hc2,n2,hd2⟩:=id hb;simp only at hc hd hc2 hd2;subst hc hd hc2 hd2
 have e:vs.toArray++ws.toArray=(vs++ws).toArray:=by simp
 by_cases hw:ws=[]
 ·exact WT ⟨_,ho,rfl⟩ ⟨_,ho2,rfl⟩ Pi Ur IK Ho (Ha _ _)
   (tuple_addW1 t b vs.toArray ws.toArray n n2 dd dd2 sl sl2 (by simpa using hv) (by simp [hw])) ⟨ho,ho2,h1 hw⟩
 ·refine WT ⟨_,ho,rfl⟩ ⟨_,ho2,rfl⟩ Pi Ur IK Ho (Ha _ _)
   (tuple_addW2 t b vs.toArray ws.toArray n n2 dd dd2 sl sl2 (by simpa using hv) (by simpa using hw) (by rw [Ab,Ab];exact hsz)) ⟨ho,ho2,?_⟩
  rw [e];exact h2 hw
def sIx (n d:Nat):Option Int->Nat
 | none=>d
 | some v=>if v < 0 then (v+(n:Int)).toNat else min v.toNat n
theorem RJ (n d:Nat):sIx n d none=d:=rfl
theorem P4 (n d k:Nat):sIx n d (some (k:Int))=min k n:=by
 show (if (k:Int) < 0 then ((k:Int)+(n:Int)).toNat else min (k:Int).toNat n)=min k n;rw [if_neg (by omega),Bf]
theorem br (n d:Nat) (hd:d<=n) (o:Option Int):sIx n d o<=n:=by
 cases o with
 | none=>exact hd
 | some v=>
  show (if v < 0 then (v+(n:Int)).toNat else min v.toNat n)<=n
  by_cases hv:v < 0
  ·rw [if_pos hv];omega
  ·rw [if_neg hv];exact NC _ _
theorem Uf (v:Int) (n d:Nat):(if v < 0 then max (v+(n:Int)) 0 else min v (n:Int))=((sIx n d (some v):Nat):Int):=by
 show (if v < 0 then max (v+(n:Int)) 0 else min v (n:Int))=(((if v < 0 then (v+(n:Int)).toNat else min v.toNat n):Nat):Int)
 by_cases hv:v < 0
 ·simp only [if_pos hv];omega
 ·simp only [if_neg hv];omega
theorem Td (lo hi:Option Int) (n:Nat):Gd lo hi 1 (n:Int)=(((sIx n 0 lo:Nat):Int),((sIx n n hi:Nat):Int)):=by
 have h1:¬((1:Int) < 0):=by omega
 unfold Gd;simp only [h1,if_false];refine Tn ?_ ?_
 ·cases lo with
  | none=>rfl
  | some v=>exact Uf v n 0
 ·cases hi with
  | none=>rfl
  | some v=>exact Uf v n n
theorem So (i j:Nat):EX (i:Int) (j:Int) 1=j - i:=by
 unfold EX
 have h1:(1:Int) > 0:=by omega
 simp only [h1,if_true,ez]
 split <;> omega
theorem NU {v:AD} {o:Option Int} {Q:Option Int->AF->Prop} (p:Pp v o) (h:Q o s):Ah (AW prog w) A (fA v) Q E s:=by
 cases p with
 | none=>exact slicePart_none h
 | int i t=>exact slicePart_int h
theorem LZ {sl:AI} {vl vu:AD} {lo hi:Option Int} {n:Nat} {Q:Int×Int×Nat->AF->Prop} (hs:s.heap.IsSliceOf sl vl vu .none) (pl:Pp vl lo) (pu:Pp vu hi)
  (h:Q (((sIx n 0 lo:Nat):Int),1,sIx n n hi - sIx n 0 lo) s):Ah (AW prog w) A (Ka (.ref sl) (pure (n:Int))) Q E s:=by
 obtain ⟨os,hos,hcs,hds⟩:=id hs;unfold Ka fB;refine AB (AB (DD hos hds (x:=vl) rfl (AB (DD hos hds (x:=vu) rfl (AB (DD hos hds (x:=.none) rfl (AM ?_)))))));refine AB (slicePart_none ?_);show Ah _ _ (if ((1:Int)==0)=true then _ else _) _ _ s;rw [if_neg (by decide)];refine AB (NU pl (AB (NU pu (AB (AM ?_)))));show Ah _ _ (match Gd lo hi 1 (n:Int) with | (lo,hi)=>pure (lo,(1:Int),EX lo hi 1)) _ _ s;rw [Td lo hi n];show Ah _ _ (pure (((sIx n 0 lo:Nat):Int),(1:Int),EX ((sIx n 0 lo:Nat):Int) ((sIx n n hi:Nat):Int) 1)) _ _ s;rw [So];exact AM h
theorem XD (xs:Array AD) (i k:Nat):((Ac k).filterMap λ(m:Nat)=>xs[((i:Int)+(m:Int) * 1).toNat]?).toArray=((xs.toList.drop i).take k).toArray:=by
 have e:(λ(m:Nat)=>xs[((i:Int)+(m:Int) * 1).toNat]?)=λm=>xs[i+m]?:=by
  funext m
  have:((i:Int)+(m:Int) * 1).toNat=i+m:=by omega
  rw [this]
 rw [e];have:=pick_run xs i k;rw [List.filterMap_map] at this
 have e2:((λx=>xs[x]?)∘λx=>i+x)=λm=>xs[i+m]?:=rfl
 rw [e2] at this;rw [this]
theorem Kx {t sl:AI} {items:Array AD} {vl vu:AD} {lo hi:Option Int} {Q:AD->AF->Prop} (ht:eU s.heap t items) (hs:s.heap.IsSliceOf sl vl vu .none) (pl:Pp vl lo) (pu:Pp vu hi)
  (hw:¬(sIx items.size 0 lo=0/\sIx items.size items.size hi=items.size))
  (h:Q (.ref s.heap.objs.size) { s with heap:=s.heap.push { cls:=.type "tuple",data:=.seq ((items.toList.drop (sIx items.size 0 lo)).take (sIx items.size items.size hi - sIx items.size 0 lo)).toArray } })
  (hsz:items.size<=sizeLine):Ah (AW prog w) A (Lu (.ref t) (.ref sl)) Q E s:=by
 have htake:sizeOk (.seq ((items.toList.drop (sIx items.size 0 lo)).take (sIx items.size items.size hi - sIx items.size 0 lo)).toArray):=by
  show ((items.toList.drop (sIx items.size 0 lo)).take (sIx items.size items.size hi - sIx items.size 0 lo)).toArray.size<=sizeLine;rw [Ab,B4,Yf,Bo];omega
 have hj:sIx items.size items.size hi<=items.size:=br _ _ (AS _) hi;obtain ⟨os,hos,hcs,hds⟩:=id hs;have hTs:s.TypeIs (.ref sl) "slice":=⟨os,hos,hcs⟩;unfold Lu
 try with_reducible refine Fp ?_
 first | refine AB (AM ?_) | skip
 refine AB (wpAny_sequenceKey ht.typeIs (by decide) ?_)
 refine AB (DL (name:=HI "__getitem__") ht.typeIs FN
  (Dd FN ht.typeIs entry_tuple_getitem ?_ (args_tuple_getitem _ _)))
 show Ah _ _ (e8 (.ref t) >>= _) _ _ s;refine AB (tupleItemsOf_ ht ?_);refine AB (WP hTs ?_);rw [if_pos (by decide)];refine AB (LZ hs pl pu ?_)
 have hno:¬((((sIx items.size 0 lo:Nat):Int)==0&&(1:Int)==1&&(sIx items.size items.size hi - sIx items.size 0 lo)==items.size)=true):=by
  intro q;rw [FD,FD] at q;have q1:((sIx items.size 0 lo:Nat):Int)=0:=eq_of_beq q.1.1;have q2:sIx items.size items.size hi - sIx items.size 0 lo=items.size:=eq_of_beq q.2;exact hw ⟨by omega,by omega⟩
 show Ah _ _ (if (((sIx items.size 0 lo:Nat):Int)==0&&(1:Int)==1&&(sIx items.size items.size hi - sIx items.size 0 lo)==items.size)=true then _ else _) _ _ s;rw [if_neg hno,XD]
 first
  | exact AB (m:=Ci _) (Bj (AM ⟨_,rfl,AM h⟩) htake)
  | exact AB (m:=Ci _) (Bj (AB (AM (AM ⟨_,rfl,AM h⟩))) htake)
  | exact AB (AB (m:=Ci _) (Bj (AM (AM ⟨_,rfl,AM h⟩)) htake))
  | exact AB (AB (m:=Ci _) (Bj (AM ⟨_,rfl,AM h⟩) htake))
end
end HT
namespace L2
open PySem PySem.Spec PyProof.Rows
abbrev TO:=St->Hp->(Option Int->Hp->Prop)->Prop
def PO (X:Cx) (e:Option Expr) (t:TO):Prop:=
 ∀(pins:List (AI×Obj)) (s:AF) (σ:St) (H:Hp) (Q:Option Int->Hp->Prop),Inv X pins σ H s->t σ H Q ->
  Ah (AW X.prog X.w) X.A (evalPart e X.env) (λu s'=>∃o H',Inv X pins σ H' s'/\Pp u o/\Q o H') X.xe s
def Y2:TO:=λ_ H Q=>Q none H
def fD (t:TE):TO:=λσ H Q=>t σ H λx H1=>∃i,x=.int i/\Q (some i) H1
theorem intsAre_of {ns:List Int}:∀ {us:List AD},BU (ns.map V.int) us->FY us ns:=by
 induction ns with
 | nil=>intro us r;rw [Lw] at r;cases r;exact .nil
 | cons n ns ih=>
  intro us r;rw [A5] at r
  cases r with
  | cons r1 r2=>
   obtain ⟨t,e⟩:=r1;subst e;exact .cons n t (ih r2)
section
variable {κ:Type} [DecidableEq κ]
def JD (kvs:List (κ×V)) (k:κ):Option V:=(kvs.find? λkv=>decide (kv.1=k)).map (·.2)
def Ir (kvs:List (κ×V)) (k:κ) (v:V):List (κ×V):=
 if (kvs.any λkv=>decide (kv.1=k))=true then kvs.map (λkv=>if kv.1=k then (kv.1,v) else kv) else kvs++[(k,v)]
theorem NN {p:κ×V} {r:List (κ×V)} {k:κ} (e:p.1=k):JD (p :: r) k=some p.2:=by simp [JD,B1,e]
theorem NO {p:κ×V} {r:List (κ×V)} {k:κ} (e:¬p.1=k):JD (p :: r) k=JD r k:=by simp [JD,B1,e]
theorem Q8 (k:κ):∀kvs:List (κ×V),(kvs.any λkv=>decide (kv.1=k))=(JD kvs k).isSome
 | []=>rfl
 | p :: r=>by
  rw [Gc]
  by_cases e:p.1=k
  ·simp only [NN e,decide_eq_true e,Bool.true_or,Option.isSome_some]
  ·rw [NO e,decide_eq_false e,bT];exact Q8 k r
theorem MK (kvs:List (κ×V)) (k:κ) (v:V):(Ir kvs k v).length<=kvs.length+1:=by
 unfold Ir;split
 ·rw [AK];omega
 ·rw [A2,BA,Yo];omega
theorem Ls.isSome_eq {o:Option V} {u:Option AD} (r:Ls o u):o.isSome=u.isSome:=by
 cases o with
 | none=>cases u with
  | none=>rfl
  | some _=>exact (show False from r).elim
 | some _=>cases u with
  | none=>exact (show False from r).elim
  | some _=>rfl
theorem KV.val {kvs:List (κ×V)} {vs:List (κ×AD)} (r:KV kvs vs) (k:κ):Ls (JD kvs k) (OL vs k):=by
 unfold KV at r
 induction r with
 | nil=>exact EI
 | @cons p q ps qs h t ih=>
  obtain ⟨h1,h2⟩:=h
  by_cases e:p.1=k
  ·have e':q.1=k:=h1.symm.trans e
   have b:OL (q :: qs) k=some q.2:=by simp [OL,B1,e']
   rw [NN e,b];exact h2
  ·have e':¬q.1=k:=λz=>e (h1.trans z)
   have b:OL (q :: qs) k=OL qs k:=by simp [OL,B1,e']
   rw [NO e,b];exact ih
theorem KV.any {kvs:List (κ×V)} {vs:List (κ×AD)} (r:KV kvs vs) (k:κ):(kvs.any λkv=>decide (kv.1=k))=vs.any λkv=>decide (kv.1=k):=by
 unfold KV at r
 induction r with
 | nil=>rfl
 | cons h t ih=>rw [Gc,Gc,ih,h.1]
theorem KV.repl {kvs:List (κ×V)} {vs:List (κ×AD)} (r:KV kvs vs) (k:κ) {y:V} {u:AD} (ry:RelV y u) :
  KV (kvs.map λkv=>if kv.1=k then (kv.1,y) else kv) (vs.map λkv=>if kv.1=k then (kv.1,u) else kv):=by
 unfold KV at r ⊢
 induction r with
 | nil=>exact .nil
 | @cons p q ps qs h t ih=>
  rw [A5,A5];refine .cons ?_ ih;obtain ⟨h1,h2⟩:=h
  by_cases e:p.1=k
  ·rw [if_pos e,if_pos (h1.symm.trans e)];exact ⟨h1,ry⟩
  ·rw [if_neg e,if_neg (λz=>e (h1.trans z))];exact ⟨h1,h2⟩
theorem KV.put {kvs:List (κ×V)} {vs:List (κ×AD)} (r:KV kvs vs) (k:κ) {y:V} {u:AD} (ry:RelV y u):KV (Ir kvs k y) (stored vs k u):=by
 unfold Ir stored;rw [r.any k]
 by_cases e:(vs.any λkv=>decide (kv.1=k))=true
 ·rw [if_pos e,if_pos e];exact r.repl k ry
 ·rw [if_neg e,if_neg e];exact SB r ⟨rfl,ry⟩
theorem KV.length {kvs:List (κ×V)} {vs:List (κ×AD)} (r:KV kvs vs):kvs.length=vs.length:=EU r
end
theorem Rn {P:Ar} {w:BG} {k:Key} {u:AD} (r:RelV (kV k) u):(EB P w).is k u=true:=by
 cases k with
 | inl i=>obtain ⟨t,e⟩:=(show ∃t,u=MV i t from r);subst e;exact RW P w i t
 | inr x=>obtain ⟨t,e⟩:=(show ∃t,u=MU x t from r);subst e;exact RV P w x t
theorem PU {P:Ar} {w:BG}:∀ {ks:List Key} {us:List AD},BU (ks.map kV) us->ItemsAre (EB P w) ks us
 | [],_,r=>by rw [Lw] at r;cases r;exact .nil
 | k :: ks,_,r=>by
  rw [A5] at r
  cases r with
  | cons h t=>exact .cons (Rn h) (PU t)
abbrev KT (H:Hp):List (List Key×V)->List (List Key×AI×AD)->Prop:=Gb λp q=>p.1=q.1/\H q.2.1=some (.tup (p.1.map kV))/\RelV p.2 q.2.2
theorem KT.val {H:Hp} {kvs:List (List Key×V)} {xs:List (List Key×AI×AD)} (r:KT H kvs xs) (k:List Key):Ls (JD kvs k) ((SM xs k).map (·.2)):=by
 induction r with
 | nil=>exact EI
 | @cons p q ps qs h t ih=>
  obtain ⟨h1,_,h2⟩:=h
  by_cases e:p.1=k
  ·have e':q.1=k:=h1.symm.trans e
   have b:SM (q :: qs) k=some q.2:=by simp [SM,B1,e']
   rw [NN e,b];exact h2
  ·have e':¬q.1=k:=λz=>e (h1.trans z)
   have b:SM (q :: qs) k=SM qs k:=by simp [SM,B1,e']
   rw [NO e,b];exact ih
theorem KT.repl {H:Hp} {kvs:List (List Key×V)} {xs:List (List Key×AI×AD)} (r:KT H kvs xs) (k:List Key) {y:V} {u:AD} (ry:RelV y u) :
  KT H (kvs.map λkv=>if kv.1=k then (kv.1,y) else kv) (xs.map (putAt k u)):=by
 induction r with
 | nil=>exact .nil
 | @cons p q ps qs h t ih=>
  rw [A5,A5];refine .cons ?_ ih;obtain ⟨h1,h2,h3⟩:=h;unfold putAt
  by_cases e:p.1=k
  ·rw [if_pos e,if_pos (h1.symm.trans e)];exact ⟨h1,h2,ry⟩
  ·rw [if_neg e,if_neg (λz=>e (h1.trans z))];exact ⟨h1,h2,h3⟩
theorem KT.put {H:Hp} {kvs:List (List Key×V)} {xs:List (List Key×AI×AD)} (r:KT H kvs xs) (k:List Key) {b:AI} {y:V} {u:AD} (hb:H b=some (.tup (k.map kV))) (ry:RelV y u) :
  KT H (Ir kvs k y) (storedH xs k b u):=by
 have e:(kvs.any λkv=>decide (kv.1=k))=(SM xs k).isSome:=by
  rw [Q8,(r.val k).isSome_eq,LL]
 unfold Ir storedH;rw [e]
 by_cases q:(SM xs k).isSome=true
 ·rw [if_pos q,if_pos q];exact r.repl k ry
 ·rw [if_neg q,if_neg q];exact SB r ⟨rfl,hb,ry⟩
theorem KT.keeps {H H':Hp} {kvs:List (List Key×V)} {xs:List (List Key×AI×AD)} (r:KT H kvs xs) (ht:∀b ys,H b=some (.tup ys)->H' b=some (.tup ys)):KT H' kvs xs:=
 Gb.mapP r λ_ _ z=>⟨z.1,ht _ _ z.2.1,z.2.2⟩
variable {X:Cx} {e:Expr} {te:TE} {lo hi:Option Expr} {tl th:TO} {pos p2:Pos}
theorem ZR:PO X none Y2:=by
 intro pins s σ H Q I h;rw [evalPart_none];exact AM ⟨none,H,I,.none,h⟩
theorem ZQ (h:PE X e te):PO X (some e) (fD te):=by
 intro pins s σ H Q I hw;rw [evalPart_some]
 refine thn (h pins s σ H _ I hw) λu s1 ⟨x,H1,I1,r1,q1⟩=>?_
 obtain ⟨i,rfl,q⟩:=q1;obtain ⟨t,rfl⟩:=r1;exact ⟨some i,H1,I1,.int i t,q⟩
def SlR (X:Cx) (r:V->Option Int->Option Int->Hp->VK->Prop):Prop:=
 ∀(pins:List (AI×Obj)) (s:AF) (σ:St) (H:Hp) (x:V) (v vl vu:AD) (lo hi:Option Int) (sl:AI) (Q:VK),Inv X pins σ H s->RelV x v->s.heap.IsSliceOf sl vl vu .none->Pp vl lo->Pp vu hi->r x lo hi H Q ->
  ∃T id,typeLookup (.type T) "__getitem__" = pure (some (.builtin id))/\s.TypeIs v T/\Ah (AW X.prog X.w) X.A (Lu v (.ref sl)) (EP X pins σ Q) X.xe s
theorem SlR.or {r r':V->Option Int->Option Int->Hp->VK->Prop} (h:SlR X r) (h':SlR X r'):SlR X (λx lo hi H Q=>r x lo hi H Q∨r' x lo hi H Q):=by
 intro pins s σ H x v vl vu lo hi sl Q I rx hs pl pu q
 rcases q with q | q
 ·exact h pins s σ H x v vl vu lo hi sl Q I rx hs pl pu q
 ·exact h' pins s σ H x v vl vu lo hi sl Q I rx hs pl pu q
def tSl (r:V->Option Int->Option Int->Hp->VK->Prop) (te:TE) (tl th:TO):TE:=λσ H Q=>te σ H λx H1=>tl σ H1 λl H2=>th σ H2 λu H3=>r x l u H3 Q
theorem XI {r:V->Option Int->Option Int->Hp->VK->Prop} (hr:SlR X r) (he:PE X e te) (hl:PO X lo tl) (hu:PO X hi th):PE X (.Subscript e (.Slice lo hi none p2) pos) (tSl r te tl th):=by
 intro pins s σ H Q I h;refine SO (thn (he pins s σ H _ I h) λv s1 ⟨x,H1,I1,r1,q1⟩=>?_);refine wpAny_Slice (thn (hl pins s1 σ H1 _ I1 q1) λvl s2 ⟨l,H2,I2,pl,q2⟩=>thn (hu pins s2 σ H2 _ I2 q2) λvu s3 ⟨u,H3,I3,pu,q3⟩=>?_);rw [evalPart_none];refine AM ?_
 have I4:Inv X pins σ H3 { s3 with heap:=s3.heap.push { cls:=.type "slice",data:=.fields #[vl,vu,.none] } }:=I3.kept (t':=s3.toks) λb ob q=>AJ _ q
 obtain ⟨T,id,hT,ht,hg⟩:=hr pins { s3 with heap:=s3.heap.push { cls:=.type "slice",data:=.fields #[vl,vu,.none] } } σ H3 x v vl vu l u s3.heap.objs.size Q I4 r1 (OI ..) pl pu q3;show Ah (AW X.prog X.w) X.A (Ms e (.Slice lo hi none p2) v (.ref s3.heap.objs.size)) (EP X pins σ Q) X.xe { s3 with heap:=s3.heap.push { cls:=.type "slice",data:=.fields #[vl,vu,.none] } };exact tail_any (ops:=[.ref s3.heap.objs.size,v]) ht hT hg (by with_unfolding_all rfl)
def N5 (xs:List V) (lo hi:Option Int):List V:=(xs.drop (HT.sIx xs.length 0 lo)).take (HT.sIx xs.length xs.length hi - HT.sIx xs.length 0 lo)
theorem MN (xs:List V) (lo hi:Option Int):(N5 xs lo hi).length<=xs.length:=by
 unfold N5;rw [B4,Yf];omega
def rSlT (K:AA):V->Option Int->Option Int->Hp->VK->Prop:=λx lo hi H Q=>∃a xs,x=.ref a/\SqT K H a xs /\
 ¬(HT.sIx xs.length 0 lo=0/\HT.sIx xs.length xs.length hi=xs.length)/\∀p,H p=none->Q (.ref p) (upd H p (.tup (N5 xs lo hi)))
theorem bo:SlR X (rSlT X.K):=by
 intro pins s σ H x v vl vu lo hi sl Q I rx hs pl pu h;obtain ⟨a,xs,rfl,hx,hw,q⟩:=h;cases rx;obtain ⟨its,r,ht,hz⟩:=I.tuple hx
 have hlen:its.toArray.size=xs.length:=by rw [Ab];exact r.length.symm
 refine ⟨"tuple",_,FN.lookup,ht.typeIs,?_⟩;refine HT.Kx ht hs pl pu (by rw [hlen];exact hw) ?_ (by rw [hlen];exact hz);rw [hlen];refine ⟨.ref s.heap.objs.size,_,I.laid (t':=s.toks) (o:=.tup (N5 xs lo hi)) (λb ob q=>AJ _ q) (AS _) ?_,rfl,q _ (I.hok.fresh (AS _))⟩;exact ⟨Aq (MN xs lo hi) hz,_,(r.drop (HT.sIx xs.length 0 lo)).take (HT.sIx xs.length xs.length hi - HT.sIx xs.length 0 lo),WZ _ _⟩
def fU (K:AA):R2:=λx y H Q=>∃a b xs ys,x=.ref a/\y=.ref b/\SqT K H a xs/\SqT K H b ys/\xs≠[]/\xs.length+ys.length<=sizeLine /\
 (ys=[]->Q (.ref a) H)/\(ys≠[]->∀p,H p=none->Q (.ref p) (upd H p (.tup (xs++ys))))
theorem BU.nil_iff {xs:List V} {us:List AD} (r:BU xs us):us=[]↔xs=[]:=by
 cases r with
 | nil=>simp
 | cons _ _=>simp
theorem Zh:OpR X (DX .Add) (fU X.K):=by
 intro pins s σ H x y v u Q I rx ry h;obtain ⟨a,b,xs,ys,rfl,rfl,ha,hb,hx,hz,q1,q2⟩:=h;cases rx;cases ry;obtain ⟨its,r1,p1,_⟩:=I.tuple ha;obtain ⟨its2,r2,p2,_⟩:=I.tuple hb;refine HT.aH p1 p2 (λz=>hx (r1.nil_iff.mp z)) (λz=>⟨.ref a,H,I,rfl,q1 (r2.nil_iff.mp z)⟩) (λz=>?_) (by rw [<-r1.length,<-r2.length];exact hz);refine ⟨.ref s.heap.objs.size,_,I.laid (t':=s.toks) (o:=.tup (xs++ys)) (λb ob q=>AJ _ q) (AS _) ?_,rfl,q2 (λw=>z (r2.nil_iff.mpr w)) _ (I.hok.fresh (AS _))⟩;exact ⟨by rw [A2];exact hz,_,r1.append r2,WZ _ _⟩
end L2
namespace L2
open PySem PySem.Spec PyProof.Rows
def ixN (n:Nat) (i:Int):Option Nat:=if 0<=i then (if i < n then some i.toNat else none) else if -(n:Int)<=i then some (i+n).toNat else none
def atI {α:Type} (xs:List α) (i:Int):Option α:=(ixN xs.length i).bind λj=>xs[j]?
theorem Zv {n:Nat} {i:Int} {j:Nat} (h:ixN n i=some j):seqIndex? i n=some j/\j < n/\-(n:Int)<=i/\i < n:=by
 unfold ixN at h
 by_cases h0:0<=i
 ·rw [if_pos h0] at h
  by_cases h1:i < n
  ·rw [if_pos h1] at h
   have e:i.toNat=j:=DW h;exact ⟨by rw [seqIndex_of h0 h1,e],by omega,by omega,h1⟩
  ·rw [if_neg h1] at h;cases h
 ·rw [if_neg h0] at h
  by_cases h1:-(n:Int)<=i
  ·rw [if_pos h1] at h
   have e:(i+n).toNat=j:=DW h;exact ⟨by rw [seqIndex_neg (by omega) h1,e],by omega,h1,by omega⟩
  ·rw [if_neg h1] at h;cases h
theorem Uk {α:Type} {xs:List α} {i:Int} {v:α} (h:atI xs i=some v):∃j,seqIndex? i xs.length=some j/\xs[j]?=some v/\j < xs.length/\-(xs.length:Int)<=i/\i < xs.length:=by
 unfold atI at h
 cases e:ixN xs.length i with
 | none=>rw [e] at h;cases h
 | some j=>
  rw [e] at h;obtain ⟨h1,h2,h3,h4⟩:=Zv e;exact ⟨j,h1,h,h2,h3,h4⟩
def Qk (b:Expr):Prop:=∀o i,Qm b false o i=operate [o,i] (Lu o i)
def IxR (X:Cx) (r:R2):Prop:=
 ∀(value slice:Expr) (pins:List (AI×Obj)) (s:AF) (σ:St) (H:Hp) (x y:V) (v u:AD) (Q:VK),Inv X pins σ H s->RelV x v->RelV y u->r x y H Q ->
  Qm slice false v u=operate [v,u] (Lu v u)->Ah (AW X.prog X.w) X.A (Ms value slice v u) (EP X pins σ Q) X.xe s
def MtR (X:Cx) (id:String) (r:V->List V->Hp->VK->Prop):Prop:=
 ∀(pins:List (AI×Obj)) (s:AF) (σ:St) (H:Hp) (x:V) (xs:List V) (v:AD) (us:List AD) (Q:VK),Inv X pins σ H s->RelV x v->BU xs us->r x xs H Q ->
  Ah (AW X.prog X.w) X.A (call (.builtin id) (v :: us)) (EP X pins σ Q) X.xe s
section
variable {P:Ar} {w:BG} {H:Hp} {h:Bk} {a:AI}
theorem ao {u:HO} (ok:HOk P w H h) (e:Rd H a u):Cn P w H h a u:=e.ok ok
theorem Rs {kvs:List (Key×V)} (ok:HOk P w H h) (e:Rd H a (.dK kvs)):kvs.length<=sizeLine/\(a==Df)=false/\∃vs,KV kvs vs/\h.DictOf (EB P w) a vs:=
 show Cn P w H h a (.dK kvs) from ao ok e
theorem gk {kvs:List (Key×V)} (ok:HOk P w H h) (e:H a=some (.dK kvs)):kvs.length<=sizeLine/\(a==Df)=false/\∃vs,KV kvs vs/\h.DictOf (EB P w) a vs:=Rs ok (.inl e)
theorem Np {ks:List Key} (ok:HOk P w H h) (e:H a=some (.tup (ks.map kV))):(Pg (EB P w)).is h ks a:=by
 obtain ⟨_,its,r,o,h1,h2,n,h3⟩:=(show Cn P w H h a (.tup (ks.map kV)) from ok a _ e);exact ⟨o,its.toArray,n,h1,h2,h3,by simpa using PU r⟩
theorem Rr {kvs:List (List Key×V)} (ok:HOk P w H h) (e:Rd H a (.dT kvs)):kvs.length<=sizeLine/\(a==Df)=false /\
  ∃xs,KT H kvs xs/\h.DictOfH (Pg (EB P w)) a xs:=by
 obtain ⟨z,y,xs,r,o,es,ep,h1,h2,h3,h4,h5⟩:=(show Cn P w H h a (.dT kvs) from ao ok e);refine ⟨z,y,xs,r,o,es,ep,h1,h2,h3,h4,λx hx=>?_,h5⟩
 have all:∀ {l:List (List Key×V)} {m:List (List Key×AI×AD)},KT H l m->∀x∈m,(Pg (EB P w)).is h x.1 x.2.1:=by
  intro l m q
  induction q with
  | nil=>intro x hx;exact nomatch hx
  | @cons p q ps qs hq t ih=>
   intro x hx
   rcases A4.mp hx with e | hx
   ·subst e
    exact Np ok (by rw [<-hq.1];exact hq.2.1)
   ·exact ih x hx
 exact all r x hx
theorem gi {kvs:List (List Key×V)} (ok:HOk P w H h) (e:H a=some (.dT kvs)):kvs.length<=sizeLine/\(a==Df)=false /\
  ∃xs,KT H kvs xs/\h.DictOfH (Pg (EB P w)) a xs:=Rr ok (.inl e)
end
def LK (H:Hp) (a:AI) (y:V) (r:Option V):Prop:=
 (∃kvs k,Rd H a (.dK kvs)/\y=kV k/\r=JD kvs k)∨∃kvs k b,Rd H a (.dT kvs)/\y=.ref b/\H b=some (.tup (k.map kV))/\r=JD kvs k
def R6 (H:Hp) (a:AI) (y v:V) (H':Hp):Prop:=
 (∃kvs k,H a=some (.dK kvs)/\y=kV k/\kvs.length < sizeLine/\H'=upd H a (.dK (Ir kvs k v))) ∨
 ∃kvs k b,H a=some (.dT kvs)/\y=.ref b/\H b=some (.tup (k.map kV))/\kvs.length < sizeLine/\H'=upd H a (.dT (Ir kvs k v))
theorem LK.k {H:Hp} {a:AI} {kvs:List (Key×V)} {k:Key} (e:H a=some (.dK kvs)):LK H a (kV k) (JD kvs k):=.inl ⟨kvs,k,.inl e,rfl,rfl⟩
theorem LK.t {H:Hp} {a b:AI} {kvs:List (List Key×V)} {k:List Key} (e:H a=some (.dT kvs)) (eb:H b=some (.tup (k.map kV))):LK H a (.ref b) (JD kvs k):=.inr ⟨kvs,k,b,.inl e,rfl,eb,rfl⟩
theorem R6.k {H:Hp} {a:AI} {kvs:List (Key×V)} {k:Key} {v:V} (e:H a=some (.dK kvs)) (hl:kvs.length < sizeLine):R6 H a (kV k) v (upd H a (.dK (Ir kvs k v))):=.inl ⟨kvs,k,e,rfl,hl,rfl⟩
theorem R6.t {H:Hp} {a b:AI} {kvs:List (List Key×V)} {k:List Key} {v:V} (e:H a=some (.dT kvs)) (eb:H b=some (.tup (k.map kV))) (hl:kvs.length < sizeLine) :
  R6 H a (.ref b) v (upd H a (.dT (Ir kvs k v))):=.inr ⟨kvs,k,b,e,rfl,eb,hl,rfl⟩
variable {X:Cx} {a b:Expr} {ta tb:TE} {pos:Pos}
theorem IxR.or {r r':R2} (h:IxR X r) (h':IxR X r'):IxR X (λx y H Q=>r x y H Q∨r' x y H Q):=by
 intro value slice pins s σ H x y v u Q I rx ry q hs
 rcases q with q | q
 ·exact h value slice pins s σ H x y v u Q I rx ry q hs
 ·exact h' value slice pins s σ H x y v u Q I rx ry q hs
theorem fb {r:R2} (hr:IxR X r) (ha:PE X a ta) (hb:PE X b tb) (hs:Qk b):PE X (.Subscript a b pos) (tOp r ta tb):=by
 intro pins s σ H Q I h;exact SO (dr ha hb I h λv u s2 x y H2 I2 rx ry q=>hr a b pins s2 σ H2 x y v u Q I2 rx ry q (hs _ _))
def rIxL (K:AA):R2:=λx y H Q=>∃p xs i v,x=.ref p/\y=.int i/\SqL K H p xs/\atI xs i=some v/\Q v H
def rIxT (K:AA):R2:=λx y H Q=>∃p xs i v,x=.ref p/\y=.int i/\SqT K H p xs/\atI xs i=some v/\Q v H
theorem ix_list:IxR X (rIxL X.K):=by
 intro value slice pins s σ H x y v u Q I rx ry h hs;obtain ⟨p,xs,i,z,rfl,rfl,hq,he,q⟩:=h;cases rx;obtain ⟨t,rfl⟩:=ry;obtain ⟨its,r,pl,hz⟩:=I.list hq;obtain ⟨j,h1,h2,h3,h4,h5⟩:=Uk he;obtain ⟨w,ew,rw'⟩:=r.get h2;have hl:=r.length;have hn:=QI;have fin:EP X pins σ Q w s:=⟨z,H,I,rw',q⟩
 by_cases h0:0<=i
 ·have hj:i.toNat=j:=by
   rw [seqIndex_of h0 h5] at h1;exact DW h1
  exact item_listR pl.isList h0 (by omega) (by rw [hj];simpa using ew) fin hs
 ·have hj:(i+(its.toArray.size:Int)).toNat=j:=by
   rw [seqIndex_neg (by omega) h4] at h1;rw [Ab,<-hl];exact DW h1
  exact WS (x:=w) pl.isList.typeIs OM.lookup
   (wpAny_getItem_list_neg (Q:=λr s'=>r=w/\EP X pins σ Q r s') pl.isList (by omega) (by rw [Ab] <;> omega) (by omega) (by rw [hj];simpa using ew) ⟨rfl,fin⟩) hs
theorem dB:IxR X (rIxT X.K):=by
 intro value slice pins s σ H x y v u Q I rx ry h hs;obtain ⟨p,xs,i,z,rfl,rfl,hq,he,q⟩:=h;cases rx;obtain ⟨t,rfl⟩:=ry;obtain ⟨its,r,pl,hz⟩:=I.tuple hq;obtain ⟨j,h1,h2,h3,h4,h5⟩:=Uk he;obtain ⟨w,ew,rw'⟩:=r.get h2;have hl:=r.length;have hn:=QI;have fin:EP X pins σ Q w s:=⟨z,H,I,rw',q⟩
 exact WS (x:=w) pl.typeIs slot_tuple_getitem.lookup
  (getItem_tuple (j:=j) (Q:=λr s'=>r=w/\EP X pins σ Q r s') pl (by omega) (by omega) (by rw [Ab,<-hl];exact h1) (by simpa using ew) ⟨rfl,fin⟩) hs
theorem Py (lo hi:Option Int) (n:Nat):(Ee lo hi none n).1=((HT.sIx n 0 lo:Nat):Int)/\(Ee lo hi none n).2.1=((HT.sIx n n hi:Nat):Int)/\(Ee lo hi none n).2.2=1:=by
 refine ⟨?_,?_,rfl⟩
 ·cases lo with
  | none=>simp [Ee,HT.sIx]
  | some i=>
   simp only [Ee,HT.sIx,WK,show (1:Int) > 0 by decide,if_true]
   by_cases h:i < 0
   ·simp only [h,if_true] <;> omega
   ·simp only [h,if_false] <;> omega
 ·cases hi with
  | none=>simp [Ee,HT.sIx]
  | some i=>
   simp only [Ee,HT.sIx,WK,show (1:Int) > 0 by decide,if_true]
   by_cases h:i < 0
   ·simp only [h,if_true] <;> omega
   ·simp only [h,if_false] <;> omega
theorem OX (its:List AD) (lo hi:Option Int):WA its.toArray lo hi none=((its.drop (HT.sIx its.length 0 lo)).take (HT.sIx its.length its.length hi - HT.sIx its.length 0 lo)).toArray:=by
 obtain ⟨h1,h2,h3⟩:=Py lo hi its.toArray.size;unfold WA;rw [h1,h2,h3]
 simp only [sliceRange_one,pick_run,Ab] <;> rfl
def fR (K:AA):V->Option Int->Option Int->Hp->VK->Prop:=λx lo hi H Q=>∃a xs,x=.ref a/\SqL K H a xs/\∀p,H p=none->Q (.ref p) (upd H p (.lst (N5 xs lo hi)))
theorem Y6:SlR X (fR X.K):=by
 intro pins s σ H x v vl vu lo hi sl Q I rx hs pl pu h;obtain ⟨a,xs,rfl,hx,q⟩:=h;cases rx;obtain ⟨its,r,ht,hz⟩:=I.list hx;have hlen:=r.length;refine ⟨"list",_,OM.lookup,ht.isList.typeIs,?_⟩;refine Uo ht.isList hs pl pu .none (by simp) ?_ (by rw [Ab] <;> omega);rw [OX,<-hlen];refine ⟨.ref s.heap.objs.size,_,I.laid (t':=s.toks) (o:=.lst (N5 xs lo hi)) (λb ob q=>AJ _ q) (AS _) ?_,rfl,q _ (I.hok.fresh (AS _))⟩;exact ⟨Aq (MN xs lo hi) hz,_,0,(r.drop (HT.sIx xs.length 0 lo)).take (HT.sIx xs.length xs.length hi - HT.sIx xs.length 0 lo),Af _ rfl⟩
theorem Qb:IF X (.builtin "len") (λxs H Q=>∃p ys,xs=[.ref p]/\(SqL X.K H p ys∨SqT X.K H p ys)/\Q (.int ys.length) H):=by
 intro pins s σ H xs us Q I r h;obtain ⟨p,ys,rfl,hq,q⟩:=h;obtain ⟨u,rfl,rx⟩:=vals1 r;cases rx;have hn:=QI
 rcases hq with hq | hq
 ·obtain ⟨its,r',pl,hz⟩:=I.list hq
  have hlen:=r'.length;exact Calls.call_len_list pl.isList (by simp only [Ab] <;> omega) ⟨.int ys.length,H,I.tok _,⟨s.toks+1,by rw [Ab,hlen]⟩,q⟩
 ·obtain ⟨its,r',pl,hz⟩:=I.tuple hq
  have hlen:=r'.length;exact len_tuple pl (by simp only [Ab] <;> omega) ⟨.int ys.length,H,I.tok _,⟨s.toks+1,by rw [Ab,hlen]⟩,q⟩
theorem Os:IF X (.type "tuple") (λxs H Q=>∃p ys,xs=[.ref p]/\((SqL X.K H p ys/\∀l,H l=none->Q (.ref l) (upd H l (.tup ys)))∨(SqT X.K H p ys/\Q (.ref p) H))):=by
 intro pins s σ H xs us Q I r h;obtain ⟨p,ys,rfl,h⟩:=h;obtain ⟨u,rfl,rx⟩:=vals1 r;cases rx
 rcases h with ⟨hq,q⟩ | ⟨hq,q⟩
 ·obtain ⟨its,r',pl,hz⟩:=I.list hq
  have hlen:=r'.length;refine call_tuple_list pl.isList (λh' kp=>?_) (by simp only [Ab] <;> omega);have I1:Inv X pins σ H { s with heap:=h' }:=I.kept (t':=s.toks) kp
  have I2:Inv X pins σ (upd H h'.objs.size (.tup ys)) { s with heap:=h'.push { cls:=.type "tuple",data:=.seq its.toArray } }:=
   I1.laid (t':=s.toks) (λb o e=>AJ _ e) (AS _) (show Cn X.prog X.w _ _ _ (.tup ys) from ⟨hz,its,r',WZ _ _⟩)
  exact ⟨.ref h'.objs.size,_,I2,rfl,q _ (I1.hok.fresh (AS _))⟩
 ·obtain ⟨its,r',pl,hz⟩:=I.tuple hq
  exact call_tuple_same pl ⟨.ref p,H,I,rfl,q⟩
def tyV (K:AA) (T:String) (x:V) (H:Hp):Prop:=match x with
 | .str _=>T = "str"
 | .int _=>T = "int"
 | .ref p=>(T = "list"/\∃xs,SqL K H p xs)∨(T = "tuple"/\∃o,K.lookup p=some o/\o.cls=.type "tuple"/\o.dict=none) ∨
   (T = "dict"/\((∃kvs,H p=some (.dK kvs))∨∃kvs,H p=some (.dT kvs)))∨(T = "set"/\∃S n,H p=some (.set S n))
 | _=>False
theorem Wg {pins:List (AI×Obj)} {σ:St} {H:Hp} {s:AF} {T:String} {x:V} {v:AD} (I:Inv X pins σ H s) (r:RelV x v) (ty:tyV X.K T x H) :
  s.TypeIs v T/\∀a,v=.ref a->∃ob,s.heap.get? a=some ob/\ob.dict=none:=by
 cases x with
 | str z=>
  obtain ⟨t,rfl⟩:=r;cases (show T = "str" from ty);exact ⟨typeIs_str s z t,λ_ e=>nomatch e⟩
 | int i=>
  obtain ⟨t,rfl⟩:=r;cases (show T = "int" from ty);exact ⟨bH s i t,λ_ e=>nomatch e⟩
 | ref p=>
  cases r
  rcases ty with ⟨rfl,xs,hq⟩ | ⟨rfl,o,hk,hc,hd⟩ | ⟨rfl,hk⟩ | ⟨rfl,S,n,hk⟩
  ·obtain ⟨its,_,pl,_⟩:=I.list hq
   refine ⟨pl.isList.typeIs,λa e=>?_⟩;cases e;obtain ⟨o,n,e,c,hd,_⟩:=pl;exact ⟨o,e,hd⟩
  ·refine ⟨⟨o,I.kIn p o hk,hc⟩,λa e=>?_⟩
   cases e;exact ⟨o,I.kIn _ o hk,hd⟩
  ·have z:∃o,s.heap.get? p=some o/\o.ExactDict:=by
    rcases hk with ⟨kvs,hk⟩ | ⟨kvs,hk⟩
    ·obtain ⟨_,_,_,_,o,_,_,e,ex,_⟩:=I.hok p _ hk
     exact ⟨o,e,ex⟩
    ·obtain ⟨_,_,_,_,o,_,_,e,ex,_⟩:=I.hok p _ hk
     exact ⟨o,e,ex⟩
   obtain ⟨o,e,ex⟩:=z;refine ⟨⟨o,e,ex.1⟩,λa e2=>?_⟩;cases e2;exact ⟨o,e,ex.2.1⟩
  ·obtain ⟨o,_,_,_,e,ex,_⟩:=I.hok p _ hk
   refine ⟨⟨o,e,ex.1⟩,λa e2=>?_⟩;cases e2;exact ⟨o,e,ex.2.1⟩
 | _=>exact Dj ty
def tBM0 (K:AA) (T:String) (r:V->List V->Hp->VK->Prop) (to:TE):TE:=λσ H Q=>to σ H λx H1=>tyV K T x H1/\r x [] H1 Q
def tBM (K:AA) (T:String) (r:V->List V->Hp->VK->Prop) (to:TE) (t:TA):TE:=λσ H Q=>to σ H λx H1=>tyV K T x H1/\t σ H1 λxs H2=>r x xs H2 Q
variable {o e:Expr} {es:List Expr} {to:TE} {t:TA} {name:Str} {apos cpos:Pos} {T id:String} {r:V->List V->Hp->VK->Prop}
theorem cR (pa:PlainAttrs T) (slot:Slot T name id) (hty:typeOf (.builtin id)=pure (.type "method_descriptor")) (hm:MtR X id r) (ho:PE X o to)
  (hbase:Fq o name X.env (B0 o X.env)=B0 o X.env:=by rfl) (hline:(apos.endLine==cpos.line)=true:=by rfl):PE X (.Call (.Attribute o name apos) [] [] cpos) (tBM0 X.K T r to):=by
 intro pins s σ H Q I h;refine wpAny_Call_method0_late hbase hline (thn (ho pins s σ H _ I h) λv s1 ⟨x,H1,I1,r1,ty,q1⟩=>?_);obtain ⟨h1,h2⟩:=Wg I1 r1 ty;exact ⟨T,id,pa,slot,hty,h1,h2,Q4 rfl (PySem.evalArgs_none (hm pins s1 σ H1 x [] v [] Q I1 r1 .nil q1))⟩
theorem fc (pa:PlainAttrs T) (slot:Slot T name id) (hty:typeOf (.builtin id)=pure (.type "method_descriptor")) (hm:MtR X id r) (ho:PE X o to) (ha:PA X (e :: es) t)
  (hbase:Fq o name X.env (B0 o X.env)=B0 o X.env:=by rfl)
  (hfew:((Ej cpos (AX (e :: es) X.env)).all (λx=>!x.1)&&(backToKw cpos (keywordEach [] X.env)).all (λx=>x.1.isSome)
    &&decide ((e :: es).length+([]:List WY).length+(if ([]:List WY).isEmpty then 0 else 1) < 30))=true:=by rfl)
  (hline:(apos.endLine==cpos.line)=true:=by rfl) (hs:AX (e :: es) X.env=(false,B0 e X.env) :: AX es X.env:=by rfl) (hplain:(Ej cpos (AX es X.env)).any (·.1)=false:=by rfl) :
  PE X (.Call (.Attribute o name apos) (e :: es) [] cpos) (tBM X.K T r to t):=by
 intro pins s σ H Q I h;refine wpAny_Call_method_late hbase hfew hline rfl (thn (ho pins s σ H _ I h) λv s1 ⟨x,H1,I1,r1,ty,q1⟩=>?_);obtain ⟨h1,h2⟩:=Wg I1 r1 ty;refine ⟨T,id,pa,slot,hty,h1,h2,?_⟩;have hA:=ha cpos pins s1 σ H1 _ I1 q1;rw [hs] at hA ⊢;refine Q4 (by show (false||(Ej cpos (AX es X.env)).any (·.1))=false;rw [hplain] <;> rfl) (SW ?_)
 exact thn hA λus s2 ⟨vs,H2,I2,r2,q2⟩=>hm pins s2 σ H2 x vs v us Q I2 r1 r2 q2
/- xs.append(e),list.index on a module's tuple .. are MtR facts of 06m -/
end L2
namespace L2
open PySem PySem.Spec PyProof.Rows
def MtM (X:Cx) (id:String) (r:V->List V->Hp->VK->Prop):Prop:=
 ∀(pins:List (AI×Obj)) (s:AF) (σ:St) (H:Hp) (x:V) (xs:List V) (v:AD) (us:List AD) (Q:VK),Inv X pins σ H s->RelV x v->BU xs us->r x xs H Q ->
  Ah (AW X.prog X.w) X.A (call (.builtin id) (v :: us)) (EP X pins σ Q) X.xe s
theorem BU.one:∀ {x:V} {us:List AD},BU [x] us->∃u,us=[u]/\RelV x u
 | _,_,.cons r .nil=>⟨_,rfl,r⟩
theorem BU.zero:∀ {us:List AD},BU [] us->us=[]
 | _,.nil=>rfl
theorem BU.reverse {xs:List V} {us:List AD} (h:BU xs us):BU xs.reverse us.reverse:=by
 induction h with
 | nil=>exact .nil
 | cons r t ih=>rw [Hq,Hq];exact BU.append ih (.cons r .nil)
theorem BU.rep {xs:List V} {us:List AD} (h:BU xs us):∀k:Nat,BU (An k xs).flatten (An k us).flatten
 | 0=>.nil
 | k+1=>by
  rw [DH,DH,Di,Di];exact BU.append h (BU.rep h k)
theorem foldl_rep (its:List AD):∀(k:Nat) (acc:List AD),
  WM (λx1 x2=>x1++x2) acc.toArray (An k its.toArray)=(acc++(An k its).flatten).toArray
 | 0,acc=>by simp
 | k+1,acc=>by
  have e:acc.toArray++its.toArray=(acc++its).toArray:=by simp
  have e2:(acc++its)++(An k its).flatten=acc++(An (k+1) its).flatten:=by
   rw [DH,Di,BJ]
  rw [<-e2,<-foldl_rep its k (acc++its),<-e,DH,List.foldl_cons]
section
variable {X:Cx} {pins:List (AI×Obj)} {σ:St} {H:Hp} {s:AF} {a:AI} {y v:V} {u r:AD} {o:Option V} {A:A8} {E:AD->AF->Prop}
theorem Inv.big (I:Inv X pins σ H s):Df < s.heap.objs.size:=by
 have h:AZ < s.heap.objs.size:=(I.mod.glob.keeps I.bk).lt;exact eo (by decide) h
theorem Vw {Q:AD->AF->Prop} (hu:A.units+1 < D3) (I:Inv X pins σ H s) (g:LK H a y (some v)) (ry:RelV y u) (h:∀w' s',Inv X pins σ H s'->RelV v w'->Q w' s') :
  Ah (AW X.prog X.w) A (Lu (.ref a) u) Q E s:=by
 rcases g with ⟨kvs,k,e,ey,l⟩ | ⟨kvs,k,b,e,ey,eb,l⟩
 ·subst ey
  obtain ⟨z,hd,vs,rel,dd⟩:=Rs I.hok e;obtain ⟨w',hw,rw'⟩:=Ls.some_of (v:=v) (o:=OL vs k) (by rw [l];exact rel.val k);exact wpAny_getItem_of (Rn ry) dd.mapOf hw (h w' _ (I.tok _) rw')
 ·subst ey
  cases (show u=Au b from ry);obtain ⟨z,hd,xs,rel,dd⟩:=Rr I.hok e;obtain ⟨w',hw,rw'⟩:=Ls.some_of (v:=v) (o:=(SM xs k).map (·.2)) (by rw [l];exact rel.val k);obtain ⟨p,hp,hp2⟩:=Option.map_eq_some_iff.mp hw;refine wpAny_getItem_heap (II hu) (Np I.hok eb) dd hp ?_;rw [hp2];exact h w' _ (I.tok _) rw'
theorem d_in {Q:AD->AF->Prop} (hu:A.units+1 < D3) (I:Inv X pins σ H s) (g:LK H a y o) (ry:RelV y u) (h:∀s',Inv X pins σ H s'->Q (.bool o.isSome) s') :
  Ah (AW X.prog X.w) A (Bd .In u (.ref a)) Q E s:=by
 rcases g with ⟨kvs,k,e,ey,l⟩ | ⟨kvs,k,b,e,ey,eb,l⟩
 ·subst ey
  obtain ⟨z,hd,vs,rel,dd⟩:=Rs I.hok e;refine wpAny_in_of (Rn ry) hd dd.mapOf ?_;rw [<-(rel.val k).isSome_eq,<-l];exact h _ (I.tok _)
 ·subst ey
  cases (show u=Au b from ry);obtain ⟨z,hd,xs,rel,dd⟩:=Rr I.hok e;refine wpAny_in_heap (II hu) (Np I.hok eb) hd dd ?_;have q:=(rel.val k).isSome_eq;rw [LL] at q;rw [<-q,<-l];exact h _ (I.tok _)
theorem aD {Q:AD->AF->Prop} (hu:A.units+1 < D3) (I:Inv X pins σ H s) (g:LK H a y o) (ry:RelV y u) (h:∀s',Inv X pins σ H s'->Q (.bool (!o.isSome)) s') :
  Ah (AW X.prog X.w) A (Bd .NotIn u (.ref a)) Q E s:=by
 rcases g with ⟨kvs,k,e,ey,l⟩ | ⟨kvs,k,b,e,ey,eb,l⟩
 ·subst ey
  obtain ⟨z,hd,vs,rel,dd⟩:=Rs I.hok e;refine wpAny_notIn_of (Rn ry) hd dd.mapOf ?_;rw [<-(rel.val k).isSome_eq,<-l];exact h _ (I.tok _)
 ·subst ey
  cases (show u=Au b from ry);obtain ⟨z,hd,xs,rel,dd⟩:=Rr I.hok e;refine wpAny_notIn_heap (II hu) (Np I.hok eb) hd dd ?_;have q:=(rel.val k).isSome_eq;rw [LL] at q;rw [<-q,<-l];exact h _ (I.tok _)
theorem Ud {h':Bk} {t':Nat} {ob:HO} (I:Inv X pins σ H s) (mu:Mut (H a)) (hs:EM a s.heap h') (he:∃q,h'.get? a=some q) (new:Cn X.prog X.w (upd H a ob) h' a ob) :
  Inv X pins σ (upd H a ob) { s with heap:=h',toks:=t' }:=
 I.write (x:=a) (e:=a) mu (.inl rfl) (λb q hb z=>(hs.2 b hb).trans z) he new
theorem dm {P:Ar} {w:BG} {H':Hp} {h':Bk} {kvs:List (Key×V)} {vs:List (Key×AD)} (z:kvs.length<=sizeLine) (hd:(a==Df)=false) (rel:KV kvs vs) (dd:h'.DictOf (EB P w) a vs) :
  Cn P w H' h' a (.dK kvs):=⟨z,hd,vs,rel,dd⟩
theorem Vv {H':Hp} {Q:Unit->AF->Prop} (hu:A.units+1 < D3) (I:Inv X pins σ H s) (g:R6 H a y v H') (ry:RelV y u) (rv:RelV v r) (h:∀s',Inv X pins σ H' s'->Q () s') :
  Ah (AW X.prog X.w) A (setItem (.ref a) u r) Q E s:=by
 rcases g with ⟨kvs,k,e,ey,l,eH⟩ | ⟨kvs,k,b,e,ey,eb,l,eH⟩
 ·subst ey eH
  obtain ⟨z,hd,vs,rel,dd⟩:=gk I.hok e
  have hz:vs.length<=sizeLine:=by rw [<-rel.length];exact z
  have hl:(Ir kvs k v).length<=sizeLine:=by have:=MK kvs k v;omega
  refine wpAny_setItem_pairs (hsz:=hz) (Rn ry) dd λh' dd' hs=>h _ ?_
  have he:∃q,h'.get? a=some q:=let ⟨q,_,_,hq,_⟩:=dd';⟨q,hq⟩
  exact Ud I (by rw [e];exact EI) hs he (dm hl hd (rel.put k rv) dd')
 ·subst ey eH
  cases (show u=Au b from ry);obtain ⟨z,hd,xs,rel,dd⟩:=gi I.hok e
  have hz:xs.length<=sizeLine:=by rw [<-EU rel];exact z
  have hl:(Ir kvs k v).length<=sizeLine:=by have:=MK kvs k v;omega
  refine wpAny_setItem_heap (hsz:=hz) (II hu) (Np I.hok eb) dd λh' dd' hs=>h _ ?_
  obtain ⟨q,es,ep,hq,h2,h3,h4,_,h5⟩:=dd';refine Ud I (by rw [e];exact EI) hs ⟨q,hq⟩ ⟨hl,hd,_,(rel.put k eb rv).keeps λc ys ec=>?_,q,es,ep,hq,h2,h3,h4,h5⟩;rw [BR (fz ec e (λz=>nomatch z))];exact ec
variable {X:Cx} {pins:List (AI×Obj)} {σ:St} {H:Hp} {s:AF} {l b:AI} {xs ys zs:List V}
theorem Inv.lset {its its':List AD} {n:Nat} {f:Array AD->Array AD} {t':Nat} (I:Inv X pins σ H s) (hH:H l=some (.lst xs))
  (e:s.heap.get? l=some { cls:=.type "list",data:=.seq its.toArray n }) (hf:f its.toArray=its'.toArray) (hv:BU ys its') (hz:ys.length<=sizeLine) :
  Inv X pins σ (upd H l (.lst ys)) { s with heap:=s.heap.update l (Hb f),toks:=t' }:=by
 have q:=PySem.IsL.update e f;rw [hf] at q;refine I.write (x:=l) (e:=l) (by rw [hH];exact trivial) (.inl rfl) (λb' u hb hu=>(EL s.heap (Hb f) (CS hb)).trans hu) ⟨_,q⟩ ?_;exact ⟨hz,its',_,hv,q⟩
theorem Inv.lnew {its:List AD} {t':Nat} (I:Inv X pins σ H s) (hv:BU ys its) (hz:ys.length<=sizeLine) :
  Inv X pins σ (upd H s.heap.objs.size (.lst ys)) { s with heap:=s.heap.push { cls:=.type "list",data:=.seq its.toArray },toks:=t' }:=
 I.laid (λ_ _ q=>AJ _ q) (AS _) ⟨hz,its,0,hv,Af _ rfl⟩
theorem Inv.fresh (I:Inv X pins σ H s):H s.heap.objs.size=none:=I.hok.fresh (AS _)
theorem Inv.lstM (I:Inv X pins σ H s) (hH:H l=some (.lst xs)):xs.length<=sizeLine/\∃(its:List AD) (n:Nat),BU xs its/\xs.length=its.length/\s.heap.get? l=some { cls:=.type "list",data:=.seq its.toArray n }:=by
 obtain ⟨z,its,n,r,e⟩:=I.hok l _ hH;exact ⟨z,its,n,r,r.length,e⟩
theorem XX {n:Nat} (h:n<=sizeLine):Gu n=false:=by
 unfold Gu;exact decide_eq_false (by omega)
end
section
variable {X:Cx} {pins:List (AI×Obj)} {σ:St} {H:Hp} {s:AF} {a:AI} {kvs:List (Key×V)} {k:Key} {u:AD} {A:A8} {E:AD->AF->Prop}
end
def eC (i:Expr):Prop:=∀ov iv,Qm i false ov iv=operate [ov,iv] (Lu ov iv)
theorem Y5 {prog:Ar} {w:BG} {A:A8} {E:AD->AF->Prop} {s:AF} {env:Env} {value slice:Expr} {pos:Pos} {T id:String} {Q:AD->AF->Prop}
  (hl:typeLookup (.type T) "__getitem__" = pure (some (.builtin id))) (hs:eC slice)
  (h:Ah (AW prog w) A (B0 value env) (λo s₁=>Ah (AW prog w) A (B0 slice env) (λi s₂=>s₂.TypeIs o T/\Ah (AW prog w) A (Lu o i) Q E s₂) E s₁) E s) :
  Ah (AW prog w) A (B0 (.Subscript value slice pos) env) Q E s:=by
 refine SO (Eh h (λo s₁ h₁=>Eh h₁ (λi s₂ h₂=>?_) λ_ _ x=>x) λ_ _ x=>x);obtain ⟨hT,h₂⟩:=h₂;unfold Ms;refine AB ?_;rw [getitemInPython_of_ne hT.not_modules];refine AB (wpAny_specialOf hT hl ?_)
 have fin:Ah (AW prog w) A (Qm slice false o i) (λr s₃=>Ah (AW prog w) A (letTemporaryGo value o r >>= λ_=>pure r) Q E s₃) E s₂:=by
  rw [hs o i];exact wpAny_operating (Eh h₂ (λr s₃ h₃=>AB (wpAny_letTemporaryGo (AM h₃))) λ_ _ x=>x)
 first
  | exact AM (AB fin)
  | exact AB (AM (AB fin))
  | exact AB fin
theorem Rt {X:Cx} {pins:List (AI×Obj)} {σ:St} {H:Hp} {s:AF} {a:AI} {y:V} {o:Option V} (I:Inv X pins σ H s) (g:LK H a y o):s.TypeIs (.ref a) "dict":=by
 rcases g with ⟨kvs,k,e,_,_⟩ | ⟨kvs,k,b,e,_,_,_⟩
 ·obtain ⟨_,_,vs,_,dd⟩:=Rs I.hok e
  exact dd.typeIs
 ·obtain ⟨_,_,xs,_,dd⟩:=Rr I.hok e
  exact dd.typeIs
def fI (td ty:TE):TE:=λσ H Q=>td σ H λx H1=>ty σ H1 λy H2=>∃a v,x=.ref a/\LK H2 a y (some v)/\Q v H2
def fH (ty td:TE):TE:=λσ H Q=>ty σ H λy H1=>td σ H1 λx H2=>∃a o,x=.ref a/\LK H2 a y o/\Q (.bl o.isSome) H2
def Tz (ty td:TE):TE:=λσ H Q=>ty σ H λy H1=>td σ H1 λx H2=>∃a o,x=.ref a/\LK H2 a y o/\Q (.bl (!o.isSome)) H2
def fO (td ty tv:TE):TS:=λD σ H=>tv σ H λv H1=>td σ H1 λx H2=>ty σ H2 λy H3=>∃a H4,x=.ref a/\R6 H3 a y v H4/\D.nx σ H4
variable {X:Cx}
def ZF:V->List V->Hp->VK->Prop:=λx vs H Q=>∃l xs y,x=.ref l/\vs=[y]/\H l=some (.lst xs)/\xs.length < sizeLine/\Q .non (upd H l (.lst (xs++[y])))
theorem PL:MtM X "list.append" ZF:=by
 intro pins s σ H x vs v us Q I rx rv h;obtain ⟨l,xs,y,rfl,rfl,hH,hz,q⟩:=h;cases rx;obtain ⟨u,rfl,ru⟩:=rv.one;obtain ⟨z,its,n,r,hl,e⟩:=I.lstM hH;refine SK F.slot_list_append ⟨_,e,rfl⟩ F.entry_list_append (F.args_list_append_2 _ _) (PySem.list_append l its.toArray n u (by rw [Ab];omega)) ⟨e,?_⟩;refine ⟨.non,_,I.lset (its':=its++[u]) hH e (by simp) (r.append (.cons ru .nil)) ?_,rfl,q⟩;rw [A2,JY];omega
def W5:V->List V->Hp->VK->Prop:=λx vs H Q=>∃l xs,x=.ref l/\vs=[]/\H l=some (.lst xs)/\Q .non (upd H l (.lst xs.reverse))
theorem Sx:MtM X "list.reverse" W5:=by
 intro pins s σ H x vs v us Q I rx rv h;obtain ⟨l,xs,rfl,rfl,hH,q⟩:=h;cases rx;have hus:=rv.zero;subst hus;obtain ⟨z,its,n,r,hl,e⟩:=I.lstM hH;refine SK F.slot_list_reverse ⟨_,e,rfl⟩ F.entry_list_reverse (F.args_list_reverse_1 _) (AutoSeq1.list_reverse_list_0 l its.toArray n (by rw [Ab];omega)) ⟨e,?_⟩;refine ⟨.non,_,I.lset (its':=its.reverse) hH e (by simp) r.reverse ?_,rfl,q⟩;rw [Ux];omega
def rCat:R2:=λx y H Q=>∃l b xs zs,x=.ref l/\y=.ref b/\H l=some (.lst xs)/\H b=some (.lst zs)/\xs.length+zs.length<=sizeLine/\∀p,H p=none->Q (.ref p) (upd H p (.lst (xs++zs)))
theorem cc:OpR X (DX .Add) rCat:=by
 intro pins s σ H x y v u Q I rx ry h;obtain ⟨l,b,xs,zs,rfl,rfl,hH,hB,hz,q⟩:=h;cases rx;cases ry;obtain ⟨z,its,n,r,hl,e⟩:=I.lstM hH;obtain ⟨z2,its2,n2,r2,hl2,e2⟩:=I.lstM hB;refine PySem.P.add_list e e2 ?_ (by rw [Ab,Ab];omega)
 have ea:its.toArray++its2.toArray=(its++its2).toArray:=by simp
 rw [ea];exact ⟨.ref _,_,I.lnew (t':=s.toks) (r.append r2) (by rw [A2];omega),rfl,q _ I.fresh⟩
def rRep:R2:=λx y H Q=>∃l k xs,x=.ref l/\y=.int k/\H l=some (.lst xs)/\-(2 ^ 63)<=k/\k < 2 ^ 63/\xs.length * k.toNat<=sizeLine /\
 ∀p,H p=none->Q (.ref p) (upd H p (.lst (An k.toNat xs).flatten))
theorem UM {α:Type} (xs:List α) (k:Nat):(An k xs).flatten.length=k * xs.length:=by
 induction k with
 | zero=>simp
 | succ k ih=>rw [DH,Di,A2,ih,Nat.succ_mul,Nat.add_comm]
theorem cX:OpR X (DX .Mult) rRep:=by
 intro pins s σ H x y v u Q I rx ry h;obtain ⟨l,k,xs,rfl,rfl,hH,h1,h2,hz,q⟩:=h;cases rx;obtain ⟨t,rfl⟩:=ry;obtain ⟨z,its,n,r,hl,e⟩:=I.lstM hH
 have hlen:its.toArray.size * k.toNat<=sizeLine:=by rw [Ab,<-hl];exact hz
 have hcap:¬its.toArray.size * k.toNat > (2 ^ 63 - 1) / 8:=by
  have:(sizeLine:Nat)<=(2 ^ 63 - 1) / 8:=by decide
  omega
 have hfit:¬(!Builtin.List.listFitsIndex k)=true:=by
  rw [fitsIndex_both h1 h2];exact AR
 have hlong:¬Gu (its.toArray.size * k.toNat)=true:=by
  rw [XX hlen];exact AR
 have hnew:WM (λx1 x2=>x1++x2) #[] (An (if its.toArray.isEmpty=true then 0 else k.toNat) its.toArray)=(An k.toNat its).flatten.toArray:=by
  have f0:∀m:Nat,WM (λx1 x2=>x1++x2) #[] (An m its.toArray)=(An m its).flatten.toArray:=λm=>by
   have:=foldl_rep its m [];rw [Yn] at this;exact this
  rw [f0]
  cases its with
  | nil=>simp
  | cons a r'=>rw [if_neg (by simp)]
 refine wpAny_binaryOp_repeat_ref (T:="list") (U:="int") (by decide) ⟨_,e,rfl⟩ (λs'=>bH s' k t) noFill_list_mul F.fills_int_mul eW repeat_list F.slot_int_index.lookup
  (SK eW (bH s k t) F.entry_int_rmul (F.args_int_rmul_2 _ _) (int___rmul___int_list k t l its.toArray n)
   ⟨e,rfl,⟨_,e,rfl⟩,SK F.slot_list_mul ⟨_,e,rfl⟩ F.entry_list_mul (F.args_list_mul_2 _ _) (AutoListH.list___mul___list_int_3 l its.toArray n k t hfit hcap hlong) ⟨e,?_⟩⟩)
 rw [hnew];exact ⟨.ref _,_,I.lnew (t':=s.toks) (r.rep k.toNat) (by rw [UM,Nat.mul_comm];exact hz),rfl,q _ I.fresh⟩
section
variable {X:Cx} {o i e value:Expr} {pos pos' tpos:Pos} {td ty tv:TE}
theorem ZY (hu:X.A.units+1 < D3) (ho:PE X o td) (hi:PE X i ty) (hs:eC i):PE X (.Subscript o i pos) (fI td ty):=by
 intro pins s σ H Q I h;refine Y5 PySem.F.slot_dict_getitem.lookup hs (thn (ho pins s σ H _ I h) λu s1 ⟨x,H1,I1,rx,q1⟩=>thn (hi pins s1 σ H1 _ I1 q1) λiv s2 ⟨y,H2,I2,ry,a,v,ex,g,q2⟩=>?_);subst ex;obtain rfl:u=Au a:=rx;exact ⟨Rt I2 g,Vw hu I2 g ry λw' s3 I3 rw'=>⟨v,H2,I3,rw',q2⟩⟩
theorem XO (hu:X.A.units+1 < D3) (hi:PE X i ty) (ho:PE X o td):PC X .In i o (fH ty td):=by
 intro pins s σ H Q I h
 refine thn (hi pins s σ H _ I h) λiv s1 ⟨y,H1,I1,ry,q1⟩=>thn (ho pins s1 σ H1 _ I1 q1) λu s2 ⟨x,H2,I2,rx,a,ov,ex,g,q2⟩=>?_
 subst ex;obtain rfl:u=Au a:=rx
 exact d_in hu I2 g ry λs3 I3=>⟨.bl ov.isSome,H2,I3,rfl,q2⟩
theorem VS (hu:X.A.units+1 < D3) (hi:PE X i ty) (ho:PE X o td):PC X .NotIn i o (Tz ty td):=by
 intro pins s σ H Q I h
 refine thn (hi pins s σ H _ I h) λiv s1 ⟨y,H1,I1,ry,q1⟩=>thn (ho pins s1 σ H1 _ I1 q1) λu s2 ⟨x,H2,I2,rx,a,ov,ex,g,q2⟩=>?_
 subst ex;obtain rfl:u=Au a:=rx
 exact aD hu I2 g ry λs3 I3=>⟨.bl (!ov.isSome),H2,I3,rfl,q2⟩
theorem ZN (hu:X.A.units+1 < D3) (ho:PE X o td) (hi:PE X i ty) (hv:PE X value tv) (hs:FV value (some (.Subscript o i pos')) pos.line X.env=pure false) :
  PS X (.Assign [.Subscript o i pos'] value pos) (fO td ty tv):=by
 intro pins s σ H D I h;refine wpAny_Assign_Subscript (thn (hv pins s σ H _ I h) λr s1 ⟨v,H1,I1,rv,q1⟩=>thn (ho pins s1 σ H1 _ I1 q1) λu s2 ⟨x,H2,I2,rx,q2⟩=>thn (hi pins s2 σ H2 _ I2 q2) λiv s3 ⟨y,H3,I3,ry,a,H4,ex,g,q3⟩=>?_) hs;subst ex;obtain rfl:u=Au a:=rx
 exact Vv hu I3 g ry rv λs4 I4=>⟨σ,H4,I4,q3⟩
end
theorem YM {P:Ar} {w:BG} {H:Hp} (h:Bk) (hb:Df < h.objs.size):Cn P w H (h.push { cls:=.type "dict",data:=.dict #[] }) h.objs.size (.dK []):=
 ⟨EK _,beq_eq_false_iff_ne.mpr (CS (Ax hb)),[],.nil,Bk.DictOf.new h⟩
theorem YK {P:Ar} {w:BG} {H:Hp} (h:Bk) (hb:Df < h.objs.size):Cn P w H (h.push { cls:=.type "dict",data:=.dict #[] }) h.objs.size (.dT []):=
 ⟨EK _,beq_eq_false_iff_ne.mpr (CS (Ax hb)),[],.nil,_,#[],0,Af _ rfl,⟨rfl,rfl,rfl⟩,rfl,rfl,Oz⟩
def bi:TE:=λ_ H Q=>∀p,H p=none->Q (.ref p) (upd H p (.dK []))
def bh:TE:=λ_ H Q=>∀p,H p=none->Q (.ref p) (upd H p (.dT []))
variable {prog:Ar} {w:BG} {A:A8} {E:AD->AF->Prop} {s:AF}
section
variable {X:Cx} {pos:Pos}
theorem XN:PE X (.Dict [] [] pos) bi:=λpins s σ H Q I h=>
 eh ⟨.ref s.heap.objs.size,_,I.laid (a:=s.heap.objs.size) (o:=.dK []) (t':=s.toks) (λ_ _ q=>AJ _ q) (AS _) (YM s.heap I.big),rfl,h _ (I.hok.fresh (AS _))⟩
theorem XM:PE X (.Dict [] [] pos) bh:=λpins s σ H Q I h=>
 eh ⟨.ref s.heap.objs.size,_,I.laid (a:=s.heap.objs.size) (o:=.dT []) (t':=s.toks) (λ_ _ q=>AJ _ q) (AS _) (YK s.heap I.big),rfl,h _ (I.hok.fresh (AS _))⟩
end
section
variable {X:Cx} {pins:List (AI×Obj)} {σ:St} {H:Hp} {s:AF} {a:AI} {y d:V} {u r:AD} {o:Option V} {A:A8} {E:AD->AF->Prop}
end
section
variable {X:Cx} {o e f:Expr} {apos cpos:Pos} {td ty tx:TE}
end
section
variable {X:Cx} {pins:List (AI×Obj)} {σ:St} {H:Hp} {s:AF} {a:AI} {kvs:List (Key×V)} {A:A8} {E:AD->AF->Prop}
end
section
variable {X:Cx} {pins:List (AI×Obj)} {σ:St} {H:Hp} {s:AF} {a:AI} {y:V} {u:AD} {A:A8} {E:AD->AF->Prop}
variable {X:Cx}
end
end L2
namespace Att
open PySem PySem.W PySem.Calls PyProof.Rows
theorem Mr {P:Params} {h:Bk}:∀(ns:List Int) (vs:List AD),WellAll P h vs (ns.map gs)->FY vs ns:=by
 intro ns
 induction ns with
 | nil=>
  intro vs w;rw [Lw] at w;cases w;exact .nil
 | cons n ns ih=>
  intro vs w;rw [A5] at w
  cases w with
  | cons a b=>
   cases a;exact .cons _ _ (ih _ b)
theorem VE {l:OpenLaw} {n:Nat} (hn:l.most=some n) {P:Params} {h:Bk} {args:List WData} {vals:List AD}
  (hpre:l.row.toRowW.claim.pre args=true) (hwl:WellAll P h vals args) :
  ∃a vs ns,vals=[Au a]/\args=[WData.list (ns.map gs)]/\h.get? a=some { cls:=.type "list",data:=.seq vs.toArray }/\FY vs ns/\ns.length<=n:=by
 have hsh:WShape.hasAll [] args [.list .int]=true:=(pre_splitW hpre).1;have hc:l.pre.holds [] { args:=args }=true:=(pre_splitW hpre).2;obtain ⟨d,r,rfl,h1,h2⟩:=hasAllW_cons hsh;obtain rfl:=hasAllW_nil h2;obtain ⟨xs,rfl,h3⟩:=hasW_list h1;obtain ⟨ns,rfl⟩:=items_int h3
 have hlen:ns.length<=n:=by
  unfold OpenLaw.pre at hc
  have h4:(WTm.not (.lt (.lit (.int (n:Int))) (.len (.arg 0)))).holds [] { args:=[.list (ns.map .int)] }=true:=by
   have h4:=(holds_andW hc).1;rw [hn] at h4;exact h4
  have h5:=condW_of h4 (w_not (w_lt w_lit (w_len_list (w_arg rfl))));rw [AK] at h5
  refine ND λq=>?_
  have q':(n:Int) < ((ns.length:Nat):Int):=by omega
  first
   | (rw [decide_eq_true q'] at h5;exact absurd h5 (by decide))
   | (simp at h5;omega)
 cases hwl with
 | cons w1 w2=>
  cases w2
  cases w1 with
  | list ho hall=>exact ⟨_,_,ns,rfl,rfl,ho,Mr ns _ hall,hlen⟩
theorem VJ (l:OpenLaw) (args:List WData):l.row.toRowW.claim.post args (.bool true) args=true:=
 postW_of (r:=l.row.toRowW) (X:=(true==true))
  (show eO [] (.bool true) .bool=true by first | rfl | decide | simp [eO,WShape.arms,WShape.armsAll])
  (show (WTm.eq .res (.lit (.bool true))).value [] { args:=args,res:=some (.bool true),after:=args }=some (.bool (true==true)) from w_eq_bool (w_res rfl) w_lit) rfl
theorem R1 {l:OpenLaw} {n:Nat} {q:Ar} {loose:List Str} {XP:(Str->Option AD)->Bk->Prop} {YP:BG->Bk->Prop} {d:DefRec}
  (hn:l.most=some n) (hdf:d.params.defaults=[])
  (call:∀(w:BG) (s₀ s₁:AF) (mg mb:Str->Option AD) (fa:AI) (o:Obj) (pm cd doc:AD) (a:AI) (vs:List AD) (ns:List Int),
   Ground q loose [] XP w s₀ mg mb s₁.heap->YP w s₁.heap ->
   s₁.heap.get? fa=some o->o.data=.func (docDef d.name d.params d.body d.scope pm cd doc)->s₁.heap.CodeRec cd d.name->mg d.name=some (.ref fa) ->
   s₁.heap.get? a=some { cls:=.type "list",data:=.seq vs.toArray }->FY vs ns->ns.length<=n->s₁.gens = #[] ->
   Hn (AW l.prog w) OO (.call (.ref fa) ⟨[.ref a],[]⟩) (λr s'=>r=.ok (.ret (.bool true))/\OldK s₁.heap s'.heap/\s'.os=s₁.os/\HG s'.gens) s₁) :
  WalkO q loose XP YP l.row.toRowW d [] (λf vs=>Uu f vs):=by
 intro w s₀ s₁ mg mb G Y fa o pm cd doc dV kV ho hd hcd hD hmg hg args vals as hpre hlay hrd hwl hlo;obtain rfl:dV=.none:=Dflts.none hD hdf;obtain rfl:kV=.none:=Dflts.noKw hD;obtain ⟨a,vs,ns,rfl,rfl,hobj,hints,hlen⟩:=VE hn hpre hwl;refine enter_call (ON (call w s₀ s₁ mg mb fa o pm cd doc a vs ns G Y ho (fd_plain hd) hcd hmg hobj hints hlen hg) λr s' hq=>?_);obtain ⟨rfl,h2,h3,h4⟩:=hq;exact ⟨.inl ⟨.bool true,.bool true,[],rfl,λ_=>rfl,.bool true,VJ l _,λ_=>⟨O2,λ_ hm=>(nomatch hm)⟩⟩,h2,h3,h4⟩
section
variable {prog:Ar} {w:BG} {A:A8} {E:AD->AF->Prop} {s:AF} {K:Frag}
end
end Att
namespace L2
open PySem PySem.Spec PyProof.Rows
theorem O4:∀ {vs:List AD} {ns:List Int},FY vs ns->BU (ns.map V.int) vs
 | _,_,.nil=>.nil
 | _,_,.cons n t h=>.cons ⟨t,rfl⟩ (O4 h)
def aU (H:Hp):Prop:=∀b,H b=none∨∃o xs,H b=some (.frz o (.lst xs))
theorem Xo {P:Ar} {w:BG} {K:AA} {mg mb:Str->Option AD} {CX:CXT} {k:Nat} {fa a:AI} {fd:DY} {x:Str} {sp:Sp} {s₁:AF} {vs:List AD} {ns:List Int}
  (KX:K.In s₁.heap) (hns:s₁.heap.Ns AZ mg) (hb:s₁.heap.Ns bM mb) (hbb:∀x:Str,x≠"__name__"->mb x=FW x) (hlim:s₁.heap.NoLimit) (hg:s₁.gens = #[])
  (ha:s₁.heap.get? a=some { cls:=.type "list",data:=.seq vs.toArray }) (hi:FY vs ns) (hl:ns.length<=sizeLine) (hr:Gj k OO)
  (F:∀base:Bk,K.In base->base.Ns AZ mg->De P w K mg base CX k fa fd [x] sp) (hbind:∀(s:AF) (u:AD),SF s fd ⟨[u],[]⟩ [(x,u)])
  (hsp:∀H:Hp,aU H->SqL K H a (ns.map V.int)->sp [.ref a] H (λv _=>v=.bl true) λ_ _ _=>False)
  (hCX:∀H e s',CX [] H s₁ (λ_ _ _=>False) e s'->False) :
  Hn (AW P w) OO (.call (.ref fa) ⟨[.ref a],[]⟩) (λr s'=>r=.ok (.ret (.bool true))/\OldK s₁.heap s'.heap/\s'.os=s₁.os/\HG s'.gens) s₁:=by
 have rv:=O4 hi;have lenV:=hi.length
 have core:∀H:Hp,aU H->SqL K H a (ns.map V.int)->HOk P w H s₁.heap->(∀b,H b≠none->b=a)->(H a≠none->K.lookup a=none) ->
   Hn (AW P w) OO (.call (.ref fa) ⟨[.ref a],[]⟩) (λr s'=>r=.ok (.ret (.bool true))/\OldK s₁.heap s'.heap/\s'.os=s₁.os/\HG s'.gens) s₁:=by
  intro H hO hS hok hA hK
  have base_of:∀ {b:AI} {o:Obj},s₁.heap.get? b=some o->H b=none->(QM s₁.heap H).get? b=some o:=λe n=>Xy e n
  have noA:∀ {b:AI} {o:Obj} {es:Array Lz} {ep:Nat},s₁.heap.get? b=some o->o.data=.dict es ep->H b=none:=λ{b o es ep} e d=>by
   cases q:H b with
   | none=>rfl
   | some u=>
    have e':b=a:=hA b (by rw [q];simp);subst e';rw [ha] at e;cases e;have d':Data.seq vs.toArray _=Data.dict es ep:=d;cases d'
  have nsK:∀ {b:AI} {m:Str->Option AD},s₁.heap.Ns b m->(QM s₁.heap H).Ns b m:=λ{b m} ⟨o,es,ep,e,d,r⟩=>⟨o,es,ep,base_of e (noA e d),d,r⟩
  have hKb:K.In (QM s₁.heap H):=λb o e=>base_of (KX b o e) (by
   cases q:H b with
   | none=>rfl
   | some u=>
    have e':b=a:=hA b (by rw [q];simp);subst e'
    rw [hK (by rw [q];simp)] at e;cases e)
  have hM:Mod K mg (QM s₁.heap H):=⟨hKb,nsK hns,⟨mb,nsK hb,hbb⟩,let ⟨mc,h1,h2⟩:=hlim;⟨mc,nsK h1,h2⟩⟩;have e0:Tg P w K mg (QM s₁.heap H) OO [] s₁ H:=⟨rfl,hM,λb o e=>Zk e,SS (Vj _ _),trivial,λb hb=>absurd (show b∈([]:List AI) from hb) (by simp),hok,.of_eq hg⟩
  refine ON ((F _ hKb (nsK hns)).run OO [] s₁ H ⟨[.ref a],[]⟩ [.ref a] [.ref a] _ _ hr e0 (hbind s₁ (.ref a)) (.cons rfl .nil) (hsp H hO hS)) λr s' h=>?_
  cases r with
  | error e=>exact (hCX H e s' h).elim
  | ok fl=>
   cases fl with
   | next=>exact Dj h
   | brk=>exact Dj h
   | cont=>exact Dj h
   | ret u=>
    obtain ⟨v,H',os,bare,un,hok',r',q⟩:=h;have q':v=.bl true:=q;subst q';obtain rfl:u=KS true:=r';refine ⟨rfl,OldK.of_keep λb o e=>?_,os,bare⟩
    cases q:H b with
    | none=>exact un.keep b o e q (by intro z;exact absurd (show b∈([]:List AI) from z) (by simp)) (by simp)
    | some u=>
     rcases hO b with z | ⟨ob,xs,z⟩
     ·rw [q] at z;cases z
     ·have z2:=un.frzs b ob _ z
      obtain ⟨e1,_⟩:=hok b _ z;obtain ⟨e2,_⟩:=hok' b _ z2;rw [e] at e1;cases e1;exact e2
 cases hk:K.lookup a with
 | some o=>
  have e:=KX a o hk;rw [ha] at e;cases e
  refine core (λ_=>none) (λ_=>.inl rfl) (.inr ⟨_,vs.toArray,_,hk,rfl,rfl,rfl,by rw [Ab,lenV];exact hl,by simpa using rv⟩) (λb u z=>by have z':(none:Option HO)=some u:=z;cases z') (λb z=>absurd rfl z) λz=>absurd rfl z
 | none=>
  refine core (λb=>if b=a then some (.frz { cls:=.type "list",data:=.seq vs.toArray } (.lst (ns.map V.int))) else none) (λb=>?_) (.inl (.inr ⟨{ cls:=.type "list",data:=.seq vs.toArray },if_pos rfl⟩)) (λb u z=>?_) (λb z=>?_) λ_=>hk
  ·by_cases hb:b=a
   ·exact .inr ⟨_,_,if_pos hb⟩
   ·exact .inl (if_neg hb)
  ·by_cases hb:b=a
   ·have z':=(if_pos hb).symm.trans z
    cases z';subst hb;exact ⟨ha,by rw [AK];exact hl,vs,_,rv,ha⟩
   ·have z':=(if_neg hb).symm.trans z
    cases z'
  ·by_cases hb:b=a
   ·exact hb
   ·exact absurd (if_neg hb) z
end L2
namespace L2
open PySem PySem.Spec PyProof.Rows
theorem Yw {l:PySem.W.OpenLaw} {n k:Nat} {q:Ar} {loose:List Str} {XP:(Str->Option AD)->Bk->Prop} {YP:BG->Bk->Prop} {d:DefRec} {K:Params->AA} {CX:BG->CXT} {sp:BG->Sp} {x:Str}
  (hn:l.most=some n) (hn2:n<=sizeLine) (hdf:d.params.defaults=[]) (hr:Gj k OO)
  (hY:∀(w:BG) (h:Bk),YP w h->(K w.params).In h)
  (F:∀(w:BG) (mg:Str->Option AD) (fa:AI) (h:Bk),(K w.params).In h->h.Ns AZ mg->mg d.name=some (.ref fa) ->
   ∃fd:DY,(∀(s:AF) (u:AD),SF s fd ⟨[u],[]⟩ [(x,u)]) /\
    ∀base:Bk,(K w.params).In base->base.Ns AZ mg->De l.prog w (K w.params) mg base (CX w) k fa fd [x] (sp w))
  (hsp:∀(w:BG) (H:Hp) (a:AI) (ns:List Int),ns.length<=n->aU H->SqL (K w.params) H a (ns.map V.int)->sp w [.ref a] H (λv _=>v=.bl true) λ_ _ _=>False)
  (hCX:∀(w:BG) (H:Hp) (s:AF) (e:AD) (s':AF),CX w [] H s (λ_ _ _=>False) e s'->False) :
  PySem.W.WalkO q loose XP YP l.row.toRowW d [] (λf vs=>Uu f vs):=by
 refine Att.R1 hn hdf λw s₀ s₁ mg mb fa o pm cd doc a vs ns G Y ho hd hcd hmg hobj hints hlen hg=>?_
 have KX:=hY w _ Y;obtain ⟨fd,hb,hF⟩:=F w mg fa _ KX G.T.g hmg
 exact Xo KX G.T.g G.T.b G.T.builtins G.T.nolimit hg hobj hints (Aq hlen hn2) hr hF hb (λH hO hS=>hsp w H a ns hlen hO hS) λH e s'=>hCX w H s₁ e s'
end L2
/- THE LAST THEOREM (shape;LID,My.* are yours):
   My.Adr: a structure of the addresses that your layer names (classes,functions);My.Txt K t: a structure (Prop) of the equations over K;
   My.txt_mk:{K} {implicit addresses ..} (e1:nsIn K AZ "law" = some (some (.ref f))) (e2:K.lookup f=some ⟨oc,od,.func (fnOf "law" "law" params body scope dV kV doc pm an cdv ct),sl⟩) (e3:codeIn K cdv "law" = true) ..:∃t,My.Txt K t
(the tactic k_is has no namespace: write k_is) -/
namespace L2
open PySem PySem.Spec PyProof.Rows
def Zz (s:Cp) (j:Nat):Cp:=match s with
 | .ClassDef _ _ _ body _ _ _ _ _ _ _=>body.getD j (.Pass ⟨0,0,0,0⟩)
 | _=>.Pass ⟨0,0,0,0⟩
def Bw (s:Cp):Arguments:=match s with
 | .FunctionDef _ a _ _ _ _ _ _ _ _=>a
 | _=>{ posonlyargs:=[],args:=[],vararg:=none,kwonlyargs:=[],kw_defaults:=[],kwarg:=none,defaults:=[] }
def Bm (s:Cp):List Cp:=match s with
 | .FunctionDef _ _ b _ _ _ _ _ _ _=>b
 | _=>[]
def Am (s:Cp):HJ:=match s with
 | .FunctionDef _ _ _ _ _ _ sc _ _ _=>sc
 | _=>{ kind:=.function,names:=[],isGenerator:=false,isCoroutine:=false }
structure Fun (K:AA) (x qual:Str) (st:Cp) (f:AI) (fd:DY):Prop where
 ex:∃(oc:AD) (od:Option AI) (kV doc pm:AD) (an:Option AI) (cdv ct:AD) (osl:Array (Option AD)),
  fd=Go x qual (Bw st) (Bm st) (Am st) .none kV doc pm an cdv ct/\K.lookup f=some ⟨oc,od,.func fd,osl⟩/\NA K cdv qual=true
 kp:Fa K (.ref f)=true
section
variable {P:Ar} {w:BG} {K:AA} {mg:Str->Option AD} {base:Bk}
theorem Fun.binds {x qual:Str} {st:Cp} {f:AI} {fd:DY} {ps:List Str} (F:Fun K x qual st f fd)
  (h:∀(kV doc pm:AD) (an:Option AI) (cdv ct:AD) (us:List AD),us.length=ps.length->bindArgs (Go x qual (Bw st) (Bm st) (Am st) .none kV doc pm an cdv ct) ⟨us,[]⟩=pure (ps.zip us)):Binds K fd ps []:=by
 obtain ⟨oc,od,kV,doc,pm,an,cdv,ct,osl,rfl,lk,hcd⟩:=F.ex;exact .all (h kV doc pm an cdv ct)
theorem Cr {x qual:Str} {st:Cp} {f:AI} {oc:AD} {od an:Option AI} {osl:Array (Option AD)} {kV doc pm cdv ct:AD} (l:K.lookup f=some ⟨oc,od,.func (Go x qual (Bw st) (Bm st) (Am st) .none kV doc pm an cdv ct),osl⟩)
  (c:NA K cdv qual=true) (k:Fa K (.ref f)=true):Fun K x qual st f (Go x qual (Bw st) (Bm st) (Am st) .none kV doc pm an cdv ct):=⟨⟨oc,od,kV,doc,pm,an,cdv,ct,osl,rfl,l,c⟩,k⟩
end
section
variable {X:Cx}
theorem pv (i:Nat) {x:Str} {pos:Pos} (hN:X.N[i]?=some x:=by rfl) (hv:Vis X.env.scope x:=by first | exact Qp rfl | exact Qo (Qp rfl) | exact Qo (Qo rfl)) (hd:(x==("__debug__" : Str))=false:=by decide)
  (hcd:(x==("__classdict__" : Str))=false:=by decide):PE X (.Name x pos) (bf i):=cJ hN hv hd hcd
end
section
variable {κ:Type} [DecidableEq κ]
end
end L2
namespace L2
open PySem PySem.Spec PyProof.Rows
inductive D where
 | non | bl (b:Bool) | int (i:Int) | str (x:Str) | tup (ds:List D) | fro (ds:List D) | ref (n:Nat) | exc (C:AI)
def Ou (K:AA) (H:Hp) (a:AI) (vs:List V):Prop:=
 (∃o,H a=some (.frz o (.lst vs))) ∨
  ∃(o:Obj) (its:Array AD) (n:Nat),K.lookup a=some o/\o.cls=.type "list"/\o.dict=none/\o.data=.seq its n/\its.size<=sizeLine/\BU vs its.toList
theorem Ou.sq {K:AA} {H:Hp} {a:AI} {vs:List V} (h:Ou K H a vs):SqL K H a vs:=by
 rcases h with h | h
 ·exact .inl (.inr h)
 ·exact .inr h
def Ov (o:Obj) (C:AI):Prop:=o.cls=.ref C/\o.dict=none/\∃vs,o.data=.fields vs
mutual
inductive Bi (K:AA) (ρ:List AI) (H:Hp):D->V->Prop where
 | non:Bi K ρ H .non .non
 | bl (b:Bool):Bi K ρ H (.bl b) (.bl b)
 | int (i:Int):Bi K ρ H (.int i) (.int i)
 | str (x:Str):Bi K ρ H (.str x) (.str x)
 | tup {ds:List D} {a:AI} {vs:List V}:H a=some (.tup vs)->At K ρ H ds vs->Bi K ρ H (.tup ds) (.ref a)
 | fro {ds:List D} {a:AI} {vs:List V}:Ou K H a vs->At K ρ H ds vs->Bi K ρ H (.fro ds) (.ref a)
 | ref {n:Nat} {a:AI}:ρ[n]?=some a->Bi K ρ H (.ref n) (.ref a)
 | exc {C a:AI} {o:Obj} {u:HO}:H a=some (.frz o u)->Ov o C->Bi K ρ H (.exc C) (.ref a)
inductive At (K:AA) (ρ:List AI) (H:Hp):List D->List V->Prop where
 | nil:At K ρ H [] []
 | cons {d:D} {v:V} {ds:List D} {vs:List V}:Bi K ρ H d v->At K ρ H ds vs->At K ρ H (d :: ds) (v :: vs)
end
structure Le (K:AA) (ρ:List AI) (H:Hp) (ρ':List AI) (H':Hp):Prop where
 pre:∀(n:Nat) a,ρ[n]?=some a->ρ'[n]?=some a
 tup:∀a xs,H a=some (.tup xs)->H' a=some (.tup xs)
 frz:∀a o u,H a=some (.frz o u)->H' a=some (.frz o u)
 oth:∀a o,H a=some o->(∀n:Nat,ρ[n]?≠some a)->H' a=some o/\∀n:Nat,ρ'[n]?≠some a
theorem Ou.mono {K:AA} {H H':Hp} {a:AI} {xs:List V} (l:∀a o u,H a=some (.frz o u)->H' a=some (.frz o u)) (h:Ou K H a xs):Ou K H' a xs:=by
 rcases h with ⟨o,h⟩ | h
 ·exact .inl ⟨o,l _ _ _ h⟩
 ·exact .inr h
section
variable {K:AA} {ρ ρ' ρ'':List AI} {H H' H'':Hp}
theorem Le.fro (l:Le K ρ H ρ' H'):∀a xs,Ou K H a xs->Ou K H' a xs:=λ_ _ h=>h.mono l.frz
theorem Le.refl:Le K ρ H ρ H:=⟨λ_ _ h=>h,λ_ _ h=>h,λ_ _ _ h=>h,λ_ _ h n=>⟨h,n⟩⟩
theorem Le.trans (a:Le K ρ H ρ' H') (b:Le K ρ' H' ρ'' H''):Le K ρ H ρ'' H'':=
 ⟨λn x h=>b.pre n x (a.pre n x h),λx xs h=>b.tup x xs (a.tup x xs h),λx o u h=>b.frz x o u (a.frz x o u h),λx o h n=>b.oth x o (a.oth x o h n).1 (a.oth x o h n).2⟩
mutual
theorem Bi.mono (l:Le K ρ H ρ' H'):∀ {d:D} {v:V},Bi K ρ H d v->Bi K ρ' H' d v
 | _,_,.non=>.non
 | _,_,.bl b=>.bl b
 | _,_,.int i=>.int i
 | _,_,.str x=>.str x
 | _,_,.tup h r=>.tup (l.tup _ _ h) (At.mono l r)
 | _,_,.fro h r=>.fro (l.fro _ _ h) (At.mono l r)
 | _,_,.ref h=>.ref (l.pre _ _ h)
 | _,_,.exc h e=>.exc (l.frz _ _ _ h) e
theorem At.mono (l:Le K ρ H ρ' H'):∀ {ds:List D} {vs:List V},At K ρ H ds vs->At K ρ' H' ds vs
 | _,_,.nil=>.nil
 | _,_,.cons r t=>.cons (Bi.mono l r) (At.mono l t)
end
mutual
theorem Bi.more (l:∀(n:Nat) a,ρ[n]?=some a->ρ'[n]?=some a):∀ {d:D} {v:V},Bi K ρ H d v->Bi K ρ' H d v
 | _,_,.non=>.non
 | _,_,.bl b=>.bl b
 | _,_,.int i=>.int i
 | _,_,.str x=>.str x
 | _,_,.tup h r=>.tup h (At.more l r)
 | _,_,.fro h r=>.fro h (At.more l r)
 | _,_,.ref h=>.ref (l _ _ h)
 | _,_,.exc h e=>.exc h e
theorem At.more (l:∀(n:Nat) a,ρ[n]?=some a->ρ'[n]?=some a):∀ {ds:List D} {vs:List V},At K ρ H ds vs->At K ρ' H ds vs
 | _,_,.nil=>.nil
 | _,_,.cons r t=>.cons (Bi.more l r) (At.more l t)
end
mutual
theorem Bi.keep (h1:∀a xs,H a=some (.tup xs)->H' a=some (.tup xs)) (h2:∀a o u,H a=some (.frz o u)->H' a=some (.frz o u)):∀ {d:D} {v:V},Bi K ρ H d v->Bi K ρ H' d v
 | _,_,.non=>.non
 | _,_,.bl b=>.bl b
 | _,_,.int i=>.int i
 | _,_,.str x=>.str x
 | _,_,.tup h r=>.tup (h1 _ _ h) (At.keep h1 h2 r)
 | _,_,.fro h r=>.fro (h.mono h2) (At.keep h1 h2 r)
 | _,_,.ref h=>.ref h
 | _,_,.exc h e=>.exc (h2 _ _ _ h) e
theorem At.keep (h1:∀a xs,H a=some (.tup xs)->H' a=some (.tup xs)) (h2:∀a o u,H a=some (.frz o u)->H' a=some (.frz o u)):∀ {ds:List D} {vs:List V},At K ρ H ds vs->At K ρ H' ds vs
 | _,_,.nil=>.nil
 | _,_,.cons r t=>.cons (Bi.keep h1 h2 r) (At.keep h1 h2 t)
end
theorem At.length:∀ {ds:List D} {vs:List V},At K ρ H ds vs->ds.length=vs.length
 | _,_,.nil=>rfl
 | _,_,.cons _ t=>by rw [BA,BA,At.length t]
theorem At.get:∀ {ds:List D} {vs:List V} {i:Nat} {d:D},At K ρ H ds vs->ds[i]?=some d->∃v,vs[i]?=some v/\Bi K ρ H d v
 | _,_,_,_,.nil,e=>by simp at e
 | _,_,0,_,.cons r _,e=>by simp at e;subst e;exact ⟨_,rfl,r⟩
 | _,_,i+1,d,.cons _ t,e=>by
  obtain ⟨v,h1,h2⟩:=At.get (i:=i) (d:=d) t (by simpa using e);exact ⟨v,by simpa using h1,h2⟩
theorem At.get':∀ {ds:List D} {vs:List V} {i:Nat} {v:V},At K ρ H ds vs->vs[i]?=some v->∃d,ds[i]?=some d/\Bi K ρ H d v
 | _,_,_,_,.nil,e=>by simp at e
 | _,_,0,_,.cons r _,e=>by simp at e;subst e;exact ⟨_,rfl,r⟩
 | _,_,i+1,d,.cons _ t,e=>by
  obtain ⟨v,h1,h2⟩:=At.get' (i:=i) (v:=d) t (by simpa using e);exact ⟨v,by simpa using h1,h2⟩
theorem At.append:∀ {ds es:List D} {vs us:List V},At K ρ H ds vs->At K ρ H es us->At K ρ H (ds++es) (vs++us)
 | _,_,_,_,.nil,s=>s
 | _,_,_,_,.cons r t,s=>.cons r (At.append t s)
theorem At.take:∀ {ds:List D} {vs:List V} (n:Nat),At K ρ H ds vs->At K ρ H (ds.take n) (vs.take n)
 | _,_,0,_=>.nil
 | _,_,_+1,.nil=>.nil
 | _,_,n+1,.cons r t=>.cons r (At.take n t)
theorem At.drop:∀ {ds:List D} {vs:List V} (n:Nat),At K ρ H ds vs->At K ρ H (ds.drop n) (vs.drop n)
 | _,_,0,r=>r
 | _,_,_+1,.nil=>.nil
 | _,_,n+1,.cons _ t=>At.drop n t
theorem At.reverse {ds:List D} {vs:List V} (h:At K ρ H ds vs):At K ρ H ds.reverse vs.reverse:=by
 induction ds generalizing vs with
 | nil=>cases h;exact .nil
 | cons d ds ih=>
  cases h with
  | cons r t=>rw [Hq,Hq];exact (ih t).append (.cons r .nil)
theorem At.of_ints:∀(ns:List Int),At K ρ H (ns.map D.int) (ns.map V.int)
 | []=>.nil
 | n :: ns=>.cons (.int n) (At.of_ints ns)
theorem At.ints:∀ {ns:List Int} {vs:List V},At K ρ H (ns.map D.int) vs->vs=ns.map V.int
 | [],_,.nil=>rfl
 | n :: ns,_,.cons r t=>by
  cases r;rw [At.ints (ns:=ns) t];rfl
end
inductive Ob where
 | lst (ds:List D)
 | dK (kvs:List (Key×D))
 | dT (kvs:List (List Key×D))
 | ins (C:AI) (fs:List (Str×D))
abbrev Sto:=List Ob
abbrev KVR {κ:Type} (K:AA) (ρ:List AI) (H:Hp):List (κ×D)->List (κ×V)->Prop:=Gb λ(p:κ×D) (q:κ×V)=>p.1=q.1/\Bi K ρ H p.2 q.2
def E8 (K:AA) (ρ:List AI) (H:Hp) (a:AI):Ob->Prop
 | .lst ds=>∃vs,H a=some (.lst vs)/\At K ρ H ds vs
 | .dK kvs=>∃kvs',H a=some (.dK kvs')/\KVR K ρ H kvs kvs'
 | .dT kvs=>∃kvs',H a=some (.dT kvs')/\KVR K ρ H kvs kvs'
 | .ins C fs=>∃dx fs',H a=some (.ins C dx fs')/\KVR K ρ H fs fs'
structure B8 (K:AA) (ρ:List AI) (S:Sto) (H:Hp):Prop where
 len:ρ.length=S.length
 nd:∀(i j:Nat) a,ρ[i]?=some a->ρ[j]?=some a->i=j
 ob:∀(n:Nat) o a,S[n]?=some o->ρ[n]?=some a->E8 K ρ H a o
section
variable {K:AA} {ρ ρ':List AI} {H H':Hp} {S:Sto} {a p:AI} {o:Ob} {n:Nat} {ho:HO}
theorem KVR.mono {κ:Type} (l:Le K ρ H ρ' H') {x:List (κ×D)} {y:List (κ×V)} (h:KVR K ρ H x y):KVR K ρ' H' x y:=Gb.mapP h λ_ _ z=>⟨z.1,z.2.mono l⟩
theorem E8.mut (h:E8 K ρ H a o):Mut (H a):=by
 cases o with
 | lst ds=>obtain ⟨_,e,_⟩:=h;rw [e];trivial
 | dK ds=>obtain ⟨_,e,_⟩:=h;rw [e];trivial
 | dT ds=>obtain ⟨_,e,_⟩:=h;rw [e];trivial
 | ins C fs=>obtain ⟨_,_,e,_⟩:=h;rw [e];trivial
theorem E8.mono (l:Le K ρ H ρ' H') (e:H' a=H a) (h:E8 K ρ H a o):E8 K ρ' H' a o:=by
 cases o with
 | lst ds=>obtain ⟨vs,h1,h2⟩:=h;exact ⟨vs,e.trans h1,h2.mono l⟩
 | dK ds=>obtain ⟨vs,h1,h2⟩:=h;exact ⟨vs,e.trans h1,h2.mono l⟩
 | dT ds=>obtain ⟨vs,h1,h2⟩:=h;exact ⟨vs,e.trans h1,h2.mono l⟩
 | ins C fs=>obtain ⟨dx,vs,h1,h2⟩:=h;exact ⟨dx,vs,e.trans h1,h2.mono l⟩
theorem E8.keep (h1:∀a xs,H a=some (.tup xs)->H' a=some (.tup xs)) (h2:∀a o u,H a=some (.frz o u)->H' a=some (.frz o u)) (e:H' a=H a) (h:E8 K ρ H a o):E8 K ρ H' a o:=by
 cases o with
 | lst ds=>obtain ⟨vs,q1,q2⟩:=h;exact ⟨vs,e.trans q1,q2.keep h1 h2⟩
 | dK ds=>obtain ⟨vs,q1,q2⟩:=h;exact ⟨vs,e.trans q1,Gb.mapP q2 λ_ _ z=>⟨z.1,z.2.keep h1 h2⟩⟩
 | dT ds=>obtain ⟨vs,q1,q2⟩:=h;exact ⟨vs,e.trans q1,Gb.mapP q2 λ_ _ z=>⟨z.1,z.2.keep h1 h2⟩⟩
 | ins C fs=>obtain ⟨dx,vs,q1,q2⟩:=h;exact ⟨dx,vs,e.trans q1,Gb.mapP q2 λ_ _ z=>⟨z.1,z.2.keep h1 h2⟩⟩
theorem E8.mono' (l:∀(n:Nat) a,ρ[n]?=some a->ρ'[n]?=some a) (h:E8 K ρ H a o):E8 K ρ' H a o:=by
 cases o with
 | lst ds=>obtain ⟨vs,h1,h2⟩:=h;exact ⟨vs,h1,h2.more l⟩
 | dK ds=>obtain ⟨vs,h1,h2⟩:=h;exact ⟨vs,h1,Gb.mapP h2 λ_ _ z=>⟨z.1,z.2.more l⟩⟩
 | dT ds=>obtain ⟨vs,h1,h2⟩:=h;exact ⟨vs,h1,Gb.mapP h2 λ_ _ z=>⟨z.1,z.2.more l⟩⟩
 | ins C fs=>obtain ⟨dx,vs,h1,h2⟩:=h;exact ⟨dx,vs,h1,Gb.mapP h2 λ_ _ z=>⟨z.1,z.2.more l⟩⟩
theorem Fh (hp:H p=none∨Mut (H p)):(∀a xs,H a=some (.tup xs)->upd H p ho a=some (.tup xs))/\∀a o u,H a=some (.frz o u)->upd H p ho a=some (.frz o u):=by
 have ne:∀a u,H a=some u->¬Mut (some u)->a≠p:=λa u e nm z=>by
  subst z
  rcases hp with h | h
  ·rw [e] at h;cases h
  ·rw [e] at h;exact nm h
 refine ⟨λa xs e=>?_,λa o u e=>?_⟩
 ·rw [BR (ne a _ e λz=>z)];exact e
 ·rw [BR (ne a _ e λz=>z)];exact e
theorem Le.fresh (hp:H p=none):Le K ρ H ρ (upd H p ho):=
 ⟨λ_ _ h=>h,(Fh (.inl hp)).1,(Fh (.inl hp)).2,λa o e n=>⟨by rw [BR (Bh e hp)];exact e,n⟩⟩
theorem Le.write (hn:ρ[n]?=some p) (hm:Mut (H p)):Le K ρ H ρ (upd H p ho):=
 ⟨λ_ _ h=>h,(Fh (.inr hm)).1,(Fh (.inr hm)).2,λa o e h=>⟨by rw [BR λz=>h n (by rw [z];exact hn)];exact e,h⟩⟩
theorem G6 {α:Type} {l:List α} {x:α} {m:Nat} {a:α} (e:(l++[x])[m]?=some a):(l[m]?=some a/\m < l.length)∨(m=l.length/\a=x):=by
 by_cases hm:m < l.length
 ·rw [Ag hm] at e;exact .inl ⟨e,hm⟩
 ·rw [BI (by lia)] at e
  have:m - l.length=0:=by
   have:=(AG.mp e).1;simp at this;omega
  rw [this] at e;exact .inr ⟨by lia,by simpa using e.symm⟩
theorem Le.alloc (hp:H p=none):Le K ρ H (ρ++[p]) (upd H p ho):=by
 refine ⟨λn a h=>by rw [Ag (AG.mp h).1];exact h,(Fh (.inl hp)).1,(Fh (.inl hp)).2,λa o e h=>⟨by rw [BR (Bh e hp)];exact e,λn q=>?_⟩⟩
 rcases G6 q with ⟨q,_⟩ | ⟨_,q⟩
 ·exact h n q
 ·exact Bh e hp q
theorem B8.there (h:B8 K ρ S H) {m:Nat} (e:ρ[m]?=some a):∃o,S[m]?=some o/\E8 K ρ H a o:=by
 have hn:m < S.length:=by rw [<-h.len];exact (AG.mp e).1
 exact ⟨S[m],by simp [hn],h.ob m _ a (by simp [hn]) e⟩
theorem B8.notIn (h:B8 K ρ S H) (hp:H p=none) {m:Nat} (e:ρ[m]?=some p):False:=by
 obtain ⟨o,_,r⟩:=h.there e;have:=r.mut;rw [hp] at this;exact this
theorem B8.alloc (h:B8 K ρ S H) (hp:H p=none) (hob:E8 K (ρ++[p]) (upd H p ho) p o):B8 K (ρ++[p]) (S++[o]) (upd H p ho)/\Le K ρ H (ρ++[p]) (upd H p ho)/\(ρ++[p])[S.length]?=some p:=by
 have le:Le K ρ H (ρ++[p]) (upd H p ho):=Le.alloc hp
 have at':∀(m:Nat) a,(ρ++[p])[m]?=some a->(ρ[m]?=some a/\m < ρ.length)∨(m=ρ.length/\a=p):=λm a e=>G6 e
 refine ⟨⟨by simp [h.len],λi j a hi hj=>?_,λm ob a hm ha=>?_⟩,le,by rw [<-h.len];simp⟩
 ·rcases at' i a hi with ⟨hi1,_⟩ | ⟨hi1,ea⟩ <;> rcases at' j a hj with ⟨hj1,_⟩ | ⟨hj1,ea'⟩
  ·exact h.nd i j a hi1 hj1
  ·rw [ea'] at hi1;exact (h.notIn hp hi1).elim
  ·rw [ea] at hj1;exact (h.notIn hp hj1).elim
  ·lia
 ·rcases at' m a ha with ⟨ha1,hlt⟩ | ⟨rfl,rfl⟩
  ·rw [Ag (by rw [<-h.len];exact hlt)] at hm
   refine (h.ob m ob a hm ha1).mono le (BR λz=>?_);rw [z] at ha1;exact h.notIn hp ha1
  ·rw [h.len] at hm
   simp at hm;subst hm;exact hob
theorem B8.write (h:B8 K ρ S H) (hn:ρ[n]?=some a) (hob:E8 K ρ (upd H a ho) a o):B8 K ρ (S.set n o) (upd H a ho)/\Le K ρ H ρ (upd H a ho):=by
 obtain ⟨o',e',r'⟩:=h.there hn;have le:Le K ρ H ρ (upd H a ho):=Le.write hn r'.mut;refine ⟨⟨by simp [h.len],h.nd,λm ob b hm hb=>?_⟩,le⟩
 by_cases e:m=n
 ·subst e
  rw [hn] at hb;cases hb;rw [As (by rw [<-h.len];exact (AG.mp hn).1)] at hm;cases hm;exact hob
 ·rw [A9 (CS e)] at hm
  refine (h.ob m ob b hm hb).mono le (BR λz=>?_);subst z;exact e (h.nd m n b hb hn)
theorem Le.back {S':Sto} (l:Le K ρ H ρ' H') (s:B8 K ρ S H) (s':B8 K ρ' S' H') (hp:H' p=none):H p=none:=by
 cases q:H p with
 | none=>rfl
 | some o=>
  by_cases hn:∃n:Nat,ρ[n]?=some p
  ·obtain ⟨n,hn⟩:=hn
   exact (s'.notIn hp (l.pre n p hn)).elim
  ·have:=(l.oth p o q λn h=>hn ⟨n,h⟩).1
   rw [hp] at this;cases this
theorem B8.adopt (h:B8 K ρ S H) (hn:∀m:Nat,ρ[m]?≠some p) (hob:E8 K (ρ++[p]) H p o):B8 K (ρ++[p]) (S++[o]) H/\(ρ++[p])[S.length]?=some p:=by
 have le:∀a ob,E8 K ρ H a ob->E8 K (ρ++[p]) H a ob:=λa ob r=>by
  have l0:∀(n:Nat) a,ρ[n]?=some a->(ρ++[p])[n]?=some a:=λn a h=>by rw [Ag (AG.mp h).1];exact h
  exact r.mono' l0
 refine ⟨⟨by simp [h.len],λi j a hi hj=>?_,λm ob a hm ha=>?_⟩,by rw [<-h.len];simp⟩
 ·rcases G6 hi with ⟨hi1,_⟩ | ⟨hi1,ea⟩ <;> rcases G6 hj with ⟨hj1,_⟩ | ⟨hj1,ea'⟩
  ·exact h.nd i j a hi1 hj1
  ·rw [ea'] at hi1;exact (hn i hi1).elim
  ·rw [ea] at hj1;exact (hn j hj1).elim
  ·lia
 ·rcases G6 ha with ⟨ha,hlt⟩ | ⟨rfl,rfl⟩
  ·rw [Ag (by rw [<-h.len];exact hlt)] at hm
   exact le a ob (h.ob m ob a hm ha)
  ·rw [h.len] at hm
   simp at hm;subst hm;exact hob
end
end L2
namespace L2
open PySem PySem.Spec PyProof.Rows
inductive Res (α:Type) where
 | ok (a:α) (S:Sto) | err (c:AI) (S:Sto) | bad
def Res.bind {α β:Type} (r:Res α) (f:α->Sto->Res β):Res β:=match r with
 | .ok a S=>f a S
 | .err c S=>.err c S
 | .bad=>.bad
abbrev Lo:=List (Option D)
abbrev ME:=Lo->Sto->Res D
abbrev MT:=Lo->Sto->Res Bool
abbrev ML:=Lo->Sto->Res (List D)
inductive Fl where
 | nx (e:Lo) | rt (d:D) | bk (e:Lo) | ct (e:Lo) | ex (c:AI) (e:Lo)
abbrev MS:=Lo->Sto->Res Fl
abbrev MG:=D->Lo->Sto->Res Lo
abbrev Hk:=Sto->Option (List D)
abbrev MI:=Lo->Sto->Res Hk
structure E4 (K:AA) (ρ:List AI) (H:Hp) (e:Lo) (σ:St):Prop where
 len:e.length=σ.length
 at':∀(i:Nat) d,e[i]?=some (some d)->∃v,σ[i]?=some (some v)/\Bi K ρ H d v
section
variable {K:AA} {ρ ρ':List AI} {H H':Hp} {S:Sto} {e:Lo} {σ:St}
theorem E4.mono (l:Le K ρ H ρ' H') (h:E4 K ρ H e σ):E4 K ρ' H' e σ:=⟨h.len,λi d q=>by
 obtain ⟨v,h1,h2⟩:=h.at' i d q
 exact ⟨v,h1,h2.mono l⟩⟩
theorem E4.set {d:D} {v:V} (h:E4 K ρ H e σ) (r:Bi K ρ H d v) (i:Nat):E4 K ρ H (e.set i (some d)) (σ.set i (some v)):=by
 refine ⟨by simp [h.len],λj d' q=>?_⟩
 by_cases hj:i=j
 ·subst hj
  have hi:i < e.length:=by
   have:=(AG.mp q).1;simpa using this
  rw [As hi] at q;cases q;exact ⟨v,by rw [As (by rw [<-h.len];exact hi)],r⟩
 ·rw [A9 hj] at q ⊢
  exact h.at' j d' q
end
abbrev EW:=AI->St->Hp->Prop
abbrev EH:=AI->Hp->Prop
abbrev noE:EW:=λ_ _ _=>False
abbrev noH:EH:=λ_ _=>False
def Bv {α:Type} (K:AA) (E:EH) (ρ:List AI) (H:Hp) (r:Res α) (k:α->Sto->Prop):Prop:=match r with
 | .ok a S=>k a S
 | .err c S=>∀ρ' H',Le K ρ H ρ' H'->B8 K ρ' S H'->E c H'
 | .bad=>False
section
variable {α β:Type} {K:AA} {E:EH} {ρ ρ1:List AI} {H H1:Hp}
theorem Bv.seq {r:Res α} {F:α->Sto->Res β} {k:β->Sto->Prop} {k':α->Sto->Prop} (h:Bv K E ρ H (r.bind F) k) (f:∀a S,Bv K E ρ H (F a S) k->k' a S):Bv K E ρ H r k':=by
 cases r with
 | ok a S=>exact f a S h
 | err c S=>exact h
 | bad=>exact h
theorem Bv.later {r:Res α} {k:α->Sto->Prop} (h:Bv K E ρ H r k) (l:Le K ρ H ρ1 H1):Bv K E ρ1 H1 r k:=by
 cases r with
 | ok a S=>exact h
 | err c S=>exact λρ' H' l'=>h ρ' H' (l.trans l')
 | bad=>exact h
theorem Bv.imp {r:Res α} {k k':α->Sto->Prop} (h:Bv K E ρ H r k) (f:∀a S,k a S->k' a S):Bv K E ρ H r k':=by
 cases r with
 | ok a S=>exact f a S h
 | err c S=>exact h
 | bad=>exact h
theorem Bv.go {r:Res α} {k k':α->Sto->Prop} (h:Bv K E ρ H r k) (l:Le K ρ H ρ1 H1) (f:∀a S,k a S->k' a S):Bv K E ρ1 H1 r k':=(h.later l).imp f
end
def okR {α:Type}:Res α->Res α
 | .ok a S=>.ok a S
 | _=>.bad
theorem Bv.okR {α:Type} {K:AA} {E:EH} {ρ:List AI} {H:Hp} {r:Res α} {k:α->Sto->Prop} (h:Bv K E ρ H (L2.okR r) k):∃a S,r=.ok a S/\k a S:=by
 cases r with
 | ok a S=>exact ⟨a,S,rfl,h⟩
 | err c S=>exact h.elim
 | bad=>exact h.elim
section
variable (K:AA) (E:EW)
def gE (m:ME):TE:=λσ H Q=>∃ρ e S,E4 K ρ H e σ/\B8 K ρ S H/\Bv K (λc=>E c σ) ρ H (m e S) λd S'=>∀ρ' H' x,Le K ρ H ρ' H'->B8 K ρ' S' H'->Bi K ρ' H' d x->Q x H'
def gT (m:MT):TT:=λσ H Q=>∃ρ e S,E4 K ρ H e σ/\B8 K ρ S H/\Bv K (λc=>E c σ) ρ H (m e S) λb S'=>∀ρ' H',Le K ρ H ρ' H'->B8 K ρ' S' H'->Q b H'
def gA (m:ML):TA:=λσ H Q=>∃ρ e S,E4 K ρ H e σ/\B8 K ρ S H/\Bv K (λc=>E c σ) ρ H (m e S) λds S'=>∀ρ' H' xs,Le K ρ H ρ' H'->B8 K ρ' S' H'->At K ρ' H' ds xs->Q xs H'
def gL (m:ML):TE:=λσ H Q=>∃ρ e S,E4 K ρ H e σ/\B8 K ρ S H/\Bv K (λc=>E c σ) ρ H (m e S) λds S'=>∀ρ' H' p xs,Le K ρ H ρ' H'->B8 K ρ' S' H'->At K ρ' H' ds xs->H' p=some (.lst xs)->(∀n:Nat,ρ'[n]?≠some p)->H p=none->Q (.ref p) H'
def gQ (m:ML):TE:=λσ H Q=>∃ρ e S,E4 K ρ H e σ/\B8 K ρ S H/\Bv K (λc=>E c σ) ρ H (m e S) λds S'=>∀ρ' H' p xs,Le K ρ H ρ' H'->B8 K ρ' S' H'->At K ρ' H' ds xs->(SqL K H' p xs∨SqT K H' p xs)->Q (.ref p) H'
def QR (K:AA) (E:EW) (ρ:List AI) (H:Hp) (S':Sto) (D:R4):Fl->Prop
 | .ex c e'=>∀ρ' H' σ',Le K ρ H ρ' H'->B8 K ρ' S' H'->E4 K ρ' H' e' σ'->E c σ' H'
 | .nx e'=>∀ρ' H' σ',Le K ρ H ρ' H'->B8 K ρ' S' H'->E4 K ρ' H' e' σ'->D.nx σ' H'
 | .bk e'=>∀ρ' H' σ',Le K ρ H ρ' H'->B8 K ρ' S' H'->E4 K ρ' H' e' σ'->D.bk σ' H'
 | .ct e'=>∀ρ' H' σ',Le K ρ H ρ' H'->B8 K ρ' S' H'->E4 K ρ' H' e' σ'->D.ct σ' H'
 | .rt d=>∀ρ' H' x,Le K ρ H ρ' H'->B8 K ρ' S' H'->Bi K ρ' H' d x->D.rt x H'
def gS (m:MS):TS:=λD σ H=>∃ρ e S,E4 K ρ H e σ/\B8 K ρ S H/\Bv K noH ρ H (m e S) λfl S'=>QR K E ρ H S' D fl
def gG (m:MG):TG:=λv σ H Q=>∃ρ e S d,Bi K ρ H d v/\E4 K ρ H e σ/\B8 K ρ S H/\Bv K noH ρ H (m d e S) λe' S'=>∀ρ' H' σ',Le K ρ H ρ' H'->B8 K ρ' S' H'->E4 K ρ' H' e' σ'->Q σ' H'
def Lr (ρ0:List AI) (H0:Hp) (J:It) (v:Hk):Prop:=∀ρ H S ds (i:Nat),Le K ρ0 H0 ρ H->B8 K ρ S H->v S=some ds ->
 (ds[i]?=none->J.stop i H)/\∀d,ds[i]?=some d->J.go i H/\∀x H',J.yld i H x H'->∃ρ',Le K ρ H ρ' H'/\B8 K ρ' S H'/\Bi K ρ' H' d x
def gI (m:MI):TI:=λσ H R=>∃ρ e S,E4 K ρ H e σ/\B8 K ρ S H/\Bv K (λc=>E c σ) ρ H (m e S) λv S'=>∀ρ' H' J,Le K ρ H ρ' H'->B8 K ρ' S' H'->Lr K ρ' H' J v->R J H'
end
abbrev GE (X:Cx) (E:EW) (e:Expr) (m:ME):Prop:=PE X e (gE X.K E m)
abbrev GT (X:Cx) (E:EW) (e:Expr) (m:MT):Prop:=PT X e (gT X.K E m)
abbrev GA (X:Cx) (E:EW) (es:List Expr) (m:ML):Prop:=PA X es (gA X.K E m)
abbrev GL (X:Cx) (E:EW) (e:Expr) (m:ML):Prop:=PE X e (gL X.K E m)
abbrev GQ (X:Cx) (E:EW) (e:Expr) (m:ML):Prop:=PE X e (gQ X.K E m)
abbrev GS (X:Cx) (E:EW) (s:Cp) (m:MS):Prop:=PS X s (gS X.K E m)
abbrev GSs (X:Cx) (E:EW) (s:List Cp) (m:MS):Prop:=PSs X s (gS X.K E m)
abbrev GG (X:Cx) (t:Expr) (m:MG):Prop:=PG X t (gG X.K m)
abbrev GI (X:Cx) (E:EW) (tg t:Expr) (m:MI):Prop:=PI X tg t (gI X.K E m)
theorem PE.imp {X:Cx} {e:Expr} {t t':TE} (h:PE X e t) (i:∀σ H Q,t' σ H Q->t σ H Q):PE X e t':=λpins s σ H Q I q=>h pins s σ H Q I (i σ H Q q)
theorem PT.imp {X:Cx} {e:Expr} {t t':TT} (h:PT X e t) (i:∀σ H Q,t' σ H Q->t σ H Q):PT X e t':=λpins s σ H Q I q=>h pins s σ H Q I (i σ H Q q)
theorem PW.imp {X:Cx} {e:Expr} {t t':TT} (h:PW X e t) (i:∀σ H Q,t' σ H Q->t σ H Q):PW X e t':=λwh pins s σ H Q I q=>h wh pins s σ H Q I (i σ H Q q)
theorem PA.imp {X:Cx} {e:List Expr} {t t':TA} (h:PA X e t) (i:∀σ H Q,t' σ H Q->t σ H Q):PA X e t':=λpos pins s σ H Q I q=>h pos pins s σ H Q I (i σ H Q q)
theorem PS.imp {X:Cx} {e:Cp} {t t':TS} (h:PS X e t) (i:∀D σ H,t' D σ H->t D σ H):PS X e t':=λpins s σ H D I q=>h pins s σ H D I (i D σ H q)
theorem PSs.imp {X:Cx} {e:List Cp} {t t':TS} (h:PSs X e t) (i:∀D σ H,t' D σ H->t D σ H):PSs X e t':=λpins s σ H D I q=>h pins s σ H D I (i D σ H q)
theorem PG.imp {X:Cx} {e:Expr} {t t':TG} (h:PG X e t) (i:∀v σ H Q,t' v σ H Q->t v σ H Q):PG X e t':=λpins s σ H v u Q I r q=>h pins s σ H v u Q I r (i v σ H Q q)
theorem PI.imp {X:Cx} {tg e:Expr} {t t':TI} (h:PI X tg e t) (i:∀σ H R,t' σ H R->t σ H R):PI X tg e t':=λpins s σ H R I q=>h pins s σ H R I (i σ H R q)
theorem OpR.imp {X:Cx} {f:AD->AD->Sem AD} {r r':R2} (h:OpR X f r) (i:∀x y H Q,r' x y H Q->r x y H Q):OpR X f r':=λpins s σ H x y v u Q I rx ry q=>h pins s σ H x y v u Q I rx ry (i x y H Q q)
theorem IxR.imp {X:Cx} {r r':R2} (h:IxR X r) (i:∀x y H Q,r' x y H Q->r x y H Q):IxR X r':=λva sl pins s σ H x y v u Q I rx ry q=>h va sl pins s σ H x y v u Q I rx ry (i x y H Q q)
def AC (i:Nat):ME:=λe S=>match e[i]? with
 | some (some d)=>.ok d S
 | _=>.bad
def mC (d:D):ME:=λ_ S=>.ok d S
section
variable {X:Cx} {E:EW} {e a b:Expr} {pos:Pos} {ma mb:ME}
theorem AH {i:Nat} (h:PE X e (bf i)):GE X E e (AC i):=h.imp λσ H Q ⟨ρ,l,S,hl,hs,hm⟩=>by
 unfold AC at hm;split at hm
 ·rename_i d' hd
  obtain ⟨v,h1,h2⟩:=hl.at' i _ hd;exact ⟨v,h1,hm ρ H v .refl hs h2⟩
 ·exact hm.elim
theorem YC {v:V} {d:D} (h:PE X e (tC v)) (hd:∀ρ H,Bi X.K ρ H d v):GE X E e (mC d):=h.imp λσ H Q ⟨ρ,l,S,hl,hs,hm⟩=>by
 exact hm ρ H v .refl hs (hd _ _)
theorem ge_int {i j pos}:GE X E (.Constant (.int i) j pos) (mC (.int i)):=YC cO λ_ _=>.int i
theorem JL {b j pos}:GE X E (.Constant (.bool b) j pos) (mC (.bl b)):=YC ff λ_ _=>.bl b
theorem JK {j pos}:GE X E (.Constant .none j pos) (mC .non):=YC cM λ_ _=>.non
theorem JJ {x j pos}:GE X E (.Constant (.str x) j pos) (mC (.str x)):=YC cK λ_ _=>.str x
theorem Ky {x:Str} {i:Int} {tk:Tok} {pos:Pos} (hg:Gl X x) (hm:X.mg x=some (.int i tk)) (hd:(x==("__debug__" : Str))=false:=by decide):GE X E (.Name x pos) (mC (.int i)):=
 YC (HU (v:=.int i) hg hm ⟨tk,rfl⟩ hd) λ_ _=>.int i
def m2 (f:D->D->Sto->Res D) (ma mb:ME):ME:=λe S=>(ma e S).bind λx S1=>(mb e S1).bind λy S2=>okR (f x y S2)
def rD (K:AA) (f:D->D->Sto->Res D):R2:=λu v H Q=>∃ρ S x y d S',B8 K ρ S H/\Bi K ρ H x u/\Bi K ρ H y v/\f x y S=.ok d S' /\
 ∀ρ' H' z,Le K ρ H ρ' H'->B8 K ρ' S' H'->Bi K ρ' H' d z->Q z H'
theorem Jz {K:AA} {f:D->D->Sto->Res D} {σ:St} {H:Hp} {Q:VK} (h:gE K E (m2 f ma mb) σ H Q):tOp (rD K f) (gE K E ma) (gE K E mb) σ H Q:=by
 obtain ⟨ρ,l,S,hl,hs,hm⟩:=h;refine ⟨ρ,l,S,hl,hs,hm.seq λx S1 hm ρ1 H1 u l1 s1 r1=>⟨ρ1,l,S1,hl.mono l1,s1,(hm.later l1).seq λy S2 hm ρ2 H2 v l2 s2 r2=>?_⟩⟩;obtain ⟨d,S',e,k⟩:=hm.okR;exact ⟨ρ2,S2,x,y,d,S',s2,r1.mono l2,r2,e,λρ' H' z l' s' r'=>k ρ' H' z (l1.trans (l2.trans l')) s' r'⟩
theorem Bb {op:Operator} {f:D->D->Sto->Res D} (ho:OpR X (DX op) (rD X.K f)) (ha:GE X E a ma) (hb:GE X E b mb):GE X E (.BinOp a op b pos) (m2 f ma mb):=(fZ ho ha hb).imp λ_ _ _ h=>Jz h
theorem QQ {op:Qu} {f:D->D->Sto->Res D} (ho:OpR X (Bd op) (rD X.K f)) (ha:GE X E a ma) (hb:GE X E b mb) (hm:CI op b=false):GE X E (.Compare a [op] [b] pos) (m2 f ma mb):=(Za ho ha hb hm).imp λ_ _ _ h=>Jz h
theorem gd {f:D->D->Sto->Res D} (ho:IxR X (rD X.K f)) (ha:GE X E a ma) (hb:GE X E b mb) (hs:Qk b:=by intro _ _;rfl):GE X E (.Subscript a b pos) (m2 f ma mb):=(fb ho ha hb hs).imp λ_ _ _ h=>Jz h
def mB (m:ME):MT:=λe S=>(m e S).bind λd S1=>match d with
 | .bl b=>.ok b S1
 | _=>.bad
def UF (d:D) (S:Sto):Option Bool:=match d with
 | .non=>some false
 | .bl b=>some b
 | .int i=>some (i != 0)
 | .tup ds=>some (!ds.isEmpty)
 | .fro ds=>some (!ds.isEmpty)
 | .ref n=>match S[n]? with
  | some (.lst ds)=>some (!ds.isEmpty)
  | some (.dK kvs)=>some (!kvs.isEmpty)
  | _=>none
 | _=>none
def Ra (m:ME):MT:=λe S=>(m e S).bind λd S1=>match UF d S1 with
 | some b=>.ok b S1
 | none=>.bad
theorem At.empty {K:AA} {ρ:List AI} {H:Hp} {ds:List D} {vs:List V} (h:At K ρ H ds vs):ds.isEmpty=vs.isEmpty:=by cases h <;> rfl
theorem KVR.empty {κ:Type} {K:AA} {ρ:List AI} {H:Hp} {x:List (κ×D)} {y:List (κ×V)} (h:KVR K ρ H x y):x.isEmpty=y.isEmpty:=by cases h <;> rfl
theorem Y1 {K:AA} {ρ:List AI} {H:Hp} {S:Sto} {d:D} {x:V} {b:Bool} (hs:B8 K ρ S H) (r:Bi K ρ H d x) (h:UF d S=some b):d7 K x H b:=by
 cases r with
 | non=>cases h;rfl
 | bl c=>cases h;rfl
 | int i=>cases h;rfl
 | str x=>cases h
 | tup h1 h2=>cases h;rw [h2.empty];exact .inr (.inl ⟨_,.inl (.inl h1),rfl⟩)
 | fro h1 h2=>cases h;rw [h2.empty];exact .inl ⟨_,h1.sq,rfl⟩
 | exc _ _=>cases h
 | @ref n a hn=>
  obtain ⟨o,ho,ro⟩:=hs.there hn;unfold UF at h;simp only [ho] at h
  cases o with
  | lst ds=>cases h;obtain ⟨vs,e,rr⟩:=ro;rw [rr.empty];exact .inl ⟨_,.inl (.inl e),rfl⟩
  | dK kvs=>cases h;obtain ⟨vs,e,rr⟩:=ro;rw [KVR.empty rr];exact .inr (.inr ⟨_,e,rfl⟩)
  | dT kvs=>cases h
  | ins C fs=>cases h
theorem dL (h:GE X E e ma) (he:∀whole,SI e X.env whole=(do let v <-whole;eJ e.pos;eM [v] (bI v)):=by intro _;rfl):GT X E e (mB ma):=(cA h he).imp λσ H Q ⟨ρ,l,S,hl,hs,hm⟩=>by
 refine ⟨ρ,l,S,hl,hs,hm.seq λd S1 hm ρ1 H1 x l1 s1 r1=>?_⟩
 cases d <;> first | exact hm.elim | skip
 cases r1;exact ⟨_,rfl,hm ρ1 H1 l1 s1⟩
theorem Ro (h:GE X E e ma) (he:∀whole,SI e X.env whole=(do let v <-whole;eJ e.pos;eM [v] (bI v)):=by intro _;rfl):GT X E e (Ra ma):=(W7 h he).imp λσ H Q ⟨ρ,l,S,hl,hs,hm⟩=>by
 refine ⟨ρ,l,S,hl,hs,hm.seq λd S1 hm ρ1 H1 x l1 s1 r1=>?_⟩
 cases hb:UF d S1 with
 | none=>rw [hb] at hm;exact hm.elim
 | some c=>
  rw [hb] at hm;exact ⟨c,Y1 s1 r1 hb,hm ρ1 H1 l1 s1⟩
theorem DQ {op:Qu} {f:D->D->Sto->Res D} (ho:OpR X (Bd op) (rD X.K f)) (ha:GE X E a ma) (hb:GE X E b mb) (hm:CI op b=false):GT X E (.Compare a [op] [b] pos) (mB (m2 f ma mb)):=(ZJ ho ha hb hm).imp λσ H Q ⟨ρ,l,S,hl,hs,hm⟩=>by
 refine Jz (Q:=λx H'=>∃k,x=.bl k/\Q k H') ⟨ρ,l,S,hl,hs,hm.seq λd S1 hm ρ1 H1 x l1 s1 r1=>?_⟩
 cases d <;> first | exact hm.elim | skip
 cases r1;exact ⟨_,rfl,hm ρ1 H1 l1 s1⟩
def Nk (m:MT):MT:=λe S=>(m e S).bind λb S1=>.ok (!b) S1
def Rc (ma mb:MT):MT:=λe S=>(ma e S).bind λb S1=>if b=true then mb e S1 else .ok false S1
def mOr (ma mb:MT):MT:=λe S=>(ma e S).bind λb S1=>if b=true then .ok true S1 else mb e S1
variable {ta tb:MT} {rest:List Expr}
theorem QN (h:GT X E a ta):GT X E (.UnaryOp .Not a pos) (Nk ta):=(cB h).imp λσ H Q ⟨ρ,l,S,hl,hs,hm⟩=>by
 exact ⟨ρ,l,S,hl,hs,hm.seq λd S1 hm ρ1 H1 l1 s1=>hm ρ1 H1 l1 s1⟩
theorem Y3 {K:AA} {σ:St} {H:Hp} {Q:Bool->Hp->Prop} (h:gT K E (Rc ta tb) σ H Q):fM (gT K E ta) (gT K E tb) σ H Q:=by
 obtain ⟨ρ,l,S,hl,hs,hm⟩:=h;refine ⟨ρ,l,S,hl,hs,hm.seq λc S1 hm ρ1 H1 l1 s1=>?_⟩
 cases c with
 | true=>rw [if_pos rfl] at hm ⊢;exact ⟨ρ1,l,S1,hl.mono l1,s1,hm.go l1 λ_ _ k ρ2 H2 l2 s2=>k ρ2 H2 (l1.trans l2) s2⟩
 | false=>rw [if_neg AR] at hm ⊢;exact hm ρ1 H1 l1 s1
theorem bg {K:AA} {σ:St} {H:Hp} {Q:Bool->Hp->Prop} (h:gT K E (mOr ta tb) σ H Q):tOr (gT K E ta) (gT K E tb) σ H Q:=by
 obtain ⟨ρ,l,S,hl,hs,hm⟩:=h;refine ⟨ρ,l,S,hl,hs,hm.seq λc S1 hm ρ1 H1 l1 s1=>?_⟩
 cases c with
 | false=>rw [if_neg AR] at hm ⊢;exact ⟨ρ1,l,S1,hl.mono l1,s1,hm.go l1 λ_ _ k ρ2 H2 l2 s2=>k ρ2 H2 (l1.trans l2) s2⟩
 | true=>rw [if_pos rfl] at hm ⊢;exact hm ρ1 H1 l1 s1
abbrev GW (X:Cx) (E:EW) (e:Expr) (m:MT):Prop:=PW X e (gT X.K E m)
theorem Z0 (ha:GT X E a ta):GW X E (.BoolOp .And [a] pos) ta:=ZG ha
theorem dI (ha:GT X E a ta):GW X E (.BoolOp .Or [a] pos) ta:=bw ha
theorem dJ (ha:GT X E a ta) (hb:GW X E (.BoolOp .And (b :: rest) pos) tb):GW X E (.BoolOp .And (a :: b :: rest) pos) (Rc ta tb):=(bx ha hb).imp λ_ _ _ h=>Y3 h
theorem gb (ha:GT X E a ta) (hb:GW X E (.BoolOp .Or (b :: rest) pos) tb):GW X E (.BoolOp .Or (a :: b :: rest) pos) (mOr ta tb):=(fW ha hb).imp λ_ _ _ h=>bg h
theorem gc {t:MT} (h:GW X E e t):GT X E e t:=PW.pt h
def UG (ma mb:ME):ME:=λe S=>(ma e S).bind λd S1=>match d with
 | .bl true=>mb e S1
 | .bl false=>.ok (.bl false) S1
 | _=>.bad
theorem dW {op} (h:GE X E a ma):GE X E (.BoolOp op [a] pos) ma:=cL h
theorem da (ha:GE X E a ma) (hb:GE X E (.BoolOp .And (b :: rest) pos) mb):GE X E (.BoolOp .And (a :: b :: rest) pos) (UG ma mb):=(cS ha hb).imp λσ H Q ⟨ρ,l,S,hl,hs,hm⟩=>by
 refine ⟨ρ,l,S,hl,hs,hm.seq λc S1 hm ρ1 H1 x l1 s1 r1=>?_⟩
 cases c with
 | bl c=>
  cases r1;refine ⟨c,rfl,?_⟩
  cases c with
  | true=>rw [if_pos rfl];exact ⟨ρ1,l,S1,hl.mono l1,s1,hm.go l1 λ_ _ k ρ2 H2 z l2 s2 r2=>k ρ2 H2 z (l1.trans l2) s2 r2⟩
  | false=>rw [if_neg AR];exact hm ρ1 H1 _ l1 s1 (.bl false)
 | _=>exact hm.elim
def Va (t:MT) (ma mb:ME):ME:=λe S=>(t e S).bind λb S1=>if b=true then ma e S1 else mb e S1
theorem X8 {c:Expr} (hc:GT X E c ta) (ha:GE X E a ma) (hb:GE X E b mb):GE X E (.IfExp c a b pos) (Va ta ma mb):=(XJ hc ha hb).imp λσ H Q ⟨ρ,l,S,hl,hs,hm⟩=>by
 refine ⟨ρ,l,S,hl,hs,hm.seq λc S1 hm ρ1 H1 l1 s1=>?_⟩
 cases c with
 | true=>rw [if_pos rfl] at hm ⊢;exact ⟨ρ1,l,S1,hl.mono l1,s1,hm.go l1 λ_ _ k ρ2 H2 z l2 s2 r2=>k ρ2 H2 z (l1.trans l2) s2 r2⟩
 | false=>rw [if_neg AR] at hm ⊢;exact ⟨ρ1,l,S1,hl.mono l1,s1,hm.go l1 λ_ _ k ρ2 H2 z l2 s2 r2=>k ρ2 H2 z (l1.trans l2) s2 r2⟩
def m3 (f g:D->D->Sto->Res D) (ma mb mc:ME):ME:=λe S=>(ma e S).bind λx S1=>(mb e S1).bind λy S2=>(okR (f x y S2)).bind λz S3=>match z with
 | .bl true=>(mc e S3).bind λw S4=>okR (g y w S4)
 | .bl false=>.ok (.bl false) S3
 | _=>.bad
def AY:ML:=λ_ S=>.ok [] S
def AE (m:ME) (r:ML):ML:=λe S=>(m e S).bind λd S1=>(r e S1).bind λds S2=>.ok (d :: ds) S2
variable {es:List Expr} {ml:ML}
theorem Ap:GA X E [] AY:=He.imp λσ H Q ⟨ρ,l,S,hl,hs,hm⟩=>by
 exact hm ρ H [] .refl hs .nil
theorem AN (ha:GE X E e ma) (hr:GA X E es ml) (hs:AX (e :: es) X.env=(false,B0 e X.env) :: AX es X.env:=by rfl):GA X E (e :: es) (AE ma ml):=(FI ha hr hs).imp λσ H Q ⟨ρ,l,S,hl,hs,hm⟩=>by
 exact ⟨ρ,l,S,hl,hs,hm.seq λd S1 hm ρ1 H1 x l1 s1 r1=>⟨ρ1,l,S1,hl.mono l1,s1,(hm.later l1).seq λds' S2 hm ρ2 H2 xs l2 s2 r2=>hm ρ2 H2 (x :: xs) (l1.trans l2) s2 (.cons (r1.mono l2) r2)⟩⟩
def EC (m:ML):ME:=λe S=>(m e S).bind λds S1=>if ds.length<=sizeLine then .ok (.tup ds) S1 else .bad
theorem Fc {K:AA} {ρ:List AI} {H:Hp} {S:Sto} {p:AI} {ho:HO} (hs:B8 K ρ S H) (hp:H p=none):B8 K ρ S (upd H p ho)/\Le K ρ H ρ (upd H p ho):=by
 have le:Le K ρ H ρ (upd H p ho):=Le.fresh hp;refine ⟨⟨hs.len,hs.nd,λn o a h1 h2=>(hs.ob n o a h1 h2).mono le (BR λz=>?_)⟩,le⟩;subst z;exact hs.notIn hp h2
theorem Gh {x1} (h:GA X E es ml):GE X E (.Tuple es x1 pos) (EC ml):=(XH h).imp λσ H Q ⟨ρ,l,S,hl,hs,hm⟩=>by
 refine ⟨ρ,l,S,hl,hs,hm.seq λds S1 hm ρ1 H1 xs l1 s1 r1=>?_⟩;split at hm
 ·rename_i hz
  refine ⟨by rw [<-r1.length];exact hz,λp hp=>?_⟩;obtain ⟨s2,l2⟩:=Fc (ho:=.tup xs) s1 hp;exact hm ρ1 _ _ (l1.trans l2) s2 (.tup Be (r1.mono l2))
 ·exact hm.elim
def BX (m:ML):ML:=λe S=>(m e S).bind λds S1=>if ds.length<=sizeLine then .ok ds S1 else .bad
theorem Es (h:GA X E es ml):GL X E (.List es pos) (BX ml):=(cN h).imp λσ H Q ⟨ρ,l,S,hl,hs,hm⟩=>by
 refine ⟨ρ,l,S,hl,hs,hm.seq λds S1 hm ρ1 H1 xs l1 s1 r1=>?_⟩;split at hm
 ·rename_i hz
  refine ⟨by rw [<-r1.length];exact hz,λp hp=>?_⟩;obtain ⟨s2,l2⟩:=Fc (ho:=.lst xs) s1 hp;exact hm ρ1 _ p xs (l1.trans l2) s2 (r1.mono l2) Be (λn q=>s1.notIn hp q) (l1.back hs s1 hp)
 ·exact hm.elim
def Ce (m:ML):ME:=λe S=>(m e S).bind λds S1=>.ok (.ref S1.length) (S1++[.lst ds])
theorem DR (h:GL X E e ml):GE X E e (Ce ml):=PE.imp h λσ H Q ⟨ρ,l,S,hl,hs,hm⟩=>by
 refine ⟨ρ,l,S,hl,hs,hm.seq λds S1 hm ρ1 H1 p xs l1 s1 r1 hp hn hp0=>?_⟩
 have l0:∀(n:Nat) a,ρ1[n]?=some a->(ρ1++[p])[n]?=some a:=λn a h=>by rw [Ag (AG.mp h).1];exact h
 obtain ⟨s2,at2⟩:=s1.adopt (o:=.lst ds) hn ⟨xs,hp,r1.more l0⟩;refine hm _ _ _ ⟨λn a h=>l0 n a (l1.pre n a h),l1.tup,l1.frz,λa o e h=>⟨(l1.oth a o e h).1,λn q=>?_⟩⟩ s2 (.ref at2)
 rcases G6 q with ⟨q,_⟩ | ⟨_,q⟩
 ·exact (l1.oth a o e h).2 n q
 ·exact Bh e hp0 q
def HL (d:D) (S:Sto):Option (List D):=match d with
 | .tup ds=>some ds
 | .fro ds=>some ds
 | .ref n=>match S[n]? with
  | some (.lst ds)=>some ds
  | _=>none
 | _=>none
def Rb (m:ME):ML:=λe S=>(m e S).bind λd S1=>match HL d S1 with
 | some ds=>.ok ds S1
 | none=>.bad
theorem Mx {K:AA} {ρ:List AI} {H:Hp} {S:Sto} {d:D} {x:V} {ds:List D} (hs:B8 K ρ S H) (r:Bi K ρ H d x) (h:HL d S=some ds):∃p xs,x=.ref p/\At K ρ H ds xs/\(SqL K H p xs∨SqT K H p xs):=by
 cases r with
 | tup h1 h2=>cases h;exact ⟨_,_,rfl,h2,.inr (.inl (.inl h1))⟩
 | fro h1 h2=>cases h;exact ⟨_,_,rfl,h2,.inl h1.sq⟩
 | @ref n a hn=>
  obtain ⟨o,ho,ro⟩:=hs.there hn;unfold HL at h;simp only [ho] at h
  cases o with
  | lst es=>cases h;obtain ⟨vs,e,rr⟩:=ro;exact ⟨_,_,rfl,rr,.inl (.inl (.inl e))⟩
  | _=>cases h
 | _=>cases h
theorem ax (h:GE X E e ma):GQ X E e (Rb ma):=PE.imp h λσ H Q ⟨ρ,l,S,hl,hs,hm⟩=>by
 refine ⟨ρ,l,S,hl,hs,hm.seq λx S1 hm ρ1 H1 v l1 s1 r1=>?_⟩
 cases hq:HL x S1 with
 | none=>rw [hq] at hm;exact hm.elim
 | some ds=>
  rw [hq] at hm;obtain ⟨p,xs,rfl,r2,sq⟩:=Mx s1 r1 hq;exact hm ρ1 H1 p xs l1 s1 r2 sq
end
def Res.lift {α:Type} (r:Res α) (e:Lo) (f:α->Sto->Res Fl):Res Fl:=match r with
 | .ok a S=>f a S
 | .err c S=>.ok (.ex c e) S
 | .bad=>.bad
theorem Bv.lift {α:Type} {K:AA} {E:EW} {ρ ρ1:List AI} {H H1:Hp} {σ:St} {e:Lo} {D:R4} {r:Res α} {F:α->Sto->Res Fl} {k':α->Sto->Prop} (h:Bv K noH ρ1 H1 (r.lift e F) λfl S'=>QR K E ρ H S' D fl) (hl:E4 K ρ1 H1 e σ) (l:Le K ρ H ρ1 H1)
  (f:∀a S,(Bv K noH ρ1 H1 (F a S) λfl S'=>QR K E ρ H S' D fl)->k' a S):Bv K (λc=>E c σ) ρ1 H1 r k':=by
 cases r with
 | ok a S=>exact f a S h
 | err c S=>exact λρ' H' l' s'=>h ρ' H' σ (l.trans l') s' (hl.mono l')
 | bad=>exact h
def sNx:MS:=λe S=>.ok (.nx e) S
def BK (a b:MS):MS:=λe S=>(a e S).bind λf S1=>match f with
 | .nx e1=>b e1 S1
 | f=>.ok f S1
def B7 (m:ME):MS:=λe S=>(m e S).lift e λ_ S1=>.ok (.nx e) S1
def Cw (m:ME):MS:=λe S=>(m e S).lift e λd S1=>.ok (.rt d) S1
def sIf (t:MT) (a b:MS):MS:=λe S=>(t e S).lift e λc S1=>if c=true then a e S1 else b e S1
def VF (m:ME) (g:MG):MS:=λe S=>(m e S).lift e λd S1=>(g d e S1).bind λe1 S2=>.ok (.nx e1) S2
def tgN (i:Nat):MG:=λd e S=>.ok (e.set i (some d)) S
def Bp (i:Nat) (m:ME):MS:=VF m (tgN i)
section
variable {X:Cx} {E:EW} {st:Cp} {rest:List Cp} {e:Expr} {pos:Pos} {a b:MS} {m:ME} {t:MT}
theorem QR.later {K:AA} {ρ ρ1:List AI} {H H1:Hp} {S:Sto} {D:R4} {f:Fl} (l:Le K ρ H ρ1 H1) (h:QR K E ρ H S D f):QR K E ρ1 H1 S D f:=by
 cases f with
 | nx e=>exact λρ' H' σ' l'=>h ρ' H' σ' (l.trans l')
 | bk e=>exact λρ' H' σ' l'=>h ρ' H' σ' (l.trans l')
 | ct e=>exact λρ' H' σ' l'=>h ρ' H' σ' (l.trans l')
 | ex c e=>exact λρ' H' σ' l'=>h ρ' H' σ' (l.trans l')
 | rt d=>exact λρ' H' x l'=>h ρ' H' x (l.trans l')
theorem CT:GSs X E [] sNx:=ZL.imp λD σ H ⟨ρ,l,S,hl,hs,hm⟩=>by
 exact hm ρ H σ .refl hs hl
theorem Ae (h1:GS X E st a) (h2:GSs X E rest b):GSs X E (st :: rest) (BK a b):=(XA h1 h2).imp λD σ H ⟨ρ,l,S,hl,hs,hm⟩=>by
 refine ⟨ρ,l,S,hl,hs,hm.seq λg S1 hm=>?_⟩
 cases g with
 | nx e'=>exact λρ1 H1 σ1 l1 s1 r1=>⟨ρ1,e',S1,r1,s1,hm.go l1 λ_ _ k=>k.later l1⟩
 | rt d=>exact hm
 | bk d=>exact hm
 | ct d=>exact hm
 | ex c d=>exact hm
theorem Ak (h1:GS X E st a):GSs X E [st] a:=ZK h1
theorem C6 (he:GE X E e m) (hs:FV e none pos.line X.env=pure false:=by rfl):GS X E (.Expr e pos) (B7 m):=(ZM he hs).imp λD σ H ⟨ρ,l,S,hl,hs,hm⟩=>by
 exact ⟨ρ,l,S,hl,hs,hm.lift hl .refl λd S1 hm ρ1 H1 x l1 s1 r1=>hm ρ1 H1 σ l1 s1 (hl.mono l1)⟩
theorem CC (he:GE X E e m):GS X E (.Return (some e) pos) (Cw m):=(cD he).imp λD σ H ⟨ρ,l,S,hl,hs,hm⟩=>by
 exact ⟨ρ,l,S,hl,hs,hm.lift hl .refl λd S1 hm ρ1 H1 x l1 s1 r1=>hm ρ1 H1 x l1 s1 r1⟩
theorem Dz {c:Expr} {sa sb:List Cp} (hc:GT X E c t) (ha:GSs X E sa a) (hb:GSs X E sb b):GS X E (.If c sa sb pos) (sIf t a b):=(fX hc ha hb).imp λD σ H ⟨ρ,l,S,hl,hs,hm⟩=>by
 refine ⟨ρ,l,S,hl,hs,hm.lift hl .refl λc S1 hm ρ1 H1 l1 s1=>?_⟩
 cases c with
 | true=>rw [if_pos rfl] at hm ⊢;exact ⟨ρ1,l,S1,hl.mono l1,s1,hm.go l1 λ_ _ k=>k.later l1⟩
 | false=>rw [if_neg AR] at hm ⊢;exact ⟨ρ1,l,S1,hl.mono l1,s1,hm.go l1 λ_ _ k=>k.later l1⟩
theorem Z1 {i:Nat} {tg:Expr} (h:PG X tg (UY i)):GG X tg (tgN i):=h.imp λv σ H Q ⟨ρ,l,S,d,hd,hl,hs,hm⟩=>by
 exact hm ρ H _ .refl hs (hl.set hd i)
theorem dP {tg:Expr} {g:MG} (he:GE X E e m) (hg:GG X tg g) (hs:swapsWithSole [tg] e pos.line X.env=pure false:=by rfl) (hw:swappedStores [tg] e X.env=pure none:=by rfl)
  (h1:(Ek [tg] X.env).map (·.2)=[M6 tg X.env]:=by rfl):GS X E (.Assign [tg] e pos) (VF m g):=(cG he hg hs hw h1).imp λD σ H ⟨ρ,l,S,hl,hs,hm⟩=>by
 exact ⟨ρ,l,S,hl,hs,hm.lift hl .refl λd S1 hm ρ1 H1 x l1 s1 r1=>⟨ρ1,l,S1,d,r1,hl.mono l1,s1,(hm.later l1).seq λe1 S2 hm ρ2 H2 σ2 l2 s2 r2=>hm ρ2 H2 σ2 (l1.trans l2) s2 r2⟩⟩
theorem dO {i:Nat} {x:Str} {pos':Pos} (hN:X.N.Nodup) (hi:X.N[i]?=some x) (hx:Loc X.env.scope x) (he:GE X E e m) (hs:FV e (some (.Name x pos')) pos.line X.env=pure false:=by rfl)
  (hf:X.fn x=true∨X.env.scope.names.lookup x=some .local:=by first | exact .inl rfl | exact .inr rfl | assumption):GS X E (.Assign [.Name x pos'] e pos) (Bp i m):=(cC hN hi hx he hs hf).imp λD σ H ⟨ρ,l,S,hl,hs,hm⟩=>by
 exact ⟨ρ,l,S,hl,hs,hm.lift hl .refl λd S1 hm ρ1 H1 x l1 s1 r1=>hm ρ1 H1 _ l1 s1 ((hl.mono l1).set r1 i)⟩
def Iv (v:Hk) (g:MG) (b:MS):Nat->Nat->Lo->Sto->Res Fl
 | k,i,e,S=>match v S with
  | none=>.bad
  | some ds=>match ds[i]? with
   | none=>.ok (.nx e) S
   | some d=>match k with
    | 0=>.bad
    | k+1=>(g d e S).bind λe1 S1=>(b e1 S1).bind λf S2=>match f with
     | .nx e2=>Iv v g b k (i+1) e2 S2
     | .ct e2=>Iv v g b k (i+1) e2 S2
     | .bk e2=>.ok (.nx e2) S2
     | .rt d=>.ok (.rt d) S2
     | .ex c e2=>.ok (.ex c e2) S2
def CY (v:Hk) (S:Sto):Nat:=match v S with
 | none=>0
 | some ds=>ds.length
def Dg (m:MI) (g:MG) (b:MS):MS:=λe S=>(m e S).lift e λv S1=>Iv v g b (CY v S1) 0 e S1
theorem C8 {tg iter:Expr} {body:List Cp} {mi:MI} {g:MG} (hp:WJ (AW X.prog X.w) X.A X.env X.xe) (hc:X.calm=true) (hi:GI X E tg iter mi) (hg:GG X tg g) (hb:GSs X E body b)
  (hs:∀x,FC iter X.env x=pure x:=by intro _;rfl):GS X E (.For tg iter body [] pos) (Dg mi g b):=(cE hp hc hi hg hb hs).imp λD σ H ⟨ρ,l,S,hl,hs,hm⟩=>by
 refine ⟨ρ,l,S,hl,hs,hm.lift hl .refl λv S1 hm ρ1 H1 J l1 s1 vo=>?_⟩;refine ⟨λi n σ2 H2=>∃ρ2 e2 S2,Le X.K ρ1 H1 ρ2 H2/\E4 X.K ρ2 H2 e2 σ2/\B8 X.K ρ2 S2 H2/\Bv X.K noH ρ2 H2 (Iv v g b n i e2 S2) λfl S'=>QR X.K E ρ H S' D fl,⟨CY v S1,ρ1,l,S1,.refl,hl.mono l1,s1,hm.later l1⟩,?_⟩;rintro i n σ2 H2 ⟨ρ2,e2,S2,l2,r2,s2,hm2⟩;unfold Iv at hm2
 cases hv:v S2 with
 | none=>rw [hv] at hm2;exact hm2.elim
 | some ds=>
  rw [hv] at hm2;dsimp only at hm2;obtain ⟨v1,v2⟩:=vo ρ2 H2 S2 ds i l2 s2 hv
  cases hd:ds[i]? with
  | none=>
   rw [hd] at hm2;exact .inl ⟨v1 hd,hm2 ρ2 H2 σ2 (l1.trans l2) s2 r2⟩
  | some d=>
   rw [hd] at hm2;dsimp only at hm2;obtain ⟨go,yl⟩:=v2 d hd
   cases n with
   | zero=>exact hm2.elim
   | succ n=>
    dsimp only at hm2;refine .inr ⟨go,λσ' H'=>∃ρ2 e2 S2,Le X.K ρ1 H1 ρ2 H'/\E4 X.K ρ2 H' e2 σ'/\B8 X.K ρ2 S2 H'/\Bv X.K noH ρ2 H' (Iv v g b n (i+1) e2 S2) λfl S'=>QR X.K E ρ H S' D fl,λσ' H' q=>⟨n,FE n,q⟩,λx H' y=>?_⟩;obtain ⟨ρ3,l3,s3,rd⟩:=yl x H' y;refine ⟨ρ3,e2,S2,d,rd,r2.mono l3,s3,(hm2.later l3).seq λe3 S3 hm2 ρ4 H4 σ4 l4 s4 r4=>?_⟩;refine ⟨ρ4,e3,S3,r4,s4,(hm2.later l4).seq λf4 S4 hm2=>?_⟩
    cases f4 with
    | nx e5=>exact λρ5 H5 σ5 l5 s5 r5=>⟨ρ5,e5,S4,l2.trans (l3.trans (l4.trans l5)),r5,s5,hm2.later l5⟩
    | ct e5=>exact λρ5 H5 σ5 l5 s5 r5=>⟨ρ5,e5,S4,l2.trans (l3.trans (l4.trans l5)),r5,s5,hm2.later l5⟩
    | bk e5=>exact λρ5 H5 σ5 l5 s5 r5=>hm2 ρ5 H5 σ5 (l1.trans (l2.trans (l3.trans (l4.trans l5)))) s5 r5
    | ex c e5=>exact λρ5 H5 σ5 l5 s5 r5=>hm2 ρ5 H5 σ5 (l1.trans (l2.trans (l3.trans (l4.trans l5)))) s5 r5
    | rt d5=>exact λρ5 H5 x5 l5 s5 r5=>hm2 ρ5 H5 x5 (l1.trans (l2.trans (l3.trans (l4.trans l5)))) s5 r5
end
end L2
namespace L2
open PySem PySem.Spec PyProof.Rows
section
variable {X:Cx} {E:EW} {tg e:Expr} {m:ME} {ml:ML} {K:AA}
def L9 (d:D):Hk:=λS=>match d with
 | .ref n=>match S[n]? with
  | some (.lst ds)=>some ds
  | _=>none
 | .fro ds=>some ds
 | _=>none
def Bt (ds:List D):Hk:=λ_=>some ds
def gX (m:ME):MI:=λe S=>(m e S).bind λd S1=>match L9 d S1 with
 | some _=>.ok (L9 d) S1
 | none=>.bad
def au (m:ME):MI:=λe S=>(m e S).bind λd S1=>match d with
 | .tup ds=>.ok (Bt ds) S1
 | _=>.bad
theorem NM {ρ:List AI} {H:Hp} {S:Sto} {a:AI} {d:D} {ds:List D} (s:B8 K ρ S H) (r:Bi K ρ H d (.ref a)) (hv:L9 d S=some ds):∃xs,SqL K H a xs/\At K ρ H ds xs:=by
 cases r with
 | tup h1 h2=>cases hv
 | exc _ _=>cases hv
 | fro h1 h2=>cases hv;exact ⟨_,h1.sq,h2⟩
 | @ref n _ hn=>
  obtain ⟨o,ho,ro⟩:=s.there hn;unfold L9 at hv;simp only [ho] at hv
  cases o with
  | lst es=>
   cases hv;obtain ⟨vs,e,rr⟩:=ro;exact ⟨vs,.inl (.inl e),rr⟩
  | _=>cases hv
theorem NL {ρ:List AI} {H:Hp} {a:AI} {d:D} (r:Bi K ρ H d (.ref a)):Lr K ρ H (Itl K a) (L9 d):=by
 intro ρ2 H2 S ds i l s hv;obtain ⟨xs,sq,rr⟩:=NM s (r.mono l) hv;refine ⟨λhn=>⟨xs,sq,by rw [<-rr.length];exact CJ.mp hn⟩,λd hd=>?_⟩;obtain ⟨x,hx,rx⟩:=rr.get hd;refine ⟨⟨xs,x,sq,hx⟩,λy H' ⟨e,hy⟩=>?_⟩;subst e;have:=hy xs sq;rw [hx] at this;cases this;exact ⟨ρ2,.refl,s,rx⟩
theorem dR (h:GE X E e m):GI X E tg e (gX m):=(ZS h).imp λσ H R ⟨ρ,l,S,hl,hs,hm⟩=>by
 refine ⟨ρ,l,S,hl,hs,hm.seq λd S1 hm ρ1 H1 x l1 s1 r1=>?_⟩
 cases hv:L9 d S1 with
 | none=>rw [hv] at hm;exact hm.elim
 | some ds=>
  rw [hv] at hm
  have:∃a,x=.ref a:=by
   cases r1 <;> first | exact ⟨_,rfl⟩ | (cases hv;done)
  obtain ⟨a,rfl⟩:=this;obtain ⟨xs,sq,_⟩:=NM s1 r1 hv;exact ⟨a,rfl,⟨xs,sq⟩,hm ρ1 H1 _ l1 s1 (NL r1)⟩
theorem NJ {ρ:List AI} {H:Hp} {a:AI} {ds:List D} {xs:List V} (h1:H a=some (.tup xs)) (h2:At K ρ H ds xs):Lr K ρ H (Itt K a) (Bt ds):=by
 intro ρ2 H2 S ds' i l s hv;cases hv;have rr:=h2.mono l;have sq:SqT K H2 a xs:=.inl (.inl (l.tup _ _ h1));refine ⟨λhn=>⟨xs,sq,by rw [<-rr.length];exact CJ.mp hn⟩,λd hd=>?_⟩;obtain ⟨x,hx,rx⟩:=rr.get hd;refine ⟨⟨xs,x,sq,hx⟩,λy H' ⟨e,hy⟩=>?_⟩;subst e;have:=hy xs sq;rw [hx] at this;cases this;exact ⟨ρ2,.refl,s,rx⟩
theorem dQ (h:GE X E e m):GI X E tg e (au m):=(cH h).imp λσ H R ⟨ρ,l,S,hl,hs,hm⟩=>by
 refine ⟨ρ,l,S,hl,hs,hm.seq λd S1 hm ρ1 H1 x l1 s1 r1=>?_⟩
 cases d <;> first | exact hm.elim | skip
 cases r1 with
 | tup q1 q2=>exact ⟨_,rfl,⟨_,.inl (.inl q1)⟩,hm ρ1 H1 _ l1 s1 (NJ q1 q2)⟩
def Bc (lo:Int) (n:Nat):List D:=(Ac n).map λi:Nat=>D.int (lo+i)
theorem Ld (lo:Int) (n i:Nat):(Bc lo n)[i]?=if i < n then some (.int (lo+i)) else none:=by
 unfold Bc;rw [AV]
 by_cases h:i < n
 ·rw [BC h,if_pos h];rfl
 ·rw [if_neg h,CJ.mpr (by simpa using h)];rfl
theorem NK {ρ:List AI} {H:Hp} (lo:Int) (n:Nat):Lr K ρ H (Itr lo n) (Bt (Bc lo n)):=by
 intro ρ2 H2 S ds' i l s hv;cases hv;rw [Ld];refine ⟨λhn=>?_,λd hd=>?_⟩
 ·split at hn
  ·cases hn
  ·rename_i h;exact ND h
 ·split at hd
  ·rename_i h
   cases hd;refine ⟨h,λy H' ⟨e,hy⟩=>?_⟩;subst e;subst hy;exact ⟨ρ2,.refl,s,.int _⟩
  ·cases hd
def iR1 (ml:ML):MI:=λe S=>(ml e S).bind λds S1=>match ds with
 | [.int j]=>if -(2 ^ 62)<=j/\j < 2 ^ 62 then .ok (Bt (Bc 0 j.toNat)) S1 else .bad
 | _=>.bad
def iR2 (ml:ML):MI:=λe S=>(ml e S).bind λds S1=>match ds with
 | [.int i,.int j]=>if -(2 ^ 62)<=i/\i < 2 ^ 62/\-(2 ^ 62)<=j/\j < 2 ^ 62 then .ok (Bt (Bc i (j - i).toNat)) S1 else .bad
 | _=>.bad
theorem EQ {a:Expr} {p pos:Pos} (hg:Gl X "range") (hm:X.mg "range" = none) (ha:GA X E [a] ml) (hs:AX [a] X.env=[(false,B0 a X.env)]:=by rfl):GI X E tg (.Call (.Name "range" p) [a] [] pos) (iR1 ml):=(VP hg hm ha hs).imp λσ H R ⟨ρ,l,S,hl,hs,hm⟩=>by
 refine ⟨ρ,l,S,hl,hs,hm.seq λds S1 hm ρ1 H1 xs l1 s1 r1=>?_⟩;split at hm
 ·rename_i j
  split at hm
  ·rename_i hj
   cases r1 with
   | cons r t=>
    cases t;cases r;exact ⟨j,rfl,hj.1,hj.2,hm ρ1 H1 _ l1 s1 (NK 0 j.toNat)⟩
  ·exact hm.elim
 ·exact hm.elim
theorem IB {a b:Expr} {p pos:Pos} (hg:Gl X "range") (hm:X.mg "range" = none) (ha:GA X E [a,b] ml) (hs:AX [a,b] X.env=[(false,B0 a X.env),(false,B0 b X.env)]:=by rfl) (hs2:AX [b] X.env=[(false,B0 b X.env)]:=by rfl) :
  GI X E tg (.Call (.Name "range" p) [a,b] [] pos) (iR2 ml):=(VO hg hm ha hs hs2).imp λσ H R ⟨ρ,l,S,hl,hs,hm⟩=>by
 refine ⟨ρ,l,S,hl,hs,hm.seq λds S1 hm ρ1 H1 xs l1 s1 r1=>?_⟩;split at hm
 ·rename_i i j
  split at hm
  ·rename_i hj
   cases r1 with
   | cons r t=>
    cases t with
    | cons r' t=>
     cases t;cases r;cases r';exact ⟨i,j,rfl,hj,hm ρ1 H1 _ l1 s1 (NK i _)⟩
  ·exact hm.elim
 ·exact hm.elim
end
def G1:List D->Lo->Sto->Res Lo
 | [],e,S=>.ok e S
 | _,_,_=>.bad
def CZ (g:MG) (r:List D->Lo->Sto->Res Lo):List D->Lo->Sto->Res Lo
 | d :: ds,e,S=>(g d e S).bind λe1 S1=>r ds e1 S1
 | [],_,_=>.bad
def Gm (n:Nat) (r:List D->Lo->Sto->Res Lo):MG:=λd e S=>match d with
 | .tup ds=>if ds.length=n then r ds e S else .bad
 | _=>.bad
section
variable {X:Cx} {E:EW} {pos:Pos}
def gGs (K:AA) (r:List D->Lo->Sto->Res Lo):TGs:=λvs σ H Q=>∃ρ e S ds,At K ρ H ds vs/\E4 K ρ H e σ/\B8 K ρ S H/\Bv K noH ρ H (r ds e S) λe' S'=>∀ρ' H' σ',Le K ρ H ρ' H'->B8 K ρ' S' H'->E4 K ρ' H' e' σ'->Q σ' H'
abbrev GGs (X:Cx) (ts:List Expr) (r:List D->Lo->Sto->Res Lo):Prop:=PGs X ts (gGs X.K r)
theorem PGs.imp {X:Cx} {ts:List Expr} {t t':TGs} (h:PGs X ts t) (i:∀vs σ H Q,t' vs σ H Q->t vs σ H Q):PGs X ts t':=λpins s σ H vs us Q I r q=>h pins s σ H vs us Q I r (i vs σ H Q q)
theorem Jf:GGs X [] G1:=ZU.imp λvs σ H Q ⟨ρ,l,S,ds,hd,hl,hs,hm⟩=>by
 cases ds with
 | nil=>cases hd;exact ⟨rfl,hm ρ H σ .refl hs hl⟩
 | cons d ds=>exact hm.elim
theorem EG {e:Expr} {es:List Expr} {g:MG} {r:List D->Lo->Sto->Res Lo} (h1:GG X e g) (h2:GGs X es r)
  (hs:(Ek (e :: es) X.env).map (·.2)=M6 e X.env :: (Ek es X.env).map (·.2):=by rfl):GGs X (e :: es) (CZ g r):=(XF h1 h2 hs).imp λvs σ H Q ⟨ρ,l,S,ds,hd,hl,hs,hm⟩=>by
 cases ds with
 | nil=>exact hm.elim
 | cons d ds=>
  cases hd with
  | cons q1 q2=>
   exact ⟨_,_,rfl,ρ,l,S,d,q1,hl,hs,hm.seq λe1 S1 hm ρ1 H1 σ1 l1 s1 r1=>⟨ρ1,e1,S1,ds,q2.mono l1,r1,s1,hm.go l1 λ_ _ k ρ2 H2 σ2 l2 s2 r2=>k ρ2 H2 σ2 (l1.trans l2) s2 r2⟩⟩
theorem Ll {es:List Expr} {k:Nat} {r:List D->Lo->Sto->Res Lo} {n:Nat} (hc:X.calm=true) (h:GGs X es r)
  (hn:(Ek es X.env).length=n:=by rfl) (hst:(Ek es X.env).findIdx? (·.1)=none:=by rfl):GG X (.Tuple es k pos) (Gm n r):=(cI hc h hn hst).imp λv σ H Q ⟨ρ,l,S,d,hd,hl,hs,hm⟩=>by
 cases d <;> first | exact hm.elim | skip
 rename_i ds
 cases hd with
 | tup q1 q2=>
  unfold Gm at hm;dsimp only at hm;split at hm
  ·rename_i hlen
   exact ⟨_,_,rfl,.inl (.inl q1),by rw [<-q2.length];exact hlen,ρ,l,S,ds,q2,hl,hs,hm⟩
  ·exact hm.elim
end
def spM (K:AA) (n:Nat) (f:List D->Sto->Res D):Sp:=λvs H Q E=>∃ρ ds S,ds.length=n/\At K ρ H ds vs/\B8 K ρ S H/\Bv K (λc H'=>E (.ref c) none H') ρ H (f ds S) λd S'=>
 ∀ρ' H' x,Le K ρ H ρ' H'->B8 K ρ' S' H'->Bi K ρ' H' d x->Q x H'
theorem spM.len {K:AA} {n:Nat} {f:List D->Sto->Res D} {vs:List V} {H:Hp} {Q:VK} {E:XK} (h:spM K n f vs H Q E):vs.length=n:=by
 obtain ⟨ρ,ds,S,h1,h2,_⟩:=h;rw [<-h2.length];exact h1
def A0 (n:Nat) (f:List D->Sto->Res D) (m:ML):ME:=λe S=>(m e S).bind λds S1=>if ds.length=n then f ds S1 else .bad
def MF (C:AI) (n:Nat) (f:List D->Sto->Res D) (m:ML):ME:=λe S=>(m e S).bind λds S1=>if ds.length+1=n then (f (.ref S1.length :: ds) (S1++[.ins C []])).bind (λd S2=>match d with
  | .non=>.ok (.ref S1.length) S2
  | _=>.bad) else .bad
def U3 (E:EW) (σ:St):XK:=λv o H=>o=none/\∃c,v=.ref c/\E c σ H
section
variable {X:Cx} {E:EW} {CX:CXT} {k n:Nat} {f C:AI} {fd:DY} {ps:List Str} {x:Str} {p pos:Pos} {e:Expr} {es:List Expr} {ml:ML} {g:List D->Sto->Res D}
theorem Bv.xk {α:Type} {K:AA} {σ:St} {ρ ρ1:List AI} {H H1:Hp} {r:Res α} {k k':α->Sto->Prop} (h:Bv K (λc=>E c σ) ρ H r k) (l:Le K ρ H ρ1 H1) (f:∀a S,k a S->k' a S):Bv K (λc H'=>U3 E σ (.ref c) none H') ρ1 H1 r k':=by
 cases r with
 | ok a S=>exact f a S h
 | err c S=>exact λρ' H' l' s=>⟨rfl,c,rfl,h ρ' H' (l.trans l') s⟩
 | bad=>exact h
theorem BP (F:De X.prog X.w X.K X.mg X.base CX k f fd ps (spM X.K n g)) (hx:KH CX X (U3 E)) (hr:Gj k X.A) (hg:Gl X x) (hm:X.mg x=some (.ref f)) (hk:Fa X.K (.ref f)=true) (hb:Binds X.K fd ps [])
  (ha:GA X E (e :: es) ml) (hdb:(x==("__debug__" : Str))=false:=by decide) (he:AX (e :: es) X.env=(false,B0 e X.env) :: AX es X.env:=by rfl) (hpl:(Ej pos (AX es X.env)).any (·.1)=false:=by rfl) :
  GE X E (.Call (.Name x p) (e :: es) [] pos) (A0 n g ml):=(Zb (E:=U3 E) F hr hg hm hk hb .nil hx ha hdb he hpl).imp λσ H Q ⟨ρ,l,S,hl,hs,hm⟩=>by
 refine ⟨ρ,l,S,hl,hs,hm.seq λds S1 hm ρ1 H1 xs l1 s1 r1=>?_⟩;split at hm
 ·rename_i hlen
  rw [Bq];exact ⟨ρ1,ds,S1,hlen,r1,s1,hm.xk l1 λ_ _ k ρ' H' z l' s' r'=>k ρ' H' z (l1.trans l') s' r'⟩
 ·exact hm.elim
theorem UU (M:Mk X.K C f) (F:De X.prog X.w X.K X.mg X.base CX k f fd ps (spM X.K n g)) (hx:KH CX X (U3 E)) (hr:Gj (k+1) X.A) (hg:Gl X x) (hm:X.mg x=some (.ref C)) (hb:Binds X.K fd ps [])
  (ha:GA X E (e :: es) ml) (hdb:(x==("__debug__" : Str))=false:=by decide) (he:AX (e :: es) X.env=(false,B0 e X.env) :: AX es X.env:=by rfl) (hpl:(Ej pos (AX es X.env)).any (·.1)=false:=by rfl) :
  GE X E (.Call (.Name x p) (e :: es) [] pos) (MF C n g ml):=(ZX (E:=U3 E) M F hr hg hm hb .nil hx ha hdb he hpl).imp λσ H Q ⟨ρ,l,S,hl,hs,hm⟩=>by
 refine ⟨ρ,l,S,hl,hs,hm.seq λds S1 hm ρ1 H1 xs l1 s1 r1 a dx ha hdx hne=>?_⟩;split at hm
 ·rename_i hlen
  rw [Bq];obtain ⟨s2,l2⟩:=Fc (ho:=.own a) s1 hdx
  have ha2:upd H1 dx (.own a) a=none:=by rw [BR (CS hne)];exact ha
  obtain ⟨s3,l3,at3⟩:=s2.alloc (p:=a) (ho:=.ins C dx []) (o:=.ins C []) ha2 ⟨dx,[],Be,.nil⟩;refine ⟨ρ1++[a],.ref S1.length :: ds,S1++[.ins C []],by simpa using hlen,.cons (.ref at3) (r1.mono (l2.trans l3)),s3,Bv.xk (hm.seq λz S2 hm=>hm) (l1.trans (l2.trans l3)) λz S2 hm ρ' H' y l' s' r'=>?_⟩
  cases z <;> first | exact hm.elim | skip
  cases r';exact ⟨rfl,hm ρ' H' _ (l1.trans (l2.trans (l3.trans l'))) s' (.ref (l'.pre _ _ at3))⟩
 ·exact hm.elim
end
theorem KVR.lookup {K:AA} {ρ:List AI} {H:Hp} (f:Str):∀ {x:List (Str×D)} {y:List (Str×V)} {d:D},KVR K ρ H x y->x.lookup f=some d->∃v,y.lookup f=some v/\Bi K ρ H d v
 | _,_,_,.nil,h=>by simp at h
 | (g,a) :: x,(g',b) :: y,d,.cons r t,h=>by
  obtain ⟨r1,r2⟩:=r;dsimp only at r1 r2;subst r1;rw [B3] at h ⊢
  cases hq:(f==g) with
  | true=>rw [hq] at h;cases h;exact ⟨b,rfl,r2⟩
  | false=>rw [hq] at h;exact KVR.lookup f t h
def Mm (f:Str) (v:D):List (Str×D)->List (Str×D)
 | []=>[(f,v)]
 | (g,x) :: r=>if g=f then (g,v) :: r else (g,x) :: Mm f v r
theorem KVR.putF {K:AA} {ρ:List AI} {H:Hp} (f:Str) {d:D} {v:V} (rd:Bi K ρ H d v):∀ {x:List (Str×D)} {y:List (Str×V)},KVR K ρ H x y->KVR K ρ H (Mm f d x) (putF f v y)
 | _,_,.nil=>.cons ⟨rfl,rd⟩ .nil
 | (g,a) :: x,(g',b) :: y,.cons r t=>by
  obtain ⟨r1,r2⟩:=r;dsimp only at r1 r2;subst r1;unfold Mm L2.putF
  by_cases hq:g=f
  ·rw [if_pos hq,if_pos hq];exact .cons ⟨rfl,rd⟩ t
  ·rw [if_neg hq,if_neg hq];exact .cons ⟨rfl,r2⟩ (KVR.putF f rd t)
theorem KVR.length {κ:Type} {K:AA} {ρ:List AI} {H:Hp} {x:List (κ×D)} {y:List (κ×V)} (h:KVR K ρ H x y):x.length=y.length:=EU h
def Er (C:AI) (f:Str) (m:ME):ME:=λe S=>(m e S).bind λd S1=>match d with
 | .ref n=>match S1[n]? with
  | some (.ins C' fs)=>if C'=C then (match fs.lookup f with | some v=>.ok v S1 | none=>.bad) else .bad
  | _=>.bad
 | _=>.bad
def PB (C:AI) (f:Str) (mo mv:ME):MS:=λe S=>(mv e S).lift e λv S1=>(mo e S1).lift e λd S2=>match d with
 | .ref n=>match S2[n]? with
  | some (.ins C' fs)=>if C'=C/\fs.length < 1000 then .ok (.nx e) (S2.set n (.ins C (Mm f v fs))) else .bad
  | _=>.bad
 | _=>.bad
section
variable {X:Cx} {E:EW} {o e value:Expr} {f:Str} {pos pos':Pos} {m mv:ME} {C:AI}
theorem GC (hc:Cls X.K C) (hn:HE X.K C f) (he:GE X E e m) (hb:Fq e f X.env (B0 e X.env)=B0 e X.env:=by rfl):GE X E (.Attribute e f pos) (Er C f m):=(cP he hb).imp λσ H Q ⟨ρ,l,S,hl,hs,hm⟩=>by
 refine ⟨ρ,l,S,hl,hs,hm.seq λx S1 hm ρ1 H1 v l1 s1 r1=>?_⟩
 cases x <;> first | exact hm.elim | skip
 rename_i n;dsimp only at hm
 cases ho:S1[n]? with
 | none=>rw [ho] at hm;exact hm.elim
 | some ob=>
  rw [ho] at hm
  cases ob <;> first | exact hm.elim | skip
  rename_i C' fs;dsimp only at hm;split at hm
  ·rename_i hC
   rw [hC] at ho
   cases r1 with
   | ref hn'=>
    obtain ⟨dx,fs',e1,e2⟩:=s1.ob n _ _ ho hn'
    cases hq:fs.lookup f with
    | none=>rw [hq] at hm;exact hm.elim
    | some w=>
     rw [hq] at hm;obtain ⟨v,h3,h4⟩:=KVR.lookup f e2 hq;exact ⟨_,_,dx,fs',v,rfl,e1,hc,hn,h3,hm ρ1 H1 v l1 s1 h4⟩
  ·exact hm.elim
theorem TN (hc:Cls X.K C) (hn:HE X.K C f) (ha:GE X E o m) (hv:GE X E value mv) (hs:FV value (some (.Attribute o f pos')) pos.line X.env=pure false:=by rfl):GS X E (.Assign [.Attribute o f pos'] value pos) (PB C f m mv):=(cF ha hv hs).imp λD σ H ⟨ρ,l,S,hl,hs,hm⟩=>by
 refine ⟨ρ,l,S,hl,hs,hm.lift hl .refl λv S1 hm ρ1 H1 y l1 s1 r1=>⟨ρ1,l,S1,hl.mono l1,s1,(hm.later l1).lift (hl.mono l1) l1 λx S2 hm ρ2 H2 u l2 s2 r2=>?_⟩⟩
 cases x <;> first | exact hm.elim | skip
 rename_i n;dsimp only at hm
 cases ho:S2[n]? with
 | none=>rw [ho] at hm;exact hm.elim
 | some ob=>
  rw [ho] at hm
  cases ob <;> first | exact hm.elim | skip
  rename_i C' fs;dsimp only at hm;split at hm
  ·rename_i hC
   obtain ⟨hC,hlen⟩:=hC;rw [hC] at ho
   cases r2 with
   | ref hn'=>
    obtain ⟨dx,fs',e1,e2⟩:=s2.ob n _ _ ho hn';have le:Le X.K ρ2 H2 ρ2 (upd H2 _ (.ins C dx (putF f y fs'))):=Le.write hn' (by rw [e1];trivial);obtain ⟨s3,l3⟩:=s2.write (ho:=.ins C dx (putF f y fs')) (o:=.ins C (Mm f v fs)) hn' ⟨dx,_,Be,(KVR.putF f (r1.mono l2) e2).mono le⟩;refine ⟨_,C,dx,fs',rfl,e1,hc,hn,by rw [<-KVR.length e2];exact hlen,?_⟩;exact hm ρ2 _ σ (l1.trans (l2.trans l3)) s3 (hl.mono (l1.trans (l2.trans l3)))
  ·exact hm.elim
end
end L2
namespace L2
open PySem PySem.Spec PyProof.Rows
theorem Cn.get {P:Ar} {w:BG} {H:Hp} {h:Bk} {a:AI} {o:HO} (x:Cn P w H h a o):∃u,h.get? a=some u:=by
 cases o with
 | lst xs=>obtain ⟨_,_,_,_,e⟩:=x;exact ⟨_,e⟩
 | tup xs=>obtain ⟨_,_,_,o,e,_⟩:=x;exact ⟨_,e⟩
 | dK kvs=>obtain ⟨_,_,_,_,o,_,_,e,_⟩:=x;exact ⟨_,e⟩
 | dT kvs=>obtain ⟨_,_,_,_,o,_,_,e,_⟩:=x;exact ⟨_,e⟩
 | set S n=>obtain ⟨o,_,_,_,e,_⟩:=x;exact ⟨_,e⟩
 | ins C dx fs=>obtain ⟨_,_,_,e,_⟩:=x;exact ⟨_,e⟩
 | own y=>exact x
 | xd fs=>obtain ⟨_,⟨_,_,_,e,_⟩,_⟩:=x;exact ⟨_,e⟩
 | rng lo hi=>obtain ⟨_,_,_,e⟩:=x;exact ⟨_,e⟩
 | frz ob u=>obtain ⟨e,_⟩:=x;exact ⟨_,e⟩
 | tbl ps=>exact ⟨_,(show h.get? a=some _ from x)⟩
 | met f y=>exact ⟨_,(show h.get? a=some _ from x)⟩
 | ext φ=>obtain ⟨_,e,_⟩:=x;exact e
def Ow (Nw:AI->Prop) (F:Option AD->Prop) (ea C:AI) (H:Hp) (h:Bk):Prop:=
 H ea=none/\Nw ea/\∃(oe:Obj) (vs:Array AD) (a0:AD),h.get? ea=some oe/\oe.cls=.ref C/\(oe.dict=none/\oe.data=.fields vs)/\vs[0]?=some a0 /\
  ((F none/\vs[1]?=some .none)∨∃(T:AI) (oT:Obj) (ts:Array AD) (fl:AD),F (some fl)/\vs[1]?=some (.ref T)/\T≠ea/\H T=none/\Nw T/\h.get? T=some oT/\oT.data=.fields ts/\ts[3]?=some fl)
theorem Ow.imp {Nw:AI->Prop} {h:Bk} {F G:Option AD->Prop} {ea C:AI} {H:Hp} (x:Ow Nw F ea C H h) (f:∀o,F o->G o):Ow Nw G ea C H h:=by
 obtain ⟨n1,n2,oe,vs,a0,g1,g2,g3,g4,g5⟩:=x;refine ⟨n1,n2,oe,vs,a0,g1,g2,g3,g4,?_⟩
 rcases g5 with ⟨a,b⟩ | ⟨T,oT,ts,fl,a,b⟩
 ·exact .inl ⟨f _ a,b⟩
 ·exact .inr ⟨T,oT,ts,fl,f _ a,b⟩
structure IE (X:Cx):Prop where
 st:X.stack=X.env :: X.outer
 fr:X.env.frame=some X.env.locals
 ex:X.ex=[]
def Nw (X:Cx) (b:AI):Prop:=X.s₀.heap.get? b=none/\∀p∈X.pn,p.1≠b
section
variable {X:Cx} {pins:List (AI×Obj)} {σ:St} {H:Hp} {s:AF} {h':Bk} {ea C:AI} {F:Option AD->Prop}
theorem Inv.old (I:Inv X pins σ H s) (O:IE X) {b:AI} (e:s.heap.get? b=none):H b=none/\Nw X b:=by
 refine ⟨?_,?_,λp hp z=>?_⟩
 ·cases q:H b with
  | none=>rfl
  | some u=>
   obtain ⟨o,ho⟩:=(I.hok b u q).get;rw [e] at ho;cases ho
 ·cases q:X.s₀.heap.get? b with
  | none=>rfl
  | some o=>
   obtain ⟨o',ho⟩:=I.base.there b o q (by rw [O.ex];simp);rw [e] at ho;cases ho
 ·have:=(I.pin p (CF _ hp)).1
  rw [z,e] at this;cases this
theorem Inv.recs {ch:List AI} (I:Inv X [] σ H s) (O:IE X) (hc:∀b∈ch,H b=none/\Nw X b/\∃o vs,s.heap.get? b=some o/\o.data=.fields vs)
  (st:(Ig s.heap (frs X.stack++ch)).StaysIn h') (up:s.heap.UpToSlots h'):Inv X [] σ H { s with heap:=h' }:=by
 have keepB:∀b o,b∉frs X.stack->b∉ch->s.heap.get? b=some o->h'.get? b=some o:=λb o h1 h2 e=>
  st b o (SA _ e λz=>(Aj.mp z).elim h1 h2)
 have noL:∀b∈ch,b≠X.env.locals:=λb hb z=>by
  obtain ⟨_,_,o,vs,e,d⟩:=hc b hb;obtain ⟨m,⟨o',es,ep,ho',hd',_⟩,_⟩:=I.loc;rw [z,ho'] at e;cases e;rw [hd'] at d;cases d
 have noC:∀b∈ch,∀x c,X.env.cells.lookup x=some c->c≠b:=λb hb x c q z=>by
  obtain ⟨_,_,o,vs,e,d⟩:=hc b hb;obtain ⟨v,o',ho',hd'⟩:=I.cell x c q;rw [z,e] at ho';cases ho';rw [d] at hd';cases hd'
 refine I.stepN (g':=s.gens) (t':=s.toks) (d':=s.drawn) (ch:=ch) (λb hb=>⟨.inr (hc b hb).2.1.1,noL b hb,noC b hb,λp hp=>(hc b hb).2.1.2 p (by rwa [Bq] at hp)⟩)
  (λb o nl nf nc e _=>keepB b o (λz=>(A4.mp (I.stkSub b z)).elim nl nf) nc e) (λb o _ hf _ e _=>?_) (λ_ _ _ _ n=>n) (λb o nc e=>?_) (λ_ _ q=>q) (λ_ _ _ q=>q) (λb ps q=>⟨#[],by rw [q];simp⟩) (λm hm=>up.ns hm) (λa o e=>?_) I.bare
 ·obtain ⟨o',ho',nf⟩:=(I.funs.mem hf).2
  rw [e] at ho';cases ho';exact up b o e nf
 ·by_cases hb:b∈frs X.stack
  ·obtain ⟨o',ho',nf⟩:=(I.stack.mem hb).2
   rw [e] at ho';cases ho';obtain ⟨sl,q⟩:=up b o e nf;exact ⟨_,q⟩
  ·exact ⟨o,keepB b o hb nc e⟩
 ·have tr:∀b u,H b=some u->∀v,s.heap.get? b=some v->h'.get? b=some v:=λb u q v r=>
   keepB b v (λz=>by rw [I.stkFree b z] at q;cases q) (λz=>by rw [(hc b z).1] at q;cases q) r
  refine (I.hok a o e).stay (λb u hb q=>?_) (λ_ q=>q) λ_ _ q=>q
  rcases hb with z | z
  ·subst z;exact tr _ _ e u q
  ·exact tr _ _ z u q
abbrev Xz (X:Cx) (h:Bk) (ch:List AI):Bk:=Ig h (frs X.stack++ch)
theorem PV {h:Bk} {ch:List AI} {b:AI} (hb:b∈ch):(Xz X h ch).get? b=none:=JB _ (Ay _ hb)
theorem JS (f:Array AD->Array AD) (o:Obj):(C0 f o).dict=o.dict:=by
 obtain ⟨c,d,dt,sl⟩:=o
 cases dt <;> rfl
theorem Rq {M:OS} {A:A8} {E:AD->AF->Prop} {Q:Unit->AF->Prop} {base:Bk} {env:Env} {outer:List Env} {L e:AI} {oe:Obj} {vs:Array AD} {head:AD} {hadNext:Bool}
  (hfr:A.frames=some (env :: outer)) (hl:s.heap.FunFrames base (env :: outer)) (hf:env.frame=some L) (he:s.heap.get? e=some oe) (hd:oe.data=.fields vs) (hsz:1 < vs.size)
  (k:∀h2 T oT ts,T≠e->s.heap.get? T=none->(∀b o,b≠e->b∉frs (env :: outer)->s.heap.get? b=some o->h2.get? b=some o)->(∀b o,b≠e->s.heap.get? b=some o->∃sl,h2.get? b=some { o with slots:=sl }) ->
   h2.get? e=some (C0 (·.setIfInBounds 1 (.ref T)) oe)->h2.get? T=some oT->oT.data=.fields ts->ts[3]?=some (ES L)->Q () { s with heap:=h2 }) :
  Ah M A (do let a <-frameOf env;let pl <-entryPlaceOf L hadNext;let b <-Ps head a .none (ES L) .none pl;Yi (.ref e) 1 b) Q E s:=by
 have hnot:e∉frs (env :: outer):=λz=>by
  obtain ⟨_,o,ho,nf⟩:=hl.mem z;rw [he] at ho;cases ho;exact nf vs hd
 refine AB (wpAny_frameOf_fun hfr hl hf λg1 so=>AB (wpAny_entryPlaceOf λpl hpl=>?_));unfold Ps newFields;refine AB (Bj ?_ (hpl.sizeOk5 _ _ _ _ _));have e1:g1.get? e=some oe:=(so.2.1 e hnot).trans he;have e2:=AJ (h:=g1) { cls:=.type "traceback",dict:=none,data:=.fields ([head,.ref L,.none,ES L,.none]++(if pl.isEmpty then An 6 BO else pl)).toArray } e1;refine FJ e2 hd hsz ?_;have nTe:g1.objs.size≠e:=MZ (Aa e1);have dd:=CG hd (·.setIfInBounds 1 (Au g1.objs.size))
 have old:∀b o,b≠e->g1.get? b=some o->((g1.push { cls:=.type "traceback",dict:=none,data:=.fields ([head,.ref L,.none,ES L,.none]++(if pl.isEmpty then An 6 BO else pl)).toArray }).update e (C0 (·.setIfInBounds 1 (Au g1.objs.size)))).get? b=some o:=λb o ne q=>by
  rw [EL _ _ (CS ne)];exact AJ _ q
 refine k _ g1.objs.size { cls:=.type "traceback",dict:=none,data:=.fields ([head,.ref L,.none,ES L,.none]++(if pl.isEmpty then An 6 BO else pl)).toArray } _ nTe (Tt (SS so.1.symm)) (λb o ne nf q=>old b o ne ((so.2.1 b nf).trans q)) (λb o ne q=>?_) (Ef _ e2 (El dd)) ?_ rfl ?_
 ·obtain ⟨sl,z⟩:=so.2.2 b o q
  exact ⟨sl,old b _ ne z⟩
 ·rw [EL _ _ (CS nTe)]
  exact Af g1 rfl
 ·rcases hpl with rfl | ⟨_,_,_,_,_,_,_,rfl⟩ <;> simp
theorem RE {h:Bk} {ch:List AI} (keep:∀b o,b∉frs X.stack->b∉ch->h.get? b=some o->h'.get? b=some o):(Xz X h ch).StaysIn h':=λb o q=>by
 have hb:b∉frs X.stack++ch:=λz=>by
  have:=JB (h:=h) (frs X.stack++ch) z;rw [show (Xz X h ch).get? b=(Ig h (frs X.stack++ch)).get? b from rfl,this] at q;cases q
 exact keep b o (λz=>hb (CF _ z)) (λz=>hb (Ay _ z)) (Jx _ q)
theorem QE {M:OS} {A:A8} {E:AD->AF->Prop} {Q:Unit->AF->Prop} (I:Inv X [] σ H s) (O:IE X) (hA:A.frames=some X.stack) (x:Ow (Nw X) F ea C H s.heap)
  (hF:∀o,F o->o=none∨o=some .none∨o=some (ES X.env.locals))
  (k:∀h',Inv X [] σ H { s with heap:=h' }->Ow (Nw X) (· = some (ES X.env.locals)) ea C H h'->Q () { s with heap:=h' }):Ah M A (WB (.ref ea) X.env) Q E s:=by
 obtain ⟨n1,n2,oe,vs,a0,g1,g2,⟨g0,g3⟩,g4,g5⟩:=x
 have hA':A.frames=some (X.env :: X.outer):=by rw [hA,O.st]
 have hst:frs (X.env :: X.outer)=frs X.stack:=by rw [O.st]
 have fr:s.heap.FunFrames X.base (X.env :: X.outer):=by rw [<-O.st];exact I.stack
 rcases g5 with ⟨_,h1⟩ | ⟨T,oT,ts,fl,hf,h1,ne,m1,m2,gT,dT,h3⟩
 ·have hsz:=(Ev.mp h1).1
  unfold WB;simp only [O.fr];refine AB (DD g1 g3 h1 ?_);rw [if_neg (by decide)]
  refine Rq hA' fr O.fr g1 g3 hsz λh2 T oT ts nT fT kp up q1 q2 q3 q4=>?_
  rw [hst] at kp;have hT:=I.old O fT
  have hc:∀b∈[ea],H b=none/\Nw X b/\∃o vs,s.heap.get? b=some o/\o.data=.fields vs:=λb hb=>by
   cases AL.mp hb;exact ⟨n1,n2,oe,vs,g1,g3⟩
  refine k h2 (I.recs O hc (RE λb o z1 z2 q=>kp b o (λz=>z2 (AL.mpr z)) z1 q) λb o q nf=>up b o (λz=>?_) q) ?_
  ·rw [z,g1] at q
   cases q;exact nf vs g3
  ·exact ⟨n1,n2,_,_,a0,q1,by rw [IG];exact g2,⟨by rw [JS];exact g0,CG g3 _⟩,by rw [L6 (by decide)];exact g4,.inr ⟨T,oT,ts,_,rfl,by simp [hsz],nT,hT.1,hT.2,q2,q3,q4⟩⟩
 ·rcases hF _ hf with e | e | e
  ·cases e
  ·cases e
   have hsz:=(Ev.mp h1).1;unfold WB;simp only [O.fr];refine AB (DD g1 g3 h1 ?_);rw [if_pos (show (Au T != BO)=true from by simp)];refine AB (DD gT dT h3 ?_);rw [if_neg (show ¬((BO==ES X.env.locals)=true) from by simp [ES])];refine AB (FJ gT dT (Ev.mp h3).1 ?_)
   have oth:∀b,b≠T->(s.heap.update T (C0 (·.setIfInBounds 3 BO))).get? b=s.heap.get? b:=λb hb=>EL _ _ (CS hb)
   have nrec:∀b o,s.heap.get? b=some o->(∀vs,o.data≠.fields vs)->b≠T:=λb o hb nf q=>by
    rw [q,gT] at hb;cases hb;exact nf ts dT
   have fr2:(s.heap.update T (C0 (·.setIfInBounds 3 BO))).FunFrames X.base (X.env :: X.outer):=fr.of_keeps λb o hb nf=>⟨o,(oth b (nrec b o hb nf)).trans hb,rfl⟩
   have gU:(s.heap.update T (C0 (·.setIfInBounds 3 BO))).get? T=some (C0 (·.setIfInBounds 3 BO) oT):=Ef _ gT (El (CG dT _))
   have hc:∀b∈[ea,T],H b=none/\Nw X b/\∃o vs,s.heap.get? b=some o/\o.data=.fields vs:=λb hb=>by
    rcases A4.mp hb with rfl | hb
    ·exact ⟨n1,n2,oe,vs,g1,g3⟩
    ·cases AL.mp hb
     exact ⟨m1,m2,oT,ts,gT,dT⟩
   refine Rq (s:={ s with heap:=s.heap.update T (C0 (·.setIfInBounds 3 BO)) }) hA' fr2 O.fr ((oth ea (CS ne)).trans g1) g3 hsz λh2 T2 oT2 ts2 nT fT kp up q1 q2 q3 q4=>?_
   rw [hst] at kp
   have fT':s.heap.get? T2=none:=by
    have z:T2≠T:=λz=>by rw [z] at fT;exact absurd (fT.symm.trans gU) (by simp)
    rw [<-oth T2 z];exact fT
   have hT:=I.old O fT';refine k h2 (I.recs O hc (RE λb o z1 z2 q=>kp b o (λz=>z2 (by rw [z];exact A6)) z1 ((oth b λz=>z2 (by rw [z];exact Al _ (AL.mpr rfl))).trans q)) λb o q nf=>up b o (λz=>?_) ((oth b (nrec b o q nf)).trans q)) ?_
   ·rw [z,g1] at q
    cases q;exact nf vs g3
   ·exact ⟨n1,n2,_,_,a0,q1,by rw [IG];exact g2,⟨by rw [JS];exact g0,CG g3 _⟩,by rw [L6 (by decide)];exact g4,.inr ⟨T2,oT2,ts2,_,rfl,by simp [hsz],nT,hT.1,hT.2,q2,q3,q4⟩⟩
  ·cases e
   have hTn:(Xz X s.heap [ea,T]).get? T=none:=PV (Al _ (AL.mpr rfl));refine wpAny_noteFrame_againW (base:=Xz X s.heap [ea,T]) (cls:=.ref C) (a0:=a0) O.fr ⟨oe,vs,T,oT,ts,g1,⟨g2,g4⟩,g3,h1,hTn,ne,gT,dT,h3⟩ ?_;exact k s.heap I ⟨n1,n2,oe,vs,a0,g1,g2,⟨g0,g3⟩,g4,.inr ⟨T,oT,ts,_,rfl,h1,ne,m1,m2,gT,dT,h3⟩⟩
theorem Jg {M:OS} {A:A8} {E:AD->AF->Prop} {Q:Unit->AF->Prop} (f:Option AI) (I:Inv X [] σ H s) (O:IE X) (x:Ow (Nw X) F ea C H s.heap) (hF:¬F none)
  (k:∀h',Inv X [] σ H { s with heap:=h' }->Ow (Nw X) (· = some (f.elim BO λa=>ES a)) ea C H h'->Q () { s with heap:=h' }):Ah M A (setFlight (.ref ea) f) Q E s:=by
 obtain ⟨n1,n2,oe,vs,a0,g1,g2,⟨g0,g3⟩,g4,g5⟩:=x
 rcases g5 with ⟨z,_⟩ | ⟨T,oT,ts,fl,hf,h1,ne,m1,m2,gT,dT,h3⟩
 ·exact (hF z).elim
 ·have hc:∀b∈[ea,T],H b=none/\Nw X b/\∃o vs,s.heap.get? b=some o/\o.data=.fields vs:=λb hb=>by
   rcases A4.mp hb with rfl | hb
   ·exact ⟨n1,n2,oe,vs,g1,g3⟩
   ·cases AL.mp hb
    exact ⟨m1,m2,oT,ts,gT,dT⟩
  have hsz:3 < ts.size:=(Ev.mp h3).1;unfold setFlight;refine AB (DD g1 g3 h1 ?_);rw [if_pos (show (Au T != BO)=true from by simp)];refine FJ gT dT hsz ?_
  have oth:∀b,b≠T->(s.heap.update T (C0 (·.setIfInBounds 3 (f.elim BO λa=>ES a)))).get? b=s.heap.get? b:=λb hb=>EL _ _ (CS hb)
  have nrec:∀b o,s.heap.get? b=some o->(∀vs,o.data≠.fields vs)->b≠T:=λb o hb nf q=>by
   rw [q,gT] at hb;cases hb;exact nf ts dT
  refine k _ (I.recs O hc (λb o q=>?_) λb o q nf=>⟨o.slots,(oth b (nrec b o q nf)).trans q⟩) ?_
  ·have hb:b≠T:=λz=>by rw [z,PV (Al _ (AL.mpr rfl))] at q;cases q
   exact (oth b hb).trans (Jx _ q)
  ·refine ⟨n1,n2,oe,vs,a0,(oth ea (CS ne)).trans g1,g2,⟨g0,g3⟩,g4,.inr ⟨T,_,_,_,rfl,h1,ne,m1,m2,Ef _ gT (El (CG dT _)),CG dT _,?_⟩⟩
   simp [hsz]
end
def trF (X:Cx) (o:Option AD):Prop:=o=none∨o=some .none∨o=some (ES X.env.locals)
def XE (X:Cx) (E:EW) (e:AD) (s':AF):Prop:=∃ea C σ H',e=.ref ea/\Inv X [] σ H' s'/\Ow (Nw X) (trF X) ea C H' s'.heap/\E C σ H'
def CXG (P:Ar) (w:BG):CXT:=λouter H s E e s'=>∃ea C H',e=.ref ea/\s'.os=s.os/\HG s'.gens/\Un (frs outer) [] H H' s.heap s'.heap/\HOk P w H' s'.heap/\Ow (λb=>s.heap.get? b=none) (· = some .none) ea C H' s'.heap/\E (.ref C) none H'
theorem XE.own {X:Cx} {E:EW} (O:IE X):WJ (AW X.prog X.w) X.A X.env (XE X E):=by
 rintro e s' ⟨ea,C,σ,H,rfl,I,x,w⟩
 refine QE I O I.ok.frames x (λo z=>z) λh1 I1 x1=>?_
 have x1':=x1;obtain ⟨n1,n2,oe,vs,a0,g1,g2,g3,g4,g5⟩:=x1'
 rcases g5 with ⟨z,_⟩ | ⟨T,oT,ts,fl,hf,h1',_⟩
 ·cases z
 ·show Ah _ _ _ _ _ _
  refine AB (DD (s:={ s' with heap:=h1 }) g1 g3.2 h1' ?_);rw [if_neg (by simp)];rw [O.fr]
  refine Jg (s:={ s' with heap:=h1 }) (some X.env.locals) I1 O x1 (by simp) λh2 I2 x2=>?_
  exact ⟨ea,C,σ,H,rfl,I2,x2.imp λo z=>.inr (.inr z),w⟩
theorem XE.leave {X:Cx} {E:EW} {e:AD} {s':AF} {Q:Unit->AF->Prop} {E':AD->AF->Prop} (O:IE X) (h:XE X E e s')
  (k:∀ea C σ H' s'',e=.ref ea->Inv X [] σ H' s''->Ow (Nw X) (· = some .none) ea C H' s''.heap->E C σ H'->Q () s''):Ah (AW X.prog X.w) X.A (leaving X.env e) Q E' s':=by
 obtain ⟨ea,C,σ,H,rfl,I,x,w⟩:=h;unfold leaving;refine AB (QE I O I.ok.frames x (λo z=>z) λh1 I1 x1=>?_)
 refine Jg (s:={ s' with heap:=h1 }) none I1 O x1 (by simp) λh2 I2 x2=>?_
 exact k ea C σ H _ rfl I2 x2 w
abbrev Cx.p (X:Cx) (pn:List (AI×Obj)):Cx:={ X with pn:=pn }
abbrev Cx.w' (X:Cx) (pn:List (AI×Obj)) (E:EW):Cx:={ X with pn:=pn,xe:=XE (X.p pn) E }
theorem Inv.with {X:Cx} {pins:List (AI×Obj)} {σ:St} {H:Hp} {s:AF} (I:Inv X pins σ H s) (z:AD->AF->Prop):Inv { X with xe:=z } pins σ H s:=by
 obtain ⟨ok,a,b,c,d,e,f,g,i,j,l⟩:=I;obtain ⟨o1,o2,o3,o4,o5,o6,o7,o8,o9,o10,o11,o12,o13,o14,o15,o16,o17,o18⟩:=ok;exact ⟨⟨o1,o2,o3,o4,o5,o6,o7,o8,o9,o10,o11,o12,o13,o14,o15,o16,o17,o18⟩,a,b,c,d,e,f,g,i,j,l⟩
theorem Inv.without {X:Cx} {pins:List (AI×Obj)} {σ:St} {H:Hp} {s:AF} {z:AD->AF->Prop} (I:Inv { X with xe:=z } pins σ H s):Inv X pins σ H s:=by
 have:=I.with X.xe
 exact this
theorem Inv.pinIn {X:Cx} {pins:List (AI×Obj)} {σ:St} {H:Hp} {s:AF} (I:Inv X pins σ H s):Inv (X.p (X.pn++pins)) [] σ H s:=by
 obtain ⟨ok,a,b,c,d,e,f,g,i,j,l⟩:=I;obtain ⟨o1,o2,o3,o4,o5,o6,o7,o8,o9,o10,o11,o12,o13,o14,o15,o16,o17,o18⟩:=ok;exact ⟨⟨o1,o2,o3,o4,o5,o6,o7,o8,o9,o10,o11,o12,o13,o14,o15,o16,o17,o18⟩,a,b,c,d,e,f,g,λq hq=>i q (by rwa [Bq] at hq),j,l⟩
theorem Inv.pinOut {X:Cx} {pins:List (AI×Obj)} {σ:St} {H:Hp} {s:AF} (I:Inv (X.p (X.pn++pins)) [] σ H s):Inv X pins σ H s:=by
 obtain ⟨ok,a,b,c,d,e,f,g,i,j,l⟩:=I;obtain ⟨o1,o2,o3,o4,o5,o6,o7,o8,o9,o10,o11,o12,o13,o14,o15,o16,o17,o18⟩:=ok;exact ⟨⟨o1,o2,o3,o4,o5,o6,o7,o8,o9,o10,o11,o12,o13,o14,o15,o16,o17,o18⟩,a,b,c,d,e,f,g,λq hq=>i q (by show q∈(X.pn++pins)++[];rwa [Bq]),j,l⟩
structure Good (X:Cx) (E:EW):Prop where
 pass:KH (CXG X.prog X.w) X (U3 E)
 own:WJ (AW X.prog X.w) X.A X.env X.xe
 made:∀(pins:List (AI×Obj)) (σ:St) (H:Hp) (s:AF) (h':Bk) (ea C:AI) (args:List AD),Inv X pins σ H s->E C σ H->Bk.MadeExcOf s.heap h' ea (.ref C) args->X.xe (.ref ea) { s with heap:=h' }
theorem IE.p {X:Cx} (O:IE X) (pn:List (AI×Obj)):IE (X.p pn):=⟨O.st,O.fr,O.ex⟩
theorem A1 {X:Cx} {E:EW} {pn:List (AI×Obj)} (O:IE X):Good (X.w' pn E) E:=by
 have O':=O.p pn;refine ⟨λpins σ H s e s' I h=>?_,XE.own O',λpins σ H s h' ea C args I w hx=>?_⟩
 ·obtain ⟨ea,C,H',rfl,os,bare,un,hok,x,_,c,ec,w⟩:=h
  cases ec;have I0:Inv (X.p pn) pins σ H s:=Inv.without (X:=X.p pn) I;have I1:Inv (X.p pn) pins σ H' s':=I0.call' os un hok bare (λb z=>absurd z (by simp))
  have I2:Inv (X.p pn) [] σ H' s':=I1.pins_of λp hp=>absurd hp (by simp)
  obtain ⟨n1,n2,oe,vs,a0,g1,g2,g3,g4,g5⟩:=x;refine ⟨ea,C,σ,H',rfl,I2,⟨n1,(I0.old O' n2).2,oe,vs,a0,g1,g2,g3,g4,?_⟩,w⟩
  rcases g5 with ⟨z,_⟩ | ⟨T,oT,ts,fl,hf,h1,ne,m1,m2,r⟩
  ·cases z
  ·exact .inr ⟨T,oT,ts,fl,.inr (.inl hf),h1,ne,m1,(I0.old O' m2).2,r⟩
 ·have I0:Inv (X.p pn) pins σ H s:=Inv.without (X:=X.p pn) I
  have I1:Inv (X.p pn) pins σ H { s with heap:=h',toks:=s.toks }:=I0.kept hx.keeps;obtain ⟨t,g1,_,_⟩:=hx.there;have hold:=I0.old O' hx.new;exact ⟨ea,C,σ,H,rfl,I1.pins_of λp hp=>absurd hp (by simp),⟨hold.1,hold.2,_,_,_,g1,rfl,⟨rfl,rfl⟩,rfl,.inl ⟨.inl rfl,rfl⟩⟩,w⟩
theorem good_none {X:Cx} (hx:X.xe=λ_ _=>False):Good X noE:=by
 refine ⟨λpins σ H s e s' I h=>?_,by rw [hx];exact WJ.never,λ_ _ _ _ _ _ _ _ _ w _=>w.elim⟩;obtain ⟨ea,C,H',rfl,os,bare,un,hok,x,_,c,ec,w⟩:=h;exact w.elim
end L2
namespace L2
open PySem PySem.Spec PyProof.Rows
abbrev N9:List AD:=[.type "ValueError",.type "Exception",.type "BaseException",.type "object"]
structure XCl (K:AA) (C:AI):Prop where
 ex:Yc K C N9 "ValueError.__new__" = true
theorem XCl.obj {K:AA} {C:AI} (c:XCl K C):∃bm N nm q bs hdct sn sub ab col dd k0 k1 k2 k3 k5,K.lookup C=some (excClassObj nm q C N bs bm hdct sn sub ab col dd k0 k1 k2 k3 k5 "ValueError.__new__") /\
  M8 K N=true/\PySem.W.nsIn K N "__init__" = some none/\PySem.W.tailIn K N9 bm=true:=by
 have q:=c.ex;unfold Yc at q;split at q
 ·rename_i ddx cdx slx hox
  split at q
  ·rename_i Cx bmx j0 j1 j2 j3 nx j5 hmx hsx
   simp only [FD,beq_iff_eq,Hs] at q;obtain ⟨⟨⟨⟨⟨e1,e2⟩,e3⟩,e4⟩,e5⟩,e6⟩:=q;subst e1;subst e2;obtain ⟨f1,f2,f3,f4,f5,f6,f7,f8,f9,f10,f11⟩:=cdx;dsimp only at hmx e3 e5 e6;subst hmx;subst e3;obtain ⟨lx⟩:=slx;dsimp only at hsx;subst hsx;exact ⟨bmx,f4,f1,f5,f2,f6,f7,f8,f9,f10,ddx,j0,j1,j2,j3,j5,hox,e5,e6,e4⟩
  ·cases q
 ·cases q
theorem Zl {K:AA} {N:AI} {h h2:Bk} {m:Str->Option AD} (e:M8 K N=true) (X:K.In h) (X2:K.In h2) (n:h.Ns N m):h2.Ns N m:=by
 obtain ⟨o,es,ep,ho,r⟩:=n;unfold M8 at e;split at e
 ·rename_i hk
  have z:=X _ _ hk;rw [ho] at z;cases z;exact ⟨_,es,ep,X2 _ _ hk,r⟩
 ·cases e
def EA (C:AI) (ml:ML):MS:=λe S=>(ml e S).lift e λds S1=>if ds.length<=sizeLine then .ok (.ex C e) S1 else .bad
section
variable {X:Cx} {E:EW} {x:Str} {np cpos pos:Pos} {e:Expr} {es:List Expr} {ml:ML} {C:AI}
theorem IA (G:Good X E) (hc:X.calm=true) (c:XCl X.K C) (hg:Gl X x) (hm:X.mg x=some (.ref C)) (ha:GA X E (e :: es) ml) (hdb:(x==("__debug__" : Str))=false:=by decide)
  (he:AX (e :: es) X.env=(false,B0 e X.env) :: AX es X.env:=by rfl) (hpl:(Ej cpos (AX es X.env)).any (·.1)=false:=by rfl) :
  GS X E (.Raise (some (.Call (.Name x np) (e :: es) [] cpos)) none pos) (EA C ml):=by
 intro pins s σ H D I ⟨ρ,l,S,hl,hs,hm'⟩;have hh:X.A.handled=none:=I.ok.hd hc;obtain ⟨bm,N,nm,q,bs,hdct,sn,sub,ab,col,dd,k0,k1,k2,k3,k5,hC,hok,hin,htl⟩:=c.obj;have hN:s.heap.Ns N (s.heap.nsMap N):=.of_isNs (PySem.W.isNs_of_in I.kIn hok)
 refine wpAny_Raise_call_subT (C:=C) (nm:=nm) (q:=q) (N:=N) (bs:=bs) (bm:=bm) (hdct:=hdct) (sn:=sn) (sub:=sub) (ab:=ab) (col:=col) (dd:=dd) (k0:=k0) (k1:=k1) (k2:=k2) (k3:=k3) (k5:=k5) (bmB:=N9) PySem.F.excBase_ValueError
  ((SQ I.kIn htl).hasType (by decide +kernel)) hh (by rw [he];show (false||(Ej cpos (AX es X.env)).any (·.1))=false;rw [hpl];rfl) (PySem.W.nsMap_none_of_in I.kIn hok hin)
  (Kr I hg hm ⟨rfl,?_⟩ hdb)
 have hgo:=ha cpos pins s σ H (λvs H1=>vs.length<=sizeLine/\E C σ H1) I ⟨ρ,l,S,hl,hs,Bv.lift hm' hl .refl λds S1 hm ρ1 H1 xs l1 s1 r1=>by
  split at hm
  ·rename_i hz
   exact ⟨by rw [<-r1.length];exact hz,hm ρ1 H1 σ l1 s1 (hl.mono l1)⟩
  ·exact hm.elim⟩
 rw [he] at hgo ⊢;refine SW (thn hgo λus s2 ⟨vs,H2,I2,rv,hz,w⟩=>?_);exact ⟨rfl,by rw [<-rv.length];exact hz,I2.kIn _ _ hC,Zl hok I.kIn I2.kIn hN,SQ I2.kIn htl,λh' ea hx=>G.made pins σ H2 s2 h' ea C us I2 w hx⟩
end
abbrev Cx.suite (X:Cx) (ea:AI):Cx:={ X with A:=X.A.mark (some (.ref ea)),calm:=false,xe:=λ_ _=>False }
theorem Inv.suite {X:Cx} {pins:List (AI×Obj)} {σ:St} {H:Hp} {s:AF} (I:Inv X pins σ H s) (ea:AI):Inv (X.suite ea) pins σ H s:=by
 obtain ⟨ok,a,b,c,d,e,f,g,i,j,l⟩:=I;obtain ⟨o1,o2,o3,o4,o5,o6,o7,o8,o9,o10,o11,o12,o13,o14,o15,o16,o17,o18⟩:=ok;exact ⟨⟨o1,o2,o3,o4,o5,o6,o7,o8,λz=>absurd (show false=true from z) AR,o10,o11,o12,o13,o14,o15,o16,o17,o18⟩,a,b,c,d,e,f,g,i,j,l⟩
theorem Inv.unsuite {X:Cx} {pins:List (AI×Obj)} {σ:St} {H:Hp} {s:AF} {ea:AI} (ok:X.Ok) (I:Inv (X.suite ea) pins σ H s):Inv X pins σ H s:=by
 obtain ⟨_,a,b,c,d,e,f,g,i,j,l⟩:=I;exact ⟨ok,a,b,c,d,e,f,g,i,j,l⟩
theorem Inv.track {X:Cx} {σ:St} {H:Hp} {s:AF} {ea:AI} {o:Obj} {vs:Array AD} (I:Inv X [] σ H s) (n1:H ea=none) (n2:Nw X ea) (g1:s.heap.get? ea=some o) (g3:o.data=.fields vs) :
  Inv X [] σ (upd H ea (.frz o (.ext λh=>∃u,h.get? ea=some u))) s:=by
 have neL:X.env.locals≠ea:=λz=>by
  obtain ⟨m,⟨o',es,ep,ho',hd',_⟩,_⟩:=I.loc;rw [z,g1] at ho';cases ho';rw [g3] at hd';cases hd'
 have neC:∀x c,X.env.cells.lookup x=some c->c≠ea:=λx c q z=>by
  obtain ⟨v,o',ho',hd'⟩:=I.cell x c q;rw [z,g1] at ho';cases ho';rw [g3] at hd';cases hd'
 refine ⟨I.ok,I.os,I.bare,⟨I.base.keep,I.base.slot,λb u q n hx=>?_,I.base.there,λb xs q=>?_,λb u xs q=>?_,λb ps q=>?_⟩,I.loc,I.cell,?_,λx c q=>?_,λp hp=>?_,λb u q=>?_,I.len⟩
 ·rw [BR λz=>by rw [z,n2.1] at q;cases q]
  exact I.base.free b u q n hx
 ·have:=I.base.tups b xs q
  rw [BR (Bh this n1)];exact this
 ·have:=I.base.frzs b u xs q
  rw [BR (Bh this n1)];exact this
 ·obtain ⟨more,this⟩:=I.base.tbls b ps q
  exact ⟨more,by rw [BR (Bh this n1)];exact this⟩
 ·rw [BR neL];exact I.free
 ·rw [BR (neC x c q)];exact I.freeC x c q
 ·obtain ⟨z1,z2,z3⟩:=I.pin p hp
  exact ⟨z1,by rw [BR (n2.2 p (by rwa [Bq] at hp))];exact z2,z3⟩
 ·by_cases hb:b=ea
  ·subst hb
   rw [Be] at q;cases q;exact ⟨g1,⟨o,g1⟩,⟨o,g1⟩,λh1 h2 ⟨u,e1⟩ k=>⟨u,k u e1⟩⟩
  ·rw [BR hb] at q
   exact (I.hok b u q).stay (λ_ _ _ z=>z) (λc z=>by rw [BR (Bh z n1)];exact z) λc xs z=>by rw [BR (Bh z n1)];exact z
theorem Jc {X:Cx} {σ:St} {H:Hp} {s:AF} {M:OS} {A:A8} {E:AD->AF->Prop} {Q:Unit->AF->Prop} {i:Nat} {n:Str} {pos:Pos} (I:Inv X [] σ H s) (hN:X.N.Nodup) (hi:X.N[i]?=some n) (hn:X.env.scope.names.lookup n=some .local)
  (k:∀s',Inv X [] (σ.set i none) H s'->Q () s'):Ah M A (do bindName X.env n .none;unbindBehindTheSuite X.env n pos) Q E s:=by
 obtain ⟨m,hm,hl⟩:=id I.loc
 have hp:(X.env.scope.kind==.class||(X.env.scope.kind==.module&&X.env.locals != X.env.globals))=false:=by rw [I.ok.kind];rfl
 have neL:∀b o,X.s₀.heap.get? b=some o->b≠X.env.locals:=λb o e=>Ax (Ad (Aa e) I.ok.above)
 obtain ⟨oL,_,_,hoL,_⟩:=id hm
 refine wpAny_nameGoes_keeps hn hm hp λh' v hn' sb=>k _ ?_
 have cellK:∀y c w',X.env.cells.lookup y=some c->s.heap.IsCell c w'->h'.IsCell c w':=λy c w' q z=>z.sameBut sb (I.cne y c q)
 refine ⟨I.ok,I.os,I.bare,⟨λb o e z hb hx=>(sb.2 b (neL b o e)).trans (I.base.keep b o e z hb hx),λb o e z hb hx=>?_,I.base.free,λb o e hx=>?_,I.base.tups,I.base.frzs,I.base.tbls⟩,⟨_,hn',λj y v' e1 e2 e3=>?_⟩,λy c q=>?_,I.free,I.freeC,λp hp=>?_,λb u q=>?_,by simpa using I.len⟩
 ·obtain ⟨sl,q⟩:=I.base.slot b o e z hb hx
  exact ⟨sl,(sb.2 b (neL b o e)).trans q⟩
 ·obtain ⟨o',q⟩:=I.base.there b o e hx
  exact ⟨o',(sb.2 b (neL b o e)).trans q⟩
 ·by_cases hj:i=j
  ·subst hj
   rw [Q0 ] at e2
   cases hq:σ[i]? <;> rw [hq] at e2 <;> cases e2
  ·rw [A9 hj] at e2
   obtain ⟨u',r',q⟩:=hl j y v' e1 e2 e3;refine ⟨u',r',?_⟩
   rcases q with ⟨kk,e⟩ | ⟨kk,c,e,z⟩
   ·refine .inl ⟨kk,?_⟩
    have:y≠n:=λz=>hj (Ni hN (z▸hi) e1)
    show (if y=n then v else m y)=_;rw [if_neg this];exact e
   ·exact .inr ⟨kk,c,e,cellK y c _ e z⟩
 ·obtain ⟨w',z⟩:=I.cell y c q
  exact ⟨w',cellK y c w' q z⟩
 ·obtain ⟨z1,z2,z3,z4⟩:=I.pin p hp
  exact ⟨(sb.2 p.1 z3).trans z1,z2,z3,z4⟩
 ·refine (I.hok b u q).stay (λc v' hc z=>(sb.2 c ?_).trans z) (λ_ z=>z) λ_ _ z=>z
  intro e
  rcases hc with z | z
  ·rw [z] at e;rw [e,I.free] at q;cases q
  ·rw [e,I.free] at z;cases z
structure Th (K:AA) (C G:AI):Prop where
 ty:Iz K (.ref G)=some (.type "type")
 cl:(EJ K G).isSome=true
 ba:Jp K (.ref G) (.type "BaseException")=some true
 su:Jp K (.ref C) (.ref G)=some true
theorem Sy {K:AA} {C G ea:AI} {oe:Obj} {M:OS} {A:A8} {E:AD->AF->Prop} {Q:Bool->AF->Prop} {s:AF} (c:Th K C G) (X:K.In s.heap) (g1:s.heap.get? ea=some oe) (g2:oe.cls=.ref C) (q:Q true s) :
  Ah M A (excMatches (.ref ea) (.ref G)) Q E s:=by
 have L1:GH M s.heap (isInstance (.ref G) (.type "tuple")) false:=PySem.W.looks_instIn X (by unfold PySem.W.instIn;rw [c.ty];show Jp K (.type "type") (.type "tuple")=some false;kernel_rfl);have L2:GH M s.heap (isSubtype (.ref G) (.type "BaseException")) true:=R8 X c.ba;have L3:GH M s.heap (isSubtype (.ref C) (.ref G)) true:=R8 X c.su
 have L4:GH M s.heap (isType (.ref G)) true:=by
  have z:=c.cl;unfold EJ at z;split at z
  ·rename_i hk
   intro A' Q' E' s' k q;unfold isType loadHead;exact AB (SG (k _ _ (X _ _ hk)) (AM q))
  ·cases z
 have L5:GH M s.heap (typeOf (.ref ea)) (.ref C):=g2▸(ek g1).andThen .now;unfold excMatches isExcClass;refine AB (L1.at ?_);rw [if_neg AR];refine AB (AM ?_);dsimp only;refine AB ?_;rw [JC];refine AB (AB (AB (L4.at ?_)));rw [if_pos rfl];refine L2.at ?_;simp only [bS,DZ,if_false];refine AM ?_;dsimp only;rw [O0];refine AM (AB (L5.at (AB ?_)));rw [JC];refine AB (AB (L3.at ?_));rw [if_pos rfl];exact AM (AM (AM q))
def ZC (cs:List AI) (i:Nat) (b h:MS):MS:=λe S=>(b e S).bind λf S1=>match f with
 | .ex c e1=>if c∈cs then (h (e1.set i (some (.exc c))) S1).bind λf2 S2=>match f2 with
   | .nx e2=>.ok (.nx (e2.set i none)) S2
   | .bk e2=>.ok (.bk (e2.set i none)) S2
   | .ct e2=>.ok (.ct (e2.set i none)) S2
   | .rt d=>.ok (.rt d) S2
   | .ex _ _=>.bad
  else .bad
 | f=>.ok f S1
theorem E4.forget {K:AA} {ρ:List AI} {H:Hp} {e:Lo} {σ:St} (i:Nat) (h:E4 K ρ H e σ):E4 K ρ H (e.set i none) (σ.set i none):=by
 refine ⟨by simp [h.len],λj d q=>?_⟩
 by_cases hj:i=j
 ·subst hj
  rw [Q0] at q
  cases hq:e[i]? <;> rw [hq] at q <;> cases q
 ·rw [A9 hj] at q ⊢
  exact h.at' j d q
section
variable {X:Cx} {E:EW} {body suite:List Cp} {b₀:Cp} {g n:Str} {gp hpos pos:Pos} {cs:List AI} {i:Nat} {mb mh:MS} {G:AI}
theorem dN {pn:List (AI×Obj)} (O:IE X) (hN:X.N.Nodup) (hi:X.N[i]?=some n) (hn:X.env.scope.names.lookup n=some .local) (hg:Gl X g) (hm:X.mg g=some (.ref G)) (hcs:∀c∈cs,Th X.K c G)
  (hb:∀pn' E',GSs (X.w' pn' E') E' body mb) (hh:∀pn' ea,GSs ((X.p pn').suite ea) noE (b₀ :: suite) mh) (hdb:(g==("__debug__" : Str))=false:=by decide) :
  GS (X.w' pn E) E (.Try body [.ExceptHandler (some (.Name g gp)) (some n) (b₀ :: suite) hpos] [] [] pos) (ZC cs i mb mh):=by
 intro pins s σ H D I ⟨ρ,l,S,hl,hs,hm'⟩;have I0:Inv (X.p pn) pins σ H s:=Inv.without (X:=X.p pn) I;have I1:Inv (X.p (pn++pins)) [] σ H s:=I0.pinIn;have O1:=O.p (pn++pins)
 let DS:R4:={ nx:=λσ2 H2=>D.nx (σ2.set i none) H2,rt:=D.rt,bk:=λσ2 H2=>D.bk (σ2.set i none) H2,ct:=λσ2 H2=>D.ct (σ2.set i none) H2 }
 let ET:EW:=λC σ' H'=>C∈cs/\∀ea o u,H' ea=none->Ov o C->gS X.K noE mh DS (σ'.set i (some (.ref ea))) (upd H' ea (.frz o u))
 have run:=hb (pn++pins) ET [] s σ H D (I1.with _) ⟨ρ,l,S,hl,hs,hm'.seq λf S1 hm=>by
  cases f with
  | nx e'=>exact hm
  | rt d=>exact hm
  | bk d=>exact hm
  | ct d=>exact hm
  | ex c e1=>
   intro ρ' H' σ' l' s' r';dsimp only at hm;split at hm
   ·rename_i hc
    refine ⟨hc,λea o u hn ho=>?_⟩;have le:Le X.K ρ' H' ρ' (upd H' ea (.frz o u)):=Le.fresh hn;have s2:=(Fc (ho:=.frz o u) s' hn).1;refine ⟨ρ',e1.set i (some (.exc c)),S1,(r'.mono le).set (.exc Be ho) i,s2,((Bv.later hm (l'.trans le)).seq λf2 S2 hm=>?_)⟩
    cases f2 with
    | nx e2=>exact λρ2 H2 σ2 l2 q2 r2=>hm ρ2 H2 _ (l'.trans (le.trans l2)) q2 (r2.forget i)
    | bk e2=>exact λρ2 H2 σ2 l2 q2 r2=>hm ρ2 H2 _ (l'.trans (le.trans l2)) q2 (r2.forget i)
    | ct e2=>exact λρ2 H2 σ2 l2 q2 r2=>hm ρ2 H2 _ (l'.trans (le.trans l2)) q2 (r2.forget i)
    | rt d=>exact λρ2 H2 x2 l2 q2 r2=>hm ρ2 H2 x2 (l'.trans (le.trans l2)) q2 r2
    | ex c' e2=>exact hm.elim
   ·exact hm.elim⟩
 refine wpAny_Try_except (Eh run (λf s1 q=>?_) λe s1 q=>?_)
 ·-- the body went through
  cases f with
  | next=>
   obtain ⟨σ',H',J,z⟩:=q;exact KM ⟨σ',H',(Inv.pinOut (X:=X.p pn) J.without).with _,z⟩
  | brk=>
   obtain ⟨σ',H',J,z⟩:=q;exact ⟨σ',H',(Inv.pinOut (X:=X.p pn) J.without).with _,z⟩
  | cont=>
   obtain ⟨σ',H',J,z⟩:=q;exact ⟨σ',H',(Inv.pinOut (X:=X.p pn) J.without).with _,z⟩
  | ret u=>
   obtain ⟨v,σ',H',J,r,z⟩:=q;exact ⟨v,σ',H',(Inv.pinOut (X:=X.p pn) J.without).with _,r,z⟩
 ·-- an exception is caught
  obtain ⟨ea,C,σ',H',rfl,J,x,hC,w⟩:=q
  refine QE (X:=X.p (pn++pins)) J O1 J.ok.frames x (λo z=>z) λh1 J1 x1=>?_
  refine Jg (X:=X.p (pn++pins)) (s:={ s1 with heap:=h1 }) none J1 O1 x1 (by simp) λh2 J2 x2=>?_
  refine wpAny_handleBy_cons (codeAny_handlers_test ?_) (by intro z;cases z);have J2s:=J2.suite ea;refine Kr (X:=(X.p (pn++pins)).suite ea) J2s hg hm ?_ hdb;have x2':=x2;obtain ⟨n1,n2,oe,vs,a0,g1,g2,⟨g0,g3⟩,_⟩:=x2';refine Sy (hcs C hC) J2.kIn g1 g2 ?_;refine codeAny_handlers_suite_as ?_
  refine Jg (X:=X.p (pn++pins)) (s:={ s1 with heap:=h2 }) none J2 O1 x2 (by simp) λh3 J3 x3=>?_
  obtain ⟨n1,n2,oe,vs,a0,g1,g2,⟨g0,g3⟩,_⟩:=x3;have J4:=J3.track n1 n2 g1 g3;refine NR (X:=(X.p (pn++pins)).suite ea) (v:=.ref ea) (J4.suite ea) hN hi (.inl hn) rfl (λs5 J5=>?_) (.inr hn)
  refine Eh (hh (pn++pins) ea [] s5 _ _ DS J5 (w ea oe _ n1 ⟨g2,g0,vs,g3⟩)) (λf s6 q=>?_) λ_ _ z=>z.elim
  have ok:(X.p (pn++pins)).Ok:=J.ok
  cases f with
  | next=>
   obtain ⟨σ6,H6,J6,z⟩:=q
   exact Jc (X:=X.p (pn++pins)) (J6.unsuite ok) hN hi hn λs7 J7=>⟨_,H6,(Inv.pinOut (X:=X.p pn) J7).with _,z⟩
  | brk=>
   obtain ⟨σ6,H6,J6,z⟩:=q
   exact Jc (X:=X.p (pn++pins)) (J6.unsuite ok) hN hi hn λs7 J7=>⟨_,H6,(Inv.pinOut (X:=X.p pn) J7).with _,z⟩
  | cont=>
   obtain ⟨σ6,H6,J6,z⟩:=q
   exact Jc (X:=X.p (pn++pins)) (J6.unsuite ok) hN hi hn λs7 J7=>⟨_,H6,(Inv.pinOut (X:=X.p pn) J7).with _,z⟩
  | ret u=>
   obtain ⟨v,σ6,H6,J6,r,z⟩:=q
   exact Jc (X:=X.p (pn++pins)) (J6.unsuite ok) hN hi hn λs7 J7=>⟨v,_,H6,(Inv.pinOut (X:=X.p pn) J7).with _,r,z⟩
end
def DE (n:Nat) (ds:List D):Lo:=ds.map some++An (n - ds.length) none
theorem Sh {K:AA} {ρ:List AI} {H:Hp} {N:List Str} {ds:List D} {vs:List V} (r:At K ρ H ds vs):E4 K ρ H (DE N.length ds) (start N vs):=by
 refine ⟨by simp [DE,start,r.length],λi d q=>?_⟩;unfold DE at q;unfold start
 by_cases hi:i < ds.length
 ·rw [Ag (by simpa using hi),AV] at q
  rw [Ag (by rw [AK,<-r.length];exact hi),AV]
  cases e:ds[i]? with
  | none=>rw [e] at q;cases q
  | some d'=>
   rw [e] at q;cases q;obtain ⟨v,h1,h2⟩:=r.get e;exact ⟨v,by rw [h1];rfl,h2⟩
 ·rw [BI (by simpa using hi),Fb] at q
  split at q <;> cases q
def D4 (n:Nat) (mb:MS) (ds:List D) (S:Sto):Res D:=(okR (mb (DE n ds) S)).bind λf S1=>match f with
 | .rt d=>.ok d S1
 | .nx _=>.ok .non S1
 | .ex c _=>.err c S1
 | _=>.bad
section
variable {P:Ar} {w:BG} {K:AA} {mg:Str->Option AD} {base:Bk}
theorem de {x qual:Str} {st:Cp} {f:AI} {fd:DY} {N ps:List Str} {k n:Nat} (F:Fun K x qual st f fd) (Sc:Bu N ps (Am st)) (hn:ps.length=n) {mb:MS}
  (hbody:∀(cdv:AD) (A:A8) (outer:List Env) (s:AF) (H:Hp) (E:XK),Gj k (A.deeper (Jw qual (Am st) s.heap.objs.size f cdv))->∀pn E',GSs ((QV (CXG P w) P w K mg base N qual (Am st) f cdv A outer s H E).w' pn E') E' (Bm st) mb) :
  De P w K mg base (CXG P w) (k+1) f fd ps (spM K n (D4 N.length mb)):=by
 obtain ⟨oc,od,kV,doc,pm,an,cdv,ct,osl,rfl,lk,hcd⟩:=F.ex
 refine gh lk hcd Sc (λvs H Q E h=>by rw [hn];exact h.len) λA outer s H vs Q E hr h=>?_
 obtain ⟨ρ,ds,S,h1,h2,h3,h4⟩:=h;have O:IE (QV (CXG P w) P w K mg base N qual (Am st) f cdv A outer s H E):=⟨rfl,rfl,rfl⟩;have hb:=hbody cdv A outer s H E hr [] (λc _ H'=>E (.ref c) none H');refine ⟨gS K (λc _ H'=>E (.ref c) none H') mb,λpins s' σ H' D I q=>Eh (hb pins s' σ H' D (I.with _) q) (λfl s1 z=>?_) λe s1 z=>?_,ρ,_,S,Sh h2,h3,?_⟩
 ·cases fl with
  | next=>obtain ⟨σ',H2,J,z⟩:=z;exact ⟨σ',H2,J.without,z⟩
  | brk=>obtain ⟨σ',H2,J,z⟩:=z;exact ⟨σ',H2,J.without,z⟩
  | cont=>obtain ⟨σ',H2,J,z⟩:=z;exact ⟨σ',H2,J.without,z⟩
  | ret u=>obtain ⟨v,σ',H2,J,r,z⟩:=z;exact ⟨v,σ',H2,J.without,r,z⟩
 ·refine XE.leave O z λea C σ' H2 s2 e1 J x w=>⟨ea,C,H2,e1,J.os,J.bare,J.base,J.hok,?_,w⟩
  obtain ⟨n1,n2,oe,vs',a0,g1,g2,g3,g4,g5⟩:=x;refine ⟨n1,n2.1,oe,vs',a0,g1,g2,g3,g4,?_⟩
  rcases g5 with z | ⟨T,oT,ts,fl,hf,h1,ne,m1,m2,r⟩
  ·exact .inl z
  ·exact .inr ⟨T,oT,ts,fl,hf,h1,ne,m1,m2.1,r⟩
 ·unfold D4 at h4
  cases hr:mb (DE N.length ds) S with
  | bad=>rw [hr] at h4;exact h4.elim
  | err c S'=>rw [hr] at h4;exact h4.elim
  | ok fl S'=>
   rw [hr] at h4
   cases fl with
   | nx e'=>exact λρ' H' σ' l s' r=>h4 ρ' H' .non l s' .non
   | rt d=>exact h4
   | bk e'=>exact h4.elim
   | ct e'=>exact h4.elim
   | ex c e'=>exact λρ' H' σ' l s' r=>h4 ρ' H' l s'
end
end L2
namespace L2
open PySem PySem.Spec PyProof.Rows
section
variable {X:Cx}
def intOp (C:Int->Int->Prop) [∀i j,Decidable (C i j)] (g:Int->Int->D):D->D->Sto->Res D
 | .int i,.int j,S=>if C i j then .ok (g i j) S else .bad
 | _,_,_=>.bad
theorem Xw {C:Int->Int->Prop} [∀i j,Decidable (C i j)] {g:Int->Int->D} {a b d:D} {S S':Sto} (h:intOp C g a b S=.ok d S'):∃i j,a=.int i/\b=.int j/\C i j/\d=g i j/\S'=S:=by
 unfold intOp at h;split at h
 ·split at h
  ·rename_i i j _ hc
   cases h;exact ⟨_,_,rfl,rfl,hc,rfl,rfl⟩
  ·cases h
 ·cases h
theorem QB {f:AD->AD->Sem AD} {C:Int->Int->Prop} [∀i j,Decidable (C i j)] {g:Int->Int->D} {v:Int->Int->V} (hv:∀ρ H i j,Bi X.K ρ H (g i j) (v i j)) (h:OpR X f (rI C v)):OpR X f (rD X.K (intOp C g)):=h.imp λx y H Q ⟨ρ,S,a,b,d,S',hs,ra,rb,hm,k⟩=>by
 obtain ⟨i,j,rfl,rfl,hc,rfl,rfl⟩:=Xw hm;cases ra;cases rb;exact ⟨i,j,rfl,rfl,hc,k ρ H _ .refl hs (hv _ _ _ _)⟩
theorem Kl {f:AD->AD->Sem AD} {g:Int->Int->D} {v:Int->Int->V} (hv:∀ρ H i j,Bi X.K ρ H (g i j) (v i j)) (h:OpR X f (rI0 v)):OpR X f (rD X.K (intOp (λ_ _=>True) g)):=
 QB (C:=λ_ _=>True) hv (h.imp λx y H Q ⟨i,j,e1,e2,_,q⟩=>⟨i,j,e1,e2,q⟩)
instance (i j:Int):Decidable (aX i j):=inferInstanceAs (Decidable (_/\_))
instance (i j:Int):Decidable (V8 i j):=inferInstanceAs (Decidable (_∨_))
abbrev Sg:=intOp (λ_ _=>True) λi j=>.int (i - j)
abbrev Nj:=intOp V8 λi j=>.int (i * j)
abbrev Jv:=intOp aX λi j=>.int (i / j)
abbrev Ea:=intOp (λ_ j=>0 < j) λi j=>.int (i % j)
abbrev ltD:=intOp (λ_ _=>True) λi j=>.bl (decide (i < j))
abbrev leD:=intOp (λ_ _=>True) λi j=>.bl (decide (i<=j))
abbrev gtD:=intOp (λ_ _=>True) λi j=>.bl (decide (j < i))
abbrev geD:=intOp (λ_ _=>True) λi j=>.bl (decide (j<=i))
theorem XS:OpR X (DX .Sub) (rD X.K Sg):=Kl (λ_ _ _ _=>.int _) cW
theorem QA:OpR X (DX .Mult) (rD X.K Nj):=QB (λ_ _ _ _=>.int _) cY
theorem Mz:OpR X (DX .FloorDiv) (rD X.K Jv):=QB (λ_ _ _ _=>.int _) Zg
theorem Fg:OpR X (DX .Mod) (rD X.K Ea):=QB (λ_ _ _ _=>.int _) cZ
theorem RT:OpR X (Bd .Lt) (rD X.K ltD):=Kl (λ_ _ _ _=>.bl _) fh
theorem RU:OpR X (Bd .LtE) (rD X.K leD):=Kl (λ_ _ _ _=>.bl _) fj
theorem XU:OpR X (Bd .Gt) (rD X.K gtD):=Kl (λ_ _ _ _=>.bl _) fk
theorem fu:OpR X (Bd .GtE) (rD X.K geD):=Kl (λ_ _ _ _=>.bl _) fm
def CQ:D->D->Sto->Res D
 | .int i,.int j,S=>.ok (.int (i+j)) S
 | .tup xs,.tup ys,S=>if xs.length+ys.length<=sizeLine then .ok (.tup (xs++ys)) S else .bad
 | .ref l,.ref b,S=>match S[l]?,S[b]? with
  | some (.lst xs),some (.lst ys)=>if xs.length+ys.length<=sizeLine then .ok (.ref S.length) (S++[.lst (xs++ys)]) else .bad
  | _,_=>.bad
 | _,_,_=>.bad
def fV (K:AA):R2:=λx y H Q=>∃a b xs ys,x=.ref a/\y=.ref b/\H a=some (.tup xs)/\H b=some (.tup ys)/\xs.length+ys.length<=sizeLine /\
 (xs=[]->Q (.ref b) H)/\(ys=[]->Q (.ref a) H)/\(∀p,H p=none->Q (.ref p) (upd H p (.tup (xs++ys))))
theorem Zi:OpR X (DX .Add) (fV X.K):=by
 intro pins s σ H x y v u Q I rx ry h;obtain ⟨a,b,xs,ys,rfl,rfl,ha,hb,hz,q0,q1,q2⟩:=h;cases rx;cases ry;obtain ⟨its,r1,p1,_⟩:=I.tuple (a:=a) (xs:=xs) (.inl (.inl ha));obtain ⟨its2,r2,p2,_⟩:=I.tuple (a:=b) (xs:=ys) (.inl (.inl hb))
 by_cases hx:xs=[]
 ·obtain ⟨⟨cls,dd,data,sl⟩,ho,hc,n,hd⟩:=id p1
  obtain ⟨⟨cls2,dd2,data2,sl2⟩,ho2,hc2,n2,hd2⟩:=id p2;simp only at hc hd hc2 hd2;subst hc hd hc2 hd2;have hi:its=[]:=r1.nil_iff.mpr hx
  exact WT ⟨_,ho,rfl⟩ ⟨_,ho2,rfl⟩ Pi Ur IK Ho (Ha _ _)
   (tuple_addW0 a b its.toArray its2.toArray n n2 dd dd2 sl sl2 (by simp [hi])) ⟨ho,ho2,⟨.ref b,H,I,rfl,q0 hx⟩⟩
 ·exact Zh pins s σ H (.ref a) (.ref b) _ _ Q I rfl rfl ⟨a,b,xs,ys,rfl,rfl,.inl (.inl ha),.inl (.inl hb),hx,hz,q1,λ_ p hp=>q2 p hp⟩
theorem At.nil_of {K:AA} {ρ:List AI} {H:Hp} {xs:List D} {vs:List V} (r:At K ρ H xs vs) (e:vs=[]):xs=[]:=by
 subst e;cases r;rfl
theorem Dx:OpR X (DX .Add) (rD X.K CQ):=(cf.or (Zi.or cc)).imp λx y H Q ⟨ρ,S,a,b,d,S',hs,ra,rb,hm,k⟩=>by
 cases ra with
 | int i=>
  cases rb <;> first | (cases hm;done) | skip
  cases hm;exact .inl ⟨_,_,rfl,rfl,k ρ H _ .refl hs (.int _)⟩
 | @tup xs a1 vs h1 h2=>
  cases rb with
  | @tup ys b1 ws h3 h4=>
   unfold CQ at hm;dsimp only at hm;split at hm
   ·rename_i hz
    cases hm;refine .inr (.inl ⟨_,_,_,_,rfl,rfl,h1,h3,by rw [<-h2.length,<-h4.length];exact hz,λe=>?_,λe=>?_,λp hp=>?_⟩)
    ·rw [h2.nil_of e,Yn] at k
     exact k ρ H _ .refl hs (.tup h3 h4)
    ·rw [h4.nil_of e,Bq] at k
     exact k ρ H _ .refl hs (.tup h1 h2)
    ·obtain ⟨s2,l2⟩:=Fc (ho:=.tup (vs++ws)) hs hp
     exact k ρ _ _ l2 s2 (.tup Be ((h2.append h4).mono l2))
   ·cases hm
  | _=>cases hm
 | @ref n a1 hn=>
  cases rb with
  | @ref m b1 hn'=>
   unfold CQ at hm;dsimp only at hm;split at hm
   ·rename_i xs ys h1 h2
    split at hm
    ·rename_i hz
     cases hm;obtain ⟨vs,e1,r1⟩:=hs.ob _ _ _ h1 hn;obtain ⟨us,e2,r2⟩:=hs.ob _ _ _ h2 hn';refine .inr (.inr ⟨_,_,_,_,rfl,rfl,e1,e2,by rw [<-r1.length,<-r2.length];exact hz,λp hp=>?_⟩);have le:Le X.K ρ H (ρ++[p]) (upd H p (.lst (vs++us))):=Le.alloc hp;obtain ⟨s2,l2,at2⟩:=hs.alloc (ho:=.lst (vs++us)) (o:=.lst (xs++ys)) hp ⟨_,Be,(r1.append r2).mono le⟩;exact k _ _ _ l2 s2 (.ref at2)
    ·cases hm
   ·cases hm
  | _=>cases hm
 | _=>cases hm
def ixD:D->D->Sto->Res D:=λa b S=>match HL a S,b with
 | some ds,.int i=>match atI ds i with
  | some d=>.ok d S
  | none=>.bad
 | _,_=>.bad
theorem aM {K:AA} {ρ:List AI} {H:Hp} {ds:List D} {vs:List V} {i:Int} {d:D} (r:At K ρ H ds vs) (h:atI ds i=some d):∃v,atI vs i=some v/\Bi K ρ H d v:=by
 unfold atI at h ⊢;rw [<-r.length]
 cases hq:ixN ds.length i with
 | none=>rw [hq] at h;cases h
 | some j=>
  rw [hq] at h;exact r.get h
theorem ft:IxR X (rD X.K ixD):=(ix_list.or dB).imp λx y H Q ⟨ρ,S,a,b,d,S',hs,ra,rb,hm,k⟩=>by
 unfold ixD at hm;split at hm
 ·rename_i ds i hq
  split at hm
  ·rename_i d' hd
   cases hm;cases rb;obtain ⟨p,xs,rfl,rr,sq⟩:=Mx hs ra hq;obtain ⟨v,h1,h2⟩:=aM rr hd
   rcases sq with sq | sq
   ·exact .inl ⟨p,xs,_,v,rfl,rfl,sq,h1,k ρ H v .refl hs h2⟩
   ·exact .inr ⟨p,xs,_,v,rfl,rfl,sq,h1,k ρ H v .refl hs h2⟩
  ·cases hm
 ·cases hm
def Iu (neg:Bool) (x y:D) (S:Sto):Res D:=match y with
 | .non=>match x with
  | .non=>.ok (.bl (!neg)) S
  | _=>.ok (.bl neg) S
 | _=>.bad
theorem Su:OpR X (Bd .Is) (rD X.K (Iu false)):=cb.imp λx y H Q ⟨ρ,S,a,b,d,S',hs,ra,rb,hm,k⟩=>by
 cases rb <;> first | (cases hm;done) | skip
 refine ⟨rfl,?_⟩
 cases ra <;> (cases hm;exact k ρ H _ .refl hs (.bl _))
theorem UC:OpR X (Bd .IsNot) (rD X.K (Iu true)):=Zf.imp λx y H Q ⟨ρ,S,a,b,d,S',hs,ra,rb,hm,k⟩=>by
 cases rb <;> first | (cases hm;done) | skip
 refine ⟨rfl,?_⟩
 cases ra <;> (cases hm;exact k ρ H _ .refl hs (.bl _))
end
def mQ (f:List D->Sto->Res D) (m:ML):ME:=λe S=>(m e S).bind λds S1=>okR (f ds S1)
section
variable {X:Cx} {E:EW} {e:Expr} {es:List Expr} {x:Str} {p pos:Pos} {ml:ML} {id T:String} {r:List V->Hp->VK->Prop} {f:List D->Sto->Res D}
def d9 (K:AA) (r:List V->Hp->VK->Prop) (f:List D->Sto->Res D):Prop:=∀ρ H S ds q xs d S' (Q:VK),B8 K ρ S H->At K ρ H ds xs->(SqL K H q xs∨SqT K H q xs)->f ds S=.ok d S' ->
 (∀ρ' H' z,Le K ρ H ρ' H'->B8 K ρ' S' H'->Bi K ρ' H' d z->Q z H')->r [.ref q] H Q
def eD (K:AA) (r:List V->Hp->VK->Prop) (f:List D->Sto->Res D):Prop:=∀ρ H S ds xs d S' (Q:VK),B8 K ρ S H->At K ρ H ds xs->f ds S=.ok d S' ->
 (∀ρ' H' z,Le K ρ H ρ' H'->B8 K ρ' S' H'->Bi K ρ' H' d z->Q z H')->r xs H Q
theorem UT (hc:IF X (.builtin id) r) (hf:d9 X.K r f) (hg:Gl X x) (hm:X.mg x=none) (hv:FW x=some (.builtin id)) (h:GQ X E e ml) (hn:x≠"__name__":=by decide) (hdb:(x==("__debug__" : Str))=false:=by decide)
  (he:AX [e] X.env=(false,B0 e X.env) :: AX [] X.env:=by rfl):GE X E (.Call (.Name x p) [e] [] pos) (mQ f ml):=(Hu hc hg hm hv (FI h He he) hn hdb he rfl).imp λσ H Q ⟨ρ,l,S,hl,hs,hm⟩=>by
 refine ⟨ρ,l,S,hl,hs,hm.seq λds S1 hm ρ1 H1 q xs l1 s1 r1 sq=>?_⟩;obtain ⟨d,S',e,k⟩:=hm.okR
 exact hf ρ1 H1 S1 ds q xs d S' Q s1 r1 sq e λρ' H' z l' s' r'=>k ρ' H' z (l1.trans l') s' r'
theorem UW (hc:IF X (.builtin id) r) (hf:eD X.K r f) (hg:Gl X x) (hm:X.mg x=none) (hv:FW x=some (.builtin id)) (h:GA X E (e :: es) ml) (hn:x≠"__name__":=by decide) (hdb:(x==("__debug__" : Str))=false:=by decide)
  (he:AX (e :: es) X.env=(false,B0 e X.env) :: AX es X.env:=by rfl) (hpl:(Ej pos (AX es X.env)).any (·.1)=false:=by rfl):GE X E (.Call (.Name x p) (e :: es) [] pos) (mQ f ml):=(Hu hc hg hm hv h hn hdb he hpl).imp λσ H Q ⟨ρ,l,S,hl,hs,hm⟩=>by
 refine ⟨ρ,l,S,hl,hs,hm.seq λds S1 hm ρ1 H1 xs l1 s1 r1=>?_⟩;obtain ⟨d,S',e,k⟩:=hm.okR
 exact hf ρ1 H1 S1 ds xs d S' Q s1 r1 e λρ' H' z l' s' r'=>k ρ' H' z (l1.trans l') s' r'
def gK (ds:List D) (S:Sto):Res D:=.ok (.int ds.length) S
theorem bp:d9 X.K (λxs H Q=>∃p ys,xs=[.ref p]/\(SqL X.K H p ys∨SqT X.K H p ys)/\Q (.int ys.length) H) gK:=λρ H S ds q xs d S' Q hs rr sq hm k=>by
 cases hm;exact ⟨q,xs,rfl,sq,k ρ H _ .refl hs (by rw [rr.length];exact .int _)⟩
def PM:List D->Sto->Res D
 | [.int i,.int j],S=>.ok (.int (if j < i then j else i)) S
 | _,_=>.bad
def PN:List D->Sto->Res D
 | [.int i,.int j],S=>.ok (.int (if j > i then j else i)) S
 | _,_=>.bad
theorem aS:eD X.K (λxs H Q=>∃i j,xs=[.int i,.int j]/\Q (.int (if j < i then j else i)) H) PM:=λρ H S ds xs d S' Q hs rr hm k=>by
 unfold PM at hm;split at hm
 ·cases hm
  cases rr with
  | cons a t=>
   cases t with
   | cons b t=>
    cases t;cases a;cases b;exact ⟨_,_,rfl,k ρ H _ .refl hs (.int _)⟩
 ·cases hm
theorem aT:eD X.K (λxs H Q=>∃i j,xs=[.int i,.int j]/\Q (.int (if j > i then j else i)) H) PN:=λρ H S ds xs d S' Q hs rr hm k=>by
 unfold PN at hm;split at hm
 ·cases hm
  cases rr with
  | cons a t=>
   cases t with
   | cons b t=>
    cases t;cases a;cases b;exact ⟨_,_,rfl,k ρ H _ .refl hs (.int _)⟩
 ·cases hm
end
end L2
namespace L2
open PySem PySem.Spec PyProof.Rows
def Dh (X:Cx) (scope:HJ) (N':List Str) (cl:List (Str×AI)) (C:AI) (s₁:AF) (H₁:Hp) (ex:List AI) (pn:List (AI×Obj)):Cx where
 prog:=X.prog
 w:=X.w
 K:=X.K
 mg:=X.mg
 base:=X.base
 A:=X.A
 N:=N'
 s₀:=s₁
 H₀:=H₁
 env:=compEnvC scope cl C X.env
 outer:=X.stack
 stack:=X.stack
 ex:=ex
 fn:=λ_=>false
 calm:=X.calm
 pn:=pn
 xe:=λ_ _=>False
theorem QX {env:Env}:∀(names:List (Str×OR)) (acc:List (Str×AI)),(∀y∈names,y.2=.free->∃c,env.cells.lookup y.1=some c)->(∀n c,acc.lookup n=some c->env.cells.lookup n=some c) ->
  ∃cl,(forIn names acc (λ(x:Str×OR) (cs:List (Str×AI))=>match x with | (name,kind)=>if (kind==HM)=true then do let a <-cellOf env name;pure (GU ((name,a) :: cs)) else pure (GU cs)):Sem (List (Str×AI)))=pure cl /\
   (∀n c,cl.lookup n=some c->env.cells.lookup n=some c)/\(∀n c,acc.lookup n=some c->∃c',cl.lookup n=some c')/\∀y∈names,y.2=.free->∃c,cl.lookup y.1=some c
 | [],acc,_,ha=>⟨acc,rfl,ha,λn c h=>⟨c,h⟩,λ_ h=>nomatch h⟩
 | (n,k) :: r,acc,h,ha=>by
  rw [JC]
  by_cases hk:k=.free
  ·subst hk
   obtain ⟨c,hc⟩:=h (n,.free) A6 rfl
   obtain ⟨cl,e,h1,h2,h3⟩:=QX r ((n,c) :: acc) (λy hy=>h y (Al _ hy)) (λm d hm=>by
    rw [B3] at hm
    cases hq:(m==n) with
    | true=>rw [hq] at hm;cases hm;rw [eq_of_beq hq];exact hc
    | false=>rw [hq] at hm;exact ha m d hm)
   have e0:cellOf env n=pure c:=by unfold cellOf;rw [hc]
   refine ⟨cl,?_,h1,λm d hm=>h2 m (if m==n then c else d) ?_,λy hy hf=>?_⟩
   ·simp only [beq_self_eq_true,if_true,e0,pure_bind]
    exact e
   ·rw [B3]
    cases hq:(m==n) with
    | true=>rfl
    | false=>exact hm
   ·rcases A4.mp hy with rfl | hy
    ·exact h2 n c (by rw [B3,beq_self_eq_true])
    ·exact h3 y hy hf
  ·have hb:(k==HM)=false:=by simpa using hk
   obtain ⟨cl,e,h1,h2,h3⟩:=QX r acc (λy hy=>h y (Al _ hy)) ha;refine ⟨cl,?_,h1,h2,λy hy hf=>?_⟩
   ·simp only [hb,DZ,if_false,pure_bind]
    exact e
   ·rcases A4.mp hy with rfl | hy
    ·exact (hk hf).elim
    ·exact h3 y hy hf
theorem Ue {scope:HJ} {env:Env} (h:∀y∈scope.names,y.2=.free->∃c,env.cells.lookup y.1=some c):∃cl,closureFor scope env=pure cl /\
  (∀n c,cl.lookup n=some c->env.cells.lookup n=some c)/\∀y∈scope.names,y.2=.free->∃c,cl.lookup y.1=some c:=by
 obtain ⟨cl,e,h1,_,h3⟩:=QX scope.names [] h (λn c z=>by simp at z);refine ⟨cl,?_,h1,h3⟩;unfold closureFor;exact (congrArg (λz=>z >>= λcs=>pure cs) e).trans (by rw [pure_bind])
def Tf (X:Cx) (ifs:List Expr) (t:TT):Prop:=
 ∀(pins:List (AI×Obj)) (s:AF) (σ:St) (H:Hp) (Q:Bool->Hp->Prop),Inv X pins σ H s->t σ H Q ->
  Ah (AW X.prog X.w) X.A (forIn ifs true λc r=>if r=true then do let ok <-SI c X.env (B0 c X.env);pure (GU ok) else pure (GU r)) (TP X pins σ Q) X.xe s
theorem XC {X:Cx}:Tf X [] (λ_ H Q=>Q true H):=λpins s σ H Q I h=>wpAny_tests_nil ⟨H,I,h⟩
theorem XB {X:Cx} {c:Expr} {t:TT} (h:PT X c t):Tf X [c] t:=λpins s σ H Q I q=>wpAny_tests_one (h pins s σ H Q I q)
structure KJ (X:Cx) (scope:HJ) (own N':List Str):Prop where
 kind:scope.kind=.function
 nocell:∀y∈scope.names,y.2≠.cell
 names:∀y∈scope.names,y.2=.local->scope.names.lookup y.1=some .local
 free:∀y∈scope.names,y.2=.free->X.env.kindOf y.1=some .cell∨X.env.kindOf y.1=some .free
 len:N'.length=own.length+X.N.length
 up:∀i x,N'[own.length+i]?=some x->Vis (Hm scope X.env) x->X.N[i]?=some x/\Vis X.env.scope x/\((Hm scope X.env).names.lookup x=some .cell∨(Hm scope X.env).names.lookup x=some .free)/\X.env.kindOf x≠some .local
 vis:∀x,((Hm scope X.env).names.lookup x=some .cell∨(Hm scope X.env).names.lookup x=some .free)->(x,HM)∈scope.names
section
variable {X:Cx} {pins:List (AI×Obj)} {σ:St} {H2:Hp} {s2:AF} {scope:HJ} {own N':List Str} {cl:List (Str×AI)} {fp:List AI} {C:AI} {s:AF} {H:Hp}
theorem TW (Sc:KJ X scope own N') (I:Inv X pins σ H2 s2) (hf:∀b∈fp,KI X pins H2 b) (hfl:∀b∈fp,b < s2.heap.objs.size)
  (c1:∀n c,cl.lookup n=some c->X.env.cells.lookup n=some c) (c2:∀y∈scope.names,y.2=.free->∃c,cl.lookup y.1=some c)
  (hC:s2.heap.objs.size<=C) {m:Str->Option AD} (hn:s.heap.Ns C m) (hos:s.os=s2.os) (hg:HG s.gens)
  (u:Un (frs X.stack) fp H2 H s2.heap s.heap) (hok:HOk X.prog X.w H s.heap) (hHC:H C=none) :
  Inv (Dh X scope N' cl C s2 H2 fp (X.pn++pins)) [] (An own.length none++σ) H s:=by
 have cellK:∀x c v,cl.lookup x=some c->s2.heap.IsCell c v->s.heap.IsCell c v:=λx c v e ⟨o,ho,hd⟩=>by
  obtain ⟨sl,q⟩:=u.any ho (I.freeC x c (c1 x c e)) λz=>(hf c z).2.2.2.2.1 x c (c1 x c e) rfl
  exact ⟨_,q,hd⟩
 have ok':(Dh X scope N' cl C s2 H2 fp (X.pn++pins)).Ok:=by
  refine ⟨I.ok.mod,Sc.kind,I.ok.glob,I.ok.blt,hC,λx y c h1 h2=>I.ok.inj x y c (c1 x c h1) (c1 y c h2),λx hx=>?_,λx c z=>?_,I.ok.hd,I.ok.frames,.inl rfl,λb hb=>?_,I.bs,Aq I.ok.bsz I.sz,λb o e hb=>?_,λb hb hb'=>?_,I.stack,I.stkFree⟩
  ·obtain ⟨c,hc⟩:=c2 _ (Sc.vis x hx) rfl
   exact ⟨c,hc⟩
  ·exact absurd (show false=true from z) AR
  ·exact ⟨Ax (Ad (hfl b hb) hC),λx c e=>(hf b hb).2.2.2.2.1 x c (c1 x c e)⟩
  ·obtain ⟨_,_,_,z,_⟩:=hf b hb
   rcases z with z | z
   ·exact I.ok.noex b o e z
   ·exact absurd (Ad (Aa (I.ok.bs b o e).1) z) (Dl _)
  ·obtain ⟨_,z1,z2,_⟩:=hf b hb
   rcases A4.mp (I.stkSub b hb') with e | e
   ·exact z1 e
   ·exact z2 e
 refine ⟨ok',hos,hg,u,⟨m,hn,λi x v e1 e2 e3=>?_⟩,λx c e=>?_,hHC,λx c e=>?_,λp hp=>?_,hok,?_⟩
 ·have hi:own.length<=i:=by
   apply ND
   intro hlt;rw [Ag (by simpa using hlt),Fb,if_pos hlt] at e2;cases e2
  obtain ⟨j,rfl⟩:∃j,i=own.length+j:=⟨i - own.length,by lia⟩
  rw [BI (by simp)] at e2
  have e2':σ[j]?=some (some v):=by simpa using e2
  obtain ⟨n1,n2,n3,n4⟩:=Sc.up j x e1 e3;obtain ⟨m0,hn0,hl⟩:=I.loc;obtain ⟨w',r,lk⟩:=hl j x v n1 e2' n2;refine ⟨w',r,.inr ⟨n3,?_⟩⟩
  rcases lk with ⟨k,_⟩ | ⟨_,c,hc,hcell⟩
  ·exact (n4 k).elim
  ·obtain ⟨c',hc'⟩:=c2 _ (Sc.vis x n3) rfl
   have e:=c1 x c' hc';rw [hc] at e;cases e;exact ⟨c,hc',cellK x c _ hc' hcell⟩
 ·obtain ⟨v,z⟩:=I.cell x c (c1 x c e)
  exact ⟨v,cellK x c v e z⟩
 ·obtain ⟨v,o,ho,hd⟩:=I.cell x c (c1 x c e)
  exact u.free c o ho (I.freeC x c (c1 x c e)) λz=>(hf c z).2.2.2.2.1 x c (c1 x c e) rfl
 ·have hp':p∈X.pn++pins:=by
   have hp:p∈(X.pn++pins)++[]:=hp;rwa [Bq] at hp
  obtain ⟨e,n,ne,nf,d⟩:=I.pin p hp'
  have nfs:p.1∉frs X.stack:=λz=>(A4.mp (I.stkSub _ z)).elim ne nf
  have nfp:p.1∉fp:=λz=>(hf _ z).2.2.2.2.2 p hp' rfl
  exact ⟨u.keep p.1 p.2 e n nfs nfp,u.free p.1 p.2 e n nfp,Ax (Ad (Aa e) hC),nfs,d⟩
 ·show (An own.length none++σ).length=N'.length
  rw [A2,JZ,I.len,Sc.len]
def Wn (k:Nat) (wi:TI) (g:TG) (tc:TT) (te:TE):TE:=λσ H Q=>wi σ H λJ H1=>∀p,H1 p=none->∃W:Nat->Nat->St->Hp->List V->Prop,(∃m,W 0 m (An k none++σ) (upd H1 p (.lst [])) []) /\
 ∀i m σ' H' xs,W i m σ' H' xs->H' p=some (.lst xs)/\((J.stop i H'/\Q (.ref p) H')∨(J.go i H'/\xs.length < sizeLine/\∀x H'',J.yld i H' x H''->g x σ' H'' λσ2 H2=>tc σ2 H2 λb H3=>
  if b=true then te σ2 H3 λy H4=>H4 p=some (.lst xs)/\∃m',m' < m/\W (i+1) m' σ2 (upd H4 p (.lst (xs++[y]))) (xs++[y]) else ∃m',m' < m/\W (i+1) m' σ2 H3 xs))
theorem Vy {X':Cx} {elt target iter:Expr} {ifs:List Expr} {pos:Pos} {J:It} {it p:AI} {tn:Nat->Bk->Prop} {g:TG} {tc:TT} {te:TE} {R:bO->AF->Prop} {Q:Hp->Prop}
  (hc:X'.calm=true) (hx:X'.xe=λ_ _=>False) (T:Qg X'.prog X'.w X'.K target J fp it tn) (hg:PG X' target g) (hif:Tf X' ifs tc) (he:PE X' elt te)
  (W:Nat->Nat->St->Hp->List V->Prop) (turn:∀i m σ' H' xs,W i m σ' H' xs->H' p=some (.lst xs)/\((J.stop i H'/\Q H')∨(J.go i H'/\xs.length < sizeLine/\∀x H'',J.yld i H' x H''->g x σ' H'' λσ2 H2=>tc σ2 H2 λb H3=>
   if b=true then te σ2 H3 λy H4=>H4 p=some (.lst xs)/\∃m',m' < m/\W (i+1) m' σ2 (upd H4 p (.lst (xs++[y]))) (xs++[y]) else ∃m',m' < m/\W (i+1) m' σ2 H3 xs)))
  (fin:∀σ' H' s',Inv X' [] σ' H' s'->Q H'->R (.ok .next) s')
  {m0:Nat} {σ0:St} {H0:Hp} {s0:AF} (I0:Inv X' [] σ0 H0 s0) (st0:tn 0 s0.heap) (f0:∀b∈fp,KI X' [] H0 b) (w0:W 0 m0 σ0 H0 []) :
  Hn (AW X'.prog X'.w) X'.A (.compLoop (.ListComp elt [⟨target,iter,ifs,0⟩] scope pos) 0 (.ref it) (.ref p) X'.env) R s0:=by
 have stat:∀ {H':Hp},(∀b∈fp,H' b=none)->∀b∈fp,KI X' [] H' b:=λhn b hb=>⟨hn b hb,(f0 b hb).2⟩
 refine codeAny_loop rfl (λn s'=>∃i σ' H' xs,Inv X' [] σ' H' s'/\tn i s'.heap/\(∀b∈fp,H' b=none)/\W i n σ' H' xs) (λn s1 hI=>?_) m0 ⟨0,σ0,H0,[],I0,st0,λb hb=>(f0 b hb).1,w0⟩;obtain ⟨i,σ1,H1,xs,I1,st1,fr1,w1⟩:=hI;show Ah _ X'.A ((compTurn (.ListComp elt [⟨target,iter,ifs,0⟩] scope pos) 0 (.ref it) (.ref p) X'.env).onRaise (λx=>do WB x X'.env;theTreesLotGoes x)) _ _ s1;refine wpAny_noted ?_;rw [compTurn_list]
 have up:∀ {α:Type} {t:Sem α} {P:α->AF->Prop} {E:AD->AF->Prop} {s:AF},Ah (AW X'.prog X'.w) X'.A t P X'.xe s->Ah (AW X'.prog X'.w) X'.A t P E s:=λh=>Eh h (λ_ _ z=>z) λ_ _ z=>by rw [hx] at z;exact z.elim
 obtain ⟨hp,hcase⟩:=turn i n σ1 H1 xs w1;refine AB (wpAny_standAt (AB ?_))
 rcases hcase with ⟨stop,q⟩ | ⟨go,hz,step⟩
 ·refine up (thn (T.done X' rfl rfl rfl hc i [] s1 σ1 H1 X'.xe I1 (stat fr1) st1 stop) λr s4 ⟨hr,I4⟩=>?_)
  subst hr;exact AM (fin σ1 H1 s4 I4 q)
 ·refine up (thn (T.item X' rfl rfl rfl hc i [] s1 σ1 H1 X'.xe I1 (stat fr1) st1 go) λr s4 ⟨u,hr,h4⟩=>?_)
  subst hr;refine AB (up (thn h4 λ_ s5 ⟨x,H5,I5,r5,y5,st5,fr5⟩=>?_));have I5':=I5.pinned (stat fr5) (T.obj _ _ st5);refine AB (up (thn (hg _ s5 σ1 H5 x u _ I5' r5 (step x H5 y5)) λ_ s6 ⟨σ6,H6,I6,q6⟩=>?_))
  have WE:∀ {s7:AF} {σ7:St} {H7:Hp} {ys:List V},Inv X' ([]++Nb fp s5.heap) σ7 H7 s7->(∃m',m' < n/\W (i+1) m' σ7 H7 ys)->∃m,m < n/\∃i σ' H' xs,Inv X' [] σ' H' s7/\tn i s7.heap/\(∀b∈fp,H' b=none)/\W i m σ' H' xs:=λ{s7 σ7 H7 ys} I7 ⟨m',hm,w7⟩=>by
   refine ⟨m',hm,i+1,σ7,H7,ys,I7.unpinned,T.keep _ _ _ st5 λb hb o e=>(I7.pin (b,o) (Ay _ (Ay _ (IS hb e)))).1,λb hb=>?_,w7⟩;obtain ⟨o,e,d⟩:=T.obj _ _ st5 b hb;exact (I7.pin (b,o) (Ay _ (Ay _ (IS hb e)))).2.1
  refine AB (up (thn (hif _ s6 σ6 H6 _ I6 q6) λok s7 ⟨H7,I7,q7⟩=>?_))
  cases ok with
  | false=>
   rw [if_neg AR] at q7;exact AM ⟨rfl,WE I7 q7⟩
  | true=>
   rw [if_pos rfl] at q7;refine AB (AB (up (thn (he _ s7 σ6 H7 _ I7 q7) λyv s8 ⟨y,H8,I8,r8,hp8,q8⟩=>?_)));refine AB (up (thn (PL (X:=X') _ s8 σ6 H8 (.ref p) [y] (.ref p) [yv] (λv H9=>v=.non/\H9=upd H8 p (.lst (xs++[y]))) I8 rfl (.cons r8 .nil) ⟨p,xs,y,rfl,rfl,hp8,hz,rfl,rfl⟩) λv9 s9 ⟨v,H9,I9,r9,e9,e10⟩=>?_));subst e10;exact AM (AM ⟨rfl,WE I9 q8⟩)
end
end L2
namespace L2
open PySem PySem.Spec PyProof.Rows
section
variable {X:Cx} {pins:List (AI×Obj)} {σ:St} {H2:Hp} {s2:AF} {scope:HJ} {own N':List Str} {cl:List (Str×AI)} {fp:List AI} {C:AI}
theorem PY {σ':St} {H':Hp} {s':AF} {h':Bk} (I2:Inv X pins σ H2 s2) (J:Inv (Dh X scope N' cl C s2 H2 fp (X.pn++pins)) [] σ' H' s') (hC:s2.heap.objs.size<=C) (hf:∀b∈fp,KI X pins H2 b)
  (sb:EM C s'.heap h'):Inv X pins σ H' { s' with heap:=h' }:=by
 have ne:∀b o,s2.heap.get? b=some o->b≠C:=λb o e=>Ax (Ad (Aa e) hC)
 have jb:Un (frs X.stack) fp H2 H' s2.heap s'.heap:=J.base
 have u:Un (frs X.stack) fp H2 H' s2.heap h':=by
  refine ⟨λb o e n hb hx=>(sb.2 b (ne b o e)).trans (jb.keep b o e n hb hx),λb o e n hb hx=>?_,jb.free,λb o e hx=>?_,jb.tups,jb.frzs,jb.tbls⟩
  ·obtain ⟨sl,q⟩:=jb.slot b o e n hb hx
   exact ⟨sl,(sb.2 b (ne b o e)).trans q⟩
  ·obtain ⟨o',q⟩:=jb.there b o e hx
   exact ⟨o',(sb.2 b (ne b o e)).trans q⟩
 have hHC:H' C=none:=J.free
 have hok:HOk X.prog X.w H' h':=λa o e=>(J.hok a o e).stay (λb u hb q=>(sb.2 b λz=>by
  subst z
  rcases hb with z | z
  ·subst z;rw [hHC] at e;cases e
  ·rw [hHC] at z;cases z).trans q) (λ_ q=>q) λ_ _ q=>q
 exact I2.call' (s':={ s' with heap:=h' }) (ch:=fp) J.os u hok J.bare λb hb=>by
  obtain ⟨_,z1,z2,z3,z4,z5⟩:=hf b hb;exact ⟨z3,z1,z4,z5⟩
variable {elt iter target:Expr} {ifs:List Expr} {pos:Pos} {wi:TI} {g:TG} {tc:TT} {te:TE}
theorem N6 {σ:St} {E:AD->AF->Prop} {Qf:AI->Hp->Prop} {RR:AD->AI->bO->AF->Prop} {it:AI} {J:It} {tn:Nat->Bk->Prop} (hc:X.calm=true) (Sc:KJ X scope own N')
  (hg:∀cl C s₁ H₁ ex pn,PG (Dh X scope N' cl C s₁ H₁ ex pn) target g) (hif:∀cl C s₁ H₁ ex pn,Tf (Dh X scope N' cl C s₁ H₁ ex pn) ifs tc) (he:∀cl C s₁ H₁ ex pn,PE (Dh X scope N' cl C s₁ H₁ ex pn) elt te)
  (c1:∀n c,cl.lookup n=some c->X.env.cells.lookup n=some c) (c2:∀y∈scope.names,y.2=.free->∃c,cl.lookup y.1=some c)
  (I2:Inv X pins σ H2 s2) (T:Qg X.prog X.w X.K target J fp it tn) (st2:tn 0 s2.heap) (f2:∀b∈fp,KI X pins H2 b)
  (q2:∀p,H2 p=none->∃W:Nat->Nat->St->Hp->List V->Prop,(∃m,W 0 m (An own.length none++σ) (upd H2 p (.lst [])) []) /\
   ∀i m σ' H' xs,W i m σ' H' xs->H' p=some (.lst xs)/\((J.stop i H'/\Qf p H')∨(J.go i H'/\xs.length < sizeLine/\∀x H'',J.yld i H' x H''->g x σ' H'' λσ2 H2=>tc σ2 H2 λb H3=>
    if b=true then te σ2 H3 λy H4=>H4 p=some (.lst xs)/\∃m',m' < m/\W (i+1) m' σ2 (upd H4 p (.lst (xs++[y]))) (xs++[y]) else ∃m',m' < m/\W (i+1) m' σ2 H3 xs)))
  (hRR:∀D C σ' H' s',s2.heap.objs.size<=C->Inv (Dh X scope N' cl C s2 H2 fp (X.pn++pins)) [] σ' H' s'->Qf D H'->RR (.ref D) C (.ok .next) s') :
  Ah (AW X.prog X.w) X.A (newList []) (λacc s₃=>Ah (AW X.prog X.w) X.A (newFunctionEnv scope X.env.globals cl [] X.env.qual none .none (some X.env)) (λcenv s₄=>
   Hn (AW X.prog X.w) X.A (.compStart (.ListComp elt [⟨target,iter,ifs,0⟩] scope pos) 0 (.ref it) acc { cenv with scope:=Hm scope X.env }) (RR acc cenv.locals) s₄) E s₃) E s2:=by
 have hfl:∀b∈fp,b < s2.heap.objs.size:=λb hb=>by
  obtain ⟨o,e,_⟩:=T.obj _ _ st2 b hb;exact Aa e
 refine Bj (wpAny_newFunctionEnv Sc.nocell (by intro y hy;simp at hy) (λh₁ hns₁ hsb₁=>?_) Sc.kind);dsimp only at hns₁ hsb₁ ⊢;generalize hH3:s2.heap.push { cls:=.type "list",dict:=none,data:=.seq ([]:List AD).toArray }=H3 at hns₁ hsb₁ ⊢
 have hC:H3.objs.size=s2.heap.objs.size+1:=by rw [<-hH3,HP]
 have hDC:s2.heap.objs.size≠H3.objs.size:=by rw [hC];exact Ax (FE _)
 have hCle:s2.heap.objs.size<=H3.objs.size:=by rw [hC];exact Jy _
 have old:∀b o,s2.heap.get? b=some o->h₁.get? b=some o:=λb o e=>hsb₁.extBut b o (Ax (by rw [hC];exact Ma (Aa e))) (AJ _ (hH3▸AJ _ e))
 have hacc:h₁.get? s2.heap.objs.size=some { cls:=.type "list",dict:=none,data:=.seq ([]:List AD).toArray }:=hsb₁.extBut _ _ hDC (AJ _ (hH3▸Af _ rfl));have hD:H2 s2.heap.objs.size=none:=I2.hok.fresh (AS _);have u:Un (frs X.stack) fp H2 (upd H2 s2.heap.objs.size (.lst [])) s2.heap h₁:=Un.laid old (AS _) hD;have hok:HOk X.prog X.w (upd H2 s2.heap.objs.size (.lst [])) h₁:=I2.hok.laid old (AS _) ⟨EK _,[],0,.nil,hacc⟩
 have hHC:upd H2 s2.heap.objs.size (.lst []) H3.objs.size=none:=by rw [BR (CS hDC)];exact I2.hok.fresh hCle
 obtain ⟨W,⟨m0,w0⟩,turn⟩:=q2 s2.heap.objs.size hD
 have loop:∀s₃:AF,s₃={ s2 with heap:=h₁,toks:=s2.toks+([]:List (Str×AD)).length } ->
   Hn (AW X.prog X.w) X.A (.compLoop (.ListComp elt [⟨target,iter,ifs,0⟩] scope pos) 0 (.ref it) (.ref s2.heap.objs.size) (compEnvC scope cl H3.objs.size X.env))
    (RR (.ref s2.heap.objs.size) H3.objs.size) s₃:=by
  rintro s₃ rfl
  have J0:Inv (Dh X scope N' cl H3.objs.size s2 H2 fp (X.pn++pins)) [] (An own.length none++σ) (upd H2 s2.heap.objs.size (.lst [])) { s2 with heap:=h₁,toks:=s2.toks+([]:List (Str×AD)).length }:=
   TW (s:={ s2 with heap:=h₁,toks:=s2.toks+([]:List (Str×AD)).length }) Sc I2 f2 hfl c1 c2 hCle hns₁ rfl I2.bare u hok hHC
  refine Vy (X':=Dh X scope N' cl H3.objs.size s2 H2 fp (X.pn++pins)) (fp:=fp) (Q:=Qf s2.heap.objs.size) hc rfl T (hg _ _ _ _ _ _) (hif _ _ _ _ _ _) (he _ _ _ _ _ _) W turn (λσ' H' s' J q=>hRR _ _ σ' H' s' hCle J q) J0 (T.keep _ _ _ st2 λb _ o e=>old b o e) (λb hb=>?_) w0;obtain ⟨z0,z1,z2,z3,z4,z5⟩:=f2 b hb;refine ⟨by rw [BR (Ax (hfl b hb))];exact z0,Ax (Ad (hfl b hb) hCle),λz=>?_,.inl hb,λx c e=>z4 x c (c1 x c e),λp hp=>?_⟩
  ·exact (A4.mp (I2.stkSub _ z)).elim z1 z2
  ·have hp:p∈(X.pn++pins)++[]:=hp
   rw [Bq] at hp;exact z5 p hp
 exact codeAny_compStart_list (loop _ rfl) (T.self X.A 0 _ _ _ (T.keep _ _ _ st2 λb _ o e=>old b o e) (loop _ rfl))
theorem ZZ (hc:X.calm=true) (Sc:KJ X scope own N') (hi:PI X target iter wi)
  (hg:∀cl C s₁ H₁ ex pn,PG (Dh X scope N' cl C s₁ H₁ ex pn) target g) (hif:∀cl C s₁ H₁ ex pn,Tf (Dh X scope N' cl C s₁ H₁ ex pn) ifs tc) (he:∀cl C s₁ H₁ ex pn,PE (Dh X scope N' cl C s₁ H₁ ex pn) elt te)
  (hs:∀x,FC iter X.env x=pure x:=by intro _;rfl):PE X (.ListComp elt [⟨target,iter,ifs,0⟩] scope pos) (Wn own.length wi g tc te):=by
 intro pins s σ H Q I h;rw [eval_ListComp];obtain ⟨cl,hclos,c1,c2⟩:=Ue (scope:=scope) (env:=X.env) (λy hy hf=>I.ok.has y.1 (Sc.free y hy hf));refine Uq (use:=none) rfl hs hclos Sc.kind Sc.names (thn (hi pins s σ H _ I h) λv s1 h1=>thn h1 λitv s2 h2=>?_);obtain ⟨it,fp,tn,J,H2,rfl,I2,T,st2,f2,q2⟩:=h2
 refine N6 (Qf:=λp H'=>Q (.ref p) H') (RR:=λacc C=>compPost (AW X.prog X.w) X.A X.xe none (EP X pins σ Q) acc C) hc Sc hg hif he c1 c2 I2 T st2 f2 q2 λD C σ' H' s' hC J q=>?_
 obtain ⟨m,hn,_⟩:=J.loc;exact ⟨m,hn,λh' sb=>⟨.ref D,H',PY I2 J hC f2 sb,rfl,q⟩⟩
theorem ZO {i:Nat} {y:Str} {py spos:Pos} (hc:X.calm=true) (hsw:FV (.ListComp elt [⟨target,iter,ifs,0⟩] scope pos) (some (.Name y py)) spos.line X.env=pure true)
  (hN:X.N.Nodup) (hy:X.N[i]?=some y) (hloc:Loc X.env.scope y) (Sc:KJ X scope own N') (hi:PI X target iter wi)
  (hg:∀cl C s₁ H₁ ex pn,PG (Dh X scope N' cl C s₁ H₁ ex pn) target g) (hif:∀cl C s₁ H₁ ex pn,Tf (Dh X scope N' cl C s₁ H₁ ex pn) ifs tc) (he:∀cl C s₁ H₁ ex pn,PE (Dh X scope N' cl C s₁ H₁ ex pn) elt te)
  (hs:∀x,FC iter X.env x=pure x:=by intro _;rfl) (hf:X.fn y=true∨X.env.scope.names.lookup y=some .local:=by first | exact .inl rfl | exact .inr rfl | assumption) :
  PS X (.Assign [.Name y py] (.ListComp elt [⟨target,iter,ifs,0⟩] scope pos) spos) (bj (Wn own.length wi g tc te) (UY i)):=by
 intro pins s σ H D I h;rw [exec_Assign_Name_used _ _ _ _ hsw];refine AB (wpAny_standAt (AB ?_));show Ah _ X.A (do let _ <-comprehension (.ListComp elt [⟨target,iter,ifs,0⟩] scope pos) scope X.env _ (newList []) false (B0 iter X.env) (some (M6 (.Name y py) X.env))) _ _ s;obtain ⟨cl,hclos,c1,c2⟩:=Ue (scope:=scope) (env:=X.env) (λy hy hf=>I.ok.has y.1 (Sc.free y hy hf))
 refine AB (Eh (Uq (use:=some (M6 (.Name y py) X.env)) (Q:=λ_ s'=>SP X pins D .next s') rfl hs hclos Sc.kind Sc.names
  (thn (hi pins s σ H _ I h) λv s1 h1=>thn h1 λitv s2 h2=>?_)) (λ_ s' hq=>AM (AM hq)) λ_ _ e=>e)
 obtain ⟨it,fp,tn,J,H2,rfl,I2,T,st2,f2,q2⟩:=h2
 refine N6 (Qf:=λp H'=>D.nx (σ.set i (some (.ref p))) H') (RR:=λacc C=>compPost (AW X.prog X.w) X.A X.xe (some (M6 (.Name y py) X.env)) (λ_ s'=>SP X pins D .next s') acc C) hc Sc hg hif he c1 c2 I2 T st2 f2 q2 λA C σ' H' s' hC J q=>?_
 obtain ⟨m,hn,_⟩:=J.loc;have I3:Inv X pins σ H' s':=PY I2 J hC f2 (g9 ..);have hHC:H' C=none:=J.free
 have hcell:∀x c,X.env.cells.lookup x=some c->c≠C:=λx c e z=>by
  obtain ⟨v,q⟩:=I2.cell x c e;exact absurd (Ad q.lt (by rw [z];exact hC)) (Dl _)
 have hloc':C≠X.env.locals:=MZ (Ad I2.lt hC);show Ah _ X.A (M6 (.Name y py) X.env (.ref A)) _ _ s';refine eG (O6 (v:=.ref A) I3 hN hy hloc rfl (λs4 I4 ⟨a,sb,ha⟩=>?_) hf)
 have haC:C≠a:=by
  rcases ha with e | e
  ·rw [e];exact hloc'
  ·exact CS (hcell _ _ e)
 refine ⟨m,hn.sameBut sb haC,λh' sb'=>⟨_,H',?_,q⟩⟩
 refine I4.turned (t':=s4.toks) (it:=C) (λb o hb e=>(sb'.2 b hb).trans e) hHC hloc' (.inr (Aq I2.sz hC)) hcell λp hp z=>?_
 exact absurd (Ad (Aa (I2.pin p hp).1) (by rw [z];exact hC)) (Dl _)
end
def GZ (v:Hk) (g:MG) (c:MT) (m:ME):Nat->Nat->Lo->Sto->List D->Res (List D)
 | k,i,e,S,acc=>match v S with
  | none=>.bad
  | some ds=>match ds[i]? with
   | none=>.ok acc S
   | some d=>match k with
    | 0=>.bad
    | k+1=>if acc.length < sizeLine then (okR (g d e S)).bind λe1 S1=>(okR (c e1 S1)).bind λb S2=>if b=true then (okR (m e1 S2)).bind λy S3=>GZ v g c m k (i+1) e1 S3 (acc++[y]) else GZ v g c m k (i+1) e1 S2 acc else .bad
def GX (n:Nat) (mi:MI) (g:MG) (c:MT) (m:ME):ML:=λe S=>(mi e S).bind λv S1=>GZ v g c m (CY v S1) 0 (An n none++e) S1 []
def E7:MT:=λ_ S=>.ok true S
section
variable {X:Cx} {E:EW} {scope:HJ} {own N':List Str} {elt iter target:Expr} {ifs:List Expr} {pos:Pos} {mi:MI} {g:MG} {c:MT} {m:ME}
abbrev aV (X:Cx) (E:EW) (ifs:List Expr) (c:MT):Prop:=Tf X ifs (gT X.K E c)
theorem G5:aV X E [] E7:=λpins s σ H Q I ⟨ρ,l,S,hl,hs,hm⟩=>by
 exact XC pins s σ H Q I (hm ρ H .refl hs)
theorem X5 {e:Expr} (h:GT X E e c):aV X E [e] c:=XB h
theorem E4.grow {K:AA} {ρ:List AI} {H:Hp} {e:Lo} {σ:St} (n:Nat) (h:E4 K ρ H e σ):E4 K ρ H (An n none++e) (An n none++σ):=by
 refine ⟨by simp [h.len],λi d q=>?_⟩
 by_cases hi:i < n
 ·rw [Ag (by simpa using hi),Fb,if_pos hi] at q
  cases q
 ·rw [BI (by simpa using hi)] at q ⊢
  simp only [JZ] at q ⊢;exact h.at' _ d q
theorem Bv.ok_of {α:Type} {K:AA} {E:EH} {ρ:List AI} {H:Hp} {r:Res α} {k:α->Sto->Prop} {a:α} {S:Sto} (e:r=.ok a S) (h:k a S):Bv K E ρ H r k:=by
 subst e;exact h
theorem Nh {α β:Type} {r:Res α} {F:α->Sto->Res β} {b:β} {S:Sto} (h:(okR r).bind F=.ok b S):∃a S1,r=.ok a S1/\F a S1=.ok b S:=by
 cases r with
 | ok a S1=>exact ⟨a,S1,rfl,h⟩
 | err c S1=>cases h
 | bad=>cases h
theorem Rx {v:Hk} {g:MG} {c:MT} {m:ME} {er:AI} {S':Sto}:∀(k i:Nat) (e:Lo) (S:Sto) (acc:List D),GZ v g c m k i e S acc≠.err er S':=by
 intro k
 induction k with
 | zero=>
  intro i e S acc h;unfold GZ at h;split at h
  ·cases h
  ·split at h <;> cases h
 | succ k ih=>
  intro i e S acc h;unfold GZ at h;split at h
  ·cases h
  ·split at h
   ·cases h
   ·dsimp only at h
    split at h
    ·cases h1:g _ e S with
     | ok e1 S1=>
      rw [h1] at h;dsimp only [okR,Res.bind] at h
      cases h2:c e1 S1 with
      | ok b S2=>
       rw [h2] at h;dsimp only [okR,Res.bind] at h
       cases b with
       | true=>
        rw [if_pos rfl] at h
        cases h3:m e1 S2 with
        | ok y S3=>rw [h3] at h;exact ih _ _ _ _ h
        | err _ _=>rw [h3] at h;cases h
        | bad=>rw [h3] at h;cases h
       | false=>
        rw [if_neg AR] at h;exact ih _ _ _ _ h
      | err _ _=>rw [h2] at h;cases h
      | bad=>rw [h2] at h;cases h
     | err _ _=>rw [h1] at h;cases h
     | bad=>rw [h1] at h;cases h
    ·cases h
theorem RD {K:AA} {n:Nat} {σ:St} {H:Hp} {Q:VK} (h:gL K E (GX n mi g c m) σ H Q):Wn n (gI K E mi) (gG K g) (gT K noE c) (gE K noE m) σ H Q:=by
 obtain ⟨ρ,l,S,hl,hs,hm⟩:=h;refine ⟨ρ,l,S,hl,hs,hm.seq λv S1 hm ρ1 H1 J l1 s1 vo p hp=>?_⟩
 obtain ⟨ds,S',hm,k⟩:∃ds S',GZ v g c m (CY v S1) 0 (An n none++l) S1 []=.ok ds S'/\∀ρ' H' p xs,Le K ρ H ρ' H'->B8 K ρ' S' H'->At K ρ' H' ds xs->H' p=some (.lst xs)->(∀n:Nat,ρ'[n]?≠some p)->H p=none->Q (.ref p) H':=by
  cases hc:GZ v g c m (CY v S1) 0 (An n none++l) S1 [] with
  | ok ds S'=>rw [hc] at hm;exact ⟨ds,S',rfl,hm⟩
  | err c S'=>exact (Rx _ _ _ _ _ hc).elim
  | bad=>rw [hc] at hm;exact hm.elim
 obtain ⟨s1',l1'⟩:=Fc (ho:=.lst []) s1 hp;have hp0:H p=none:=l1.back hs s1 hp
 refine ⟨λi j σ2 H2 xs=>∃ρ2 e2 S2 acc,Le K ρ1 H1 ρ2 H2/\E4 K ρ2 H2 e2 σ2/\B8 K ρ2 S2 H2/\At K ρ2 H2 acc xs/\H2 p=some (.lst xs)/\(∀q:Nat,ρ2[q]?≠some p)/\GZ v g c m j i e2 S2 acc=.ok ds S',
  ⟨CY v S1,ρ1,_,S1,[],l1',(hl.mono (l1.trans l1')).grow n,s1',.nil,Be,λq e=>s1.notIn hp e,hm⟩,?_⟩
 rintro i j σ2 H2 xs ⟨ρ2,e2,S2,acc,l2,r2,s2,ra,hp2,hn2,hm2⟩;refine ⟨hp2,?_⟩;unfold GZ at hm2
 cases hv:v S2 with
 | none=>rw [hv] at hm2;cases hm2
 | some vs=>
  rw [hv] at hm2;dsimp only at hm2;obtain ⟨v1,v2⟩:=vo ρ2 H2 S2 vs i l2 s2 hv
  cases hd:vs[i]? with
  | none=>
   rw [hd] at hm2;cases hm2;exact .inl ⟨v1 hd,k ρ2 H2 p xs (l1.trans l2) s2 ra hp2 hn2 hp0⟩
  | some d=>
   rw [hd] at hm2;dsimp only at hm2;obtain ⟨go,yl⟩:=v2 d hd
   cases j with
   | zero=>cases hm2
   | succ j=>
    dsimp only at hm2;split at hm2
    ·rename_i hz
     obtain ⟨e3,S3,h3,hm2⟩:=Nh hm2;obtain ⟨b,S4,h4,hm2⟩:=Nh hm2;refine .inr ⟨go,by rw [<-ra.length];exact hz,λx H' y=>?_⟩;obtain ⟨ρ3,l3,s3,rd⟩:=yl x H' y;obtain ⟨hp3,hn3⟩:=l3.oth p _ hp2 hn2;refine ⟨ρ3,e2,S2,d,rd,r2.mono l3,s3,Bv.ok_of h3 λρ4 H4 σ4 l4 s4 r4=>?_⟩;obtain ⟨hp4,hn4⟩:=l4.oth p _ hp3 hn3;refine ⟨ρ4,e3,S3,r4,s4,Bv.ok_of h4 λρ5 H5 l5 s5=>?_⟩;obtain ⟨hp5,hn5⟩:=l5.oth p _ hp4 hn4
     cases b with
     | false=>
      rw [if_neg AR] at hm2 ⊢;exact ⟨j,FE j,ρ5,e3,S4,acc,l2.trans (l3.trans (l4.trans l5)),r4.mono l5,s5,ra.mono (l3.trans (l4.trans l5)),hp5,hn5,hm2⟩
     | true=>
      rw [if_pos rfl] at hm2 ⊢;obtain ⟨yv,S5,h5,hm2⟩:=Nh hm2;refine ⟨ρ5,e3,S4,r4.mono l5,s5,Bv.ok_of h5 λρ6 H6 y6 l6 s6 r6=>?_⟩;obtain ⟨hp6,hn6⟩:=l6.oth p _ hp5 hn5
      have l7:∀xs',Le K ρ6 H6 ρ6 (upd H6 p (.lst xs'))->True:=λ_ _=>trivial
      have up7:∀xs':List V,B8 K ρ6 S5 (upd H6 p (.lst xs'))/\(∀a o,E8 K ρ6 H6 a o->a≠p->E8 K ρ6 (upd H6 p (.lst xs')) a o)/\∀e' w',Bi K ρ6 H6 e' w'->Bi K ρ6 (upd H6 p (.lst xs')) e' w':=λxs'=>by
       have kk:=Fh (H:=H6) (p:=p) (ho:=.lst xs') (.inr (by rw [hp6];trivial))
       have mono:∀e' w',Bi K ρ6 H6 e' w'->Bi K ρ6 (upd H6 p (.lst xs')) e' w':=λe' w' r=>r.keep kk.1 kk.2
       have mob:∀a o,E8 K ρ6 H6 a o->a≠p->E8 K ρ6 (upd H6 p (.lst xs')) a o:=λa o r ne=>r.keep kk.1 kk.2 (BR ne)
       exact ⟨⟨s6.len,s6.nd,λn o a q1 q2=>mob a o (s6.ob n o a q1 q2) λz=>hn6 n (by rw [<-z];exact q2)⟩,mob,mono⟩
      obtain ⟨u1,u2,u3⟩:=up7 (xs++[y6]);refine ⟨hp6,j,FE j,ρ6,e3,S5,acc++[yv],?_,?_,u1,?_,Be,hn6,hm2⟩
      ·have lx:=l2.trans (l3.trans (l4.trans (l5.trans l6)))
       have kk:=Fh (H:=H6) (p:=p) (ho:=.lst (xs++[y6])) (.inr (by rw [hp6];trivial))
       exact ⟨lx.pre,λa zs q=>kk.1 a zs (lx.tup a zs q),λa o u q=>kk.2 a o u (lx.frz a o u q),λa o q z=>by
        have nap:a≠p:=Bh q hp;obtain ⟨z1,z2⟩:=lx.oth a o q z
        exact ⟨by rw [BR nap];exact z1,z2⟩⟩
      ·have rr:=r4.mono (l5.trans l6)
       exact ⟨rr.len,λq d' hq=>by
        obtain ⟨w',z1,z2⟩:=rr.at' q d' hq
        exact ⟨w',z1,u3 _ _ z2⟩⟩
      ·have ra6:=ra.mono (l3.trans (l4.trans (l5.trans l6)))
       have kk:=Fh (H:=H6) (p:=p) (ho:=.lst (xs++[y6])) (.inr (by rw [hp6];trivial));exact (ra6.keep kk.1 kk.2).append (.cons (u3 _ _ r6) .nil)
    ·cases hm2
theorem Jd (hc:X.calm=true) (Sc:KJ X scope own N') (hi:GI X E target iter mi)
  (hg:∀cl C s₁ H₁ ex pn,GG (Dh X scope N' cl C s₁ H₁ ex pn) target g) (hif:∀cl C s₁ H₁ ex pn,aV (Dh X scope N' cl C s₁ H₁ ex pn) noE ifs c) (he:∀cl C s₁ H₁ ex pn,GE (Dh X scope N' cl C s₁ H₁ ex pn) noE elt m)
  (hs:∀x,FC iter X.env x=pure x:=by intro _;rfl):GL X E (.ListComp elt [⟨target,iter,ifs,0⟩] scope pos) (GX own.length mi g c m):=
 (ZZ (g:=gG X.K g) (tc:=gT X.K noE c) (te:=gE X.K noE m) hc Sc hi hg hif he hs).imp λ_ _ _ h=>RD h
theorem UQ {i:Nat} {y:Str} {py spos:Pos} (hc:X.calm=true) (hsw:FV (.ListComp elt [⟨target,iter,ifs,0⟩] scope pos) (some (.Name y py)) spos.line X.env=pure true)
  (hN:X.N.Nodup) (hy:X.N[i]?=some y) (hloc:Loc X.env.scope y) (Sc:KJ X scope own N') (hi:GI X E target iter mi)
  (hg:∀cl C s₁ H₁ ex pn,GG (Dh X scope N' cl C s₁ H₁ ex pn) target g) (hif:∀cl C s₁ H₁ ex pn,aV (Dh X scope N' cl C s₁ H₁ ex pn) noE ifs c) (he:∀cl C s₁ H₁ ex pn,GE (Dh X scope N' cl C s₁ H₁ ex pn) noE elt m)
  (hs:∀x,FC iter X.env x=pure x:=by intro _;rfl) (hf:X.fn y=true∨X.env.scope.names.lookup y=some .local:=by first | exact .inl rfl | exact .inr rfl | assumption) :
  GS X E (.Assign [.Name y py] (.ListComp elt [⟨target,iter,ifs,0⟩] scope pos) spos) (Bp i (Ce (GX own.length mi g c m))):=by
 refine (ZO (g:=gG X.K g) (tc:=gT X.K noE c) (te:=gE X.K noE m) hc hsw hN hy hloc Sc hi hg hif he hs hf).imp λD σ H ⟨ρ,l,S,hl,hs,hm⟩=>?_
 refine RD (E:=E) (Q:=λx H'=>D.nx (σ.set i (some x)) H') ⟨ρ,l,S,hl,hs,Bv.seq (F:=λds S1=>Res.ok (L2.D.ref S1.length) (S1++[Ob.lst ds])) (k:=λd S2=>Bv X.K noH ρ H ((tgN i d l S2).bind λe1 S2=>.ok (.nx e1) S2) λfl S'=>QR X.K E ρ H S' D fl) (Bv.lift hm hl .refl λd S2 h=>h) λds S1 hm ρ1 H1 p xs l1 s1 r1 hp hn hp0=>?_⟩
 have l0:∀(n:Nat) a,ρ1[n]?=some a->(ρ1++[p])[n]?=some a:=λn a h=>by rw [Ag (AG.mp h).1];exact h
 obtain ⟨s2,at2⟩:=s1.adopt (o:=.lst ds) hn ⟨xs,hp,r1.more l0⟩
 have l2:Le X.K ρ H (ρ1++[p]) H1:=⟨λn a h=>l0 n a (l1.pre n a h),l1.tup,l1.frz,λa o e h=>⟨(l1.oth a o e h).1,λn q=>by
  rcases G6 q with ⟨q,_⟩ | ⟨_,q⟩
  ·exact (l1.oth a o e h).2 n q
  ·exact Bh e hp0 q⟩⟩
 exact hm _ _ _ l2 s2 ((hl.mono l2).set (.ref at2) i)
end
end L2
namespace L2
open PySem PySem.Spec PyProof.Rows PySem.SeqAt
def Lp:D->D->Option Bool
 | .non,.non=>some true
 | .bl a,.bl b=>some (a==b)
 | .int a,.int b=>some (a==b)
 | .str a,.str b=>some (a==b)
 | .non,.int _=>some false
 | .non,.str _=>some false
 | .non,.bl _=>some false
 | .non,.tup _=>some false
 | .int _,.non=>some false
 | .str _,.non=>some false
 | .bl _,.non=>some false
 | .tup _,.non=>some false
 | .int _,.tup _=>some false
 | .tup _,.int _=>some false
 | _,_=>none
def eqL (f:D->D->Option Bool):List D->List D->Option Bool
 | [],[]=>some true
 | [],_ :: _=>some false
 | _ :: _,[]=>some false
 | x :: xs,y :: ys=>match f x y,eqL f xs ys with
  | some a,some b=>some (a&&b)
  | _,_=>none
def eqP:Nat->D->D->Option Bool
 | 0,x,y=>Lp x y
 | n+1,x,y=>match x,y with
  | .tup xs,.tup ys=>eqL (eqP n) xs ys
  | x,y=>Lp x y
theorem JQ {f:D->D->Option Bool} {x y:D} {xs ys:List D} {b:Bool} (h:eqL f (x :: xs) (y :: ys)=some b):∃a c,f x y=some a/\eqL f xs ys=some c/\b=(a&&c):=by
 unfold eqL at h;split at h
 ·rename_i a c h1 h2
  cases h;exact ⟨a,c,h1,h2,rfl⟩
 ·cases h
theorem QS {f:D->D->Option Bool}:∀ {xs ys:List D} {b:Bool},eqL f xs ys=some b->(∀(j:Nat) x y,xs[j]?=some x->ys[j]?=some y->∃c,f x y=some c) /\
  b=((Ac (min xs.length ys.length)).all (λj=>match xs[j]?,ys[j]? with | some x,some y=>(f x y).getD false | _,_=>false)&&xs.length==ys.length)
 | [],[],b,h=>by cases h;exact ⟨λj x y h=>by simp at h,by simp⟩
 | [],y :: ys,b,h=>by cases h;exact ⟨λj x y h=>by simp at h,by simp⟩
 | x :: xs,[],b,h=>by cases h;exact ⟨λj x y _ h=>by simp at h,by simp⟩
 | x :: xs,y :: ys,b,h=>by
  obtain ⟨a,c,h1,h2,rfl⟩:=JQ h;obtain ⟨i1,i2⟩:=QS h2;refine ⟨λj x' y' e1 e2=>?_,?_⟩
  ·cases j with
   | zero=>simp at e1 e2;subst e1;subst e2;exact ⟨a,h1⟩
   | succ j=>exact i1 j x' y' (by simpa using e1) (by simpa using e2)
  ·rw [i2,BA,BA,show min (xs.length+1) (ys.length+1)=min xs.length ys.length+1 by lia,Fs,List.all_cons,eS]
   simp only [List.getElem?_cons_zero,h1,Lv,SV,List.getElem?_cons_succ];rw [Bool.and_assoc]
   congr 1
   congr 1
   rw [OJ];simp
section
variable {K:AA} {ρ:List AI} {H:Hp}
theorem UZ (n k:Nat) (y:D):eqP n (.ref k) y=none:=by cases n <;> cases y <;> rfl
theorem Ua (n:Nat) (ds:List D) (y:D):eqP n (.fro ds) y=none:=by cases n <;> cases y <;> rfl
theorem Ub (n:Nat) (c:AI) (y:D):eqP n (.exc c) y=none:=by cases n <;> cases y <;> rfl
theorem Kf {x x':D} {v:V} (r1:Bi K ρ H x v) (r2:Bi K ρ H x' v):x=x'∨(∃ds ds' vs,x=.tup ds/\x'=.tup ds'/\At K ρ H ds vs/\At K ρ H ds' vs)∨(∀n y,eqP n x y=none)∨∀n y,eqP n x' y=none:=by
 cases r1 with
 | non=>cases r2;exact .inl rfl
 | bl b=>cases r2;exact .inl rfl
 | int b=>cases r2;exact .inl rfl
 | str b=>cases r2;exact .inl rfl
 | fro _ _=>exact .inr (.inr (.inl λn y=>Ua n _ y))
 | ref _=>exact .inr (.inr (.inl λn y=>UZ n _ y))
 | exc _ _=>exact .inr (.inr (.inl λn y=>Ub n _ y))
 | tup u1 u2=>
  cases r2 with
  | fro _ _=>exact .inr (.inr (.inr λn y=>Ua n _ y))
  | ref _=>exact .inr (.inr (.inr λn y=>UZ n _ y))
  | exc _ _=>exact .inr (.inr (.inr λn y=>Ub n _ y))
  | tup w1 w2=>
   rw [u1] at w1;cases w1;exact .inr (.inl ⟨_,_,_,rfl,rfl,u2,w2⟩)
theorem Z9:∀(n:Nat) {x x' y:D} {v:V} {b b':Bool},Bi K ρ H x v->Bi K ρ H x' v->eqP n x y=some b->eqP n x' y=some b'->b=b':=by
 intro n
 induction n with
 | zero=>
  intro x x' y v b b' r1 r2 h h'
  rcases Kf r1 r2 with rfl | ⟨ds,ds',vs,rfl,rfl,_,_⟩ | q | q
  ·rw [h] at h';cases h';rfl
  ·have:eqP 0 (.tup ds) y=eqP 0 (.tup ds') y:=by cases y <;> rfl
   rw [<-this,h] at h';cases h';rfl
  ·rw [q] at h;cases h
  ·rw [q] at h';cases h'
 | succ n ih=>
  intro x x' y v b b' r1 r2 h h'
  have lists:∀ {xs:List D} {vs:List V} {xs' ys:List D} {b b':Bool},At K ρ H xs vs->At K ρ H xs' vs->eqL (eqP n) xs ys=some b->eqL (eqP n) xs' ys=some b'->b=b':=by
   intro xs
   induction xs with
   | nil=>
    intro vs xs' ys b b' q1 q2 g g';cases q1;cases q2;rw [g] at g';cases g';rfl
   | cons d ds ihl=>
    intro vs xs' ys b b' q1 q2 g g'
    cases q1 with
    | cons a1 a2=>
     cases q2 with
     | cons c1 c2=>
      cases ys with
      | nil=>cases g;cases g';rfl
      | cons y ys=>
       obtain ⟨p,q,g1,g2,rfl⟩:=JQ g;obtain ⟨p',q',g1',g2',rfl⟩:=JQ g';rw [ih a1 c1 g1 g1',ihl a2 c2 g2 g2']
  rcases Kf r1 r2 with rfl | ⟨ds,ds',vs,rfl,rfl,q1,q2⟩ | q | q
  ·rw [h] at h';cases h';rfl
  ·by_cases c:∃ys,y=.tup ys
   ·obtain ⟨ys,rfl⟩:=c
    exact lists q1 q2 h h'
   ·have:eqP (n+1) (.tup ds) y=eqP (n+1) (.tup ds') y:=by
     cases y <;> first | rfl | exact (c ⟨_,rfl⟩).elim
    rw [<-this,h] at h';cases h';rfl
  ·rw [q] at h;cases h
  ·rw [q] at h';cases h'
theorem D8 {x:D} {b:Bool} (h:Lp x x=some b):b=true:=by
 cases x <;> first | (cases h;done) | (cases h;simp)
theorem N1:∀(n:Nat) {x:D} {b:Bool},eqP n x x=some b->b=true
 | 0,_,_,h=>D8 h
 | n+1,x,b,h=>by
  have lists:∀ {xs:List D} {b:Bool},eqL (eqP n) xs xs=some b->b=true:=by
   intro xs
   induction xs with
   | nil=>intro b g;cases g;rfl
   | cons d ds ih=>
    intro b g;obtain ⟨p,q,g1,g2,rfl⟩:=JQ g;rw [N1 n g1,ih g2];rfl
  cases x with
  | tup xs=>exact lists h
  | non=>exact D8 (x:=.non) h
  | bl c=>exact D8 (x:=.bl c) h
  | int c=>exact D8 (x:=.int c) h
  | str c=>exact D8 (x:=.str c) h
  | ref c=>exact D8 (x:=.ref c) h
  | fro c=>exact D8 (x:=.fro c) h
  | exc c=>exact D8 (x:=.exc c) h
theorem Jh {x y:D} (hy:(∃f,y=.fro f)∨(∃r,y=.ref r)∨∃c,y=.exc c) (n:Nat):eqP n x y=none:=by
 rcases hy with ⟨f,rfl⟩ | ⟨r,rfl⟩ | ⟨c,rfl⟩ <;> (cases n <;> cases x <;> rfl)
theorem YH (n:Nat) {x y:D} {v:V} {b:Bool} (h1:Bi K ρ H x v) (h2:Bi K ρ H y v) (h:eqP n x y=some b):b=true:=by
 induction n generalizing x y v b with
 | zero=>
  rcases Kf h1 h2 with rfl | ⟨ds,ds',vs,rfl,rfl,_,_⟩ | q | q
  ·exact N1 0 h
  ·cases h
  ·rw [q] at h;cases h
  ·cases h2 with
   | fro _ _=>rw [Jh (.inl ⟨_,rfl⟩)] at h;cases h
   | ref _=>rw [Jh (.inr (.inl ⟨_,rfl⟩))] at h;cases h
   | exc _ _=>rw [Jh (.inr (.inr ⟨_,rfl⟩))] at h;cases h
   | non=>cases (q 0 .non)
   | bl b=>cases (q 0 (.bl b))
   | int b=>cases (q 0 (.int b))
   | str b=>cases (q 0 (.str b))
   | tup _ _=>cases (q 0 .non)
 | succ n ih=>
  have lists:∀ {xs ys:List D} {vs:List V} {b:Bool},At K ρ H xs vs->At K ρ H ys vs->eqL (eqP n) xs ys=some b->b=true:=by
   intro xs
   induction xs with
   | nil=>intro ys vs b q1 q2 g;cases q1;cases q2;cases g;rfl
   | cons d ds ihl=>
    intro ys vs b q1 q2 g
    cases q1 with
    | cons a1 a2=>
     cases q2 with
     | cons c1 c2=>
      obtain ⟨p,q,g1,g2,rfl⟩:=JQ g;rw [ih a1 c1 g1,ihl a2 c2 g2];rfl
  rcases Kf h1 h2 with rfl | ⟨ds,ds',vs,rfl,rfl,q1,q2⟩ | q | q
  ·exact N1 (n+1) h
  ·exact lists q1 q2 h
  ·rw [q] at h;cases h
  ·cases h2 with
   | fro _ _=>rw [Jh (.inl ⟨_,rfl⟩)] at h;cases h
   | ref _=>rw [Jh (.inr (.inl ⟨_,rfl⟩))] at h;cases h
   | exc _ _=>rw [Jh (.inr (.inr ⟨_,rfl⟩))] at h;cases h
   | non=>cases (q 0 .non)
   | bl b=>cases (q 0 (.bl b))
   | int b=>cases (q 0 (.int b))
   | str b=>cases (q 0 (.str b))
   | tup _ _=>cases (q 0 .non)
end
section
variable {X:Cx} {pins:List (AI×Obj)} {σ:St} {H:Hp} {s:AF} {ρ:List AI}
theorem EO (A:A8):A.in1.units=A.units+1:=rfl
theorem BU.at_ {vs:List V} {its:List AD} (r:BU vs its) {j:Nat} (h:j < its.toArray.size):∃v,vs[j]?=some v/\RelV v its.toArray[j]:=by
 have hj:j < its.length:=by simpa using h
 have hv:j < vs.length:=by rw [r.length];exact hj
 obtain ⟨u,h1,h2⟩:=r.get (i:=j) (x:=vs[j]) (by simp [hv]);refine ⟨vs[j],by simp [hv],?_⟩
 have:its.toArray[j]=u:=by
  have:=AG.mp h1;obtain ⟨_,e⟩:=this;simpa using e
 rw [this];exact h2
theorem P0 {n:Nat} {A:A8} (ih:∀(x y:D) (b:Bool) (xv yv:V) (u v:AD),eqP n x y=some b->Bi X.K ρ H x xv->Bi X.K ρ H y yv->RelV xv u->RelV yv v->EqAt A s u v b)
  {xs ys:List D} {vs ws:List V} {us zs:List AD} {b:Bool} (h:eqL (eqP n) xs ys=some b) (r1:At X.K ρ H xs vs) (r2:At X.K ρ H ys ws) (q1:BU vs us) (q2:BU ws zs) :
  ∃e:Nat->Bool,(∀j (h1:j < us.toArray.size) (h2:j < zs.toArray.size),EqAt A s us.toArray[j] zs.toArray[j] (e j))/\b=((Ac (min us.toArray.size zs.toArray.size)).all e&&us.toArray.size==zs.toArray.size):=by
 obtain ⟨i1,i2⟩:=QS h;refine ⟨λj=>match xs[j]?,ys[j]? with | some x,some y=>(eqP n x y).getD false | _,_=>false,λj h1 h2=>?_,?_⟩
 ·obtain ⟨v,e1,rv⟩:=BU.at_ q1 h1
  obtain ⟨w,e2,rw'⟩:=BU.at_ q2 h2;obtain ⟨x,e3,rx⟩:=r1.get' e1;obtain ⟨y,e4,ry⟩:=r2.get' e2;obtain ⟨c,hc⟩:=i1 j x y e3 e4;have:=ih x y c v w _ _ hc rx ry rv rw';simp only [e3,e4,hc,Lv];exact this
 ·rw [i2,r1.length,r2.length,q1.length,q2.length]
  simp
theorem Ln {A:A8} {x y:D} {b:Bool} {xv yv:V} {u v:AD} (I:Inv X pins σ H s) (hu:A.units < D3) (h:Lp x y=some b) (r1:Bi X.K ρ H x xv) (r2:Bi X.K ρ H y yv) (q1:RelV xv u) (q2:RelV yv v) :
  EqAt A s u v b/\RcAt A s u v b/\RcNeAt A s u v (!b):=by
 cases r1 with
 | non=>
  cases q1
  cases r2 with
  | non=>cases q2;cases h;exact ⟨EqAt.same _,RcAt.none_none,RcNeAt.none_none⟩
  | bl c=>cases q2;cases h;exact ⟨EqAt.none_bool _,RcAt.none_bool _,RcNeAt.none_bool _⟩
  | int i=>obtain ⟨t,rfl⟩:=q2;cases h;exact ⟨EqAt.none_int _ _,RcAt.none_int _ _,RcNeAt.none_int _ _⟩
  | str z=>obtain ⟨t,rfl⟩:=q2;cases h;exact ⟨EqAt.none_str _ _,RcAt.none_str _ _,RcNeAt.none_str _ _⟩
  | tup a1 a2=>
   cases q2;cases h;obtain ⟨its,_,p,_⟩:=I.tuple (.inl (.inl a1));exact ⟨EqAt.none_tuple p hu,RcAt.none_tuple p hu,RcNeAt.none_tuple p hu⟩
  | _=>cases h
 | bl a=>
  cases q1
  cases r2 with
  | non=>cases q2;cases h;exact ⟨EqAt.bool_none _,RcAt.bool_none _,RcNeAt.bool_none _⟩
  | bl c=>cases q2;cases h;exact ⟨EqAt.bool_bool _ _,RcAt.bool_bool _ _,RcNeAt.bool_bool _ _⟩
  | _=>cases h
 | int a=>
  obtain ⟨t,rfl⟩:=q1
  cases r2 with
  | non=>cases q2;cases h;exact ⟨EqAt.int_none _ _,RcAt.int_none _ _,RcNeAt.int_none _ _⟩
  | int i=>obtain ⟨t',rfl⟩:=q2;cases h;exact ⟨EqAt.int_int _ _ _ _,RcAt.int_int _ _ _ _,RcNeAt.int_int _ _ _ _⟩
  | tup a1 a2=>
   cases q2;cases h;obtain ⟨its,_,p,_⟩:=I.tuple (.inl (.inl a1));exact ⟨EqAt.int_tuple _ _ p hu,RcAt.int_tuple _ _ p hu,RcNeAt.int_tuple _ _ p hu⟩
  | _=>cases h
 | str a=>
  obtain ⟨t,rfl⟩:=q1
  cases r2 with
  | non=>cases q2;cases h;exact ⟨EqAt.str_none _ _,RcAt.str_none _ _,RcNeAt.str_none _ _⟩
  | str i=>obtain ⟨t',rfl⟩:=q2;cases h;exact ⟨EqAt.str_str _ _ _ _,RcAt.str_str _ _ _ _,RcNeAt.str_str _ _ _ _⟩
  | _=>cases h
 | tup a1 a2=>
  cases q1;obtain ⟨its,_,p,_⟩:=I.tuple (.inl (.inl a1))
  cases r2 with
  | non=>cases q2;cases h;exact ⟨EqAt.tuple_none p hu,RcAt.tuple_none p hu,RcNeAt.tuple_none p hu⟩
  | int i=>obtain ⟨t',rfl⟩:=q2;cases h;exact ⟨EqAt.tuple_int _ _ p hu,RcAt.tuple_int _ _ p hu,RcNeAt.tuple_int _ _ p hu⟩
  | _=>cases h
 | _=>cases h
theorem QT (I:Inv X pins σ H s):∀(n:Nat) (A:A8) (x y:D) (b:Bool) (xv yv:V) (u v:AD),A.units+n < D3->eqP n x y=some b->Bi X.K ρ H x xv->Bi X.K ρ H y yv->RelV xv u->RelV yv v->EqAt A s u v b:=by
 intro n
 induction n with
 | zero=>exact λA x y b xv yv u v hu h r1 r2 q1 q2=>(Ln I (by omega) h r1 r2 q1 q2).1
 | succ n ih=>
  intro A x y b xv yv u v hu h r1 r2 q1 q2
  by_cases ht:∃xs ys,x=.tup xs/\y=.tup ys
  ·obtain ⟨xs,ys,rfl,rfl⟩:=ht
   cases r1 with
   | @tup _ a vs a1 a2=>
    cases r2 with
    | @tup _ c ws b1 b2=>
     cases q1;cases q2
     by_cases hac:a=c
     ·subst hac
      rw [YH (n+1) (.tup a1 a2) (.tup b1 b2) h];exact EqAt.same _
     ·obtain ⟨its,rv,p,_⟩:=I.tuple (.inl (.inl a1))
      obtain ⟨its2,rw',p2,_⟩:=I.tuple (.inl (.inl b1));obtain ⟨e,he,rfl⟩:=P0 (A:=A.in1) (λx y b xv yv u v g1 g2 g3 g4 g5=>ih A.in1 x y b xv yv u v (by rw [EO];lia) g1 g2 g3 g4 g5) h a2 b2 rv rw';exact eX hac (ej p p2 (by lia) he)
  ·have hf:Lp x y=some b:=by
    cases x <;> cases y <;> first | exact h | exact (ht ⟨_,_,rfl,rfl⟩).elim
   exact (Ln I (by lia) hf r1 r2 q1 q2).1
def Mq (d:D) (S:Sto):Option (List D):=match d with
 | .fro ds=>some ds
 | .ref n=>match S[n]? with
  | some (.lst ds)=>some ds
  | _=>none
 | _=>none
def eqB (x y:D) (S:Sto):Option Bool:=match Mq x S,Mq y S with
 | some xs,some ys=>if xs.length=ys.length then eqL (eqP 8) xs ys else some false
 | none,none=>eqP 8 x y
 | some _,none=>match y with
  | .tup _=>some false
  | .non=>some false
  | _=>none
 | none,some _=>match x with
  | .tup _=>some false
  | .non=>some false
  | _=>none
def eqD (neg:Bool) (x y:D) (S:Sto):Res D:=match eqB x y S with
 | some b=>.ok (.bl (if neg then !b else b)) S
 | none=>.bad
theorem IT {K:AA} {S:Sto} {d:D} {x:V} {ds:List D} (hs:B8 K ρ S H) (r:Bi K ρ H d x) (h:Mq d S=some ds):∃p xs,x=.ref p/\At K ρ H ds xs/\SqL K H p xs:=by
 cases r with
 | fro h1 h2=>cases h;exact ⟨_,_,rfl,h2,h1.sq⟩
 | @ref n a hn=>
  obtain ⟨o,ho,ro⟩:=hs.there hn;unfold Mq at h;simp only [ho] at h
  cases o with
  | lst es=>cases h;obtain ⟨vs,e,rr⟩:=ro;exact ⟨_,_,rfl,rr,.inl (.inl e)⟩
  | _=>cases h
 | _=>cases h
theorem YJ {S:Sto} {x y:D} {b:Bool} {xv yv:V} {u v:AD} (I:Inv X pins σ H s) (hu:X.A.units+64 < D3) (hs:B8 X.K ρ S H) (r1:Bi X.K ρ H x xv) (r2:Bi X.K ρ H y yv) (q1:RelV xv u) (q2:RelV yv v) (h:eqB x y S=some b) :
  RcAt X.A s u v b/\RcNeAt X.A s u v (!b):=by
 unfold eqB at h;split at h
 ·rename_i xs ys h1 h2
  obtain ⟨p,vs,rfl,rr,sq⟩:=IT hs r1 h1;obtain ⟨p',vs',rfl,rr',sq'⟩:=IT hs r2 h2;cases q1;cases q2;obtain ⟨its,rv,pl,_⟩:=I.list sq;obtain ⟨its2,rv2,pl2,_⟩:=I.list sq';split at h
  ·rename_i hlen
   obtain ⟨e,he,rfl⟩:=P0 (A:=X.A.in1) (λx y b xv yv u v g1 g2 g3 g4 g5=>QT I 8 X.A.in1 x y b xv yv u v (by rw [EO];lia) g1 g2 g3 g4 g5) h rr rr' rv rv2
   have hsz:its.toArray.size=its2.toArray.size:=by
    simp only [Ab];rw [<-rv.length,<-rv2.length,<-rr.length,<-rr'.length];exact hlen
   have e1:((Ac (min its.toArray.size its2.toArray.size)).all e&&its.toArray.size==its2.toArray.size)=(Ac its.toArray.size).all e:=by
    rw [<-hsz,en,beq_self_eq_true,bU]
   rw [e1];exact ⟨gt pl.isList pl2.isList hsz (by lia) he,aa pl.isList pl2.isList hsz (by lia) he⟩
  ·rename_i hlen
   cases h
   have hsz:(its.toArray.size != its2.toArray.size)=true:=by
    simp only [Ab];rw [<-rv.length,<-rv2.length,<-rr.length,<-rr'.length];simpa using hlen
   exact ⟨WF pl.isList pl2.isList hsz (by lia),R7 pl.isList pl2.isList hsz (by lia)⟩
 ·by_cases ht:∃xs ys,x=.tup xs/\y=.tup ys
  ·obtain ⟨xs,ys,rfl,rfl⟩:=ht
   cases r1 with
   | tup a1 a2=>
    cases r2 with
    | tup b1 b2=>
     cases q1;cases q2;obtain ⟨its,rv,p,_⟩:=I.tuple (.inl (.inl a1));obtain ⟨its2,rw',p2,_⟩:=I.tuple (.inl (.inl b1));obtain ⟨e,he,rfl⟩:=P0 (n:=7) (A:=X.A.in1) (λx y b xv yv u v g1 g2 g3 g4 g5=>QT I 7 X.A.in1 x y b xv yv u v (by rw [EO];lia) g1 g2 g3 g4 g5) h a2 b2 rv rw';exact ⟨ej p p2 (by lia) he,RcNeAt.tuples p p2 (by lia) he⟩
  ·have hf:Lp x y=some b:=by
    cases x <;> cases y <;> first | exact h | exact (ht ⟨_,_,rfl,rfl⟩).elim
   exact (Ln I (by lia) hf r1 r2 q1 q2).2
 ·rename_i xs h1 h2
  obtain ⟨p,vs,rfl,rr,sq⟩:=IT hs r1 h1;cases q1;obtain ⟨its,rv,pl,_⟩:=I.list sq;split at h
  ·cases h
   cases r2 with
   | tup b1 b2=>
    cases q2;obtain ⟨its2,rw',p2,_⟩:=I.tuple (.inl (.inl b1));exact ⟨RcAt.list_tuple pl.isList p2 (by lia),RcNeAt.list_tuple pl.isList p2 (by lia)⟩
  ·cases h
   cases r2;cases q2;exact ⟨RcAt.list_none pl.isList (by lia),RcNeAt.list_none pl.isList (by lia)⟩
  ·cases h
 ·rename_i xs h1 h2
  obtain ⟨p,vs,rfl,rr,sq⟩:=IT hs r2 h2;cases q2;obtain ⟨its,rv,pl,_⟩:=I.list sq;split at h
  ·cases h
   cases r1 with
   | tup b1 b2=>
    cases q1;obtain ⟨its2,rw',p2,_⟩:=I.tuple (.inl (.inl b1));exact ⟨RcAt.tuple_list p2 pl.isList (by lia),RcNeAt.tuple_list p2 pl.isList (by lia)⟩
  ·cases h
   cases r1;cases q1;exact ⟨RcAt.none_list pl.isList (by lia),RcNeAt.none_list pl.isList (by lia)⟩
  ·cases h
theorem Km (hu:X.A.units+64 < D3):OpR X (Bd .Eq) (rD X.K (eqD false)):=by
 intro pins s σ H x y v u Q I rx ry h;obtain ⟨ρ,S,a,b,d,S',hs,ra,rb,hm,k⟩:=h;unfold eqD at hm;split at hm
 ·rename_i c hc
  cases hm;exact (YJ I hu hs ra rb rx ry hc).1 _ _ _ _ ⟨.bl c,H,I,rfl,k ρ H _ .refl hs (.bl _)⟩
 ·cases hm
theorem fq (hu:X.A.units+64 < D3):OpR X (Bd .NotEq) (rD X.K (eqD true)):=by
 intro pins s σ H x y v u Q I rx ry h;obtain ⟨ρ,S,a,b,d,S',hs,ra,rb,hm,k⟩:=h;unfold eqD at hm;split at hm
 ·rename_i c hc
  cases hm;exact (YJ I hu hs ra rb rx ry hc).2 _ _ _ _ ⟨.bl (!c),H,I,rfl,k ρ H _ .refl hs (.bl _)⟩
 ·cases hm
def LG (x:D):List D->Option Bool
 | []=>some false
 | d :: ds=>match eqP 8 d x,LG x ds with
  | some a,some b=>some (a||b)
  | _,_=>none
def inD (neg:Bool) (x y:D) (S:Sto):Res D:=match HL y S with
 | some ds=>match LG x ds with
  | some b=>.ok (.bl (if neg then !b else b)) S
  | none=>.bad
 | none=>.bad
theorem Tc {x d:D} {ds:List D} {b:Bool} (h:LG x (d :: ds)=some b):∃a c,eqP 8 d x=some a/\LG x ds=some c/\b=(a||c):=by
 unfold LG at h;split at h
 ·rename_i a c h1 h2
  cases h;exact ⟨a,c,h1,h2,rfl⟩
 ·cases h
open Classical in
theorem LF {x:D} {xv:V} {v:AD} (I:Inv X pins σ H s) {A:A8} (hu:A.units+8 < D3) (rx:Bi X.K ρ H x xv) (qx:RelV xv v):∀ {ds:List D} {vs:List V} {us:List AD} {b:Bool},At X.K ρ H ds vs->BU vs us->LG x ds=some b ->
  ∃e:AD->Bool,(∀y∈us,EqAt A s y v (e y))/\b=us.any e:=by
 intro ds vs us b r q h
 let e:AD->Bool:=λy=>decide (∃d w,d∈ds/\Bi X.K ρ H d w/\RelV w y/\eqP 8 d x=some true)
 have all:∀ {ds':List D} {vs':List V} {us':List AD} {b':Bool},(∀d∈ds',d∈ds)->At X.K ρ H ds' vs'->BU vs' us'->LG x ds'=some b'->(∀y∈us',EqAt A s y v (e y))/\b'=us'.any e:=by
  intro ds'
  induction ds' with
  | nil=>intro vs' us' b' _ r q h;cases r;cases q;cases h;exact ⟨(λ_ z=>nomatch z),rfl⟩
  | cons d ds' ih=>
   intro vs' us' b' hsub r q h
   cases r with
   | cons r1 r2=>
    cases q with
    | @cons w y _ _ q1 q2=>
     obtain ⟨a,c,h1,h2,rfl⟩:=Tc h;obtain ⟨i1,i2⟩:=ih (λz hz=>hsub z (Al _ hz)) r2 q2 h2
     have ha:e y=a:=by
      by_cases hq:∃d w,d∈ds/\Bi X.K ρ H d w/\RelV w y/\eqP 8 d x=some true
      ·obtain ⟨d',w',_,g1,g2,g3⟩:=id hq
       rw [RelV.inj g2 q1] at g1;have:=Z9 8 g1 r1 g3 h1;rw [<-this];exact decide_eq_true hq
      ·have:a=false:=by
        cases a with
        | false=>rfl
        | true=>exact (hq ⟨d,_,hsub d A6,r1,q1,h1⟩).elim
       rw [this];exact decide_eq_false hq
     refine ⟨λz hz=>?_,by rw [Gc,ha,<-i2]⟩
     rcases A4.mp hz with rfl | hz
     ·rw [ha]
      exact QT I 8 A d x a _ _ _ _ hu h1 r1 rx q1 qx
     ·exact i1 z hz
 obtain ⟨e1,e2⟩:=all (λ_ h=>h) r q h;exact ⟨e,e1,e2⟩
theorem aq (hu:X.A.units+64 < D3):OpR X (Bd .In) (rD X.K (inD false)):=by
 intro pins s σ H x y v u Q I rx ry h;obtain ⟨ρ,S,a,b,d,S',hs,ra,rb,hm,k⟩:=h;unfold inD at hm;split at hm
 ·rename_i ds hq
  split at hm
  ·rename_i c hc
   cases hm;obtain ⟨p,xs,rfl,rr,sq⟩:=Mx hs rb hq;cases ry
   rcases sq with sq | sq
   ·obtain ⟨its,rv,pl,_⟩:=I.list sq
    obtain ⟨e,he,rfl⟩:=LF I (A:=X.A.in1) (by rw [EO];lia) ra rx rr rv hc;exact in_listAt e pl.isList (λz hz=>he z (by simpa using hz)) ⟨.bl (its.toArray.any e),H,I,rfl,by rw [Ih];exact k ρ H _ .refl hs (.bl _)⟩
   ·obtain ⟨its,rv,pl,_⟩:=I.tuple sq
    obtain ⟨e,he,rfl⟩:=LF I (A:=X.A.in1) (by rw [EO];lia) ra rx rr rv hc;exact in_tupleAt e pl (λz hz=>he z (by simpa using hz)) ⟨.bl (its.toArray.any e),H,I,rfl,by rw [Ih];exact k ρ H _ .refl hs (.bl _)⟩
  ·cases hm
 ·cases hm
theorem XT (hu:X.A.units+64 < D3):OpR X (Bd .NotIn) (rD X.K (inD true)):=by
 intro pins s σ H x y v u Q I rx ry h;obtain ⟨ρ,S,a,b,d,S',hs,ra,rb,hm,k⟩:=h;unfold inD at hm;split at hm
 ·rename_i ds hq
  split at hm
  ·rename_i c hc
   cases hm;obtain ⟨p,xs,rfl,rr,sq⟩:=Mx hs rb hq;cases ry
   rcases sq with sq | sq
   ·obtain ⟨its,rv,pl,_⟩:=I.list sq
    obtain ⟨e,he,rfl⟩:=LF I (A:=X.A.in1) (by rw [EO];lia) ra rx rr rv hc;exact notIn_listAt e pl.isList (λz hz=>he z (by simpa using hz)) ⟨.bl (!its.toArray.any e),H,I,rfl,by rw [Ih];exact k ρ H _ .refl hs (.bl _)⟩
   ·obtain ⟨its,rv,pl,_⟩:=I.tuple sq
    obtain ⟨e,he,rfl⟩:=LF I (A:=X.A.in1) (by rw [EO];lia) ra rx rr rv hc;exact notIn_tupleAt e pl (λz hz=>he z (by simpa using hz)) ⟨.bl (!its.toArray.any e),H,I,rfl,by rw [Ih];exact k ρ H _ .refl hs (.bl _)⟩
  ·cases hm
 ·cases hm
end
end L2
namespace L2
open PySem PySem.Spec PyProof.Rows
def FH (mo ma:ME):ME:=λe S=>(mo e S).bind λd S1=>match d with
 | .ref n=>match S1[n]? with
  | some (.lst _)=>(ma e S1).bind λy S2=>match S2[n]? with
   | some (.lst xs)=>if xs.length < sizeLine then .ok .non (S2.set n (.lst (xs++[y]))) else .bad
   | _=>.bad
  | _=>.bad
 | _=>.bad
section
variable {X:Cx} {E:EW} {o e:Expr} {apos cpos:Pos} {mo ma:ME}
theorem T5 {K:AA} {ρ:List AI} {S:Sto} {H:Hp} {n:Nat} {x:V} {xs:List D} (s:B8 K ρ S H) (r:Bi K ρ H (.ref n) x) (h:S[n]?=some (.lst xs)):∃a vs,x=.ref a/\ρ[n]?=some a/\H a=some (.lst vs)/\At K ρ H xs vs:=by
 cases r with
 | ref hn=>
  obtain ⟨vs,e,rr⟩:=s.ob n _ _ h hn;exact ⟨_,vs,rfl,hn,e,rr⟩
theorem Dc (ho:GE X E o mo) (ha:GE X E e ma) (hbase:Fq o "append" X.env (B0 o X.env)=B0 o X.env:=by rfl)
  (hfew:((Ej cpos (AX [e] X.env)).all (λx=>!x.1)&&(backToKw cpos (keywordEach [] X.env)).all (λx=>x.1.isSome)
    &&decide ([e].length+([]:List WY).length+(if ([]:List WY).isEmpty then 0 else 1) < 30))=true:=by rfl)
  (hline:(apos.endLine==cpos.line)=true:=by rfl) (hs:AX [e] X.env=(false,B0 e X.env) :: AX [] X.env:=by rfl) (hplain:(Ej cpos (AX [] X.env)).any (·.1)=false:=by rfl) :
  GE X E (.Call (.Attribute o "append" apos) [e] [] cpos) (FH mo ma):=(fc Ox PySem.F.slot_list_append PySem.F.type_list_append PL ho (FI ha He hs) hbase hfew hline hs hplain).imp λσ H Q ⟨ρ,l,S,hl,hs,hm⟩=>by
 refine ⟨ρ,l,S,hl,hs,hm.seq λx S1 hm ρ1 H1 v l1 s1 r1=>?_⟩
 cases x <;> first | exact hm.elim | skip
 rename_i n;dsimp only at hm;split at hm
 ·rename_i xs0 h0
  obtain ⟨a,vs,rfl,hn,e0,_⟩:=T5 s1 r1 h0;refine ⟨.inl ⟨rfl,vs,.inl (.inl e0)⟩,ρ1,l,S1,hl.mono l1,s1,(hm.later l1).seq λy S2 hm ρ2 H2 u l2 s2 r2=>?_⟩;split at hm
  ·rename_i xs h3
   split at hm
   ·rename_i hz
    have hn2:=l2.pre n a hn;obtain ⟨ws,e3,rr⟩:=s2.ob n _ _ h3 hn2;have le:Le X.K ρ2 H2 ρ2 (upd H2 a (.lst (ws++[u]))):=Le.write hn2 (by rw [e3];trivial);obtain ⟨s3,l3⟩:=s2.write (ho:=.lst (ws++[u])) (o:=.lst (xs++[y])) hn2 ⟨_,Be,(rr.append (.cons r2 .nil)).mono le⟩;exact ⟨a,ws,u,rfl,rfl,e3,by rw [<-rr.length];exact hz,hm ρ2 _ _ (l1.trans (l2.trans l3)) s3 .non⟩
   ·exact hm.elim
  ·exact hm.elim
 ·exact hm.elim
end
def LV {κ β:Type} [DecidableEq κ] (kvs:List (κ×β)) (k:κ):Option β:=(kvs.find? λkv=>decide (kv.1=k)).map (·.2)
def Kh {κ β:Type} [DecidableEq κ] (kvs:List (κ×β)) (k:κ) (v:β):List (κ×β):=
 if (kvs.any λkv=>decide (kv.1=k))=true then kvs.map (λkv=>if kv.1=k then (kv.1,v) else kv) else kvs++[(k,v)]
section
variable {κ:Type} [DecidableEq κ] {K:AA} {ρ:List AI} {H:Hp}
theorem KVR.val (k:κ):∀ {x:List (κ×D)} {y:List (κ×V)},KVR K ρ H x y->(LV x k=none->JD y k=none)/\∀d,LV x k=some d->∃v,JD y k=some v/\Bi K ρ H d v
 | _,_,.nil=>⟨λ_=>rfl,λd h=>by cases h⟩
 | (g,a) :: x,(g',b) :: y,.cons r t=>by
  obtain ⟨r1,r2⟩:=r;dsimp only at r1 r2;subst r1;unfold LV JD;rw [B1,B1]
  by_cases e:g=k
  ·simp only [e,decide_true]
   exact ⟨(λh=>nomatch h),(λd h=>by cases h;exact ⟨b,rfl,r2⟩)⟩
  ·simp only [e,decide_false]
   exact KVR.val k t
theorem KVR.any (k:κ):∀ {x:List (κ×D)} {y:List (κ×V)},KVR K ρ H x y->(x.any λkv=>decide (kv.1=k))=y.any λkv=>decide (kv.1=k)
 | _,_,.nil=>rfl
 | (g,a) :: x,(g',b) :: y,.cons r t=>by
  rw [Gc,Gc,KVR.any k t,show g=g' from r.1]
theorem KVR.repl (k:κ) {d:D} {v:V} (rd:Bi K ρ H d v):∀ {x:List (κ×D)} {y:List (κ×V)},KVR K ρ H x y->KVR K ρ H (x.map λkv=>if kv.1=k then (kv.1,d) else kv) (y.map λkv=>if kv.1=k then (kv.1,v) else kv)
 | _,_,.nil=>.nil
 | (g,a) :: x,(g',b) :: y,.cons r t=>by
  obtain ⟨r1,r2⟩:=r;dsimp only at r1 r2;subst r1;rw [A5,A5];refine .cons ?_ (KVR.repl k rd t)
  by_cases e:g=k
  ·rw [if_pos e,if_pos e];exact ⟨rfl,rd⟩
  ·rw [if_neg e,if_neg e];exact ⟨rfl,r2⟩
theorem KVR.put (k:κ) {d:D} {v:V} (rd:Bi K ρ H d v) {x:List (κ×D)} {y:List (κ×V)} (h:KVR K ρ H x y):KVR K ρ H (Kh x k d) (Ir y k v):=by
 unfold Kh Ir;rw [KVR.any k h];split
 ·exact KVR.repl k rd h
 ·exact SB h ⟨rfl,rd⟩
end
def Zr:D->Option Key
 | .int i=>some (.inl i)
 | .str x=>some (.inr x)
 | _=>none
def Rk:List D->Option (List Key)
 | []=>some []
 | d :: ds=>match Zr d,Rk ds with
  | some k,some ks=>some (k :: ks)
  | _,_=>none
theorem QJ {K:AA} {ρ:List AI} {H:Hp} {d:D} {v:V} {k:Key} (r:Bi K ρ H d v) (h:Zr d=some k):v=kV k:=by
 cases r <;> first | (cases h;done) | (cases h;rfl)
theorem No {K:AA} {ρ:List AI} {H:Hp}:∀ {ds:List D} {vs:List V} {ks:List Key},At K ρ H ds vs->Rk ds=some ks->vs=ks.map kV
 | _,_,_,.nil,h=>by cases h;rfl
 | _,_,_,.cons r t,h=>by
  unfold Rk at h;split at h
  ·rename_i k ks h1 h2
   cases h;rw [QJ r h1,No t h2];rfl
  ·cases h
def Ru (x y:D) (S:Sto):Option (Option D):=match x with
 | .ref n=>match S[n]? with
  | some (.dK kvs)=>match Zr y with
   | some k=>some (LV kvs k)
   | none=>none
  | some (.dT kvs)=>match y with
   | .tup ds=>match Rk ds with
    | some ks=>some (LV kvs ks)
    | none=>none
   | _=>none
  | _=>none
 | _=>none
theorem QU {K:AA} {ρ:List AI} {S:Sto} {H:Hp} {x y:D} {xv yv:V} {o:Option D} (s:B8 K ρ S H) (rx:Bi K ρ H x xv) (ry:Bi K ρ H y yv) (h:Ru x y S=some o) :
  ∃a o',xv=.ref a/\LK H a yv o'/\(o=none->o'=none)/\∀d,o=some d->∃v,o'=some v/\Bi K ρ H d v:=by
 unfold Ru at h;split at h
 ·rename_i n
  cases rx with
  | @ref _ a hn=>
   split at h
   ·rename_i kvs h1
    split at h
    ·rename_i k hk
     cases h;obtain ⟨kvs',e,r⟩:=s.ob n _ _ h1 hn;rw [QJ ry hk];obtain ⟨v1,v2⟩:=KVR.val k r;exact ⟨a,JD kvs' k,rfl,LK.k e,v1,v2⟩
    ·cases h
   ·rename_i kvs h1
    split at h
    ·rename_i ds
     split at h
     ·rename_i ks hk
      cases h;obtain ⟨kvs',e,r⟩:=s.ob n _ _ h1 hn
      cases ry with
      | tup b1 b2=>
       obtain ⟨v1,v2⟩:=KVR.val ks r;rw [No b2 hk] at b1;exact ⟨a,JD kvs' ks,rfl,LK.t e b1,v1,v2⟩
     ·cases h
    ·cases h
   ·cases h
 ·cases h
def Uc (x y:D) (S:Sto):Res D:=match Ru x y S with
 | some (some d)=>.ok d S
 | _=>.bad
def Jo (neg:Bool) (y x:D) (S:Sto):Res D:=match Ru x y S with
 | some o=>.ok (.bl (if neg then !o.isSome else o.isSome)) S
 | none=>.bad
section
variable {X:Cx} {E:EW} {o i value:Expr} {pos pos':Pos} {mo mi mv:ME}
theorem Z5 (hu:X.A.units+1 < D3) (ho:GE X E o mo) (hi:GE X E i mi) (hs:eC i:=by intro _ _;rfl):GE X E (.Subscript o i pos) (m2 Uc mo mi):=(ZY hu ho hi hs).imp λσ H Q h=>by
 refine (Jz h:tOp (rD X.K Uc) (gE X.K E mo) (gE X.K E mi) σ H Q) |> λt=>?_
 obtain ⟨ρ,l,S,hl,hs,k⟩:=t;refine ⟨ρ,l,S,hl,hs,k.imp λx S1 k ρ1 H1 u l1 s1 r1=>?_⟩;obtain ⟨ρ2,l2,S2,hl2,hs2,k2⟩:=k ρ1 H1 u l1 s1 r1;refine ⟨ρ2,l2,S2,hl2,hs2,k2.imp λy S3 k2 ρ3 H3 v l3 s3 r3=>?_⟩;obtain ⟨ρ4,S4,x4,y4,d,S5,s4,r4,r5,hm,k4⟩:=k2 ρ3 H3 v l3 s3 r3;unfold Uc at hm;split at hm
 ·rename_i d' hd
  cases hm;obtain ⟨a,o',rfl,g,_,g2⟩:=QU s4 r4 r5 hd;obtain ⟨w',rfl,rw'⟩:=g2 _ rfl;exact ⟨a,w',rfl,g,k4 ρ4 H3 w' .refl s4 rw'⟩
 ·cases hm
theorem T0 {σ:St} {H:Hp} {Q:VK} (h:gE X.K E (m2 (Jo false) mi mo) σ H Q):fH (gE X.K E mi) (gE X.K E mo) σ H Q:=by
 obtain ⟨ρ,l,S,hl,hs,k⟩:=(Jz h:tOp (rD X.K (Jo false)) (gE X.K E mi) (gE X.K E mo) σ H Q);refine ⟨ρ,l,S,hl,hs,k.imp λx S1 k ρ1 H1 u l1 s1 r1=>?_⟩;obtain ⟨ρ2,l2,S2,hl2,hs2,k2⟩:=k ρ1 H1 u l1 s1 r1;refine ⟨ρ2,l2,S2,hl2,hs2,k2.imp λy S3 k2 ρ3 H3 v l3 s3 r3=>?_⟩;obtain ⟨ρ4,S4,x4,y4,d,S5,s4,r4,r5,hm,k4⟩:=k2 ρ3 H3 v l3 s3 r3;unfold Jo at hm;split at hm
 ·rename_i o' hd
  cases hm;obtain ⟨a,o2,rfl,g,g1,g2⟩:=QU s4 r5 r4 hd;refine ⟨a,o2,rfl,g,?_⟩
  have:o2.isSome=o'.isSome:=by
   cases o' with
   | none=>rw [g1 rfl];rfl
   | some d=>obtain ⟨w',rfl,_⟩:=g2 d rfl;rfl
  rw [this];exact k4 ρ4 H3 _ .refl s4 (.bl _)
 ·cases hm
theorem Sf {σ:St} {H:Hp} {Q:VK} (h:gE X.K E (m2 (Jo true) mi mo) σ H Q):Tz (gE X.K E mi) (gE X.K E mo) σ H Q:=by
 obtain ⟨ρ,l,S,hl,hs,k⟩:=(Jz h:tOp (rD X.K (Jo true)) (gE X.K E mi) (gE X.K E mo) σ H Q);refine ⟨ρ,l,S,hl,hs,k.imp λx S1 k ρ1 H1 u l1 s1 r1=>?_⟩;obtain ⟨ρ2,l2,S2,hl2,hs2,k2⟩:=k ρ1 H1 u l1 s1 r1;refine ⟨ρ2,l2,S2,hl2,hs2,k2.imp λy S3 k2 ρ3 H3 v l3 s3 r3=>?_⟩;obtain ⟨ρ4,S4,x4,y4,d,S5,s4,r4,r5,hm,k4⟩:=k2 ρ3 H3 v l3 s3 r3;unfold Jo at hm;split at hm
 ·rename_i o' hd
  cases hm;obtain ⟨a,o2,rfl,g,g1,g2⟩:=QU s4 r5 r4 hd;refine ⟨a,o2,rfl,g,?_⟩
  have:o2.isSome=o'.isSome:=by
   cases o' with
   | none=>rw [g1 rfl];rfl
   | some d=>obtain ⟨w',rfl,_⟩:=g2 d rfl;rfl
  rw [this];exact k4 ρ4 H3 _ .refl s4 (.bl _)
 ·cases hm
theorem dY (hu:X.A.units+1 < D3) (hi:GE X E i mi) (ho:GE X E o mo) (h1:CI .In o=false:=by rfl):GE X E (.Compare i [.In] [o] pos) (m2 (Jo false) mi mo):=(cQ (XO hu hi ho) h1).imp λ_ _ _ h=>T0 h
theorem Xi {K:AA} {m:ME} {σ:St} {H:Hp} {Q:Bool->Hp->Prop} (h:gT K E (mB m) σ H Q):gE K E m σ H λx H1=>∃c,x=.bl c/\Q c H1:=by
 obtain ⟨ρ,l,S,hl,hs,hm⟩:=h;refine ⟨ρ,l,S,hl,hs,hm.seq λd S1 hm ρ1 H1 x l1 s1 r1=>?_⟩
 cases d <;> first | exact hm.elim | skip
 cases r1;exact ⟨_,rfl,hm ρ1 H1 l1 s1⟩
theorem dM (hu:X.A.units+1 < D3) (hi:GE X E i mi) (ho:GE X E o mo) (h1:CI .In o=false:=by rfl):GT X E (.Compare i [.In] [o] pos) (mB (m2 (Jo false) mi mo)):=(W8 (XO hu hi ho) h1).imp λ_ _ _ h=>T0 (Xi h)
theorem Vm (hu:X.A.units+1 < D3) (hi:GE X E i mi) (ho:GE X E o mo) (h1:CI .NotIn o=false:=by rfl):GT X E (.Compare i [.NotIn] [o] pos) (mB (m2 (Jo true) mi mo)):=(W8 (VS hu hi ho) h1).imp λ_ _ _ h=>Sf (Xi h)
def TD:ME:=λ_ S=>.ok (.ref S.length) (S++[.dK []])
def Xh:ME:=λ_ S=>.ok (.ref S.length) (S++[.dT []])
theorem YB:GE X E (.Dict [] [] pos) TD:=(XN (X:=X) (pos:=pos)).imp λσ H Q ⟨ρ,l,S,hl,hs,k⟩ p hp=>by
 obtain ⟨s2,l2,at2⟩:=hs.alloc (ho:=.dK []) (o:=.dK []) hp ⟨[],Be,.nil⟩;exact k _ _ _ l2 s2 (.ref at2)
theorem YA:GE X E (.Dict [] [] pos) Xh:=(XM (X:=X) (pos:=pos)).imp λσ H Q ⟨ρ,l,S,hl,hs,k⟩ p hp=>by
 obtain ⟨s2,l2,at2⟩:=hs.alloc (ho:=.dT []) (o:=.dT []) hp ⟨[],Be,.nil⟩;exact k _ _ _ l2 s2 (.ref at2)
def Vx (x y v:D) (S:Sto):Option Sto:=match x with
 | .ref n=>match S[n]? with
  | some (.dK kvs)=>match Zr y with
   | some k=>if kvs.length < sizeLine then some (S.set n (.dK (Kh kvs k v))) else none
   | none=>none
  | some (.dT kvs)=>match y with
   | .tup ds=>match Rk ds with
    | some ks=>if kvs.length < sizeLine then some (S.set n (.dT (Kh kvs ks v))) else none
    | none=>none
   | _=>none
  | _=>none
 | _=>none
def Ff (mo mi mv:ME):MS:=λe S=>(mv e S).lift e λv S1=>(mo e S1).lift e λx S2=>(mi e S2).lift e λy S3=>match Vx x y v S3 with
 | some S4=>.ok (.nx e) S4
 | none=>.bad
theorem QP (hu:X.A.units+1 < D3) (ho:GE X E o mo) (hi:GE X E i mi) (hv:GE X E value mv) (hs:FV value (some (.Subscript o i pos')) pos.line X.env=pure false:=by rfl):GS X E (.Assign [.Subscript o i pos'] value pos) (Ff mo mi mv):=(ZN hu ho hi hv hs).imp λD σ H ⟨ρ,l,S,hl,hs,hm⟩=>by
 refine ⟨ρ,l,S,hl,hs,hm.lift hl .refl λv S1 hm ρ1 H1 vv l1 s1 r1=>⟨ρ1,l,S1,hl.mono l1,s1,(hm.later l1).lift (hl.mono l1) l1 λx S2 hm ρ2 H2 xv l2 s2 r2=>⟨ρ2,l,S2,hl.mono (l1.trans l2),s2,(hm.later l2).lift (hl.mono (l1.trans l2)) (l1.trans l2) λy S3 hm ρ3 H3 yv l3 s3 r3=>?_⟩⟩⟩;have r1':=r1.mono (l2.trans l3);have r2':=r2.mono l3;have hl3:=hl.mono (l1.trans (l2.trans l3));split at hm
 ·rename_i S4 hp
  unfold Vx at hp;split at hp
  ·rename_i n
   cases r2' with
   | @ref _ a hn=>
    split at hp
    ·rename_i kvs h4
     split at hp
     ·rename_i ky hk
      split at hp
      ·rename_i hz
       cases hp;obtain ⟨kvs',e,r⟩:=s3.ob n _ _ h4 hn;rw [QJ r3 hk];have le:Le X.K ρ3 H3 ρ3 (upd H3 a (.dK (Ir kvs' ky vv))):=Le.write hn (by rw [e];trivial);obtain ⟨s5,l5⟩:=s3.write (ho:=.dK (Ir kvs' ky vv)) (o:=.dK (Kh kvs ky v)) hn ⟨_,Be,(KVR.put ky r1' r).mono le⟩;exact ⟨a,_,rfl,R6.k e (by rw [<-KVR.length r];exact hz),hm ρ3 _ σ (l1.trans (l2.trans (l3.trans l5))) s5 (hl3.mono l5)⟩
      ·cases hp
     ·cases hp
    ·rename_i kvs h4
     split at hp
     ·rename_i ds
      split at hp
      ·rename_i ks hk
       split at hp
       ·rename_i hz
        cases hp;obtain ⟨kvs',e,r⟩:=s3.ob n _ _ h4 hn
        cases r3 with
        | tup b1 b2=>
         rw [No b2 hk] at b1;have le:Le X.K ρ3 H3 ρ3 (upd H3 a (.dT (Ir kvs' ks vv))):=Le.write hn (by rw [e];trivial);obtain ⟨s5,l5⟩:=s3.write (ho:=.dT (Ir kvs' ks vv)) (o:=.dT (Kh kvs ks v)) hn ⟨_,Be,(KVR.put ks r1' r).mono le⟩;exact ⟨a,_,rfl,R6.t e b1 (by rw [<-KVR.length r];exact hz),hm ρ3 _ σ (l1.trans (l2.trans (l3.trans l5))) s5 (hl3.mono l5)⟩
       ·cases hp
      ·cases hp
     ·cases hp
    ·cases hp
  ·cases hp
 ·exact hm.elim
end
end L2
namespace L2
open PySem PySem.Spec PyProof.Rows
section
variable {X:Cx} {E:EW} {a b c:Expr} {pos:Pos} {ma mb mc:ME}
theorem VA {K:AA} {f g:D->D->Sto->Res D} {σ:St} {H:Hp} {Q:VK} (h:gE K E (m3 f g ma mb mc) σ H Q):Wo (rD K f) (rD K g) (gE K E ma) (gE K E mb) (gE K E mc) σ H Q:=by
 obtain ⟨ρ,l,S,hl,hs,hm⟩:=h;refine ⟨ρ,l,S,hl,hs,hm.seq λx S1 hm ρ1 H1 u l1 s1 r1=>⟨ρ1,l,S1,hl.mono l1,s1,(hm.later l1).seq λy S2 hm ρ2 H2 v l2 s2 r2=>?_⟩⟩
 cases hf:f x y S2 with
 | bad=>rw [hf] at hm;exact hm.elim
 | err _ _=>rw [hf] at hm;exact hm.elim
 | ok z S3=>
  rw [hf] at hm;dsimp only [okR,Res.bind] at hm;refine ⟨ρ2,S2,x,y,z,S3,s2,r1.mono l2,r2,hf,λρ3 H3 w l3 s3 r3=>?_⟩
  cases z with
  | bl k=>
   cases r3;refine ⟨k,rfl,?_⟩
   cases k with
   | true=>
    rw [if_pos rfl];refine ⟨ρ3,l,S3,hl.mono (l1.trans (l2.trans l3)),s3,Bv.seq (hm.later (l2.trans l3)) λw S4 hm ρ4 H4 wv l4 s4 r4=>?_⟩;obtain ⟨d,S',e,k⟩:=hm.okR;exact ⟨ρ4,S4,y,w,d,S',s4,r2.mono (l3.trans l4),r4,e,λρ' H' z l' s' r'=>k ρ' H' z (l1.trans (l2.trans (l3.trans (l4.trans l')))) s' r'⟩
   | false=>rw [if_neg AR];exact hm ρ3 H3 _ (l1.trans (l2.trans l3)) s3 (.bl false)
  | _=>exact hm.elim
theorem Nv {op op':Qu} {f g:D->D->Sto->Res D} (ho:OpR X (Bd op) (rD X.K f)) (ho':OpR X (Bd op') (rD X.K g)) (ha:GE X E a ma) (hb:GE X E b mb) (hc:GE X E c mc)
  (hm:lastMarks [op,op'] [b,c]=false:=by with_unfolding_all rfl):GT X E (.Compare a [op,op'] [b,c] pos) (mB (m3 f g ma mb mc)):=(W9 ho ho' ha hb hc hm).imp λ_ _ _ h=>VA (Xi h)
def VZ (m:ME):ME:=λe S=>(m e S).bind λd S1=>match d with
 | .int i=>.ok (.int (-i)) S1
 | _=>.bad
theorem X7 (h:GE X E a ma):GE X E (.UnaryOp .USub a pos) (VZ ma):=(fY bW h).imp λσ H Q ⟨ρ,l,S,hl,hs,hm⟩=>by
 refine ⟨ρ,l,S,hl,hs,hm.seq λd S1 hm ρ1 H1 x l1 s1 r1=>?_⟩
 cases d <;> first | exact hm.elim | skip
 cases r1;exact ⟨_,rfl,hm ρ1 H1 _ l1 s1 (.int _)⟩
end
abbrev MO:=Lo->Sto->Res (Option Int)
def gO (K:AA) (E:EW) (m:MO):TO:=λσ H Q=>∃ρ e S,E4 K ρ H e σ/\B8 K ρ S H/\Bv K (λc=>E c σ) ρ H (m e S) λo S'=>∀ρ' H',Le K ρ H ρ' H'->B8 K ρ' S' H'->Q o H'
abbrev GO (X:Cx) (E:EW) (e:Option Expr) (m:MO):Prop:=PO X e (gO X.K E m)
def Hv:MO:=λ_ S=>.ok none S
def Gn (m:ME):MO:=λe S=>(m e S).bind λd S1=>match d with
 | .int i=>.ok (some i) S1
 | _=>.bad
def K0 {α:Type} (xs:List α) (lo hi:Option Int):List α:=(xs.drop (HT.sIx xs.length 0 lo)).take (HT.sIx xs.length xs.length hi - HT.sIx xs.length 0 lo)
def Pu (n:Nat) (lo hi:Option Int):Bool:=decide (HT.sIx n 0 lo=0/\HT.sIx n n hi=n)
def IQ (d:D) (lo hi:Option Int) (S:Sto):Res D:=match d with
 | .tup ds=>if Pu ds.length lo hi=true then .bad else .ok (.tup (K0 ds lo hi)) S
 | _=>match Mq d S with
  | some ds=>.ok (.ref S.length) (S++[.lst (K0 ds lo hi)])
  | none=>.bad
def Hg (m:ME) (ml mh:MO):ME:=λe S=>(m e S).bind λd S1=>(ml e S1).bind λlo S2=>(mh e S2).bind λhi S3=>okR (IQ d lo hi S3)
section
variable {X:Cx} {E:EW} {e:Expr} {lo hi:Option Expr} {pos p2:Pos} {m:ME} {ml mh:MO}
theorem PO.imp {o:Option Expr} {t t':TO} (h:PO X o t) (i:∀σ H Q,t' σ H Q->t σ H Q):PO X o t':=λpins s σ H Q I q=>h pins s σ H Q I (i σ H Q q)
theorem M3:GO X E none Hv:=PO.imp ZR λσ H Q ⟨ρ,l,S,hl,hs,hm⟩=>hm ρ H .refl hs
theorem Kw (h:GE X E e m):GO X E (some e) (Gn m):=PO.imp (ZQ h) λσ H Q ⟨ρ,l,S,hl,hs,hm⟩=>by
 refine ⟨ρ,l,S,hl,hs,hm.seq λd S1 hm ρ1 H1 x l1 s1 r1=>?_⟩
 cases d <;> first | exact hm.elim | skip
 cases r1;exact ⟨_,rfl,hm ρ1 H1 l1 s1⟩
theorem Rw {K:AA} {ρ:List AI} {H:Hp} {ds:List D} {vs:List V} (r:At K ρ H ds vs) (lo hi:Option Int):At K ρ H (K0 ds lo hi) (N5 vs lo hi):=by
 unfold K0 N5;rw [r.length];exact (r.drop _).take _
theorem Ny (he:GE X E e m) (hl:GO X E lo ml) (hu:GO X E hi mh):GE X E (.Subscript e (.Slice lo hi none p2) pos) (Hg m ml mh):=(XI (Y6.or bo) he hl hu).imp λσ H Q ⟨ρ,l,S,hl,hs,hm⟩=>by
 refine ⟨ρ,l,S,hl,hs,hm.seq λd S1 hm ρ1 H1 x l1 s1 r1=>⟨ρ1,l,S1,hl.mono l1,s1,(hm.later l1).seq λlo S2 hm ρ2 H2 l2 s2=>⟨ρ2,l,S2,hl.mono (l1.trans l2),s2,(hm.later l2).seq λhi S3 hm ρ3 H3 l3 s3=>?_⟩⟩⟩;obtain ⟨d',S',e,k⟩:=hm.okR;have r3:=r1.mono (l2.trans l3)
 have lst:∀ds,Mq d S3=some ds->Res.ok (.ref S3.length) (S3++[.lst (K0 ds lo hi)])=Res.ok d' S'->fR X.K x lo hi H3 Q:=λds hq e=>by
  cases e;obtain ⟨p,xs,rfl,rr,sq⟩:=IT s3 r3 hq;refine ⟨p,xs,rfl,sq,λq hq=>?_⟩;have le:Le X.K ρ3 H3 (ρ3++[q]) (upd H3 q (.lst (N5 xs lo hi))):=Le.alloc hq;obtain ⟨s4,l4,at4⟩:=s3.alloc (ho:=.lst (N5 xs lo hi)) (o:=.lst (K0 ds lo hi)) hq ⟨_,Be,(Rw rr lo hi).mono le⟩;exact k _ _ _ (l1.trans (l2.trans (l3.trans l4))) s4 (.ref at4)
 cases d with
 | tup ds=>
  unfold IQ at e;dsimp only at e;split at e
  ·cases e
  ·rename_i hw
   cases e
   cases r3 with
   | @tup _ a vs h1 h2=>
    refine .inr ⟨a,vs,rfl,.inl (.inl h1),λz=>hw ?_,λq hq=>?_⟩
    ·unfold Pu
     rw [h2.length];exact decide_eq_true z
    ·obtain ⟨s4,l4⟩:=Fc (ho:=.tup (N5 vs lo hi)) s3 hq
     exact k _ _ _ (l1.trans (l2.trans (l3.trans l4))) s4 (.tup Be ((Rw h2 lo hi).mono l4))
 | non=>cases e
 | bl _=>cases e
 | int _=>cases e
 | str _=>cases e
 | exc _=>cases e
 | fro ds=>exact .inl (lst ds rfl e)
 | ref n=>
  unfold IQ at e;dsimp only at e;split at e
  ·rename_i ds hq
   exact .inl (lst ds hq e)
  ·cases e
end
section
variable {X:Cx} {E:EW} {e:Expr} {p pos:Pos} {m:ME} {ml:ML}
def JH (m:ME):ME:=λe S=>(m e S).bind λd S1=>match HL d S1 with
 | some ds=>.ok (.tup ds) S1
 | none=>.bad
theorem Nx (hg:Gl X "tuple") (hm:X.mg "tuple" = none) (h:GE X E e m) (he:AX [e] X.env=(false,B0 e X.env) :: AX [] X.env:=by rfl):GE X E (.Call (.Name "tuple" p) [e] [] pos) (JH m):=
 (VR Os hg hm MY (FI h He he) (by decide) (by decide) he rfl).imp λσ H Q ⟨ρ,l,S,hl,hs,hm⟩=>by
 refine ⟨ρ,l,S,hl,hs,hm.seq λd S1 hm ρ1 H1 x l1 s1 r1=>?_⟩
 cases hq:HL d S1 with
 | none=>rw [hq] at hm;exact hm.elim
 | some ds=>
  rw [hq] at hm
  have newL:∀a vs,x=.ref a->SqL X.K H1 a vs->At X.K ρ1 H1 ds vs->∃p ys,[x]=[.ref p]/\((SqL X.K H1 p ys/\∀l,H1 l=none->Q (.ref l) (upd H1 l (.tup ys)))∨(SqT X.K H1 p ys/\Q (.ref p) H1)):=λa vs e sq rr=>by
   subst e;refine ⟨a,vs,rfl,.inl ⟨sq,λq hq=>?_⟩⟩;obtain ⟨s2,l2⟩:=Fc (ho:=.tup vs) s1 hq;exact hm _ _ _ (l1.trans l2) s2 (.tup Be (rr.mono l2))
  cases r1 with
  | @tup _ a vs h1 h2=>cases hq;exact ⟨a,vs,rfl,.inr ⟨.inl (.inl h1),hm ρ1 H1 _ l1 s1 (.tup h1 h2)⟩⟩
  | @fro _ a vs h1 h2=>cases hq;exact newL a vs rfl h1.sq h2
  | @ref n a hn=>
   obtain ⟨o,ho,ro⟩:=s1.there hn;unfold HL at hq;simp only [ho] at hq
   cases o with
   | lst es=>cases hq;obtain ⟨vs,e,rr⟩:=ro;exact newL a vs rfl (.inl (.inl e)) rr
   | _=>cases hq
  | _=>cases hq
variable {o:Expr} {apos cpos:Pos} {mo ma:ME}
def atL (d:D) (S:Sto):Option (Nat×List D):=match d with
 | .ref n=>match S[n]? with
  | some (.lst xs)=>some (n,xs)
  | _=>none
 | _=>none
theorem dw {K:AA} {ρ:List AI} {S:Sto} {H:Hp} {d:D} {x:V} {n:Nat} {xs:List D} (s:B8 K ρ S H) (r:Bi K ρ H d x) (h:atL d S=some (n,xs)):d=.ref n/\S[n]?=some (.lst xs)/\∃a vs,x=.ref a/\ρ[n]?=some a/\H a=some (.lst vs)/\At K ρ H xs vs:=by
 unfold atL at h;split at h
 ·split at h
  ·rename_i ds hd
   cases h;exact ⟨rfl,hd,T5 s r hd⟩
  ·cases h
 ·cases h
theorem ZH {K:AA} {ρ:List AI} {S:Sto} {H:Hp} {n:Nat} {a:AI} {vs ws:List V} {ys:List D} (s:B8 K ρ S H) (hn:ρ[n]?=some a) (e:H a=some (.lst vs)) (r:At K ρ H ys ws) :
  B8 K ρ (S.set n (.lst ys)) (upd H a (.lst ws))/\Le K ρ H ρ (upd H a (.lst ws)):=by
 have le:Le K ρ H ρ (upd H a (.lst ws)):=Le.write hn (by rw [e];trivial);exact s.write (ho:=.lst ws) (o:=.lst ys) hn ⟨_,Be,r.mono le⟩
def Xf (mo:ME):ME:=λe S=>(mo e S).bind λd S1=>match atL d S1 with
 | some (n,xs)=>.ok .non (S1.set n (.lst xs.reverse))
 | none=>.bad
theorem TR (ho:GE X E o mo) (hbase:Fq o "reverse" X.env (B0 o X.env)=B0 o X.env:=by rfl) (hline:(apos.endLine==cpos.line)=true:=by rfl) :
  GE X E (.Call (.Attribute o "reverse" apos) [] [] cpos) (Xf mo):=(cR Ox PySem.F.slot_list_reverse PySem.F.type_list_reverse Sx ho hbase hline).imp λσ H Q ⟨ρ,l,S,hl,hs,hm⟩=>by
 refine ⟨ρ,l,S,hl,hs,hm.seq λd S1 hm ρ1 H1 v l1 s1 r1=>?_⟩
 cases hq:atL d S1 with
 | none=>rw [hq] at hm;exact hm.elim
 | some z=>
  obtain ⟨n,xs⟩:=z;rw [hq] at hm;obtain ⟨rfl,h0,a,vs,rfl,hn,e,rr⟩:=dw s1 r1 hq;obtain ⟨s2,l2⟩:=ZH s1 hn e rr.reverse;exact ⟨.inl ⟨rfl,vs,.inl (.inl e)⟩,a,vs,rfl,rfl,e,hm ρ1 _ _ (l1.trans l2) s2 .non⟩
end
end L2
namespace L2
open PySem PySem.Spec PyProof.Rows
section
variable {X:Cx} {E:EW}
theorem range_getD {α:Type} (d:α) (bs:List α):(Ac bs.length).map (λi=>bs.getD i d)=bs:=by
 apply Ch
 intro i;rw [AV]
 by_cases h:i < bs.length
 ·rw [BC h]
  simp [List.getD,h]
 ·rw [CJ.mpr (by simpa using h),CJ.mpr (by simpa using h)]
  rfl
theorem Yy {bs:List Bool} {its:List AD} (r:BU (bs.map V.bl) its) {i:Nat} {v:AD} (h:its.toArray[i]?=some v):v=.bool (bs.getD i false):=by
 have h':its[i]?=some v:=by simpa using h
 obtain ⟨hi,e⟩:=AG.mp h'
 have hb:i < bs.length:=by have:=r.length;simp at this;lia
 obtain ⟨u,hu,ru⟩:=r.get (show (bs.map V.bl)[i]?=some (V.bl bs[i]) by simp [hb]);rw [h'] at hu;cases hu;rw [show v=KS bs[i] from ru];simp [List.getD,hb]
def W6 (K:AA) (f:List Bool->Bool):List V->Hp->VK->Prop:=λxs H Q=>∃p bs,xs=[.ref p]/\(SqL K H p (bs.map V.bl)∨SqT K H p (bs.map V.bl))/\Q (.bl (f bs)) H
theorem TY {pins:List (AI×Obj)} {s:AF} {σ:St} {H:Hp} {p:AI} {bs:List Bool} {R:AD->AF->Prop} {E:AD->AF->Prop} (hc:X.calm=true) (I:Inv X pins σ H s) (hq:SqL X.K H p (bs.map V.bl)∨SqT X.K H p (bs.map V.bl))
  (h:∀itv s2,(∃I fp wr n P St tr,itv=Au I/\Walks X.prog X.w X.A.in1 I fp wr n P St/\St 0 s2.heap/\TruthOf X.prog X.w X.A.in1 P tr/\(Ac n).map tr=bs /\
   ∀(h':Bk) (tk:Nat),(∀b o,¬b∈wr->s2.heap.get? b=some o->h'.get? b=some o)->Inv X pins σ H { s2 with heap:=h',toks:=tk })->R itv s2) :
  Ah (AW X.prog X.w) X.A.in1 (bK (.ref p)) R E s:=by
 have hh:X.A.in1.handled=none:=I.ok.hd hc
 have fin:∀(its:List AD),BU (bs.map V.bl) its->(Ac its.toArray.size).map (λi=>bs.getD i false)=bs:=λits r=>by
  have:its.toArray.size=bs.length:=by have:=r.length;simp at this;simpa using this.symm
  rw [this,range_getD]
 have tru:∀(its:List AD),BU (bs.map V.bl) its->TruthOf X.prog X.w X.A.in1 (λi v=>its.toArray[i]?=some v) (λi=>bs.getD i false):=λits r i v s Q E hv q=>by
  rw [Yy r hv];exact Co q
 have kp:∀(ob:Obj) (h':Bk) (tk:Nat),(∀b o,¬b∈[s.heap.objs.size]->(s.heap.push ob).get? b=some o->h'.get? b=some o)->Inv X pins σ H { s with heap:=h',toks:=tk }:=λob h' tk k=>
  I.kept λb o e=>k b o (by simpa using Ax (Aa e)) (AJ _ e)
 rcases hq with hq | hq
 ·obtain ⟨its,r',pl,hz⟩:=I.list hq
  refine eE pl.isList (h _ _ ⟨s.heap.objs.size,_,_,_,_,_,_,rfl,Walks.list hh _ p (Ax (Aa pl.isList.choose_spec.1)) its.toArray,⟨⟨_,Af _ rfl,rfl,rfl⟩,?_⟩,tru its r',fin its r',kp _⟩)
  exact pl.isList.at λo e=>AJ _ e
 ·obtain ⟨its,r',pl,hz⟩:=I.tuple hq
  have pt:s.heap.IsTuple p its.toArray:=pl;refine Fv pt (h _ _ ⟨s.heap.objs.size,_,_,_,_,_,_,rfl,Walks.tuple hh _ p (Ax pl.lt) its.toArray,⟨⟨_,Af _ rfl,rfl,rfl⟩,?_⟩,tru its r',fin its r',kp _⟩);obtain ⟨o,e,c⟩:=pt;exact ⟨o,AJ _ e,c⟩
theorem V4 (hc:X.calm=true):IF X (.builtin "any") (W6 X.K λbs=>bs.any id):=by
 intro pins s σ H xs us Q I r h;obtain ⟨p,bs,rfl,hq,q⟩:=h;obtain ⟨u,rfl,rx⟩:=vals1 r;cases rx;refine call_any_walk (TY hc I hq λitv s2 ⟨J,fp,wr,n,P,St,tr,e,W,st,tru,eb,kp⟩=>⟨J,fp,wr,n,P,St,tr,e,W,st,tru,λh' tk k=>⟨.bl _,H,kp h' tk k,rfl,?_⟩⟩);rw [<-eb] at q;dsimp only at q;rw [List.any_map] at q;exact q
def TZ:List D->Option (List Bool)
 | []=>some []
 | .bl b :: ds=>(TZ ds).map (b :: ·)
 | _ :: _=>none
theorem Uh {K:AA} {ρ:List AI} {H:Hp}:∀ {ds:List D} {vs:List V} {bs:List Bool},At K ρ H ds vs->TZ ds=some bs->vs=bs.map V.bl
 | _,_,_,.nil,h=>by cases h;rfl
 | .bl b :: ds,_,bs,.cons r t,h=>by
  unfold TZ at h
  cases hq:TZ ds with
  | none=>rw [hq] at h;cases h
  | some cs=>rw [hq] at h;cases h;cases r;rw [Uh t hq];rfl
 | .non :: _,_,_,.cons r t,h=>by cases h
 | .int _ :: _,_,_,.cons r t,h=>by cases h
 | .str _ :: _,_,_,.cons r t,h=>by cases h
 | .tup _ :: _,_,_,.cons r t,h=>by cases h
 | .fro _ :: _,_,_,.cons r t,h=>by cases h
 | .ref _ :: _,_,_,.cons r t,h=>by cases h
 | .exc _ :: _,_,_,.cons r t,h=>by cases h
def aJ (f:List Bool->Bool) (ds:List D) (S:Sto):Res D:=match TZ ds with
 | some bs=>.ok (.bl (f bs)) S
 | none=>.bad
theorem Wx {f:List Bool->Bool}:d9 X.K (W6 X.K f) (aJ f):=λρ H S ds q xs d S' Q hs rr sq hm k=>by
 unfold aJ at hm;split at hm
 ·rename_i bs hb
  cases hm;rw [Uh rr hb] at sq;exact ⟨q,bs,rfl,sq,k ρ H _ .refl hs (.bl _)⟩
 ·cases hm
abbrev V6:=aJ λbs=>bs.any id
def Y4:List Int->Int:=λns=>bL (λi=>ns.getD i 0) ns.length
theorem Ki {f g:Nat->Int}:∀(n:Nat),(∀i,i < n->f i=g i)->bL f n=bL g n
 | 0,_=>rfl
 | n+1,h=>by
  show bL f n+f n=bL g n+g n;rw [Ki n λi hi=>h i (by lia),h n (by lia)]
theorem Oo {ns:List Int} {its:List AD} (r:BU (ns.map V.int) its):∃xs:Array (Int×Tok),its.toArray=intItems xs/\xs.size=ns.length/\∀i,i < ns.length->numAt xs i=ns.getD i 0:=by
 induction ns generalizing its with
 | nil=>
  cases r;exact ⟨#[],by simp [intItems],rfl,λi hi=>absurd hi (by simp)⟩
 | cons n ns ih=>
  cases r with
  | cons r1 r2=>
   obtain ⟨xs,e1,e2,e3⟩:=ih r2;obtain ⟨t,rfl⟩:=r1;refine ⟨#[(n,t)]++xs,?_,by simp [e2];lia,λi hi=>?_⟩
   ·unfold intItems at e1 ⊢
    rw [Array.map_append,<-e1];simp
   ·cases i with
    | zero=>
     unfold numAt;rw [Array.getElem?_append_left (by simp)];simp
    | succ i=>
     have:=e3 i (by simpa using hi);unfold numAt at this ⊢;rw [Array.getElem?_append_right (by simp)];simpa using this
def fS (K:AA) (f:List Int->Int):List V->Hp->VK->Prop:=λxs H Q=>∃p ns,xs=[.ref p]/\SqL K H p (ns.map V.int)/\Q (.int (f ns)) H
theorem V0 (hc:X.calm=true):IF X (.builtin "sum") (fS X.K Y4):=by
 intro pins s σ H xs us Q I r h;obtain ⟨p,ns,rfl,hq,q⟩:=h;obtain ⟨u,rfl,rx⟩:=vals1 r;cases rx;obtain ⟨its,r',pl,hz⟩:=I.list hq;obtain ⟨xs,e1,e2,e3⟩:=Oo r'
 refine sum_intListG (xs:=xs) (I.ok.hd hc) (by rw [<-e1];exact pl.isList) λh' tk t' kp=>⟨.int _,H,I.kept kp,⟨t',rfl⟩,?_⟩
 rw [e2,Ki _ e3];exact q
def Io:List D->Option (List Int)
 | []=>some []
 | .int b :: ds=>(Io ds).map (b :: ·)
 | _ :: _=>none
theorem Ku:∀ {ds:List D} {ns:List Int},Io ds=some ns->ds=ns.map D.int
 | [],_,h=>by cases h;rfl
 | .int b :: ds,ns,h=>by
  unfold Io at h
  cases hq:Io ds with
  | none=>rw [hq] at h;cases h
  | some cs=>rw [hq] at h;cases h;rw [Ku hq];rfl
 | .non :: _,_,h=>by cases h
 | .bl _ :: _,_,h=>by cases h
 | .str _ :: _,_,h=>by cases h
 | .tup _ :: _,_,h=>by cases h
 | .fro _ :: _,_,h=>by cases h
 | .ref _ :: _,_,h=>by cases h
 | .exc _ :: _,_,h=>by cases h
@[simp] theorem R0:∀ns:List Bool,TZ (ns.map D.bl)=some ns
 | []=>rfl
 | n :: ns=>by rw [A5,TZ,R0 ns];rfl
def TC (m:ME):ME:=λe S=>(m e S).bind λd S1=>match Mq d S1 with
 | some ds=>match Io ds with
  | some ns=>.ok (.int (Y4 ns)) S1
  | none=>.bad
 | none=>.bad
variable {e:Expr} {m:ME} {ml:ML} {p pos:Pos}
theorem dU (hc:X.calm=true) (hg:Gl X "sum") (hm:X.mg "sum" = none) (h:GE X E e m) (he:AX [e] X.env=(false,B0 e X.env) :: AX [] X.env:=by rfl):GE X E (.Call (.Name "sum" p) [e] [] pos) (TC m):=
 (Hu (V0 hc) hg hm gw (FI h He he) (by decide) (by decide) he rfl).imp λσ H Q ⟨ρ,l,S,hl,hs,hm⟩=>by
 refine ⟨ρ,l,S,hl,hs,hm.seq λd S1 hm ρ1 H1 x l1 s1 r1=>?_⟩
 cases hq:Mq d S1 with
 | none=>rw [hq] at hm;exact hm.elim
 | some ds=>
  rw [hq] at hm;dsimp only at hm
  cases hi:Io ds with
  | none=>rw [hi] at hm;exact hm.elim
  | some ns=>
   rw [hi] at hm;obtain ⟨p,xs,rfl,rr,sq⟩:=IT s1 r1 hq;rw [Ku hi] at rr;rw [rr.ints] at sq;exact ⟨p,ns,rfl,sq,hm ρ1 H1 _ l1 s1 (.int _)⟩
def tyD (d:D) (S:Sto):Option String:=match d with
 | .non=>some "NoneType"
 | .bl _=>some "bool"
 | .int _=>some "int"
 | .str _=>some "str"
 | .tup _=>some "tuple"
 | .ref n=>match S[n]? with
  | some (.lst _)=>some "list"
  | some (.dK _)=>some "dict"
  | some (.dT _)=>some "dict"
  | _=>none
 | .fro _=>none
 | .exc _=>none
theorem bX {K:AA} {ρ:List AI} {S:Sto} {H:Hp} {d:D} {x:V} {T:String} (s:B8 K ρ S H) (r:Bi K ρ H d x) (h:tyD d S=some T):LH K H x (.type T):=by
 cases r with
 | non=>cases h;exact .non
 | bl b=>cases h;exact .bl b
 | int i=>cases h;exact .int i
 | str i=>cases h;exact .str i
 | tup h1 _=>cases h;exact .tup h1
 | fro _ _=>cases h
 | exc _ _=>cases h
 | @ref n a hn=>
  obtain ⟨o,ho,ro⟩:=s.there hn;unfold tyD at h;simp only [ho] at h
  cases o with
  | lst es=>cases h;obtain ⟨vs,e,rr⟩:=ro;exact .lst e
  | dK es=>cases h;obtain ⟨vs,e,rr⟩:=ro;exact .dK e
  | dT es=>cases h;obtain ⟨vs,e,rr⟩:=ro;exact .dT e
  | ins _ _=>cases h
end
end L2
namespace L2
open PySem PySem.Spec PyProof.Rows
def G4 {α:Type} (r r':Res α):Res α:=match r with
 | .bad=>r'
 | r=>r
theorem VV {α:Type} (r r':Res α):G4 r r'=r∨G4 r r'=r':=by cases r <;> simp [G4]
def op2 (f g:D->D->Sto->Res D):D->D->Sto->Res D:=λx y S=>G4 (f x y S) (g x y S)
theorem UI (f g:D->D->Sto->Res D) (ma mb:ME) (l:Lo) (S:Sto):m2 (op2 f g) ma mb l S=m2 f ma mb l S∨m2 (op2 f g) ma mb l S=m2 g ma mb l S:=by
 unfold m2
 cases ma l S with
 | ok x S1=>
  dsimp only [Res.bind]
  cases mb l S1 with
  | ok y S2=>
   dsimp only [Res.bind];unfold op2
   rcases VV (f x y S2) (g x y S2) with e | e <;> rw [e] <;> simp
  | err c S2=>exact .inl rfl
  | bad=>exact .inl rfl
 | err c S1=>exact .inl rfl
 | bad=>exact .inl rfl
section
variable {X:Cx} {E:EW} {e o i:Expr} {pos:Pos} {m m1 m2':ME}
theorem YD {m m1 m2:ME} (h1:GE X E e m1) (h2:GE X E e m2) (h:∀l S,m l S=m1 l S∨m l S=m2 l S):GE X E e m:=λpins s σ H Q I ⟨ρ,l,S,hl,hs,a⟩=>by
 rcases h l S with q | q
 ·rw [q] at a;exact h1 pins s σ H Q I ⟨ρ,l,S,hl,hs,a⟩
 ·rw [q] at a;exact h2 pins s σ H Q I ⟨ρ,l,S,hl,hs,a⟩
theorem X1 {t t1 t2:MT} (h1:GT X E e t1) (h2:GT X E e t2) (h:∀l S,t l S=t1 l S∨t l S=t2 l S):GT X E e t:=λpins s σ H Q I ⟨ρ,l,S,hl,hs,a⟩=>by
 rcases h l S with q | q
 ·rw [q] at a;exact h1 pins s σ H Q I ⟨ρ,l,S,hl,hs,a⟩
 ·rw [q] at a;exact h2 pins s σ H Q I ⟨ρ,l,S,hl,hs,a⟩
theorem dS {tg:Expr} {t t1 t2:MI} (h1:GI X E tg e t1) (h2:GI X E tg e t2) (h:∀l S,t l S=t1 l S∨t l S=t2 l S):GI X E tg e t:=λpins s σ H R I ⟨ρ,l,S,hl,hs,a⟩=>by
 rcases h l S with q | q
 ·rw [q] at a;exact h1 pins s σ H R I ⟨ρ,l,S,hl,hs,a⟩
 ·rw [q] at a;exact h2 pins s σ H R I ⟨ρ,l,S,hl,hs,a⟩
theorem ar {m m1 m2:ME} (h:∀l S,m l S=m1 l S∨m l S=m2 l S) (l:Lo) (S:Sto):mB m l S=mB m1 l S∨mB m l S=mB m2 l S:=by
 unfold mB
 rcases h l S with q | q <;> rw [q] <;> simp
abbrev inA (neg:Bool):=op2 (inD neg) (Jo neg)
variable {mi mo:ME}
theorem az (hu:X.A.units+64 < D3) (hi:GE X E i mi) (ho:GE X E o mo) (h1:CI .In o=false:=by with_unfolding_all rfl):GE X E (.Compare i [.In] [o] pos) (m2 (inA false) mi mo):=
 YD (QQ (aq hu) hi ho h1) (dY (by lia) hi ho h1) λ_ _=>UI _ _ _ _ _ _
theorem aw (hu:X.A.units+64 < D3) (hi:GE X E i mi) (ho:GE X E o mo) (h1:CI .In o=false:=by with_unfolding_all rfl):GT X E (.Compare i [.In] [o] pos) (mB (m2 (inA false) mi mo)):=
 X1 (DQ (aq hu) hi ho h1) (dM (by lia) hi ho h1) (ar λ_ _=>UI _ _ _ _ _ _)
theorem Rp (hu:X.A.units+64 < D3) (hi:GE X E i mi) (ho:GE X E o mo) (h1:CI .NotIn o=false:=by with_unfolding_all rfl):GT X E (.Compare i [.NotIn] [o] pos) (mB (m2 (inA true) mi mo)):=
 X1 (DQ (XT hu) hi ho h1) (Vm (by lia) hi ho h1) (ar λ_ _=>UI _ _ _ _ _ _)
abbrev ixA:=op2 ixD Uc
theorem Fu (hu:X.A.units+64 < D3) (ho:GE X E o mo) (hi:GE X E i mi) (hs:Qk i:=by intro _ _;rfl):GE X E (.Subscript o i pos) (m2 ixA mo mi):=
 YD (gd ft ho hi hs) (Z5 (by lia) ho hi hs) λ_ _=>UI _ _ _ _ _ _
def C2 (d:D):Hk:=match d with
 | .tup ds=>Bt ds
 | d=>L9 d
def Ec (m:ME):MI:=λe S=>(m e S).bind λd S1=>match C2 d S1 with
 | some _=>.ok (C2 d) S1
 | none=>.bad
theorem FM {tg:Expr} (h:GE X E e m):GI X E tg e (Ec m):=dS (dR h) (dQ h) λl S=>by
 unfold Ec gX au
 cases m l S with
 | ok d S1=>
  dsimp only [Res.bind]
  cases d <;> first | exact .inl rfl | exact .inr rfl
 | err c S1=>exact .inl rfl
 | bad=>exact .inl rfl
def Eb (m:ME):ME:=λe S=>(m e S).bind λd S1=>match HL d S1 with
 | some ds=>.ok (.int ds.length) S1
 | none=>.bad
variable {p:Pos} {ml:ML} {es:List Expr}
theorem G7 (hg:Gl X "len") (hm:X.mg "len" = none) (h:GE X E e m) (he:AX [e] X.env=(false,B0 e X.env) :: AX [] X.env:=by rfl):GE X E (.Call (.Name "len" p) [e] [] pos) (Eb m):=
 (UT Qb bp hg hm PySem.boot_len (ax h) (by decide) (by decide) he).imp λσ H Q ⟨ρ,l,S,hl,hs,a⟩=>⟨ρ,l,S,hl,hs,by
  have q:mQ gK (Rb m) l S=Eb m l S:=by
   unfold mQ Rb Eb
   cases m l S with
   | ok d S1=>
    dsimp only [Res.bind]
    cases HL d S1 <;> rfl
   | err c S1=>rfl
   | bad=>rfl
  rw [q];exact a⟩
theorem Z3 {a b:Expr} (hc:X.calm=true) (hg:Gl X "min") (hm:X.mg "min" = none) (h:GA X E [a,b] ml) (he:AX [a,b] X.env=(false,B0 a X.env) :: AX [b] X.env:=by rfl) (hpl:(Ej pos (AX [b] X.env)).any (·.1)=false:=by rfl):GE X E (.Call (.Name "min" p) [a,b] [] pos) (mQ PM ml):=
 UW (V2 hc) aS hg hm gz h (by decide) (by decide) he hpl
theorem Z4 {a b:Expr} (hc:X.calm=true) (hg:Gl X "max") (hm:X.mg "max" = none) (h:GA X E [a,b] ml) (he:AX [a,b] X.env=(false,B0 a X.env) :: AX [b] X.env:=by rfl) (hpl:(Ej pos (AX [b] X.env)).any (·.1)=false:=by rfl):GE X E (.Call (.Name "max" p) [a,b] [] pos) (mQ PN ml):=
 UW (V3 hc) aT hg hm g7 h (by decide) (by decide) he hpl
theorem dZ (hc:X.calm=true) (hg:Gl X "any") (hm:X.mg "any" = none) (h:GE X E e m) (he:AX [e] X.env=(false,B0 e X.env) :: AX [] X.env:=by rfl):GE X E (.Call (.Name "any" p) [e] [] pos) (mQ V6 (Rb m)):=
 UT (V4 hc) Wx hg hm g8 (ax h) (by decide) (by decide) he
end
end L2
namespace L2
open PySem PySem.Spec PyProof.Rows
abbrev MJ:=Str->Lo->Sto->Res Str
def TJ:MJ:=λacc _ S=>if acc.length<=sizeLine then .ok acc S else .bad
def Im (m:ME) (r:MJ):MJ:=λacc e S=>(m e S).bind λd S1=>match d with
 | .str y=>if (acc++y).length<=sizeLine then r (acc++y) e S1 else .bad
 | _=>.bad
def gJ (K:AA) (E:EW) (m:MJ) (acc:Str):TE:=λσ H Q=>∃ρ e S,E4 K ρ H e σ/\B8 K ρ S H/\Bv K (λc=>E c σ) ρ H (m acc e S) λy S'=>∀ρ' H',Le K ρ H ρ' H'->B8 K ρ' S' H'->Q (.str y) H'
def GJ (X:Cx) (E:EW) (es:List Expr) (m:MJ):Prop:=∀(acc:Str) (pins:List (AI×Obj)) (s:AF) (σ:St) (H:Hp) (Q:VK),Inv X pins σ H s->gJ X.K E m acc σ H Q->Ah (AW X.prog X.w) X.A (joinParts acc (evalEach es X.env)) (EP X pins σ Q) X.xe s
def PP (m:MJ):ME:=λe S=>(m M7 e S).bind λy S1=>.ok (.str y) S1
def Vb (m:ME):ME:=λe S=>(m e S).bind λd S1=>match d with
 | .int i=>if i.natAbs.log2 < 1920 then .ok (.str (toString i)) S1 else .bad
 | _=>.bad
section
variable {X:Cx} {E:EW} {e a b:Expr} {es:List Expr} {pos:Pos} {m:ME} {mj:MJ}
theorem X4:GJ X E [] TJ:=λacc pins s σ H Q I ⟨ρ,l,S,hl,hs,hm⟩=>by
 unfold TJ at hm;split at hm
 ·rename_i hz
  exact joinParts_nil ⟨.str acc,H,I.tok _,⟨_,rfl⟩,hm ρ H .refl hs⟩ hz
 ·exact hm.elim
theorem Je (h:GE X E e m) (hr:GJ X E es mj):GJ X E (e :: es) (Im m mj):=λacc pins s σ H Q I ⟨ρ,l,S,hl,hs,hm⟩=>by
 show Ah _ _ (joinParts acc (B0 e X.env :: evalEach es X.env)) _ _ s;refine joinParts_cons (thn (h pins s σ H (λx H1=>∃y,x=.str y/\(acc++y).length<=sizeLine/\gJ X.K E mj (acc++y) σ H1 Q) I ⟨ρ,l,S,hl,hs,Bv.seq hm λd S1 hm ρ1 H1 x l1 s1 r1=>?_⟩) λu s1 ⟨x,H1,I1,rx,y,ex,hz,q⟩=>?_)
 ·cases d <;> first | exact hm.elim | skip
  dsimp only at hm;split at hm
  ·rename_i y hz
   cases r1;exact ⟨y,rfl,hz,ρ1,l,S1,hl.mono l1,s1,hm.go l1 λ_ _ k ρ2 H2 l2 s2=>k ρ2 H2 (l1.trans l2) s2⟩
  ·exact hm.elim
 ·subst ex
  obtain ⟨t,rfl⟩:=rx;exact ⟨hz,hr _ pins s1 σ H1 Q I1 q⟩
theorem UV (h:GJ X E (a :: b :: es) mj):GE X E (.JoinedStr (a :: b :: es) pos) (PP mj):=λpins s σ H Q I ⟨ρ,l,S,hl,hs,hm⟩=>by
 refine JoinedStr_many (h M7 pins s σ H Q I ⟨ρ,l,S,hl,hs,Bv.seq hm λy S1 hm ρ1 H1 l1 s1=>hm ρ1 H1 _ l1 s1 (.str y)⟩)
theorem X9 (h:GE X E e m):GE X E (.FormattedValue e (-1) none pos) (Vb m):=λpins s σ H Q I ⟨ρ,l,S,hl,hs,hm⟩=>by
 refine FormattedValue_plain (thn (h pins s σ H (λx H1=>∃i:Int,x=.int i/\i.natAbs.log2 < 1920/\Q (.str (toString i)) H1) I ⟨ρ,l,S,hl,hs,Bv.seq hm λd S1 hm ρ1 H1 x l1 s1 r1=>?_⟩) λu s1 ⟨x,H1,I1,rx,i,ex,hz,q⟩=>?_)
 ·cases d <;> first | exact hm.elim | skip
  dsimp only at hm;split at hm
  ·rename_i hz
   cases r1;exact ⟨_,rfl,hz,hm ρ1 H1 _ l1 s1 (.str _)⟩
  ·exact hm.elim
 ·subst ex
  obtain ⟨t,rfl⟩:=rx;exact wpAny_formatField_int hz ⟨.str (toString i),H1,I1.tok _,⟨_,rfl⟩,q⟩
end
section
variable {X:Cx} {E:EW} {o e:Expr} {apos cpos:Pos} {mo ma:ME}
end
def isN (A:String):Option Bool:=if ["NoneType", "bool", "int", "str", "tuple", "list", "dict"].contains A then some false else none
def mIs (tab:String->Option Bool) (tabC:AI->Option Bool) (m:ME):ME:=λe S=>(m e S).bind λd S1=>match d with
 | .exc C=>match tabC C with
  | some b=>.ok (.bl b) S1
  | none=>.bad
 | d=>match tyD d S1 with
  | some T=>match tab T with
   | some b=>.ok (.bl b) S1
   | none=>.bad
  | none=>.bad
def Yx (sc:HJ) (x:Str):Bool:=decide (sc.names.lookup x=some .local)||decide (sc.names.lookup x=some .cell)||decide (sc.names.lookup x=some .free)
def YO (X:Cx) (scope:HJ) (own N':List Str):Bool:=
 decide (scope.kind=.function)&&scope.names.all (λy=>!decide (y.2=.cell))&&scope.names.all (λy=>!decide (y.2=.local)||decide (scope.names.lookup y.1=some .local)) &&
 scope.names.all (λy=>!decide (y.2=.free)||decide (X.env.kindOf y.1=some .cell)||decide (X.env.kindOf y.1=some .free))&&decide (N'.length=own.length+X.N.length) &&
 ((N'.drop own.length).zip X.N).all (λp=>!Yx (Hm scope X.env) p.1||(decide (p.1=p.2)&&Yx X.env.scope p.1&&(decide ((Hm scope X.env).names.lookup p.1=some .cell)||decide ((Hm scope X.env).names.lookup p.1=some .free))&&!decide (X.env.kindOf p.1=some .local))) &&
 (Hm scope X.env).names.all (λy=>(!decide (y.2=.cell)&&!decide (y.2=.free))||scope.names.any (λz=>decide (z=(y.1,HM))))
theorem Q7 {sc:HJ} {x:Str}:Yx sc x=true↔Vis sc x:=by
 unfold Yx Vis;simp [or_assoc]
theorem HW {X:Cx} {scope:HJ} {own N':List Str} (h:YO X scope own N'=true):KJ X scope own N':=by
 unfold YO at h;simp only [FD] at h;obtain ⟨⟨⟨⟨⟨⟨h1,h2⟩,h3⟩,h4⟩,h5⟩,h6⟩,h7⟩:=h;rw [BW] at h2 h3 h4 h6 h7;refine ⟨of_decide_eq_true h1,λy hy=>?_,λy hy e=>?_,λy hy e=>?_,of_decide_eq_true h5,λi x e v=>?_,λx hx=>?_⟩
 ·simpa using h2 y hy
 ·have:=h3 y hy
  simpa [e] using this
 ·have:=h4 y hy
  simpa [e] using this
 ·have hlen:=of_decide_eq_true h5
  have hi:own.length+i < N'.length:=(AG.mp e).1
  have hx:i < X.N.length:=by lia
  have hm:(x,X.N[i])∈(N'.drop own.length).zip X.N:=by
   rw [List.mem_iff_getElem?];refine ⟨i,?_⟩;rw [List.getElem?_zip_eq_some];exact ⟨by rw [WL];exact e,by simp [hx]⟩
  have:=h6 _ hm;rw [Q7.mpr v] at this;simp only [bS,bT,FD,Yq,decide_eq_true_eq,Hs,decide_eq_false_iff_not] at this;obtain ⟨⟨⟨z1,z2⟩,z3⟩,z4⟩:=this;exact ⟨by rw [z1];simp [hx],Q7.mp z2,z3,z4⟩
 ·have key:∀k,(Hm scope X.env).names.lookup x=some k->(k=.cell∨k=.free)->(x,HM)∈scope.names:=λk e hk=>by
   have:=h7 _ (D2 e)
   rcases hk with rfl | rfl
   ·simpa using this
   ·simpa using this
  rcases hx with e | e
  ·exact key _ e (.inl rfl)
  ·exact key _ e (.inr rfl)
structure Dfn (K:AA) (mg:Str->Option AD) (x qual:Str) (st:Cp) (ps:List Str) where
 f:AI
 fd:DY
 F:Fun K x qual st f fd
 b:Binds K fd ps []
 m:mg x=some (.ref f)
theorem Dfn.kp {K:AA} {mg:Str->Option AD} {x qual:Str} {st:Cp} {ps:List Str} (d:Dfn K mg x qual st ps):Fa K (.ref d.f)=true:=d.F.kp
structure Mtd (K:AA) (x qual:Str) (st:Cp) (ps:List Str) where
 f:AI
 fd:DY
 F:Fun K x qual st f fd
 b:Binds K fd ps []
structure Own (K:AA) (mg:Str->Option AD) (x:Str) (C f:AI):Prop where
 cl:Cls K C
 mk':Mk K C f
 m:mg x=some (.ref C)
structure Xcl (K:AA) (mg:Str->Option AD) (x:Str) (C:AI):Prop where
 xc:XCl K C
 m:mg x=some (.ref C)
end L2
namespace L2
open PySem PySem.Spec PyProof.Rows
structure XIs (K:AA) (C:AI):Prop where
 cl:(EJ K C).isSome=true
 ga:CV K (.ref C) "__getattribute__" = some (some (.builtin "BaseException.__getattribute__"))
 gn:CV K (.ref C) "__getattr__" = some none
 ca:CV K (.ref C) "__class__" = some (some (.builtin "object.__class__"))
 sp:Ti K (.builtin "object.__class__") "__get__" = some (some (.builtin "getset_descriptor.__get__"))
 tk:WG K (.builtin "object.__class__")=some true
 ob:Jq K C (.type "object")=some true
 be:Jq K C (.type "BaseException")=some true
theorem Ov.inst {h:Bk} {a C:AI} {o:Obj} (g:h.get? a=some o) (x:Ov o C):WU h a o C none:=by
 obtain ⟨x1,x2,vs,x3⟩:=x;refine ⟨g,x1,?_,?_⟩
 ·unfold PySem.W.notCls;rw [x3]
 ·rw [x2];trivial
section
variable {prog:Ar} {w:BG} {A:A8} {E:AD->AF->Prop} {s:AF} {K:AA} {a C:AI} {o:Obj}
theorem Vu {M:OS} {nameV:AD} {Q:Unit->AF->Prop} (c:XIs K C) (X:K.In s.heap) (g:s.heap.get? a=some o) (x:Ov o C) (h:Q () s):Ah M A (Pj "BaseException.__getattribute__" ⟨[.ref a,nameV],[]⟩) Q E s:=by
 have I:=x.inst g;obtain ⟨hh,gg,d,t,os⟩:=s;have L0:=I.type (M:=M);have LI:GH M hh (isInstance (.ref a) (.type "BaseException")) true:=L0.andThen (PySem.W.looks_mroIn X c.be)
 have k1:builtinKind "BaseException.__getattribute__" = some .slot:=by decide +kernel
 have k2:splitId "BaseException.__getattribute__" = some ("BaseException", "__getattribute__"):=by decide +kernel
 have k3:=PySem.F.args_bexc_ga (.ref a) nameV;simp only [Pj,k1,k2];refine AB (LI.at ?_)
 repeat (any_goals (first | assumption | wp_step))
theorem Vs {tk:Tok} {Q:Fin->AF->Prop} (c:XIs K C) (X:K.In s.heap) (g:s.heap.get? a=some o) (x:Ov o C) (h:Q (.done (.ret (.ref C))) s) :
  Ah (AW prog w) A (Builtin.«object.__getattribute__» ⟨[.ref a,.str "__class__" tk],[]⟩) Q E s:=by
 have I:=x.inst g;obtain ⟨hh,gg,d,t,os⟩:=s;have L0:=I.type (M:=AW prog w)
 have hf:WI K C none "__class__" = some (.bind (.builtin "getset_descriptor.__get__") (.builtin "object.__class__")):=by
  obtain ⟨cd,hcd⟩:=Oy.mp c.cl;unfold WI;rw [hcd,c.ca];simp only [GK];rw [c.sp];simp only [GK];rw [c.tk];rfl
 have L1:=PySem.W.looks_find (M:=AW prog w) X I hf;unfold Builtin.«object.__getattribute__»;refine AB (AM ?_);dsimp only;refine AB (AM (AB (L0.at (AB (L1.at ?_)))));dsimp only;unfold Yg;dsimp only;refine AB (Fp (SH (PySem.W.class_get X I c.ob ?_)));exact AM h
theorem Vt {Q:Option AD->AF->Prop} (c:XIs K C) (X:K.In s.heap) (g:s.heap.get? a=some o) (x:Ov o C) (h:Q (some (.ref C)) { s with toks:=s.toks+1 }):Ah (AW prog w) A (getAttr? (.ref a) "__class__") Q E s:=by
 have I:=x.inst g;obtain ⟨hh,gg,d,t,os⟩:=s;have L0:=I.type (M:=AW prog w);have L1:=JA (M:=AW prog w) X c.ga;have L2:=JA (M:=AW prog w) X c.gn;unfold getAttr? getAttrBy? getAttrBy;refine AB (wpAny_mkText (AB (HF (Fp (AB (L0.at (AB (L1.at ?_))))))))
 have hx:(onTheHeap (Au C)&&aZ "BaseException.__getattribute__"==aZ "object.__getattribute__")=false:=by show (true&&_)=false;decide +kernel
 dsimp only;rw [if_neg (by rw [hx];exact AR)];unfold getAttrByItsOwn hookBefore;refine AB ?_;rw [if_pos (show onTheHeap (Au C)=true from rfl)];refine L2.at (AB (HF (Fp ?_)));unfold callGetattribute;rw [if_neg (by simp)];unfold boundAndCalled;refine AB (Ql (NB.ga.bind (.ref a)) ?_);refine SH (codeAny_call_builtin NB.ga.plain PySem.F.entry_bexc_ga (Vu c X g x (Vs c X g x ?_)));exact AM (AM h)
theorem Rj (c:XIs K C):PySem.W.KitX K (.ref a) (.ref C) (λh=>∃o,h.get? a=some o/\Ov o C) where
 ty:=λM h X ⟨o,g,x⟩=>(x.inst g).type
 it:=λM h X _=>by
  have z:=c.cl;unfold EJ at z;split at z
  ·rename_i hk
   intro A' Q' E' s' k q;unfold isType loadHead;exact AB (SG (k _ _ (X _ _ hk)) (AM q))
  ·cases z
 ne:=λh tp dd its n sl X htp=>by
  refine Bool.eq_false_iff.mpr λq=>?_
  have e:C=tp:=Au.inj (beq_iff_eq.mp q);subst e;have z:=c.cl;unfold EJ at z;split at z
  ·rename_i hk
   have y:=(X _ _ hk).symm.trans htp;cases y
  ·cases z
 ca:=λX ⟨o,g,x⟩ k=>Vt c X g x k
end
def rIs (K:AA) (c:V) (cv:AD):List V->Hp->VK->Prop:=λxs H Q=>(∃x t b,xs=[x,c]/\LH K H x t/\Bn K t cv=some b/\Q (.bl b) H) ∨
 ∃a o u C b,xs=[.ref a,c]/\H a=some (.frz o u)/\Ov o C/\XIs K C/\Bn K (.ref C) cv=some b/\Q (.bl b) H
section
variable {X:Cx} {E:EW} {e ce:Expr} {p pos:Pos} {m:ME} {c:V} {cv:AD} {tab:String->Option Bool} {tabC:AI->Option Bool}
theorem aI (hv:∀u,RelV c u->u=cv):IF X (.builtin "isinstance") (rIs X.K c cv):=by
 intro pins s σ H xs us Q I r h
 rcases h with ⟨x,t,b,rfl,ty,e,q⟩ | ⟨a,o,u,C,b,rfl,ha,xo,xc,e,q⟩
 ·obtain ⟨v,w,rfl,r1,r2⟩:=vals2 r
  rw [hv w r2]
  exact Vg I r1 ty e λtk=>⟨.bl b,H,I.tok tk,rfl,q⟩
 ·obtain ⟨v,w,rfl,r1,r2⟩:=vals2 r
  rw [hv w r2];cases (show v=Au a from r1);obtain ⟨g,_⟩:=(show Cn X.prog X.w H s.heap a (.frz o u) from I.hok a _ ha)
  exact CD (Rj xc) I.kIn ⟨o,g,xo⟩ e (λz=>nomatch z) λtk=>⟨.bl b,H,I.tok tk,rfl,q⟩
theorem ay (hv:∀u,RelV c u->u=cv) (ht:∀T b,tab T=some b->Bn X.K (.type T) cv=some b) (hC:∀C b,tabC C=some b->XIs X.K C/\Bn X.K (.ref C) cv=some b)
  (hg:Gl X "isinstance") (hm:X.mg "isinstance" = none) (h:GE X E e m) (hce:PE X ce (tC c))
  (he:AX [e,ce] X.env=(false,B0 e X.env) :: AX [ce] X.env:=by rfl) (he2:AX [ce] X.env=(false,B0 ce X.env) :: AX [] X.env:=by rfl) (hpl:(Ej pos (AX [ce] X.env)).any (·.1)=false:=by rfl) :
  GE X E (.Call (.Name "isinstance" p) [e,ce] [] pos) (mIs tab tabC m):=
 (Hu (aI hv) hg hm KO (FI h (FI hce He he2) he) (by decide) (by decide) he hpl).imp λσ H Q ⟨ρ,l,S,hl,hs,hm⟩=>by
 refine ⟨ρ,l,S,hl,hs,hm.seq λd S1 hm ρ1 H1 x l1 s1 r1=>?_⟩
 have plainD:∀(z:Bv X.K (λc=>E c σ) ρ H (match tyD d S1 with | some T=>(match tab T with | some b=>Res.ok (D.bl b) S1 | none=>.bad) | none=>.bad) λd S'=>∀ρ' H' x,Le X.K ρ H ρ' H'->B8 X.K ρ' S' H'->Bi X.K ρ' H' d x->Q x H'),rIs X.K c cv [x,c] H1 Q:=λhm=>by
  cases hq:tyD d S1 with
  | none=>rw [hq] at hm;exact hm.elim
  | some T=>
   rw [hq] at hm;dsimp only at hm
   cases hb:tab T with
   | none=>rw [hb] at hm;exact hm.elim
   | some b=>
    rw [hb] at hm;exact .inl ⟨x,_,b,rfl,bX s1 r1 hq,ht T b hb,hm ρ1 H1 _ l1 s1 (.bl _)⟩
 cases d with
 | exc C=>
  dsimp only at hm
  cases hb:tabC C with
  | none=>rw [hb] at hm;exact hm.elim
  | some b=>
   rw [hb] at hm
   cases r1 with
   | exc g x=>exact .inr ⟨_,_,_,C,b,rfl,g,x,(hC C b hb).1,(hC C b hb).2,hm ρ1 H1 _ l1 s1 (.bl _)⟩
 | _=>exact plainD hm
end
end L2
namespace Srt
open PySem PyProof.Rows
structure Ord (U:Ao->Prop) (lt:Ao->Ao->Bool):Prop where
 asym:∀x y,U x->U y->lt x y=true->lt y x=false
 ntr:∀x y z,U x->U y->U z->lt y x=false->lt z y=false->lt z x=false
theorem Ord.irr {U:Ao->Prop} {lt:Ao->Ao->Bool} (o:Ord U lt) {x:Ao} (h:U x):lt x x=false:=by
 cases e:lt x x with
 | false=>rfl
 | true=>exact (o.asym x x h h e).symm.trans e |>.symm▸rfl
def ix (xs:Array Ao) (i:Nat):Ao:=xs.getD i (.none,.none)
theorem Hz {xs ys:Array Ao} {i j:Nat} (h:xs[i]?=ys[j]?):ix xs i=ix ys j:=by
 unfold ix;rw [Eg,Eg,h]
theorem DG {xs:Array Ao} {i:Nat} (h:i < xs.size):xs[i]?=some (ix xs i):=by
 unfold ix;rw [Eg,getElem?_pos xs i h];rfl
theorem Vf {xs:Array Ao} {src d:Nat} (hs:src < xs.size) (hd:d<=src) (k:Nat) :
  ix (bN xs src d) k=if k=src - d then ix xs src else if src - d < k/\k<=src then ix xs (k - 1) else ix xs k:=by
 have e:=getElem?_bubble hs d hd k;split
 ·rename_i h;rw [if_pos h] at e;exact Hz e
 ·rename_i h
  rw [if_neg h] at e;split
  ·rename_i h2;rw [if_pos h2] at e;exact Hz e
  ·rename_i h2;rw [if_neg h2] at e;exact Hz e
theorem Dy {xs:Array Ao} {i j:Nat} (hj:j<=xs.size) (k:Nat) :
  ix (IJ xs i j ((j - i) / 2)) k=if i<=k/\k < j then ix xs (i+j - 1 - k) else ix xs k:=by
 have e:=getElem?_mirror_all (i:=i) hj k;split
 ·rename_i h;rw [if_pos h] at e;exact Hz e
 ·rename_i h;rw [if_neg h] at e;exact Hz e
section
variable {prog:Ar} {w:BG} {A:A8} {E:AD->AF->Prop} {s:AF} {a₀:Array Ao} {κ:FK} {lt:Ao->Ao->Bool}
def Iq (prog:Ar) (w:BG) (A:A8) (s:AF) (a₀:Array Ao) (κ:FK) (lt:Ao->Ao->Bool):Prop:=
 ∀x y,x∈a₀->y∈a₀->∀(Q:Bool->AF->Prop) (E:AD->AF->Prop),Q (lt x y) s->Ah (AW prog w) A (keyLt' κ x.1 y.1) Q E s
structure Good (a₀:Array Ao) (κ:FK) (st:BH):Prop where
 perm:(AT st).Perm a₀
 kind:kindOf st=κ
 failed:HH st=none
theorem Good.size {st:BH} (g:Good a₀ κ st):(AT st).size=a₀.size:=g.perm.size_eq
theorem Good.mem {st:BH} (g:Good a₀ κ st) {i:Nat} (h:i < a₀.size):ix (AT st) i∈a₀:=by
 have h':i < (AT st).size:=by rw [g.size];exact h
 have e:=DG h';have:=Cq e;exact BM.mp ((Eu.mp g.perm).mem_iff.mp (BM.mpr this))
theorem Good.setArr {st:BH} (g:Good a₀ κ st) {xs:Array Ao} (hp:xs.Perm (AT st)):Good a₀ κ (setArr st xs):=⟨hp.trans g.perm,g.kind,g.failed⟩
theorem NI {st:BH} {x y:Ao} {Q:Option Bool->BH->Prop} (C:Iq prog w A s a₀ κ lt) (g:Good a₀ κ st) (hx:x∈a₀) (hy:y∈a₀) (h:Q (some (lt x y)) st):wpS (AW prog w) A E s (lt' x y) Q st:=by
 rw [lt'_eq];refine AO (Ga ?_);rw [g.kind];refine AO (wpS_lift (HF ?_));refine C x y hx hy _ _ ⟨rfl,?_⟩;exact AQ h
theorem LU {st:BH} {i j:Nat} {Q:Option Bool->BH->Prop} (C:Iq prog w A s a₀ κ lt) (g:Good a₀ κ st) (hi:i < a₀.size) (hj:j < a₀.size) (h:Q (some (lt (ix (AT st) i) (ix (AT st) j))) st) :
  wpS (AW prog w) A E s (eK i j) Q st:=by
 rw [ltAt'_eq];refine AO (Ga ?_);show wpS _ _ _ _ (do let x <-elem' (AT st) i;let y <-elem' (AT st) j;lt' x y) Q st;rw [Yk,Yk,DG (by rw [g.size];exact hi),DG (by rw [g.size];exact hj)];exact AO (AQ (AO (AQ (NI C g (g.mem hi) (g.mem hj) h))))
def Up (lt:Ao->Ao->Bool) (xs:Array Ao) (lo hi:Nat):Prop:=∀i j,lo<=i->i<=j->j < hi->lt (ix xs j) (ix xs i)=false
def Dn (lt:Ao->Ao->Bool) (xs:Array Ao) (lo hi:Nat):Prop:=∀i j,lo<=i->i<=j->j < hi->lt (ix xs i) (ix xs j)=false
def Out (xs ys:Array Ao) (lo hi:Nat):Prop:=∀i,(i < lo∨hi<=i)->ix ys i=ix xs i
theorem Out.refl {xs:Array Ao} {lo hi:Nat}:Out xs xs lo hi:=λ_ _=>rfl
theorem Out.trans {xs ys zs:Array Ao} {lo hi:Nat} (a:Out xs ys lo hi) (b:Out ys zs lo hi):Out xs zs lo hi:=λi h=>(b i h).trans (a i h)
theorem Up.out {xs ys:Array Ao} {lo hi l h:Nat} (u:Up lt xs l h) (o:Out xs ys lo hi) (d:h<=lo∨hi<=l):Up lt ys l h:=λi j h1 h2 h3=>by
 rw [o i (by lia),o j (by lia)];exact u i j h1 h2 h3
theorem Up.grow {st:BH} (O:Ord (·∈a₀) lt) (g:Good a₀ κ st) {lo hi:Nat} (hs:hi < a₀.size) (u:Up lt (AT st) lo hi) (h0:lo < hi) (h:lt (ix (AT st) hi) (ix (AT st) (hi - 1))=false):Up lt (AT st) lo (hi+1):=λi j h1 h2 h3=>by
 by_cases hj:j < hi
 ·exact u i j h1 h2 hj
 ·have:j=hi:=by lia
  subst this
  by_cases hi':i=j
  ·subst hi';exact O.irr (g.mem hs)
  ·exact O.ntr _ _ _ (g.mem (by lia)) (g.mem (show j - 1 < _ by omega)) (g.mem hs) (u i (j - 1) h1 (by lia) (by lia)) h
theorem wpS_binarySort {st:BH} {lo n ok:Nat} {Q:Bool->BH->Prop} (C:Iq prog w A s a₀ κ lt) (O:Ord (·∈a₀) lt) (hn:lo+n<=a₀.size) (hok:ok<=n) (g:Good a₀ κ st) (u:Up lt (AT st) lo (lo+ok))
  (h:∀st',Good a₀ κ st'->Up lt (AT st') lo (lo+n)->Out (AT st) (AT st') lo (lo+n)->AU st'=AU st->Q true st'):wpS (AW prog w) A E s (binarySort' lo n ok) Q st:=by
 rw [binarySort'_eq]
 refine AO (DC (B2 (I:=λk c st'=>c=(none,())/\Good a₀ κ st'/\Up lt (AT st') lo (lo+min k n)/\Out (AT st) (AT st') lo (lo+n)/\AU st'=AU st)
  (Q:=λc st'=>c=(none,())/\Good a₀ κ st'/\Up lt (AT st') lo (lo+n)/\Out (AT st) (AT st') lo (lo+n)/\AU st'=AU st) ?step ?fin ?init) ?post)
 case post=>
  rintro c st' ⟨rfl,g',u',o',p'⟩;exact AQ (h st' g' u' o' p')
 case init=>
  refine ⟨rfl,g,λi j h1 h2 h3=>?_,.refl,rfl⟩
  by_cases h0:ok=0
  ·have:i=j:=by lia
   subst this;exact O.irr (g.mem (by omega))
  ·exact u i j h1 h2 (by lia)
 case fin=>
  rintro c st' ⟨hc,g',u',o',p'⟩;refine ⟨hc,g',?_,o',p'⟩;rwa [show min (max (max ok 1) n) n=n by lia] at u'
 case step=>
  rintro k c st1 hak hkn ⟨rfl,g1,u1,o1,p1⟩;rw [show min k n=k by lia] at u1
  have hk:lo+k < a₀.size:=by lia
  refine AO (DC (B2 (I:=λx c st2=>st2=st1/\∃l r,c=(none,l,r)/\l<=r/\r<=k/\r - l<=k - x /\
    (∀i,i < l->lt (ix (AT st1) (lo+k)) (ix (AT st1) (lo+i))=false)/\(∀i,r<=i->i < k->lt (ix (AT st1) (lo+k)) (ix (AT st1) (lo+i))=true))
   (Q:=λc st2=>st2=st1/\∃l r,c=(none,l,r)/\l<=k /\
    (∀i,i < l->lt (ix (AT st1) (lo+k)) (ix (AT st1) (lo+i))=false)/\(∀i,l<=i->i < k->lt (ix (AT st1) (lo+k)) (ix (AT st1) (lo+i))=true)) ?istep ?ifin ?iinit) ?ipost)
  case iinit=>exact ⟨rfl,0,k,rfl,by lia,by lia,by lia,λi hi=>by lia,λi h1 h2=>by lia⟩
  case ifin=>
   rintro c st2 ⟨rfl,l,r,rfl,hlr,hrk,hm,hlo,hhi⟩
   have:l=r:=by lia
   subst this;exact ⟨rfl,l,l,rfl,hrk,hlo,hhi⟩
  case istep=>
   rintro x c st2 _ hxk ⟨rfl,l,r,rfl,hlr,hrk,hm,hlo,hhi⟩;dsimp only
   by_cases hge:l ≥ r
   ·rw [if_pos hge]
    have:l=r:=by lia
    subst this;exact AQ ⟨rfl,l,l,rfl,hrk,hlo,hhi⟩
   ·rw [if_neg hge]
    refine AO (LU C g1 hk (by lia) ?_)
    cases hless:lt (ix (AT st2) (lo+k)) (ix (AT st2) (lo+(l+r) / 2)) with
    | true=>
     refine AQ ⟨rfl,l,(l+r) / 2,rfl,by lia,by lia,by omega,hlo,λi h1 h2=>?_⟩
     cases e:lt (ix (AT st2) (lo+k)) (ix (AT st2) (lo+i)) with
     | true=>rfl
     | false=>
      have:=O.ntr _ _ _ (g1.mem (show lo+(l+r) / 2 < _ by lia)) (g1.mem (show lo+i < _ by lia)) (g1.mem hk) (u1 (lo+(l+r) / 2) (lo+i) (by lia) (by lia) (by lia)) e;rw [hless] at this;cases this
    | false=>
     refine AQ ⟨rfl,(l+r) / 2+1,r,rfl,by lia,by omega,by omega,λi h1=>?_,hhi⟩;exact O.ntr _ _ _ (g1.mem (show lo+i < _ by lia)) (g1.mem (show lo+(l+r) / 2 < _ by lia)) (g1.mem hk) (u1 (lo+i) (lo+(l+r) / 2) (by lia) (by lia) (by lia)) hless
  case ipost=>
   rintro c st2 ⟨rfl,l,r,rfl,hlk,hlo,hhi⟩;show wpS _ _ _ _ (do moveDown' (lo+k) (lo+l);pure (GU (none,()))) _ _;rw [moveDown'_eq]
   have hks:lo+k < (AT st2).size:=by rw [g1.size];exact hk
   have e:∀i,ix (bN (AT st2) (lo+k) (lo+k - (lo+l))) i=if i=lo+l then ix (AT st2) (lo+k) else if lo+l < i/\i<=lo+k then ix (AT st2) (i - 1) else ix (AT st2) i:=λi=>by
    rw [Vf hks (by lia),show lo+k - (lo+k - (lo+l))=lo+l by lia]
   refine AO (DM (AQ ⟨rfl,g1.setArr (bubble_perm _ _ _),?_,o1.trans λi hi=>?_,p1⟩))
   ·rw [show min (k+1) n=k+1 by lia]
    intro i j h1 h2 h3;show lt (ix (bN (AT st2) (lo+k) (lo+k - (lo+l))) j) (ix (bN (AT st2) (lo+k) (lo+k - (lo+l))) i)=false;rw [e,e]
    repeat' split
    all_goals first
     | (exfalso;lia)
     | exact O.irr (g1.mem hk)
     | (have q:=hlo (i - lo) (by lia);rw [show lo+(i - lo)=i by lia] at q;exact q)
     | (have q:=hhi (j - 1 - lo) (by omega) (by omega);rw [show lo+(j - 1 - lo)=j - 1 by lia] at q;exact O.asym _ _ (g1.mem hk) (g1.mem (by lia)) q)
     | exact u1 _ _ (by omega) (by omega) (by lia)
   ·show ix (bN (AT st2) (lo+k) (lo+k - (lo+l))) i=ix (AT st2) i
    rw [e,if_neg (by lia),if_neg (by lia)]
end
end Srt
namespace Srt
open PySem PyProof.Rows
section
variable {prog:Ar} {w:BG} {A:A8} {E:AD->AF->Prop} {s:AF} {a₀:Array Ao} {κ:FK} {lt:Ao->Ao->Bool}
theorem Ht {σ:Type} {M:OS} {r:String} {Q:PUnit->σ->Prop} {st:σ} (h:Q ⟨⟩ st):wpS M A E s (liftM (rule r):StateT σ Sem PUnit) Q st:=wpS_lift (bE ⟨rfl,h⟩)
theorem Dn.flip {xs:Array Ao} {lo hi:Nat} (hs:hi<=xs.size) (d:Dn lt xs lo hi):Up lt (IJ xs lo hi ((hi - lo) / 2)) lo hi:=λi j h1 h2 h3=>by
 rw [Dy hs,Dy hs,if_pos (by lia),if_pos (by lia)];exact d _ _ (by omega) (by omega) (by omega)
theorem Dn.part {xs:Array Ao} {lo hi m:Nat} (hs:hi<=xs.size) (hm:lo<=m) (hmh:m<=hi) (d:Dn lt xs lo hi) (e:Up lt xs m hi):Dn lt (IJ xs m hi ((hi - m) / 2)) lo hi:=λi j h1 h2 h3=>by
 rw [Dy hs,Dy hs]
 by_cases hi':m<=i
 ·rw [if_pos (by lia),if_pos (by lia)]
  exact e _ _ (by omega) (by omega) (by omega)
 ·rw [if_neg (by lia)]
  split
  ·exact d _ _ (by omega) (by lia) (by omega)
  ·exact d _ _ (by omega) (by omega) (by omega)
theorem IR {xs:Array Ao} {i j lo hi:Nat} (hj:j<=xs.size) (h1:lo<=i) (h2:j<=hi):Out xs (IJ xs i j ((j - i) / 2)) lo hi:=λk hk=>by
 rw [Dy hj,if_neg (by lia)]
theorem Dn.grow {st:BH} (O:Ord (·∈a₀) lt) (g:Good a₀ κ st) {lo hi:Nat} (hs:hi < a₀.size) (u:Dn lt (AT st) lo hi) (h0:lo < hi) (h:lt (ix (AT st) (hi - 1)) (ix (AT st) hi)=false):Dn lt (AT st) lo (hi+1):=λi j h1 h2 h3=>by
 by_cases hj:j < hi
 ·exact u i j h1 h2 hj
 ·have:j=hi:=by lia
  subst this
  by_cases hi':i=j
  ·subst hi';exact O.irr (g.mem hs)
  ·exact O.ntr _ _ _ (g.mem hs) (g.mem (show j - 1 < _ by omega)) (g.mem (by lia)) h (u i (j - 1) h1 (by lia) (by lia))
theorem SX (O:Ord (·∈a₀) lt) {st:BH} (g:Good a₀ κ st) {lo:Nat} (h:lo < a₀.size):Up lt (AT st) lo (lo+1):=λi j h1 h2 h3=>by
 have e1:i=lo:=by lia
 have e2:j=lo:=by lia
 rw [e1,e2];exact O.irr (g.mem h)
theorem Yu {st:BH} {lo nrem n:Nat} {Q:Option Nat->BH->Prop} (C:Iq prog w A s a₀ κ lt) (O:Ord (·∈a₀) lt) (h1:1<=n) (h2:n<=nrem) (hn:lo+nrem<=a₀.size) (g:Good a₀ κ st) (u:Up lt (AT st) lo (lo+n))
  (h:∀n,1<=n->n<=nrem->Up lt (AT st) lo (lo+n)->Q (some n) st):wpS (AW prog w) A E s (do
   let mut n:=n
   for _ in [n:nrem] do
    let some smaller <-eK (lo+n) (lo+n - 1) | return none
    if smaller then break
    n:=n+1
   return some n) Q st:=by
 refine AO (DC (B2 (I:=λx c st'=>st'=st/\c=(none,x)/\Up lt (AT st) lo (lo+x))
  (Q:=λc st'=>st'=st/\∃n,c=(none,n)/\1<=n/\n<=nrem/\Up lt (AT st) lo (lo+n)) ?step ?fin ⟨rfl,rfl,u⟩) ?post)
 case fin=>
  rintro c st' ⟨rfl,rfl,u⟩
  have e:max n nrem=nrem:=by lia
  rw [e] at u ⊢;exact ⟨rfl,nrem,rfl,by lia,AS _,u⟩
 case step=>
  rintro x c st' hx1 hx2 ⟨rfl,rfl,u⟩;dsimp only;refine AO (LU C g (by lia) (by lia) ?_)
  cases hq:lt (ix (AT st') (lo+x)) (ix (AT st') (lo+x - 1)) with
  | true=>exact AQ ⟨rfl,x,rfl,by lia,by lia,u⟩
  | false=>exact AQ ⟨rfl,rfl,Up.grow (hi:=lo+x) O g (by lia) u (by lia) hq⟩
 case post=>
  rintro c st' ⟨rfl,n,rfl,hn1,hn2,u⟩;exact AQ (h n hn1 hn2 u)
theorem wpS_countRun {st:BH} {lo nrem:Nat} {Q:Option Nat->BH->Prop} (C:Iq prog w A s a₀ κ lt) (O:Ord (·∈a₀) lt) (h1:1<=nrem) (hn:lo+nrem<=a₀.size) (g:Good a₀ κ st)
  (h:∀st' n,Good a₀ κ st'->1<=n->n<=nrem->Up lt (AT st') lo (lo+n)->Out (AT st) (AT st') lo (lo+nrem)->AU st'=AU st->Q (some n) st'):wpS (AW prog w) A E s (countRun' lo nrem) Q st:=by
 rw [countRun'_eq]
 refine AO (DC (B2 (I:=λx c st'=>st'=st/\c=(none,x)/\Up lt (AT st) lo (lo+x))
  (Q:=λc st'=>st'=st/\∃n,c=(none,n)/\1<=n/\n<=nrem/\Up lt (AT st) lo (lo+n)/\(n=nrem∨lt (ix (AT st) (lo+n)) (ix (AT st) (lo+n - 1))=true)) ?step ?fin ?init) ?post)
 case init=>
  refine ⟨rfl,rfl,λi j a1 a2 a3=>?_⟩
  have:i=j:=by lia
  subst this;exact O.irr (g.mem (by lia))
 case fin=>
  rintro c st' ⟨rfl,rfl,u⟩
  have e:max 1 nrem=nrem:=by lia
  rw [e] at u ⊢;exact ⟨rfl,nrem,rfl,h1,AS _,u,.inl rfl⟩
 case step=>
  rintro x c st' hx1 hx2 ⟨rfl,rfl,u⟩;dsimp only;refine AO (LU C g (by lia) (by lia) ?_)
  cases hq:lt (ix (AT st') (lo+x)) (ix (AT st') (lo+x - 1)) with
  | true=>exact AQ ⟨rfl,x,rfl,hx1,by lia,u,.inr hq⟩
  | false=>exact AQ ⟨rfl,rfl,Up.grow (hi:=lo+x) O g (by lia) u (by lia) hq⟩
 case post=>
  rintro c st' ⟨rfl,n,rfl,hn1,hn2,u,hd⟩;dsimp only
  by_cases hnn:n=nrem
  ·rw [if_pos (by simpa using hnn)]
   exact AQ (h st' n g hn1 hn2 u .refl rfl)
  ·rw [if_neg (by simpa using hnn)]
   have hd':=hd.resolve_left hnn
   have desc:∀(st1:BH),Good a₀ κ st1->Dn lt (AT st1) lo (lo+(n+1))->Out (AT st') (AT st1) lo (lo+nrem)->AU st1=AU st' ->
     wpS (AW prog w) A E s (do
      liftM (rule "list.sort.descending-run")
      let mut n:=n+1
      let mut neq:=0
      for _ in [n:nrem] do
       let some smaller <-eK (lo+n) (lo+n - 1) | return none
       if smaller then
        if neq > 0 then Mt (lo+n - (neq+1)) (lo+n)
        neq:=0
       else
        let some larger <-eK (lo+n - 1) (lo+n) | return none
        if larger then break
        neq:=neq+1
       n:=n+1
      if neq > 0 then Mt (lo+n - (neq+1)) (lo+n)
      Mt lo (lo+n)
      for _ in [n:nrem] do
       let some smaller <-eK (lo+n) (lo+n - 1) | return none
       if smaller then break
       n:=n+1
      return some n) Q st1:=by
    intro st1 g1 d1 o1 p1;refine AO (Ht ?_)
    refine AO (DC (B2 (I:=λx c st2=>Good a₀ κ st2/\∃q,c=(none,x,q)/\q+1<=x/\Dn lt (AT st2) lo (lo+x)/\Up lt (AT st2) (lo+x - (q+1)) (lo+x)/\Out (AT st') (AT st2) lo (lo+nrem)/\AU st2=AU st')
     (Q:=λc st2=>Good a₀ κ st2/\∃n q,c=(none,n,q)/\n<=nrem/\q+1<=n/\Dn lt (AT st2) lo (lo+n)/\Up lt (AT st2) (lo+n - (q+1)) (lo+n)/\Out (AT st') (AT st2) lo (lo+nrem)/\AU st2=AU st') ?dstep ?dfin ?dinit) ?dpost)
    case dinit=>
     refine ⟨g1,0,rfl,by lia,d1,?_,o1,p1⟩;have:=SX O g1 (lo:=lo+n) (by lia);rwa [show lo+(n+1) - (0+1)=lo+n by lia,show lo+(n+1)=lo+n+1 by lia]
    case dfin=>
     rintro c st2 ⟨g2,q,rfl,hq,d2,u2,o2,p2⟩
     have e:max (n+1) nrem=nrem:=by lia
     rw [e] at d2 u2 hq ⊢;exact ⟨g2,nrem,q,rfl,AS _,hq,d2,u2,o2,p2⟩
    case dstep=>
     rintro x c st2 hx1 hx2 ⟨g2,q,rfl,hq,d2,u2,o2,p2⟩;dsimp only;refine AO (LU C g2 (by lia) (by lia) ?_)
     cases hs:lt (ix (AT st2) (lo+x)) (ix (AT st2) (lo+x - 1)) with
     | true=>
      dsimp only;rw [if_pos rfl];have hlt:=O.asym _ _ (g2.mem (show lo+x < _ by lia)) (g2.mem (show lo+x - 1 < _ by lia)) hs
      by_cases hq0:q > 0
      ·rw [if_pos hq0,Jj]
       have hsz:lo+x<=(AT st2).size:=by rw [g2.size];lia
       have g3:Good a₀ κ (setArr st2 (IJ (AT st2) (lo+x - (q+1)) (lo+x) ((lo+x - (lo+x - (q+1))) / 2))):=g2.setArr (Qn _ _ _ _);have d3:=Dn.part (lt:=lt) (lo:=lo) hsz (show lo<=lo+x - (q+1) by lia) (by omega) d2 u2;refine AO (DM (AQ ⟨g3,0,rfl,by lia,?_,?_,o2.trans (IR hsz (by lia) (by lia)),p2⟩))
       ·refine Dn.grow (hi:=lo+x) O g3 (by lia) d3 (by lia) ?_
        show lt (ix (IJ (AT st2) (lo+x - (q+1)) (lo+x) ((lo+x - (lo+x - (q+1))) / 2)) (lo+x - 1)) (ix (IJ (AT st2) (lo+x - (q+1)) (lo+x) ((lo+x - (lo+x - (q+1))) / 2)) (lo+x))=false;rw [Dy hsz,Dy hsz,if_pos (by omega),if_neg (by lia)];exact O.ntr _ _ _ (g2.mem (by lia)) (g2.mem (show lo+x - 1 < _ by lia)) (g2.mem (by omega)) hlt (d2 _ _ (by lia) (by omega) (by lia))
       ·have:=SX O g3 (lo:=lo+x) (by lia)
        rwa [show lo+(x+1) - (0+1)=lo+x by lia,show lo+(x+1)=lo+x+1 by lia]
      ·rw [if_neg hq0]
       refine AQ ⟨g2,0,rfl,by lia,Dn.grow (hi:=lo+x) O g2 (by lia) d2 (by lia) hlt,?_,o2,p2⟩;have:=SX O g2 (lo:=lo+x) (by lia);rwa [show lo+(x+1) - (0+1)=lo+x by lia,show lo+(x+1)=lo+x+1 by lia]
     | false=>
      dsimp only;rw [if_neg AR];refine AO (LU C g2 (by lia) (by lia) ?_)
      cases hl:lt (ix (AT st2) (lo+x - 1)) (ix (AT st2) (lo+x)) with
      | true=>exact AQ ⟨g2,x,q,rfl,by lia,hq,d2,u2,o2,p2⟩
      | false=>
       refine AQ ⟨g2,q+1,rfl,by lia,Dn.grow (hi:=lo+x) O g2 (by lia) d2 (by lia) hl,?_,o2,p2⟩;rw [show lo+(x+1) - (q+1+1)=lo+x - (q+1) by lia];exact Up.grow (hi:=lo+x) O g2 (by lia) u2 (by omega) hs
    case dpost=>
     rintro c st2 ⟨g2,m,q,rfl,hm,hq,d2,u2,o2,p2⟩;dsimp only
     have hsz:lo+m<=(AT st2).size:=by rw [g2.size];lia
     have last:∀st3,Good a₀ κ st3->Dn lt (AT st3) lo (lo+m)->Out (AT st') (AT st3) lo (lo+nrem)->AU st3=AU st'->∀(R:StateT BH Sem (Option Nat)),R=(do
        let mut n:=m
        for _ in [n:nrem] do
         let some smaller <-eK (lo+n) (lo+n - 1) | return none
         if smaller then break
         n:=n+1
        return some n)->wpS (AW prog w) A E s (do Mt lo (lo+m);R) Q st3:=by
      rintro st3 g3 d3 o3 p3 R rfl
      have hsz3:lo+m<=(AT st3).size:=by rw [g3.size];lia
      rw [Jj];refine AO (DM ?_);have g4:Good a₀ κ (setArr st3 (IJ (AT st3) lo (lo+m) ((lo+m - lo) / 2))):=g3.setArr (Qn _ _ _ _)
      exact Yu C O (by lia) hm hn g4 (Dn.flip hsz3 d3) λk k1 k2 k3=>h _ k g4 k1 k2 k3 (o3.trans (IR hsz3 (by lia) (by lia))) p3
     by_cases hq0:q > 0
     ·rw [if_pos hq0,Jj]
      refine AO (DM ?_);exact last _ (g2.setArr (Qn _ _ _ _)) (Dn.part hsz (by lia) (by omega) d2 u2) (o2.trans (IR hsz (by lia) (by lia))) p2 _ rfl
     ·rw [if_neg hq0]
      exact last _ g2 d2 o2 p2 _ rfl
   have hlt:=O.asym _ _ (g.mem (show lo+n < _ by lia)) (g.mem (show lo+n - 1 < _ by omega)) hd'
   by_cases hn0:n > 1
   ·rw [if_pos hn0]
    refine AO (LU C g (by lia) (by omega) ?_)
    cases hr:lt (ix (AT st') lo) (ix (AT st') (lo+n - 1)) with
    | true=>exact AQ (h st' n g hn1 hn2 u .refl rfl)
    | false=>
     dsimp only;rw [if_neg AR,Jj]
     have hsz:lo+n<=(AT st').size:=by rw [g.size];lia
     have g1:Good a₀ κ (setArr st' (IJ (AT st') lo (lo+n) ((lo+n - lo) / 2))):=g.setArr (Qn _ _ _ _)
     have al:∀i j,lo<=i->i < lo+n->lo<=j->j < lo+n->lt (ix (AT st') i) (ix (AT st') j)=false:=λi j i1 i2 j1 j2=>by
      have q1:=u j (lo+n - 1) (by omega) (by lia) (by omega);have q2:=u lo i (by lia) (by omega) (by omega);exact O.ntr _ _ _ (g.mem (by lia)) (g.mem (show lo < _ by lia)) (g.mem (by lia)) (O.ntr _ _ _ (g.mem (by lia)) (g.mem (show lo+n - 1 < _ by lia)) (g.mem (by lia)) q1 hr) q2
     refine AO (DM ?_);refine desc _ g1 ?_ (IR hsz (by lia) (by lia)) rfl;refine Dn.grow (hi:=lo+n) O g1 (by lia) (λi j a1 a2 a3=>?_) (by lia) ?_
     ·show lt (ix (IJ (AT st') lo (lo+n) ((lo+n - lo) / 2)) i) (ix (IJ (AT st') lo (lo+n) ((lo+n - lo) / 2)) j)=false
      rw [Dy hsz,Dy hsz,if_pos (by lia),if_pos (by lia)];exact al _ _ (by omega) (by omega) (by omega) (by omega)
     ·show lt (ix (IJ (AT st') lo (lo+n) ((lo+n - lo) / 2)) (lo+n - 1)) (ix (IJ (AT st') lo (lo+n) ((lo+n - lo) / 2)) (lo+n))=false
      rw [Dy hsz,Dy hsz,if_pos (by omega),if_neg (by lia),show lo+(lo+n) - 1 - (lo+n - 1)=lo by omega];exact O.ntr _ _ _ (g.mem (by lia)) (g.mem (show lo+n - 1 < _ by lia)) (g.mem (by lia)) hlt hr
   ·rw [if_neg hn0]
    have e:n=1:=by lia
    subst e;refine desc _ g (Dn.grow (hi:=lo+1) O g (by lia) (λi j a1 a2 a3=>?_) (by lia) hlt) .refl rfl
    have e1:i=lo:=by lia
    have e2:j=lo:=by lia
    rw [e1,e2];exact O.irr (g.mem (by lia))
end
end Srt
namespace Srt
open PySem PyProof.Rows
def ge:Bool->Ao->Array Ao->Nat->Nat->Nat->StateT BH Sem (Option Nat):=sortPriv% PySem.Builtin.gallop
section
variable {prog:Ar} {w:BG} {A:A8} {E:AD->AF->Prop} {s:AF} {a₀:Array Ao} {κ:FK} {lt:Ao->Ao->Bool}
abbrev BS:=Option (Option Nat)×Nat×Nat
theorem aK {st:BH} {p:Nat->Bool} {n lo hi:Nat} {F:Nat->BS->StateT BH Sem (ForInStep BS)} {T:BS->StateT BH Sem (Option Nat)} {Q:Option Nat->BH->Prop} (hlh:lo<=hi) (hhn:hi<=n)
  (hlo:∀i,i < lo->p i=true) (hhi:∀i,hi<=i->i < n->p i=false) (mono:∀i j,i<=j->j < n->p j=true->p i=true)
  (hF:∀x l h (R:ForInStep BS->BH->Prop),l<=h->h<=n->(l ≥ h->R (.done (none,l,h)) st)->(l < h->p (l+(h - l) / 2)=true->R (.yield (none,l+(h - l) / 2+1,h)) st)->(l < h->p (l+(h - l) / 2)=false->R (.yield (none,l,l+(h - l) / 2)) st) ->
   wpS (AW prog w) A E s (F x (none,l,h)) R st)
  (hT:∀l h,h<=n->(∀i,i < h->p i=true)->(∀i,h<=i->i < n->p i=false)->wpS (AW prog w) A E s (T (none,l,h)) Q st):wpS (AW prog w) A E s (forIn [0:n] (none,lo,hi) F >>= T) Q st:=by
 refine AO (DC (B2 (I:=λx c st'=>st'=st/\∃l h,c=(none,l,h)/\l<=h/\h<=n/\h - l<=n - x/\(∀i,i < l->p i=true)/\(∀i,h<=i->i < n->p i=false))
  (Q:=λc st'=>st'=st/\∃l h,c=(none,l,h)/\h<=n/\(∀i,i < h->p i=true)/\(∀i,h<=i->i < n->p i=false)) ?step ?fin ⟨rfl,lo,hi,rfl,hlh,hhn,by lia,hlo,hhi⟩) ?post)
 case fin=>
  rintro c st' ⟨rfl,l,h,rfl,h1,h2,h3,h4,h5⟩
  have:l=h:=by lia
  subst this;exact ⟨rfl,l,l,rfl,h2,h4,h5⟩
 case step=>
  rintro x c st' _ hx ⟨rfl,l,h,rfl,h1,h2,h3,h4,h5⟩
  refine hF x l h _ h1 h2 (λhge=>?_) (λhlt hp=>?_) λhlt hp=>?_
  ·have:l=h:=by lia
   subst this;exact ⟨rfl,l,l,rfl,h2,h4,h5⟩
  ·exact ⟨rfl,_,_,rfl,by lia,h2,by omega,λi hi=>mono i (l+(h - l) / 2) (by lia) (by lia) hp,h5⟩
  ·refine ⟨rfl,_,_,rfl,by lia,by lia,by omega,h4,λi hi1 hi2=>?_⟩
   cases e:p i with
   | false=>rfl
   | true=>rw [mono _ i hi1 hi2 e] at hp;cases hp
 case post=>
  rintro c st' ⟨rfl,l,h,rfl,h2,h4,h5⟩;exact hT l h h2 h4 h5
theorem UX {st:BH} {q:Nat->Bool} {n mx:Nat} {F:Nat->BS->StateT BH Sem (ForInStep BS)} {T:BS->StateT BH Sem (Option Nat)} {Q:Option Nat->BH->Prop} (hm:mx<=n) (q0:q 0=true)
  (hF:∀x a b (R:ForInStep BS->BH->Prop),a < b->(b ≥ mx->R (.done (none,a,b)) st)->(b < mx->q b=false->R (.done (none,a,b)) st)->(b < mx->q b=true->R (.yield (none,b,2 * b+1)) st)->wpS (AW prog w) A E s (F x (none,a,b)) R st)
  (hT:∀a b,a < b->q a=true->(a=0∨a < mx)->(b < mx->q b=false)->wpS (AW prog w) A E s (T (none,a,b)) Q st):wpS (AW prog w) A E s (forIn [0:n] (none,0,1) F >>= T) Q st:=by
 refine AO (DC (B2 (I:=λx c st'=>st'=st/\∃a b,c=(none,a,b)/\a < b/\x+1<=b/\q a=true/\(a=0∨a < mx))
  (Q:=λc st'=>st'=st/\∃a b,c=(none,a,b)/\a < b/\q a=true/\(a=0∨a < mx)/\(b < mx->q b=false)) ?step ?fin ⟨rfl,0,1,rfl,by lia,by lia,q0,.inl rfl⟩) ?post)
 case fin=>
  rintro c st' ⟨rfl,a,b,rfl,h1,h2,h3,h4⟩;exact ⟨rfl,a,b,rfl,h1,h3,h4,λh=>by lia⟩
 case step=>
  rintro x c st' _ hx ⟨rfl,a,b,rfl,h1,h2,h3,h4⟩
  refine hF x a b _ h1 (λhge=>?_) (λhlt hp=>?_) λhlt hp=>?_
  ·exact ⟨rfl,a,b,rfl,h1,h3,h4,λh=>by lia⟩
  ·exact ⟨rfl,a,b,rfl,h1,h3,h4,λ_=>hp⟩
  ·exact ⟨rfl,b,2 * b+1,rfl,by lia,by lia,hp,.inr hlt⟩
 case post=>
  rintro c st' ⟨rfl,a,b,rfl,h1,h3,h4,h5⟩;exact hT a b h1 h3 h4 h5
theorem En {st:BH} {left:Bool} {key:Ao} {arr:Array Ao} {base n hint:Nat} {Q:Option Nat->BH->Prop} (C:Iq prog w A s a₀ κ lt) (g:Good a₀ κ st) (p:Nat->Bool)
  (hkey:key∈a₀) (harr:∀i,i < n->base+i < arr.size/\ix arr (base+i)∈a₀) (hp:∀i,i < n->p i=if left=true then lt (ix arr (base+i)) key else !lt key (ix arr (base+i)))
  (mono:∀i j,i<=j->j < n->p j=true->p i=true) (hh:hint < n)
  (h:∀k,k<=n->(∀i,i < k->p i=true)->(∀i,k<=i->i < n->p i=false)->Q (some k) st):wpS (AW prog w) A E s (ge left key arr base n hint) Q st:=by
 have bey:∀i,i < n->∀R:Option Bool->BH->Prop,R (some (p i)) st->wpS (AW prog w) A E s (do let x <-elem' arr (base+i);if left=true then lt' x key else do let y <-lt' key x;pure (y.map (!·))) R st:=by
  intro i hi R hR;obtain ⟨h1,h2⟩:=harr i hi;rw [Yk,DG h1];refine AO (AQ ?_);rw [hp i hi] at hR
  cases left with
  | true=>exact NI C g h2 hkey hR
  | false=>exact AO (NI C g hkey h2 (AQ hR))
 refine (AO ?_:wpS _ _ _ _ (ge left key arr base n hint) Q st);refine bey hint hh _ ?_
 have fin:∀(lo hi:Nat) {F:Nat->BS->StateT BH Sem (ForInStep BS)} {T:BS->StateT BH Sem (Option Nat)},lo<=hi->hi<=n->(∀i,i < lo->p i=true)->(∀i,hi<=i->i < n->p i=false) ->
   (∀x l h' (R:ForInStep BS->BH->Prop),l<=h'->h'<=n->(l ≥ h'->R (.done (none,l,h')) st)->(l < h'->p (l+(h' - l) / 2)=true->R (.yield (none,l+(h' - l) / 2+1,h')) st)->(l < h'->p (l+(h' - l) / 2)=false->R (.yield (none,l,l+(h' - l) / 2)) st) ->
    wpS (AW prog w) A E s (F x (none,l,h')) R st)->(∀l h',T (none,l,h')=pure (some h'))->wpS (AW prog w) A E s (forIn [0:n] (none,lo,hi) F >>= T) Q st:=λlo hi F T h1 h2 h3 h4 hF hT=>
  aK h1 h2 h3 h4 mono hF λl h' q1 q2 q3=>by rw [hT];exact AQ (h h' q1 q2 q3)
 cases hq:p hint with
 | true=>
  dsimp only;rw [if_pos rfl]
  refine UX (q:=λi=>decide (hint+i < n)&&p (hint+i)) (mx:=n - hint) (by lia) (by simp [hq,hh]) (λx a b R hab r1 r2 r3=>?_) λa b hab qa ha hb=>?_
  ·dsimp only
   by_cases hge:b ≥ n - hint
   ·rw [if_pos hge];exact AQ (r1 hge)
   ·rw [if_neg hge]
    refine AO (bey (hint+b) (by lia) _ ?_);have hd:decide (hint+b < n)=true:=decide_eq_true (by lia)
    cases e:p (hint+b) with
    | true=>exact AQ (r3 (by lia) (by simp [hd,e]))
    | false=>exact AQ (r2 (by lia) (by simp [hd,e]))
  ·dsimp only
   have pa:p (hint+a)=true:=by simp at qa;exact qa.2
   have han:hint+a < n:=by simp at qa;exact qa.1
   refine fin (hint+a+1) (hint+min b (n - hint)) (by omega) (by omega) (λi hi=>mono i (hint+a) (by lia) han pa) (λi h1 h2=>?_) (λx l h' R l1 l2 r1 r2 r3=>?_) λl h'=>rfl
   ·by_cases hbm:b < n - hint
    ·have:=hb hbm
     have hd:decide (hint+b < n)=true:=decide_eq_true (by lia);rw [hd,bR] at this
     cases e:p i with
     | false=>rfl
     | true=>rw [mono (hint+b) i (by lia) h2 e] at this;cases this
    ·omega
   ·dsimp only
    by_cases hge:l ≥ h'
    ·rw [if_pos hge];exact AQ (r1 hge)
    ·rw [if_neg hge]
     refine AO (bey (l+(h' - l) / 2) (by lia) _ ?_)
     cases e:p (l+(h' - l) / 2) with
     | true=>exact AQ (r2 (by lia) e)
     | false=>exact AQ (r3 (by lia) e)
 | false=>
  dsimp only;rw [if_neg AR]
  refine UX (q:=λi=>decide (i<=hint)&&!p (hint - i)) (mx:=hint+1) (by lia) (by simp [hq]) (λx a b R hab r1 r2 r3=>?_) λa b hab qa ha hb=>?_
  ·dsimp only
   by_cases hge:b ≥ hint+1
   ·rw [if_pos hge];exact AQ (r1 hge)
   ·rw [if_neg hge]
    refine AO (bey (hint - b) (by omega) _ ?_);have hd:decide (b<=hint)=true:=decide_eq_true (by lia)
    cases e:p (hint - b) with
    | true=>exact AQ (r2 (by lia) (by simp [hd,e]))
    | false=>exact AQ (r3 (by lia) (by simp [hd,e]))
  ·dsimp only
   have pa:p (hint - a)=false:=by simp at qa;exact qa.2
   have han:a<=hint:=by simp at qa;exact qa.1
   refine fin (hint+1 - min b (hint+1)) (hint - a) (by omega) (by omega) (λi hi=>?_) (λi h1 h2=>?_) (λx l h' R l1 l2 r1 r2 r3=>?_) λl h'=>rfl
   ·by_cases hbm:b < hint+1
    ·have:=hb hbm
     have hd:decide (b<=hint)=true:=decide_eq_true (by lia);rw [hd,bR] at this;exact mono i (hint - b) (by omega) (by lia) (by simpa using this)
    ·omega
   ·cases e:p i with
    | false=>rfl
    | true=>rw [mono (hint - a) i h1 h2 e] at pa;cases pa
   ·dsimp only
    by_cases hge:l ≥ h'
    ·rw [if_pos hge];exact AQ (r1 hge)
    ·rw [if_neg hge]
     refine AO (bey (l+(h' - l) / 2) (by lia) _ ?_)
     cases e:p (l+(h' - l) / 2) with
     | true=>exact AQ (r2 (by lia) e)
     | false=>exact AQ (r3 (by lia) e)
end
end Srt
namespace Srt
open PySem PyProof.Rows
structure MI (R:Ao->Ao->Prop) (T o ra rb:List Ao):Prop where
 perm:(o++(ra++rb)).Perm T
 srt:o.Pairwise R
 low:∀x∈o,∀y∈ra++rb,R x y
 sa:ra.Pairwise R
 sb:rb.Pairwise R
structure Gr (R:Ao->Ao->Prop) (T r:List Ao):Prop where
 perm:r.Perm T
 srt:r.Pairwise R
section
variable {R:Ao->Ao->Prop} {T o ra rb xs:List Ao}
theorem MI.takeA (m:MI R T o (xs++ra) rb) (h:∀x∈xs,∀y∈rb,R x y):MI R T (o++xs) ra rb:=by
 have sa:=BN.mp m.sa;refine ⟨by simpa [BJ] using m.perm,BN.mpr ⟨m.srt,sa.1,λx hx y hy=>m.low x hx y (by simp [hy])⟩,λx hx y hy=>?_,sa.2.1,m.sb⟩
 rcases Aj.mp hx with hx | hx
 ·exact m.low x hx y (by rcases Aj.mp hy with h | h <;> simp [h])
 ·rcases Aj.mp hy with hy | hy
  ·exact sa.2.2 x hx y hy
  ·exact h x hx y hy
theorem MI.takeB (m:MI R T o ra (xs++rb)) (h:∀x∈xs,∀y∈ra,R x y):MI R T (o++xs) ra rb:=by
 have sb:=BN.mp m.sb;refine ⟨?_,BN.mpr ⟨m.srt,sb.1,λx hx y hy=>m.low x hx y (by simp [hy])⟩,λx hx y hy=>?_,m.sa,sb.2.1⟩
 ·refine Tr ?_ m.perm
  rw [BJ];refine EF o ?_;rw [<-BJ,<-BJ];exact OT rb JW
 ·rcases Aj.mp hx with hx | hx
  ·exact m.low x hx y (by rcases Aj.mp hy with h | h <;> simp [h])
  ·rcases Aj.mp hy with hy | hy
   ·exact h x hx y hy
   ·exact sb.2.2 x hx y hy
theorem MI.endA (m:MI R T o ra []):Gr R T (o++ra):=by
 refine ⟨by simpa using m.perm,BN.mpr ⟨m.srt,m.sa,λx hx y hy=>m.low x hx y (by simp [hy])⟩⟩
theorem MI.endB (m:MI R T o [] rb):Gr R T (o++rb):=by
 refine ⟨by simpa using m.perm,BN.mpr ⟨m.srt,m.sb,λx hx y hy=>m.low x hx y (by simp [hy])⟩⟩
theorem MI.last (m:MI R T o ra rb) (h:∀y∈rb,∀x∈ra,R y x):Gr R T (o++(rb++ra)):=by
 refine ⟨(EF o JW).trans m.perm,BN.mpr ⟨m.srt,BN.mpr ⟨m.sb,m.sa,h⟩,λx hx y hy=>m.low x hx y (by rcases Aj.mp hy with h | h <;> simp [h])⟩⟩
end
theorem M4 {a:Array Ao} {i:Nat} (h:i < a.size):a.toList.drop i=ix a i :: a.toList.drop (i+1):=by
 rw [By (by simpa using h)]
 congr 1
 have:=DG h;rw [getElem?_pos a i h] at this;simpa using this
theorem G9 {a:Array Ao} {i k:Nat} (h:i+k<=a.size):a.toList.drop i=(a.extract i (i+k)).toList++a.toList.drop (i+k):=by
 have e:(a.extract i (i+k)).toList=(a.toList.drop i).take k:=by simp [Ly]
 rw [e,<-List.drop_drop,Ct]
theorem M0 {a:Array Ao} {i k:Nat} (h:i+k<=a.size) {x:Ao} (hx:x∈(a.extract i (i+k)).toList):∃j,j < k/\x=ix a (i+j):=by
 rw [BM,Mv] at hx;obtain ⟨j,hj,rfl⟩:=hx;refine ⟨j,by lia,?_⟩;have:=DG (xs:=a) (i:=i+j) (by lia);rw [getElem?_pos a _ (by lia)] at this;simpa using this
theorem IY (a:Array Ao) (i:Nat):(a.extract i a.size).toList=a.toList.drop i:=by
 simp [Ly];exact Cf (by simp)
theorem FU {a:Array Ao} {i:Nat} {x:Ao} (hx:x∈a.toList.drop i):∃j,i<=j/\j < a.size/\x=ix a j:=by
 obtain ⟨k,hk,rfl⟩:=Tp.mp hx;simp at hk;refine ⟨i+k,by lia,by omega,?_⟩;have:=DG (xs:=a) (i:=i+k) (by omega);rw [getElem?_pos a _ (by omega)] at this;simpa using this
section
variable {prog:Ar} {w:BG} {A:A8} {E:AD->AF->Prop} {s:AF} {a₀:Array Ao} {κ:FK} {lt:Ao->Ao->Bool}
theorem Ba {st:BH} {a:Array Ao} {i:Nat} {Q:Ao->BH->Prop} (h:i < a.size) (hq:Q (ix a i) st):wpS (AW prog w) A E s (elem' a i) Q st:=by
 rw [Yk,DG h];exact AQ hq
def mLo:Array Ao->Array Ao->StateT BH Sem (Array Ao):=sortPriv% PySem.Builtin.mergeLo
def mHi:Array Ao->Array Ao->StateT BH Sem (Array Ao):=sortPriv% PySem.Builtin.mergeHi
structure Iw (a₀:Array Ao) (κ:FK) (st st':BH):Prop where
 good:Good a₀ κ st'
 arr:AT st'=AT st
 pend:AU st'=AU st
theorem Iw.gal {st st':BH} (h:Iw a₀ κ st st') (n:Nat):Iw a₀ κ st (GF (kindOf st') (AT st') (AU st') n (HH st')):=⟨⟨h.good.perm,h.good.kind,h.good.failed⟩,h.arr,h.pend⟩
abbrev Rl (lt:Ao->Ao->Bool) (x y:Ao):Prop:=lt y x=false
theorem Q9 (O:Ord (·∈a₀) lt) {a:Array Ao} (ma:∀i,i < a.size->ix a i∈a₀) (sa:a.toList.Pairwise (Rl lt)):∀i j,i<=j->j < a.size->Rl lt (ix a i) (ix a j):=λi j hij hj=>by
 by_cases e:i=j
 ·subst e;exact O.irr (ma i hj)
 ·have hd:=M4 (a:=a) (i:=i) (by lia)
  have:=sa.sublist (List.drop_sublist i a.toList);rw [hd] at this;refine (LM.mp this).1 _ ?_;rw [show a.toList.drop (i+1)=(a.extract (i+1) (i+1+(j - (i+1)))).toList++a.toList.drop (i+1+(j - (i+1))) from G9 (by lia),show i+1+(j - (i+1))=j by lia,M4 hj];simp
theorem QK {a:Array Ao} (ma:∀x∈a.toList,x∈a₀):∀i,i < a.size->ix a i∈a₀:=λi hi=>ma _ (BM.mpr (Cq (DG hi)))
theorem Mw {st:BH} {n:Nat} {Q:Unit->BH->Prop} (h:Q () (GF (kindOf st) (AT st) (AU st) n (HH st))):wpS (AW prog w) A E s ((sortPriv% PySem.Builtin.setMinGallop) n) Q st:=DM h
abbrev L7:=Option (Array Ao)×Array Ao×Nat×Nat×Nat×Nat×Nat
theorem Ys {st:BH} {a b:Array Ao} {Q:Array Ao->BH->Prop} (C:Iq prog w A s a₀ κ lt) (O:Ord (·∈a₀) lt) (g:Good a₀ κ st)
  (ma:∀x∈a.toList,x∈a₀) (mb:∀x∈b.toList,x∈a₀) (sa:a.toList.Pairwise (Rl lt)) (sb:b.toList.Pairwise (Rl lt)) (na:0 < a.size) (nb:0 < b.size)
  (h0:∀x∈a.toList,Rl lt (ix b 0) x) (h1:∀y∈b.toList,Rl lt y (ix a (a.size - 1)))
  (h:∀r st',Iw a₀ κ st st'->Gr (Rl lt) (a.toList++b.toList) r.toList->Q r st'):wpS (AW prog w) A E s (mLo a b) Q st:=by
 have ia0:=QK ma;have ib0:=QK mb;have ua:=Q9 O ia0 sa;have ub:=Q9 O ib0 sb
 have tr:∀x y z:Ao,x∈a₀->y∈a₀->z∈a₀->Rl lt x y->Rl lt y z->Rl lt x z:=λx y z hx hy hz h1 h2=>O.ntr x y z hx hy hz h1 h2
 let M (out:Array Ao) (ia ib:Nat):Prop:=MI (Rl lt) (a.toList++b.toList) out.toList (a.toList.drop ia) (b.toList.drop ib)
 have tA:∀out ia ib,M out ia ib->ia < a.size->(∀j,ib<=j->j < b.size->Rl lt (ix a ia) (ix b j))->M (out.push (ix a ia)) (ia+1) ib:=λout ia ib m hia hr=>by
  have m':MI (Rl lt) (a.toList++b.toList) out.toList ([ix a ia]++a.toList.drop (ia+1)) (b.toList.drop ib):=by rw [GR,<-M4 hia];exact m
  have:=m'.takeA λx hx y hy=>by
   obtain ⟨j,j1,j2,rfl⟩:=FU hy;rw [AL.mp hx];exact hr j j1 j2
  simpa [M] using this
 have tB:∀out ia ib,M out ia ib->ib < b.size->(∀j,ia<=j->j < a.size->Rl lt (ix b ib) (ix a j))->M (out.push (ix b ib)) ia (ib+1):=λout ia ib m hib hr=>by
  have m':MI (Rl lt) (a.toList++b.toList) out.toList (a.toList.drop ia) ([ix b ib]++b.toList.drop (ib+1)):=by rw [GR,<-M4 hib];exact m
  have:=m'.takeB λx hx y hy=>by
   obtain ⟨j,j1,j2,rfl⟩:=FU hy;rw [AL.mp hx];exact hr j j1 j2
  simpa [M] using this
 have sA:∀out ia ib k,M out ia ib->ia+k<=a.size->(∀i j,i < k->ib<=j->j < b.size->Rl lt (ix a (ia+i)) (ix b j))->M (out++a.extract ia (ia+k)) (ia+k) ib:=λout ia ib k m hk hr=>by
  have m':MI (Rl lt) (a.toList++b.toList) out.toList ((a.extract ia (ia+k)).toList++a.toList.drop (ia+k)) (b.toList.drop ib):=by rw [<-G9 hk];exact m
  have:=m'.takeA λx hx y hy=>by
   obtain ⟨j,j1,j2,rfl⟩:=FU hy;obtain ⟨i,i1,rfl⟩:=M0 hk hx;exact hr i j i1 j1 j2
  show MI _ _ (out++a.extract ia (ia+k)).toList _ _;rw [BB];exact this
 have sB:∀out ia ib k,M out ia ib->ib+k<=b.size->(∀i j,i < k->ia<=j->j < a.size->Rl lt (ix b (ib+i)) (ix a j))->M (out++b.extract ib (ib+k)) ia (ib+k):=λout ia ib k m hk hr=>by
  have m':MI (Rl lt) (a.toList++b.toList) out.toList (a.toList.drop ia) ((b.extract ib (ib+k)).toList++b.toList.drop (ib+k)):=by rw [<-G9 hk];exact m
  have:=m'.takeB λx hx y hy=>by
   obtain ⟨j,j1,j2,rfl⟩:=FU hy;obtain ⟨i,i1,rfl⟩:=M0 hk hx;exact hr i j i1 j1 j2
  show MI _ _ (out++b.extract ib (ib+k)).toList _ _;rw [BB];exact this
 have eB:∀out ia ib,M out ia ib->ib=b.size->Gr (Rl lt) (a.toList++b.toList) (out++a.extract ia a.size++b.extract ib b.size).toList:=λout ia ib m e=>by
  subst e
  have m':MI (Rl lt) (a.toList++b.toList) out.toList (a.toList.drop ia) []:=by
   have:b.toList.drop b.size=[]:=by simp
   rw [<-this];exact m
  rw [BB,BB,IY,IY,show b.toList.drop b.size=[] by simp,Bq];exact m'.endA
 have eA:∀out ia ib,M out ia ib->ia=a.size->Gr (Rl lt) (a.toList++b.toList) (out++a.extract ia a.size++b.extract ib b.size).toList:=λout ia ib m e=>by
  subst e
  have m':MI (Rl lt) (a.toList++b.toList) out.toList [] (b.toList.drop ib):=by
   have:a.toList.drop a.size=[]:=by simp
   rw [<-this];exact m
  rw [BB,BB,IY,IY,show a.toList.drop a.size=[] by simp,Bq];exact m'.endB
 have eL:∀out ia ib,M out ia ib->ia+1=a.size->Gr (Rl lt) (a.toList++b.toList) (out++b.extract ib b.size++a.extract ia a.size).toList:=λout ia ib m e=>by
  have:=m.last λy hy x hx=>by
   obtain ⟨j,j1,j2,rfl⟩:=FU hx;obtain ⟨i,i1,i2,rfl⟩:=FU hy
   have:j=a.size - 1:=by lia
   subst this;exact h1 _ (BM.mpr (Cq (DG i2)))
  rw [BB,BB,IY,IY,BJ];exact this
 have m0:M #[] 0 0:=⟨by simp,by simp,by simp,by simpa using sa,by simpa using sb⟩
 have m1:M #[ix b 0] 0 1:=by
  have:=tB #[] 0 0 m0 nb λj _ hj=>h0 _ (BM.mpr (Cq (DG hj)))
  simpa using this
 refine (AO (Ht ?_):wpS _ _ _ _ (mLo a b) Q st);refine AO (Ba nb ?_)
 by_cases c1:1=b.size
 ·refine (show wpS (AW prog w) A E s (if (1==b.size)=true then _ else _) Q st from ?_)
  rw [if_pos (by simpa using c1)];exact AQ (h _ st ⟨g,rfl,rfl⟩ (eB _ _ _ m1 c1))
 refine (show wpS (AW prog w) A E s (if (1==b.size)=true then _ else _) Q st from ?_);rw [if_neg (by simpa using c1)]
 by_cases c2:0+1=a.size
 ·rw [if_pos (by simpa using c2)]
  exact AQ (h _ st ⟨g,rfl,rfl⟩ (eL _ _ _ m1 c2))
 rw [if_neg (by simpa using c2)];refine AO (Ga ?_)
 refine AO (DC (B2 (I:=λx c st'=>Iw a₀ κ st st'/\∃out ia ib mg,c=(none,out,ia,ib,mg)/\M out ia ib/\ia+1 < a.size/\ib < b.size/\1+x<=ia+ib)
  (Q:=λc st'=>Iw a₀ κ st st'/\∃r z,c=(some r,z)/\Gr (Rl lt) (a.toList++b.toList) r.toList) ?step ?fin ?init) ?post)
 case init=>exact ⟨⟨g,rfl,rfl⟩,_,_,_,_,rfl,m1,by lia,by lia,by lia⟩
 case fin=>
  rintro c st' ⟨_,out,ia,ib,mg,_,_,k1,k2,k3⟩
  lia
 case post=>
  rintro c st' ⟨s1,r,z,rfl,f⟩;exact AQ (h r st' s1 f)
 case step=>
  rintro x c st1 _ _ ⟨s1,out,ia,ib,mg,rfl,m,k1,k2,k3⟩
  refine AO (DC (B2 (I:=λy c st'=>st'=st1/\∃out' ia' ib' ac bc,c=(none,out',ia',ib',ac,bc)/\M out' ia' ib'/\ia'+1 < a.size/\ib' < b.size/\ia+ib+y<=ia'+ib')
   (Q:=λc st'=>st'=st1/\((∃r z,c=(some r,z)/\Gr (Rl lt) (a.toList++b.toList) r.toList)∨∃out' ia' ib' ac bc,c=(none,out',ia',ib',ac,bc)/\M out' ia' ib'/\ia'+1 < a.size/\ib' < b.size/\ia+ib+1<=ia'+ib')) ?step1 ?fin1 ?init1) ?post1)
  case init1=>exact ⟨rfl,out,ia,ib,0,0,rfl,m,k1,k2,by lia⟩
  case fin1=>
   rintro c st' ⟨rfl,out',ia',ib',ac,bc,rfl,m',q1,q2,q3⟩;exact ⟨rfl,.inr ⟨out',ia',ib',ac,bc,rfl,m',q1,q2,by lia⟩⟩
  case step1=>
   rintro y c st' _ _ ⟨rfl,out',ia',ib',ac,bc,rfl,m',q1,q2,q3⟩;refine AO (Ba (i:=ib') q2 ?_);refine AO (Ba (i:=ia') (show ia' < a.size by lia) ?_);refine AO (NI C s1.good (ib0 _ q2) (ia0 _ (by lia)) ?_)
   cases e:lt (ix b ib') (ix a ia') with
   | true=>
    refine AO (Ba q2 ?_);have r0:Rl lt (ix b ib') (ix a ia'):=O.asym _ _ (ib0 _ q2) (ia0 _ (by lia)) e
    have m2:=tB out' ia' ib' m' q2 λj j1 j2=>tr _ _ _ (ib0 _ q2) (ia0 _ (by lia)) (ia0 _ j2) r0 (ua ia' j j1 j2)
    refine (show wpS (AW prog w) A E s (if (ib'+1==b.size)=true then _ else _) _ st' from ?_)
    by_cases d:ib'+1=b.size
    ·rw [if_pos (by simpa using d)]
     exact AQ ⟨rfl,.inl ⟨_,_,rfl,eB _ _ _ m2 d⟩⟩
    ·rw [if_neg (by simpa using d)]
     split
     ·exact AQ ⟨rfl,.inr ⟨_,ia',ib'+1,_,_,rfl,m2,by omega,by lia,by lia⟩⟩
     ·exact AQ ⟨rfl,_,ia',ib'+1,_,_,rfl,m2,by omega,by lia,by lia⟩
   | false=>
    refine AO (Ba (show ia' < a.size by lia) ?_)
    have m2:=tA out' ia' ib' m' (by lia) λj j1 j2=>tr _ _ _ (ia0 _ (by lia)) (ib0 _ q2) (ib0 _ j2) e (ub ib' j j1 j2)
    refine (show wpS (AW prog w) A E s (if (ia'+1+1==a.size)=true then _ else _) _ st' from ?_)
    by_cases d:ia'+1+1=a.size
    ·rw [if_pos (by simpa using d)]
     exact AQ ⟨rfl,.inl ⟨_,_,rfl,eL _ _ _ m2 d⟩⟩
    ·rw [if_neg (by simpa using d)]
     split
     ·exact AQ ⟨rfl,.inr ⟨_,ia'+1,ib',_,_,rfl,m2,by lia,by omega,by lia⟩⟩
     ·exact AQ ⟨rfl,_,ia'+1,ib',_,_,rfl,m2,by lia,by omega,by lia⟩
  case post1=>
   rintro c st' ⟨rfl,⟨r,z,rfl,f⟩ | ⟨out',ia',ib',ac,bc,rfl,m',q1,q2,q3⟩⟩
   ·exact AQ ⟨s1,_,_,rfl,f⟩
   refine AO (Ht ?_)
   refine AO (DC (B2 (I:=λy c st2=>Iw a₀ κ st st2/\∃out2 ia2 ib2 mg2 ac bc,c=(none,out2,ia2,ib2,mg2,ac,bc)/\M out2 ia2 ib2/\ia2+1 < a.size/\ib2 < b.size/\ia+ib+1<=ia2+ib2)
    (Q:=λc st2=>Iw a₀ κ st st2/\((∃r z,c=(some r,z)/\Gr (Rl lt) (a.toList++b.toList) r.toList)∨∃out2 ia2 ib2 mg2 ac bc,c=(none,out2,ia2,ib2,mg2,ac,bc)/\M out2 ia2 ib2/\ia2+1 < a.size/\ib2 < b.size/\ia+ib+1<=ia2+ib2)) ?step2 ?fin2 ?init2) ?post2)
   case init2=>exact ⟨s1,out',ia',ib',mg+1,ac,bc,rfl,m',q1,q2,q3⟩
   case fin2=>
    rintro c st2 ⟨s2,out2,ia2,ib2,mg2,ac2,bc2,rfl,m2,p1,p2,p3⟩;exact ⟨s2,.inr ⟨out2,ia2,ib2,mg2,ac2,bc2,rfl,m2,p1,p2,p3⟩⟩
   case post2=>
    rintro c st2 ⟨s2,⟨r,z,rfl,f⟩ | ⟨out2,ia2,ib2,mg2,ac2,bc2,rfl,m2,p1,p2,p3⟩⟩
    ·exact AQ ⟨s2,_,_,rfl,f⟩
    ·exact AO (Mw (AQ ⟨s2.gal _,out2,ia2,ib2,mg2+1,rfl,m2,p1,p2,by lia⟩))
   case step2=>
    rintro y c st2 _ _ ⟨s2,out2,ia2,ib2,mg2,ac2,bc2,rfl,m2,p1,p2,p3⟩
    let P:ForInStep L7->BH->Prop:=λr st'=>match r with
     | .done c'=>Iw a₀ κ st st'/\((∃r z,c'=(some r,z)/\Gr (Rl lt) (a.toList++b.toList) r.toList)∨∃out2 ia2 ib2 mg2 ac bc,c'=(none,out2,ia2,ib2,mg2,ac,bc)/\M out2 ia2 ib2/\ia2+1 < a.size/\ib2 < b.size/\ia+ib+1<=ia2+ib2)
     | .yield c'=>Iw a₀ κ st st'/\∃out2 ia2 ib2 mg2 ac bc,c'=(none,out2,ia2,ib2,mg2,ac,bc)/\M out2 ia2 ib2/\ia2+1 < a.size/\ib2 < b.size/\ia+ib+1<=ia2+ib2
    refine DC (Q:=P) ?_ λr st' h=>by cases r <;> exact h
    refine (show wpS (AW prog w) A E s (if mg2 > 1 then _ else _) P st2 from ?_);split
    all_goals
     refine AO (Mw ?_);refine AO (Ba (i:=ib2) p2 ?_);refine AO (En (base:=ia2) (n:=a.size - ia2) (hint:=0) (arr:=a) (key:=ix b ib2) (left:=false) C (s2.gal _).good (λi=>!lt (ix b ib2) (ix a (ia2+i))) (ib0 _ p2) (λi hi=>⟨by lia,ia0 _ (by lia)⟩) (λi hi=>rfl) (λi j hij hj e=>?_) (by lia) λk hk k1 k2=>?_)
     ·have e':lt (ix b ib2) (ix a (ia2+j))=false:=by simpa using e
      have:=tr _ _ _ (ia0 _ (by lia)) (ia0 _ (by lia)) (ib0 _ p2) (ua (ia2+i) (ia2+j) (by lia) (by lia)) e';simpa using this
     ·have far:∀j,ia2+k<=j->j < a.size->Rl lt (ix b ib2) (ix a j):=λj j1 j2=>by
       have:=k2 (j - ia2) (by lia) (by lia);rw [show ia2+(j - ia2)=j by lia] at this;exact O.asym _ _ (ib0 _ p2) (ia0 _ j2) (by simpa using this)
      have m5:=sA out2 ia2 ib2 k m2 (by lia) λi j hi j1 j2=>tr _ _ _ (ia0 _ (by lia)) (ib0 _ p2) (ib0 _ j2) (by simpa using k1 i hi) (ub ib2 j j1 j2)
      refine (show wpS (AW prog w) A E s (if k > 0 then _ else _) P _ from ?_)
      by_cases hk0:k > 0
      ·rw [if_pos hk0]
       refine (show wpS (AW prog w) A E s (if (ia2+k+1==a.size)=true then _ else _) P _ from ?_)
       by_cases d1:ia2+k+1=a.size
       ·rw [if_pos (by simpa using d1)]
        exact AQ ⟨s2.gal _,.inl ⟨_,_,rfl,eL _ _ _ m5 d1⟩⟩
       rw [if_neg (by simpa using d1)]
       by_cases d2:ia2+k=a.size
       ·rw [if_pos (by simpa using d2)]
        exact AQ ⟨s2.gal _,.inl ⟨_,_,rfl,eA _ _ _ m5 d2⟩⟩
       rw [if_neg (by simpa using d2)]
       have c1:ia2+k+1 < a.size:=by lia
       have c3:ia+ib+1<=ia2+k+ib2:=by lia
       have m4:=tB _ _ _ m5 p2 far;refine AO (Ba (i:=ib2) p2 ?_);refine (show wpS (AW prog w) A E s (if (ib2+1==b.size)=true then _ else _) P _ from ?_)
       by_cases d:ib2+1=b.size
       ·rw [if_pos (by simpa using d)]
        exact AQ ⟨s2.gal _,.inl ⟨_,_,rfl,eB _ _ _ m4 d⟩⟩
       rw [if_neg (by simpa using d)];refine AO (Ba (i:=ia2+k) (by lia) ?_);refine AO (En (base:=ib2+1) (n:=b.size - (ib2+1)) (hint:=0) (arr:=b) (key:=ix a (ia2+k)) (left:=true) C (s2.gal _).good (λi=>lt (ix b (ib2+1+i)) (ix a (ia2+k))) (ia0 _ (by lia)) (λi hi=>⟨by lia,ib0 _ (by lia)⟩) (λi hi=>rfl) (λi j hij hj e=>?_) (by lia) λk3 hk3 k4 k5=>?_)
       ·cases e2:lt (ix b (ib2+1+i)) (ix a (ia2+k)) with
        | true=>rfl
        | false=>
         have:=tr _ _ _ (ia0 _ (by lia)) (ib0 _ (by lia)) (ib0 _ (by lia)) e2 (ub (ib2+1+i) (ib2+1+j) (by lia) (by lia));exact nomatch (show true=false from (show lt (ix b (ib2+1+j)) (ix a (ia2+k))=true from e).symm.trans this)
       ·have far2:∀j,ib2+1+k3<=j->j < b.size->Rl lt (ix a (ia2+k)) (ix b j):=λj j1 j2=>by
         have:=k5 (j - (ib2+1)) (by lia) (by omega);rwa [show ib2+1+(j - (ib2+1))=j by lia] at this
        have m6:=sB _ (ia2+k) (ib2+1) k3 m4 (by lia) λi j hi j1 j2=>tr _ _ _ (ib0 _ (by lia)) (ia0 _ (by lia)) (ia0 _ j2) (O.asym _ _ (ib0 _ (by lia)) (ia0 _ (by lia)) (k4 i hi)) (ua (ia2+k) j j1 j2)
        refine (show wpS (AW prog w) A E s (if k3 > 0 then _ else _) P _ from ?_)
        by_cases hk3:k3 > 0
        ·rw [if_pos hk3]
         refine (show wpS (AW prog w) A E s (if (ib2+1+k3==b.size)=true then _ else _) P _ from ?_)
         by_cases d2:ib2+1+k3=b.size
         ·rw [if_pos (by simpa using d2)]
          exact AQ ⟨s2.gal _,.inl ⟨_,_,rfl,eB _ _ _ m6 d2⟩⟩
         rw [if_neg (by simpa using d2)];have m7:=tA _ _ _ m6 (by lia) far2;refine AO (Ba (i:=ia2+k) (by lia) ?_);refine (show wpS (AW prog w) A E s (if (ia2+k+1+1==a.size)=true then _ else _) P _ from ?_)
         by_cases d3:ia2+k+1+1=a.size
         ·rw [if_pos (by simpa using d3)]
          exact AQ ⟨s2.gal _,.inl ⟨_,_,rfl,eL _ _ _ m7 d3⟩⟩
         rw [if_neg (by simpa using d3)];split
         ·exact AQ ⟨s2.gal _,.inr ⟨_,ia2+k+1,ib2+1+k3,_,_,_,rfl,m7,by lia,by lia,by lia⟩⟩
         ·exact AQ ⟨s2.gal _,_,ia2+k+1,ib2+1+k3,_,_,_,rfl,m7,by lia,by lia,by lia⟩
        ·rw [if_neg hk3]
         have:k3=0:=by lia
         subst this;have m7:=tA _ _ _ m4 (by lia) far2;refine AO (Ba (i:=ia2+k) (by lia) ?_);refine (show wpS (AW prog w) A E s (if (ia2+k+1+1==a.size)=true then _ else _) P _ from ?_)
         by_cases d3:ia2+k+1+1=a.size
         ·rw [if_pos (by simpa using d3)]
          exact AQ ⟨s2.gal _,.inl ⟨_,_,rfl,eL _ _ _ m7 d3⟩⟩
         rw [if_neg (by simpa using d3)];split
         ·exact AQ ⟨s2.gal _,.inr ⟨_,ia2+k+1,ib2+1,_,_,_,rfl,m7,by lia,by lia,by lia⟩⟩
         ·exact AQ ⟨s2.gal _,_,ia2+k+1,ib2+1,_,_,_,rfl,m7,by lia,by lia,by lia⟩
      ·rw [if_neg hk0]
       have:k=0:=by lia
       subst this
       have c1:ia2+1 < a.size:=by omega
       have c3:ia+ib+1<=ia2+ib2:=by omega
       have m4:=tB _ _ _ m2 p2 far;refine AO (Ba (i:=ib2) p2 ?_);refine (show wpS (AW prog w) A E s (if (ib2+1==b.size)=true then _ else _) P _ from ?_)
       by_cases d:ib2+1=b.size
       ·rw [if_pos (by simpa using d)]
        exact AQ ⟨s2.gal _,.inl ⟨_,_,rfl,eB _ _ _ m4 d⟩⟩
       rw [if_neg (by simpa using d)];refine AO (Ba (i:=ia2) (by lia) ?_);refine AO (En (base:=ib2+1) (n:=b.size - (ib2+1)) (hint:=0) (arr:=b) (key:=ix a ia2) (left:=true) C (s2.gal _).good (λi=>lt (ix b (ib2+1+i)) (ix a ia2)) (ia0 _ (by lia)) (λi hi=>⟨by lia,ib0 _ (by lia)⟩) (λi hi=>rfl) (λi j hij hj e=>?_) (by lia) λk3 hk3 k4 k5=>?_)
       ·cases e2:lt (ix b (ib2+1+i)) (ix a ia2) with
        | true=>rfl
        | false=>
         have:=tr _ _ _ (ia0 _ (by lia)) (ib0 _ (by lia)) (ib0 _ (by lia)) e2 (ub (ib2+1+i) (ib2+1+j) (by lia) (by lia));exact nomatch (show true=false from (show lt (ix b (ib2+1+j)) (ix a ia2)=true from e).symm.trans this)
       ·have far2:∀j,ib2+1+k3<=j->j < b.size->Rl lt (ix a ia2) (ix b j):=λj j1 j2=>by
         have:=k5 (j - (ib2+1)) (by lia) (by omega);rwa [show ib2+1+(j - (ib2+1))=j by lia] at this
        have m6:=sB _ ia2 (ib2+1) k3 m4 (by lia) λi j hi j1 j2=>tr _ _ _ (ib0 _ (by lia)) (ia0 _ (by lia)) (ia0 _ j2) (O.asym _ _ (ib0 _ (by lia)) (ia0 _ (by lia)) (k4 i hi)) (ua ia2 j j1 j2)
        refine (show wpS (AW prog w) A E s (if k3 > 0 then _ else _) P _ from ?_)
        by_cases hk3:k3 > 0
        ·rw [if_pos hk3]
         refine (show wpS (AW prog w) A E s (if (ib2+1+k3==b.size)=true then _ else _) P _ from ?_)
         by_cases d2:ib2+1+k3=b.size
         ·rw [if_pos (by simpa using d2)]
          exact AQ ⟨s2.gal _,.inl ⟨_,_,rfl,eB _ _ _ m6 d2⟩⟩
         rw [if_neg (by simpa using d2)];have m7:=tA _ _ _ m6 (by lia) far2;refine AO (Ba (i:=ia2) (by lia) ?_);refine (show wpS (AW prog w) A E s (if (ia2+1+1==a.size)=true then _ else _) P _ from ?_)
         by_cases d3:ia2+1+1=a.size
         ·rw [if_pos (by simpa using d3)]
          exact AQ ⟨s2.gal _,.inl ⟨_,_,rfl,eL _ _ _ m7 d3⟩⟩
         rw [if_neg (by simpa using d3)];split
         ·exact AQ ⟨s2.gal _,.inr ⟨_,ia2+1,ib2+1+k3,_,_,_,rfl,m7,by lia,by lia,by lia⟩⟩
         ·exact AQ ⟨s2.gal _,_,ia2+1,ib2+1+k3,_,_,_,rfl,m7,by lia,by lia,by lia⟩
        ·rw [if_neg hk3]
         have:k3=0:=by lia
         subst this;have m7:=tA _ _ _ m4 (by lia) far2;refine AO (Ba (i:=ia2) (by lia) ?_);refine (show wpS (AW prog w) A E s (if (ia2+1+1==a.size)=true then _ else _) P _ from ?_)
         by_cases d3:ia2+1+1=a.size
         ·rw [if_pos (by simpa using d3)]
          exact AQ ⟨s2.gal _,.inl ⟨_,_,rfl,eL _ _ _ m7 d3⟩⟩
         rw [if_neg (by simpa using d3)];split
         ·exact AQ ⟨s2.gal _,.inr ⟨_,ia2+1,ib2+1,_,_,_,rfl,m7,by lia,by lia,by lia⟩⟩
         ·exact AQ ⟨s2.gal _,_,ia2+1,ib2+1,_,_,_,rfl,m7,by lia,by lia,by lia⟩
end
end Srt
namespace Srt
open PySem PyProof.Rows
theorem MI.last2 {R:Ao->Ao->Prop} {T o ra rb:List Ao} (m:MI R T o ra rb) (h:∀x∈ra,∀y∈rb,R x y):Gr R T (o++(ra++rb)):=by
 refine ⟨m.perm,BN.mpr ⟨m.srt,BN.mpr ⟨m.sa,m.sb,h⟩,λx hx y hy=>m.low x hx y hy⟩⟩
theorem Gr.rev {lt:Ao->Ao->Bool} {T r:List Ao} (f:Gr (λx y=>Rl lt y x) T r):Gr (Rl lt) T r.reverse:=⟨r.reverse_perm.trans f.perm,JX.mpr f.srt⟩
theorem Tx {a:Array Ao} {i:Nat} (h:i < a.size):(a.toList.take (i+1)).reverse=ix a i :: (a.toList.take i).reverse:=by
 have:=DG h;rw [getElem?_pos a i h] at this;rw [Em,show a.toList[i]?=some (ix a i) by simpa using DG h];simp
theorem RC {a:Array Ao} {i n:Nat} (h:i<=n) (hn:n<=a.size):(a.toList.take n).reverse=(a.extract i n).toList.reverse++(a.toList.take i).reverse:=by
 have e:(a.extract i n).toList=(a.toList.take n).drop i:=by simp [Ly,List.drop_take]
 rw [e,<-List.reverse_append]
 congr 1
 have:=Ct i (a.toList.take n);rw [List.take_take,show min i n=i by lia] at this;exact this.symm
theorem FT {a:Array Ao} {n:Nat} {x:Ao} (hx:x∈(a.toList.take n).reverse):∃j,j < n/\j < a.size/\x=ix a j:=by
 rw [Yd] at hx;obtain ⟨k,hk,rfl⟩:=Tp.mp hx;simp at hk;refine ⟨k,by lia,by lia,?_⟩;have:=DG (xs:=a) (i:=k) (by lia);rw [getElem?_pos a _ (by lia)] at this;simpa using this
theorem RX {a:Array Ao} {i n:Nat} {x:Ao} (hx:x∈(a.extract i n).toList.reverse):∃j,i<=j/\j < n/\j < a.size/\x=ix a j:=by
 rw [Yd,BM,Mv] at hx;obtain ⟨j,hj,rfl⟩:=hx;refine ⟨i+j,by lia,by omega,by omega,?_⟩;have:=DG (xs:=a) (i:=i+j) (by omega);rw [getElem?_pos a _ (by omega)] at this;simpa using this
theorem Gz (a:Array Ao) (n:Nat):(a.extract 0 n).toList=a.toList.take n:=by simp [Ly]
section
variable {prog:Ar} {w:BG} {A:A8} {E:AD->AF->Prop} {s:AF} {a₀:Array Ao} {κ:FK} {lt:Ao->Ao->Bool}
theorem Yt {st:BH} {a b:Array Ao} {Q:Array Ao->BH->Prop} (C:Iq prog w A s a₀ κ lt) (O:Ord (·∈a₀) lt) (g:Good a₀ κ st)
  (ma:∀x∈a.toList,x∈a₀) (mb:∀x∈b.toList,x∈a₀) (sa:a.toList.Pairwise (Rl lt)) (sb:b.toList.Pairwise (Rl lt)) (pa:0 < a.size) (pb:0 < b.size)
  (h0:∀x∈a.toList,Rl lt (ix b 0) x) (h1:∀y∈b.toList,Rl lt y (ix a (a.size - 1)))
  (h:∀r st',Iw a₀ κ st st'->Gr (Rl lt) (a.toList++b.toList) r.toList->Q r st'):wpS (AW prog w) A E s (mHi a b) Q st:=by
 have ia0:=QK ma;have ib0:=QK mb;have ua:=Q9 O ia0 sa;have ub:=Q9 O ib0 sb
 have tr:∀x y z:Ao,x∈a₀->y∈a₀->z∈a₀->Rl lt x y->Rl lt y z->Rl lt x z:=λx y z hx hy hz h1 h2=>O.ntr x y z hx hy hz h1 h2
 let M (out:Array Ao) (na nb:Nat):Prop:=MI (λx y=>Rl lt y x) (a.toList++b.toList) out.toList (a.toList.take na).reverse (b.toList.take nb).reverse
 have tA0:∀out na nb,M out (na+1) nb->na < a.size->nb<=b.size->(∀j,j < nb->Rl lt (ix b j) (ix a na))->M (out.push (ix a na)) na nb:=λout na nb m hna hnb hr=>by
  have m':MI (λx y=>Rl lt y x) (a.toList++b.toList) out.toList ([ix a na]++(a.toList.take na).reverse) (b.toList.take nb).reverse:=by rw [GR,<-Tx hna];exact m
  have:=m'.takeA λx hx y hy=>by
   obtain ⟨j,j1,j2,rfl⟩:=FT hy;rw [AL.mp hx];exact hr j j1
  simpa [M] using this
 have tB0:∀out na nb,M out na (nb+1)->nb < b.size->na<=a.size->(∀j,j < na->Rl lt (ix a j) (ix b nb))->M (out.push (ix b nb)) na nb:=λout na nb m hnb hna hr=>by
  have m':MI (λx y=>Rl lt y x) (a.toList++b.toList) out.toList (a.toList.take na).reverse ([ix b nb]++(b.toList.take nb).reverse):=by rw [GR,<-Tx hnb];exact m
  have:=m'.takeB λx hx y hy=>by
   obtain ⟨j,j1,j2,rfl⟩:=FT hy;rw [AL.mp hx];exact hr j j1
  simpa [M] using this
 have tA:∀out na nb,M out na nb->0 < na->na<=a.size->nb<=b.size->(∀j,j < nb->Rl lt (ix b j) (ix a (na - 1)))->M (out.push (ix a (na - 1))) (na - 1) nb:=λout na nb m h0 hna hnb hr=>
  tA0 out (na - 1) nb (by rw [show na - 1+1=na by lia];exact m) (by omega) hnb hr
 have tB:∀out na nb,M out na nb->0 < nb->nb<=b.size->na<=a.size->(∀j,j < na->Rl lt (ix a j) (ix b (nb - 1)))->M (out.push (ix b (nb - 1))) na (nb - 1):=λout na nb m h0 hnb hna hr=>
  tB0 out na (nb - 1) (by rw [show nb - 1+1=nb by lia];exact m) (by omega) hna hr
 have sA:∀out na nb k,M out na nb->k<=na->na<=a.size->nb<=b.size->(∀i j,k<=i->i < na->j < nb->Rl lt (ix b j) (ix a i))->M (out++(a.extract k na).reverse) k nb:=λout na nb k m hk hna hnb hr=>by
  have m':MI (λx y=>Rl lt y x) (a.toList++b.toList) out.toList ((a.extract k na).toList.reverse++(a.toList.take k).reverse) (b.toList.take nb).reverse:=by rw [<-RC hk hna];exact m
  have:=m'.takeA λx hx y hy=>by
   obtain ⟨j,j1,j2,rfl⟩:=FT hy;obtain ⟨i,i1,i2,i3,rfl⟩:=RX hx;exact hr i j i1 i2 j1
  show MI _ _ (out++(a.extract k na).reverse).toList _ _;rw [BB,Et];exact this
 have sB:∀out na nb k,M out na nb->k<=nb->nb<=b.size->na<=a.size->(∀i j,k<=i->i < nb->j < na->Rl lt (ix a j) (ix b i))->M (out++(b.extract k nb).reverse) na k:=λout na nb k m hk hnb hna hr=>by
  have m':MI (λx y=>Rl lt y x) (a.toList++b.toList) out.toList (a.toList.take na).reverse ((b.extract k nb).toList.reverse++(b.toList.take k).reverse):=by rw [<-RC hk hnb];exact m
  have:=m'.takeB λx hx y hy=>by
   obtain ⟨j,j1,j2,rfl⟩:=FT hy;obtain ⟨i,i1,i2,i3,rfl⟩:=RX hx;exact hr i j i1 i2 j1
  show MI _ _ (out++(b.extract k nb).reverse).toList _ _;rw [BB,Et];exact this
 have eA:∀out na nb,M out na nb->na=0->Gr (Rl lt) (a.toList++b.toList) (a.extract 0 na++b.extract 0 nb++out.reverse).toList:=λout na nb m e=>by
  subst e
  have m':MI (λx y=>Rl lt y x) (a.toList++b.toList) out.toList [] (b.toList.take nb).reverse:=by simpa [M] using m
  have:=m'.endB.rev;rw [BB,BB,Gz,Gz,Et];simpa using this
 have eB:∀out na nb,M out na nb->nb=0->Gr (Rl lt) (a.toList++b.toList) (a.extract 0 na++b.extract 0 nb++out.reverse).toList:=λout na nb m e=>by
  subst e
  have m':MI (λx y=>Rl lt y x) (a.toList++b.toList) out.toList (a.toList.take na).reverse []:=by simpa [M] using m
  have:=m'.endA.rev;rw [BB,BB,Gz,Gz,Et];simpa using this
 have eF:∀out na nb,M out na nb->nb=1->Gr (Rl lt) (a.toList++b.toList) (b.extract 0 nb++a.extract 0 na++out.reverse).toList:=λout na nb m e=>by
  have:=m.last2 λx hx y hy=>by
   obtain ⟨j,j1,j2,rfl⟩:=FT hx;obtain ⟨i,i1,i2,rfl⟩:=FT hy
   have:i=0:=by lia
   subst this;exact h0 _ (BM.mpr (Cq (DG j2)))
  have:=this.rev;rw [BB,BB,Gz,Gz,Et];simpa using this
 have m0:M #[] a.size b.size:=by
  refine ⟨?_,by simp,by simp,?_,?_⟩
  ·rw [Cf (by simp),Cf (by simp)]
   simpa using List.Perm.append a.toList.reverse_perm b.toList.reverse_perm
  ·rw [Cf (by simp)];exact JX.mpr sa
  ·rw [Cf (by simp)];exact JX.mpr sb
 have m1:M #[ix a (a.size - 1)] (a.size - 1) b.size:=by
  have:=tA #[] a.size b.size m0 pa (AS _) (AS _) λj hj=>h1 _ (BM.mpr (Cq (DG hj)))
  simpa using this
 refine (AO (Ht ?_):wpS _ _ _ _ (mHi a b) Q st);refine AO (Ba (i:=a.size - 1) (by omega) ?_)
 by_cases c1:a.size - 1=0
 ·refine (show wpS (AW prog w) A E s (if (a.size - 1==0)=true then _ else _) Q st from ?_)
  rw [if_pos (by simpa using c1)];exact AQ (h _ st ⟨g,rfl,rfl⟩ (eA _ _ _ m1 c1))
 refine (show wpS (AW prog w) A E s (if (a.size - 1==0)=true then _ else _) Q st from ?_);rw [if_neg (by simpa using c1)]
 by_cases c2:b.size=1
 ·rw [if_pos (by simpa using c2)]
  exact AQ (h _ st ⟨g,rfl,rfl⟩ (eF _ _ _ m1 c2))
 rw [if_neg (by simpa using c2)];refine AO (Ga ?_)
 refine AO (DC (B2 (I:=λx c st'=>Iw a₀ κ st st'/\∃out na nb mg,c=(none,na,nb,out,mg)/\M out na nb/\0 < na/\1 < nb/\na<=a.size/\nb<=b.size/\na+nb+1+x<=a.size+b.size)
  (Q:=λc st'=>Iw a₀ κ st st'/\∃r z,c=(some r,z)/\Gr (Rl lt) (a.toList++b.toList) r.toList) ?step ?fin ?init) ?post)
 case init=>exact ⟨⟨g,rfl,rfl⟩,_,a.size - 1,b.size,_,rfl,m1,by lia,by lia,by omega,by lia,by lia⟩
 case fin=>
  rintro c st' ⟨_,out,na,nb,mg,_,_,k1,k2,k3,k4,k5⟩
  lia
 case post=>
  rintro c st' ⟨s1,r,z,rfl,f⟩;exact AQ (h r st' s1 f)
 case step=>
  rintro x c st1 _ _ ⟨s1,out,na,nb,mg,rfl,m,k1,k2,k3,k4,k5⟩
  refine AO (DC (B2 (I:=λy c st'=>st'=st1/\∃out' na' nb' ac bc,c=(none,na',nb',out',ac,bc)/\M out' na' nb'/\0 < na'/\1 < nb'/\na'<=a.size/\nb'<=b.size/\na'+nb'+y<=na+nb)
   (Q:=λc st'=>st'=st1/\((∃r z,c=(some r,z)/\Gr (Rl lt) (a.toList++b.toList) r.toList)∨∃out' na' nb' ac bc,c=(none,na',nb',out',ac,bc)/\M out' na' nb'/\0 < na'/\1 < nb'/\na'<=a.size/\nb'<=b.size/\na'+nb'+1<=na+nb)) ?step1 ?fin1 ?init1) ?post1)
  case init1=>exact ⟨rfl,out,na,nb,0,0,rfl,m,k1,k2,k3,k4,by lia⟩
  case fin1=>
   rintro c st' ⟨rfl,out',na',nb',ac,bc,rfl,m',q1,q2,q3,q4,q5⟩;exact ⟨rfl,.inr ⟨out',na',nb',ac,bc,rfl,m',q1,q2,q3,q4,by lia⟩⟩
  case step1=>
   rintro y c st' _ _ ⟨rfl,out',na',nb',ac,bc,rfl,m',q1,q2,q3,q4,q5⟩;refine AO (Ba (i:=nb' - 1) (by lia) ?_);refine AO (Ba (i:=na' - 1) (by lia) ?_);refine AO (NI C s1.good (ib0 _ (by lia)) (ia0 _ (by lia)) ?_)
   cases e:lt (ix b (nb' - 1)) (ix a (na' - 1)) with
   | true=>
    refine AO (Ba (i:=na' - 1) (by lia) ?_);have r0:Rl lt (ix b (nb' - 1)) (ix a (na' - 1)):=O.asym _ _ (ib0 _ (by lia)) (ia0 _ (by lia)) e
    have m2:=tA out' na' nb' m' q1 q3 q4 λj j1=>tr _ _ _ (ib0 _ (by lia)) (ib0 _ (by lia)) (ia0 _ (by lia)) (ub j (nb' - 1) (by lia) (by lia)) r0
    refine (show wpS (AW prog w) A E s (if (na' - 1==0)=true then _ else _) _ st' from ?_)
    by_cases d:na' - 1=0
    ·rw [if_pos (by simpa using d)]
     exact AQ ⟨rfl,.inl ⟨_,_,rfl,eA _ _ _ m2 d⟩⟩
    ·rw [if_neg (by simpa using d)]
     split
     ·exact AQ ⟨rfl,.inr ⟨_,na' - 1,nb',_,_,rfl,m2,by lia,by omega,by lia,by omega,by lia⟩⟩
     ·exact AQ ⟨rfl,_,na' - 1,nb',_,_,rfl,m2,by lia,by omega,by lia,by omega,by lia⟩
   | false=>
    refine AO (Ba (i:=nb' - 1) (by lia) ?_)
    have m2:=tB out' na' nb' m' (by lia) q4 q3 λj j1=>tr _ _ _ (ia0 _ (by lia)) (ia0 _ (by lia)) (ib0 _ (by lia)) (ua j (na' - 1) (by lia) (by lia)) e
    refine (show wpS (AW prog w) A E s (if (nb' - 1==1)=true then _ else _) _ st' from ?_)
    by_cases d:nb' - 1=1
    ·rw [if_pos (by simpa using d)]
     exact AQ ⟨rfl,.inl ⟨_,_,rfl,eF _ _ _ m2 d⟩⟩
    ·rw [if_neg (by simpa using d)]
     split
     ·exact AQ ⟨rfl,.inr ⟨_,na',nb' - 1,_,_,rfl,m2,by omega,by lia,by omega,by lia,by lia⟩⟩
     ·exact AQ ⟨rfl,_,na',nb' - 1,_,_,rfl,m2,by omega,by lia,by omega,by lia,by lia⟩
  case post1=>
   rintro c st' ⟨rfl,⟨r,z,rfl,f⟩ | ⟨out',na',nb',ac,bc,rfl,m',q1,q2,q3,q4,q5⟩⟩
   ·exact AQ ⟨s1,_,_,rfl,f⟩
   refine AO (Ht ?_)
   refine AO (DC (B2 (I:=λy c st2=>Iw a₀ κ st st2/\∃out2 na2 nb2 mg2 ac bc,c=(none,na2,nb2,out2,mg2,ac,bc)/\M out2 na2 nb2/\0 < na2/\1 < nb2/\na2<=a.size/\nb2<=b.size/\na2+nb2+1<=na+nb)
    (Q:=λc st2=>Iw a₀ κ st st2/\((∃r z,c=(some r,z)/\Gr (Rl lt) (a.toList++b.toList) r.toList)∨∃out2 na2 nb2 mg2 ac bc,c=(none,na2,nb2,out2,mg2,ac,bc)/\M out2 na2 nb2/\0 < na2/\1 < nb2/\na2<=a.size/\nb2<=b.size/\na2+nb2+1<=na+nb)) ?step2 ?fin2 ?init2) ?post2)
   case init2=>exact ⟨s1,out',na',nb',mg+1,ac,bc,rfl,m',q1,q2,q3,q4,q5⟩
   case fin2=>
    rintro c st2 ⟨s2,out2,na2,nb2,mg2,ac2,bc2,rfl,m2,p1⟩;exact ⟨s2,.inr ⟨out2,na2,nb2,mg2,ac2,bc2,rfl,m2,p1⟩⟩
   case post2=>
    rintro c st2 ⟨s2,⟨r,z,rfl,f⟩ | ⟨out2,na2,nb2,mg2,ac2,bc2,rfl,m2,p1,p2,p3,p4,p5⟩⟩
    ·exact AQ ⟨s2,_,_,rfl,f⟩
    ·exact AO (Mw (AQ ⟨s2.gal _,out2,na2,nb2,mg2+1,rfl,m2,p1,p2,p3,p4,by lia⟩))
   case step2=>
    rintro y c st2 _ _ ⟨s2,out2,na2,nb2,mg2,ac2,bc2,rfl,m2,p1,p2,p3,p4,p5⟩
    let P:ForInStep (Option (Array Ao)×Nat×Nat×Array Ao×Nat×Nat×Nat)->BH->Prop:=λr st'=>match r with
     | .done c'=>Iw a₀ κ st st'/\((∃r z,c'=(some r,z)/\Gr (Rl lt) (a.toList++b.toList) r.toList)∨∃out2 na2 nb2 mg2 ac bc,c'=(none,na2,nb2,out2,mg2,ac,bc)/\M out2 na2 nb2/\0 < na2/\1 < nb2/\na2<=a.size/\nb2<=b.size/\na2+nb2+1<=na+nb)
     | .yield c'=>Iw a₀ κ st st'/\∃out2 na2 nb2 mg2 ac bc,c'=(none,na2,nb2,out2,mg2,ac,bc)/\M out2 na2 nb2/\0 < na2/\1 < nb2/\na2<=a.size/\nb2<=b.size/\na2+nb2+1<=na+nb
    refine DC (Q:=P) ?_ λr st' h=>by cases r <;> exact h
    refine (show wpS (AW prog w) A E s (if mg2 > 1 then _ else _) P st2 from ?_);split
    all_goals
     refine AO (Mw ?_);refine AO (Ba (i:=nb2 - 1) (by lia) ?_);refine AO (En (base:=0) (n:=na2) (hint:=na2 - 1) (arr:=a) (key:=ix b (nb2 - 1)) (left:=false) C (s2.gal _).good (λi=>!lt (ix b (nb2 - 1)) (ix a (0+i))) (ib0 _ (by lia)) (λi hi=>⟨by lia,ia0 _ (by lia)⟩) (λi hi=>rfl) (λi j hij hj e=>?_) (by lia) λk hk k1 k2=>?_)
     ·have e':lt (ix b (nb2 - 1)) (ix a (0+j))=false:=by simpa using e
      have:=tr _ _ _ (ia0 _ (by lia)) (ia0 _ (by lia)) (ib0 _ (by lia)) (ua (0+i) (0+j) (by lia) (by lia)) e';simpa using this
     ·have near:∀j,j < k->Rl lt (ix a j) (ix b (nb2 - 1)):=λj j1=>by
       have:=k1 j j1;rw [DN] at this;simpa using this
      have m5:=sA out2 na2 nb2 k m2 hk p3 p4 λi j i1 i2 j1=>by
       have:=k2 i i1 i2;rw [DN] at this;exact tr _ _ _ (ib0 _ (by lia)) (ib0 _ (by lia)) (ia0 _ (by lia)) (ub j (nb2 - 1) (by lia) (by lia)) (O.asym _ _ (ib0 _ (by lia)) (ia0 _ (by lia)) (by simpa using this))
      refine (show wpS (AW prog w) A E s (if na2 - k > 0 then _ else _) P _ from ?_)
      by_cases hk0:na2 - k > 0
      ·rw [if_pos hk0]
       refine (show wpS (AW prog w) A E s (if (k==0)=true then _ else _) P _ from ?_)
       by_cases d1:k=0
       ·rw [if_pos (by simpa using d1)]
        exact AQ ⟨s2.gal _,.inl ⟨_,_,rfl,eA _ _ _ m5 d1⟩⟩
       rw [if_neg (by simpa using d1)];have m4:=tB _ _ _ m5 (by lia) p4 (by lia) near;refine AO (Ba (i:=nb2 - 1) (by lia) ?_);refine (show wpS (AW prog w) A E s (if (nb2 - 1==1)=true then _ else _) P _ from ?_)
       by_cases d:nb2 - 1=1
       ·rw [if_pos (by simpa using d)]
        exact AQ ⟨s2.gal _,.inl ⟨_,_,rfl,eF _ _ _ m4 d⟩⟩
       rw [if_neg (by simpa using d)];refine AO (Ba (i:=k - 1) (by omega) ?_);refine AO (En (base:=0) (n:=nb2 - 1) (hint:=nb2 - 1 - 1) (arr:=b) (key:=ix a (k - 1)) (left:=true) C (s2.gal _).good (λi=>lt (ix b (0+i)) (ix a (k - 1))) (ia0 _ (by omega)) (λi hi=>⟨by lia,ib0 _ (by lia)⟩) (λi hi=>rfl) (λi j hij hj e=>?_) (by lia) λk3 hk3 k4 k5=>?_)
       ·cases e2:lt (ix b (0+i)) (ix a (k - 1)) with
        | true=>rfl
        | false=>
         have:=tr _ _ _ (ia0 _ (by lia)) (ib0 _ (by lia)) (ib0 _ (by lia)) e2 (ub (0+i) (0+j) (by lia) (by lia));exact nomatch (show true=false from (show lt (ix b (0+j)) (ix a (k - 1))=true from e).symm.trans this)
       ·have near2:∀j,j < k3->Rl lt (ix b j) (ix a (k - 1)):=λj j1=>by
         have:=k4 j j1;rw [DN] at this;exact O.asym _ _ (ib0 _ (by lia)) (ia0 _ (by omega)) this
        have m6:=sB _ k (nb2 - 1) k3 m4 hk3 (by lia) (by lia) λi j i1 i2 j1=>by
         have:=k5 i i1 i2;rw [DN] at this;exact tr _ _ _ (ia0 _ (by lia)) (ia0 _ (by lia)) (ib0 _ (by lia)) (ua j (k - 1) (by lia) (by lia)) this
        refine (show wpS (AW prog w) A E s (if nb2 - 1 - k3 > 0 then _ else _) P _ from ?_)
        by_cases hk4:nb2 - 1 - k3 > 0
        ·rw [if_pos hk4]
         refine (show wpS (AW prog w) A E s (if (k3==1)=true then _ else _) P _ from ?_)
         by_cases d2:k3=1
         ·rw [if_pos (by simpa using d2)]
          exact AQ ⟨s2.gal _,.inl ⟨_,_,rfl,eF _ _ _ m6 d2⟩⟩
         rw [if_neg (by simpa using d2)]
         by_cases d4:k3=0
         ·rw [if_pos (by simpa using d4)]
          exact AQ ⟨s2.gal _,.inl ⟨_,_,rfl,eB _ _ _ m6 d4⟩⟩
         rw [if_neg (by simpa using d4)];have m7:=tA _ _ _ m6 (by lia) (by lia) (by lia) near2;refine AO (Ba (i:=k - 1) (by lia) ?_);refine (show wpS (AW prog w) A E s (if (k - 1==0)=true then _ else _) P _ from ?_)
         by_cases d3:k - 1=0
         ·rw [if_pos (by simpa using d3)]
          exact AQ ⟨s2.gal _,.inl ⟨_,_,rfl,eA _ _ _ m7 d3⟩⟩
         rw [if_neg (by simpa using d3)];split
         ·exact AQ ⟨s2.gal _,.inr ⟨_,k - 1,k3,_,_,_,rfl,m7,by lia,by lia,by lia,by lia,by lia⟩⟩
         ·exact AQ ⟨s2.gal _,_,k - 1,k3,_,_,_,rfl,m7,by lia,by lia,by lia,by lia,by lia⟩
        ·rw [if_neg hk4]
         have:k3=nb2 - 1:=by lia
         subst this;have m7:=tA _ _ _ m4 (by lia) (by lia) (by lia) near2;refine AO (Ba (i:=k - 1) (by lia) ?_);refine (show wpS (AW prog w) A E s (if (k - 1==0)=true then _ else _) P _ from ?_)
         by_cases d3:k - 1=0
         ·rw [if_pos (by simpa using d3)]
          exact AQ ⟨s2.gal _,.inl ⟨_,_,rfl,eA _ _ _ m7 d3⟩⟩
         rw [if_neg (by simpa using d3)];split
         ·exact AQ ⟨s2.gal _,.inr ⟨_,k - 1,nb2 - 1,_,_,_,rfl,m7,by lia,by lia,by lia,by lia,by lia⟩⟩
         ·exact AQ ⟨s2.gal _,_,k - 1,nb2 - 1,_,_,_,rfl,m7,by lia,by lia,by lia,by lia,by lia⟩
      ·rw [if_neg hk0]
       have:k=na2:=by lia
       subst this;have m4:=tB _ _ _ m2 (by lia) p4 (by omega) near;refine AO (Ba (i:=nb2 - 1) (by lia) ?_);refine (show wpS (AW prog w) A E s (if (nb2 - 1==1)=true then _ else _) P _ from ?_)
       by_cases d:nb2 - 1=1
       ·rw [if_pos (by simpa using d)]
        exact AQ ⟨s2.gal _,.inl ⟨_,_,rfl,eF _ _ _ m4 d⟩⟩
       rw [if_neg (by simpa using d)];refine AO (Ba (i:=k - 1) (by lia) ?_);refine AO (En (base:=0) (n:=nb2 - 1) (hint:=nb2 - 1 - 1) (arr:=b) (key:=ix a (k - 1)) (left:=true) C (s2.gal _).good (λi=>lt (ix b (0+i)) (ix a (k - 1))) (ia0 _ (by lia)) (λi hi=>⟨by lia,ib0 _ (by lia)⟩) (λi hi=>rfl) (λi j hij hj e=>?_) (by lia) λk3 hk3 k4 k5=>?_)
       ·cases e2:lt (ix b (0+i)) (ix a (k - 1)) with
        | true=>rfl
        | false=>
         have:=tr _ _ _ (ia0 _ (by lia)) (ib0 _ (by lia)) (ib0 _ (by lia)) e2 (ub (0+i) (0+j) (by lia) (by lia));exact nomatch (show true=false from (show lt (ix b (0+j)) (ix a (k - 1))=true from e).symm.trans this)
       ·have near2:∀j,j < k3->Rl lt (ix b j) (ix a (k - 1)):=λj j1=>by
         have:=k4 j j1;rw [DN] at this;exact O.asym _ _ (ib0 _ (by lia)) (ia0 _ (by lia)) this
        have m6:=sB _ k (nb2 - 1) k3 m4 hk3 (by lia) (by omega) λi j i1 i2 j1=>by
         have:=k5 i i1 i2;rw [DN] at this;exact tr _ _ _ (ia0 _ (by lia)) (ia0 _ (by lia)) (ib0 _ (by lia)) (ua j (k - 1) (by lia) (by lia)) this
        refine (show wpS (AW prog w) A E s (if nb2 - 1 - k3 > 0 then _ else _) P _ from ?_)
        by_cases hk4:nb2 - 1 - k3 > 0
        ·rw [if_pos hk4]
         refine (show wpS (AW prog w) A E s (if (k3==1)=true then _ else _) P _ from ?_)
         by_cases d2:k3=1
         ·rw [if_pos (by simpa using d2)]
          exact AQ ⟨s2.gal _,.inl ⟨_,_,rfl,eF _ _ _ m6 d2⟩⟩
         rw [if_neg (by simpa using d2)]
         by_cases d4:k3=0
         ·rw [if_pos (by simpa using d4)]
          exact AQ ⟨s2.gal _,.inl ⟨_,_,rfl,eB _ _ _ m6 d4⟩⟩
         rw [if_neg (by simpa using d4)];have m7:=tA _ _ _ m6 (by omega) (by omega) (by lia) near2;refine AO (Ba (i:=k - 1) (by lia) ?_);refine (show wpS (AW prog w) A E s (if (k - 1==0)=true then _ else _) P _ from ?_)
         by_cases d3:k - 1=0
         ·rw [if_pos (by simpa using d3)]
          exact AQ ⟨s2.gal _,.inl ⟨_,_,rfl,eA _ _ _ m7 d3⟩⟩
         rw [if_neg (by simpa using d3)];split
         ·exact AQ ⟨s2.gal _,.inr ⟨_,k - 1,k3,_,_,_,rfl,m7,by lia,by lia,by lia,by lia,by lia⟩⟩
         ·exact AQ ⟨s2.gal _,_,k - 1,k3,_,_,_,rfl,m7,by lia,by lia,by lia,by lia,by lia⟩
        ·rw [if_neg hk4]
         have:k3=nb2 - 1:=by lia
         subst this;have m7:=tA _ _ _ m4 (by omega) (by omega) (by lia) near2;refine AO (Ba (i:=k - 1) (by lia) ?_);refine (show wpS (AW prog w) A E s (if (k - 1==0)=true then _ else _) P _ from ?_)
         by_cases d3:k - 1=0
         ·rw [if_pos (by simpa using d3)]
          exact AQ ⟨s2.gal _,.inl ⟨_,_,rfl,eA _ _ _ m7 d3⟩⟩
         rw [if_neg (by simpa using d3)];split
         ·exact AQ ⟨s2.gal _,.inr ⟨_,k - 1,nb2 - 1,_,_,_,rfl,m7,by lia,by lia,by lia,by lia,by lia⟩⟩
         ·exact AQ ⟨s2.gal _,_,k - 1,nb2 - 1,_,_,_,rfl,m7,by lia,by lia,by lia,by lia,by lia⟩
end
end Srt
namespace Srt
open PySem PyProof.Rows
def wr (arr:Array Ao) (sa:Nat) (l:List (Ao×Nat)):Array Ao:=l.foldl (λa (x:Ao×Nat)=>match x with | (p,j)=>a.setIfInBounds (sa+j) p) arr
theorem Pt (sa:Nat):∀(l:List Ao) (k:Nat) (arr:Array Ao),sa+k+l.length<=arr.size->(wr arr sa (l.zipIdx k)).toList=arr.toList.take (sa+k)++l++arr.toList.drop (sa+k+l.length)
 | [],k,arr,h=>by simp [wr]
 | x :: l,k,arr,h=>by
  rw [BA] at h;have e:wr arr sa ((x :: l).zipIdx k)=wr (arr.setIfInBounds (sa+k) x) sa (l.zipIdx (k+1)):=rfl;rw [e,Pt sa l (k+1) _ (by simp;lia)]
  have hk:sa+k < arr.toList.length:=by simp;lia
  rw [OV,BA,show sa+(k+1)=sa+k+1 by lia];rw [Em,List.take_set_of_le (AS _),As hk,List.drop_set_of_lt (by lia)];simp [show sa+k+1+l.length=sa+k+(l.length+1) by lia]
theorem ix_list (a:Array Ao) (i:Nat):ix a i=(a.toList[i]?).getD (.none,.none):=by
 unfold ix;rw [Eg];simp
theorem Xs {arr m:Array Ao} {sa:Nat} (h:sa+m.size<=arr.size) (i:Nat):ix (wr arr sa m.toList.zipIdx) i=if i < sa then ix arr i else if i < sa+m.size then ix m (i - sa) else ix arr i:=by
 have e:=Pt sa m.toList 0 arr (by simpa using h);rw [ix_list,show m.toList.zipIdx=m.toList.zipIdx 0 from rfl,e,et]
 have hl:(arr.toList.take sa).length=sa:=by simp;lia
 split
 ·rename_i h1
  rw [BJ,Ag (by lia),Qr h1,ix_list]
 ·rename_i h1
  split
  ·rename_i h2
   rw [BJ,BI (by lia),hl,Ag (by simp;lia),ix_list]
  ·rename_i h2
   rw [BI (by simp;lia),WL,ix_list]
   congr 2
   simp
   lia
theorem ZW {arr m:Array Ao} {sa:Nat} (h:sa+m.size<=arr.size) (hp:m.toList.Perm (arr.extract sa (sa+m.size)).toList):(wr arr sa m.toList.zipIdx).Perm arr:=by
 rw [Eu];have e:=Pt sa m.toList 0 arr (by simpa using h);rw [show m.toList.zipIdx=m.toList.zipIdx 0 from rfl,e,et]
 have e2:arr.toList=arr.toList.take sa++(arr.extract sa (sa+m.size)).toList++arr.toList.drop (sa+m.toList.length):=by
  rw [BJ,Bo,<-G9 h,Ct]
 conv=>rhs;rw [e2]
 exact OT _ (EF _ hp)
theorem TL {a:Array Ao} {lo hi i:Nat} (h:hi<=a.size) (hi':i < hi - lo):ix (a.extract lo hi) i=ix a (lo+i):=by
 apply Hz
 rw [Array.getElem?_extract];simp
 lia
section
variable {prog:Ar} {w:BG} {A:A8} {E:AD->AF->Prop} {s:AF} {a₀:Array Ao} {κ:FK} {lt:Ao->Ao->Bool}
theorem We {a:Array Ao} {lo hi:Nat} (h:hi<=a.size) (u:Up lt a lo hi):(a.extract lo hi).toList.Pairwise (Rl lt):=by
 rw [Pn];intro i j hi' hj hij;simp at hi' hj
 have e:∀k (hk:k < (a.extract lo hi).toList.length),(a.extract lo hi).toList[k]=ix a (lo+k):=λk hk=>by
  have hk':k < (a.extract lo hi).size:=by rw [Bo] at hk;exact hk
  have:=DG hk';rw [getElem?_pos (a.extract lo hi) k hk'] at this
  have hs:(a.extract lo hi).size=hi - lo:=by simp;lia
  rw [<-TL h (by lia)];simpa using this
 rw [e,e];exact u _ _ (by lia) (by lia) (by omega)
theorem Yr {st st1:BH} {Q:PUnit->BH->Prop} (h:Q ⟨⟩ st1):wpS (AW prog w) A E s (set st1:StateT BH Sem PUnit) Q st:=AQ h
theorem Q5 {st:BH} {i sa na pw sb nb pw2:Nat} {Q:Bool->BH->Prop} (C:Iq prog w A s a₀ κ lt) (O:Ord (·∈a₀) lt) (g:Good a₀ κ st)
  (e1:(AU st)[i]?=some (sa,na,pw)) (e2:(AU st)[i+1]?=some (sb,nb,pw2)) (hab:sb=sa+na) (hna:1<=na) (hnb:1<=nb) (hs:sb+nb<=a₀.size)
  (ua:Up lt (AT st) sa (sa+na)) (ub:Up lt (AT st) sb (sb+nb))
  (h:∀st',Good a₀ κ st'->AU st'=((AU st).setIfInBounds i (sa,na+nb,pw)).eraseIdxIfInBounds (i+1)->Up lt (AT st') sa (sa+(na+nb))->Out (AT st) (AT st') sa (sa+(na+nb))->Q true st') :
  wpS (AW prog w) A E s (mergeAt' i) Q st:=by
 subst hab;have hsz:=g.size
 have mem:∀j,j < a₀.size->ix (AT st) j∈a₀:=λj hj=>g.mem hj
 have tr:∀x y z:Ao,x∈a₀->y∈a₀->z∈a₀->Rl lt x y->Rl lt y z->Rl lt x z:=λx y z hx hy hz h1 h2=>O.ntr x y z hx hy hz h1 h2
 refine (AO (Ga ?_):wpS _ _ _ _ (mergeAt' i) Q st);rw [show (sortPriv% PySem.Builtin.SortState.pending) st=AU st from rfl,e1,e2];refine AO (Yr ?_);generalize hst1:((sortPriv% PySem.Builtin.SortState.mk) (kindOf st) (AT st) (((AU st).setIfInBounds i (sa,na+nb,pw)).eraseIdxIfInBounds (i+1)) (gallopOf st) (HH st))=st1
 have g1:Good a₀ κ st1:=by subst hst1;exact ⟨g.perm,g.kind,g.failed⟩
 have a1:AT st1=AT st:=by subst hst1;rfl
 have p1:AU st1=((AU st).setIfInBounds i (sa,na+nb,pw)).eraseIdxIfInBounds (i+1):=by subst hst1;rfl
 refine AO (Ba (a:=AT st) (i:=sa+na) (by lia) ?_);refine AO (En (base:=sa) (n:=na) (hint:=0) (arr:=AT st) (key:=ix (AT st) (sa+na)) (left:=false) C g1 (λj=>!lt (ix (AT st) (sa+na)) (ix (AT st) (sa+j))) (mem _ (by lia)) (λj hj=>⟨by lia,mem _ (by lia)⟩) (λj hj=>rfl) (λx y hxy hy e=>?_) (by lia) λk hk k1 k2=>?_)
 ·have e':lt (ix (AT st) (sa+na)) (ix (AT st) (sa+y))=false:=by simpa using e
  have:=tr _ _ _ (mem _ (by lia)) (mem _ (by lia)) (mem _ (by lia)) (ua (sa+x) (sa+y) (by lia) (by lia) (by lia)) e';simpa using this
 have low:∀j,sa<=j->j < sa+k->Rl lt (ix (AT st) j) (ix (AT st) (sa+na)):=λj j1 j2=>by
  have:=k1 (j - sa) (by lia);rw [show sa+(j - sa)=j by lia] at this;simpa using this
 have lowb:∀i j,sa<=i->i < sa+k->sa+na<=j->j < sa+na+nb->Rl lt (ix (AT st) i) (ix (AT st) j):=λi j i1 i2 j1 j2=>tr _ _ _ (mem _ (by lia)) (mem _ (by lia)) (mem _ (by lia)) (low i i1 i2) (ub _ _ (by lia) (by omega) (by omega))
 have whole:(∀j,sa<=j->j < sa+na->Rl lt (ix (AT st) j) (ix (AT st) (sa+na)))->Up lt (AT st) sa (sa+(na+nb)):=λhh x y h1 h2 h3=>by
  by_cases c1:y < sa+na
  ·exact ua x y h1 h2 c1
  by_cases c2:x < sa+na
  ·exact tr _ _ _ (mem _ (by lia)) (mem _ (by lia)) (mem _ (by lia)) (hh x h1 c2) (ub _ _ (by lia) (by lia) (by lia))
  ·exact ub x y (by lia) h2 (by lia)
 refine (show wpS (AW prog w) A E s (if (na - k==0)=true then _ else _) Q st1 from ?_)
 by_cases c1:na - k=0
 ·rw [if_pos (by simpa using c1)]
  refine AQ (h st1 g1 p1 ?_ (by rw [a1];exact .refl));rw [a1]
  exact whole λj j1 j2=>low j j1 (by lia)
 rw [if_neg (by simpa using c1)];refine AO (Ba (a:=AT st) (i:=sa+k+(na - k) - 1) (by omega) ?_);rw [show sa+k+(na - k) - 1=sa+na - 1 by lia];refine AO (En (base:=sa+na) (n:=nb) (hint:=nb - 1) (arr:=AT st) (key:=ix (AT st) (sa+na - 1)) (left:=true) C g1 (λj=>lt (ix (AT st) (sa+na+j)) (ix (AT st) (sa+na - 1))) (mem _ (by lia)) (λj hj=>⟨by lia,mem _ (by lia)⟩) (λj hj=>rfl) (λx y hxy hy e=>?_) (by omega) λk3 hk3 k4 k5=>?_)
 ·cases e2:lt (ix (AT st) (sa+na+x)) (ix (AT st) (sa+na - 1)) with
  | true=>rfl
  | false=>
   have:=tr _ _ _ (mem _ (by lia)) (mem _ (by lia)) (mem _ (by lia)) e2 (ub (sa+na+x) (sa+na+y) (by lia) (by lia) (by lia));exact nomatch (show true=false from (show lt (ix (AT st) (sa+na+y)) (ix (AT st) (sa+na - 1))=true from e).symm.trans this)
 have high:∀j,sa+na+k3<=j->j < sa+na+nb->Rl lt (ix (AT st) (sa+na - 1)) (ix (AT st) j):=λj j1 j2=>by
  have:=k5 (j - (sa+na)) (by lia) (by lia);rwa [show sa+na+(j - (sa+na))=j by lia] at this
 refine (show wpS (AW prog w) A E s (if (k3==0)=true then _ else _) Q st1 from ?_)
 by_cases c2:k3=0
 ·rw [if_pos (by simpa using c2)]
  refine AQ (h st1 g1 p1 ?_ (by rw [a1];exact .refl));rw [a1]
  exact whole λj j1 j2=>tr _ _ _ (mem _ (by lia)) (mem _ (by lia)) (mem _ (by lia)) (ua j (sa+na - 1) (by omega) (by lia) (by lia)) (high _ (by lia) (by lia))
 rw [if_neg (by simpa using c2)]
 let x:=(AT st).extract (sa+k) (sa+na)
 let y:=(AT st).extract (sa+na) (sa+na+k3)
 have xs:x.size=na - k:=by simp [x];lia
 have ys:y.size=k3:=by simp [y];lia
 have ixx:∀j,j < na - k->ix x j=ix (AT st) (sa+k+j):=λj hj=>TL (by lia) (by lia)
 have ixy:∀j,j < k3->ix y j=ix (AT st) (sa+na+j):=λj hj=>TL (by lia) (by lia)
 have memx:∀z∈x.toList,∃j,j < na - k/\z=ix (AT st) (sa+k+j):=λz hz=>by
  have hz:z∈((AT st).extract (sa+k) (sa+k+(na - k))).toList:=by rw [show sa+k+(na - k)=sa+na by lia];exact hz
  exact M0 (by lia) hz
 have memy:∀z∈y.toList,∃j,j < k3/\z=ix (AT st) (sa+na+j):=λz hz=>M0 (by lia) hz
 have fin:∀(r:Array Ao) (st':BH),Iw a₀ κ st1 st'->Gr (Rl lt) (x.toList++y.toList) r.toList->∀st2:BH,AT st2=wr (AT st') (sa+k) r.toList.zipIdx->kindOf st2=kindOf st'->HH st2=HH st'->AU st2=AU st'->Q true st2:=by
  intro r st' sm f st2 q1 q2 q3 q4
  have hr:r.size=na - k+k3:=by
   have:=f.perm.length_eq;simp only [A2,Bo] at this
   lia
  have ha:AT st'=AT st:=sm.arr.trans a1;rw [ha] at q1
  have hb:sa+k+r.size<=(AT st).size:=by lia
  have mm:∀t,t < r.size->∃t',ix r t=ix (AT st) t'/\sa+k<=t'/\t' < sa+na+k3:=λt ht=>by
   have:ix r t∈r.toList:=BM.mpr (Cq (DG ht))
   rcases Aj.mp (f.perm.mem_iff.mp this) with h | h
   ·obtain ⟨j,j1,e⟩:=memx _ h
    exact ⟨_,e,by lia,by lia⟩
   ·obtain ⟨j,j1,e⟩:=memy _ h
    exact ⟨_,e,by lia,by lia⟩
  have rs:=Q9 O (a:=r) (λt ht=>by
   obtain ⟨t',e,_,_⟩:=mm t ht;rw [e]
   exact mem _ (by lia)) f.srt
  refine h st2 ⟨?_,?_,?_⟩ (q4.trans (sm.pend.trans p1)) ?_ ?_
  ·rw [q1]
   refine (ZW hb (f.perm.trans ?_)).trans g.perm
   have:(AT st).toList.drop (sa+k)=x.toList++(AT st).toList.drop (sa+na):=by
    have:=G9 (a:=AT st) (i:=sa+k) (k:=na - k) (by lia);rw [show sa+k+(na - k)=sa+na by lia] at this;exact this
   have h2:(AT st).toList.drop (sa+na)=y.toList++(AT st).toList.drop (sa+na+k3):=G9 (by lia);have h3:(AT st).toList.drop (sa+k)=((AT st).extract (sa+k) (sa+k+r.size)).toList++(AT st).toList.drop (sa+k+r.size):=G9 hb;rw [this,h2,<-BJ,show sa+k+r.size=sa+na+k3 by lia] at h3;rw [show sa+k+r.size=sa+na+k3 by lia];exact Ts (List.append_cancel_right h3)
  ·rw [q2];exact sm.good.kind
  ·rw [q3];exact sm.good.failed
  ·rw [q1]
   intro i j h1 h2 h3;show Rl lt _ _;rw [Xs hb,Xs hb]
   by_cases i1:i < sa+k
   ·rw [if_pos i1]
    by_cases j1:j < sa+k
    ·rw [if_pos j1];exact ua i j h1 h2 (by lia)
    rw [if_neg j1]
    by_cases j2:j < sa+k+r.size
    ·rw [if_pos j2]
     obtain ⟨t,e,t1,t2⟩:=mm (j - (sa+k)) (by omega);rw [e]
     by_cases t3:t < sa+na
     ·exact ua i t h1 (by lia) t3
     ·exact lowb i t h1 i1 (by lia) (by lia)
    ·rw [if_neg j2];exact lowb i j h1 i1 (by lia) (by lia)
   rw [if_neg i1,if_neg (show ¬j < sa+k by lia)]
   by_cases i2:i < sa+k+r.size
   ·rw [if_pos i2]
    by_cases j2:j < sa+k+r.size
    ·rw [if_pos j2];exact rs _ _ (by lia) (by omega)
    ·rw [if_neg j2]
     obtain ⟨t,e,t1,t2⟩:=mm (i - (sa+k)) (by omega);rw [e]
     by_cases t3:t < sa+na
     ·exact tr _ _ _ (mem _ (by lia)) (mem _ (by lia)) (mem _ (by lia)) (ua t (sa+na - 1) (by lia) (by lia) (by lia)) (high j (by lia) (by lia))
     ·exact ub t j (by lia) (by lia) (by lia)
   ·rw [if_neg i2,if_neg (show ¬j < sa+k+r.size by lia)]
    exact ub i j (by lia) h2 (by lia)
  ·rw [q1]
   intro i hi;rw [Xs hb]
   by_cases i1:i < sa+k
   ·rw [if_pos i1]
   ·rw [if_neg i1,if_neg (by lia)]
 have args:∀ {P:Prop},((∀z∈x.toList,z∈a₀)->(∀z∈y.toList,z∈a₀)->x.toList.Pairwise (Rl lt)->y.toList.Pairwise (Rl lt)->0 < x.size->0 < y.size->(∀z∈x.toList,Rl lt (ix y 0) z)->(∀z∈y.toList,Rl lt z (ix x (x.size - 1)))->P)->P:=by
  intro P hP
  refine hP (λz hz=>?_) (λz hz=>?_) (We (by lia) λi j h1 h2 h3=>ua i j (by lia) h2 h3) (We (by lia) λi j h1 h2 h3=>ub i j h1 h2 (by lia)) (by lia) (by lia) (λz hz=>?_) λz hz=>?_
  ·obtain ⟨j,j1,rfl⟩:=memx z hz
   exact mem _ (by lia)
  ·obtain ⟨j,j1,rfl⟩:=memy z hz
   exact mem _ (by lia)
  ·obtain ⟨j,j1,rfl⟩:=memx z hz
   rw [ixy 0 (by lia)];have:=k2 (k+j) (by lia) (by lia);rw [show sa+(k+j)=sa+k+j by lia] at this;exact O.asym _ _ (mem _ (by lia)) (mem _ (by lia)) (by simpa using this)
  ·obtain ⟨j,j1,rfl⟩:=memy z hz
   rw [xs,ixx _ (by lia),show sa+k+(na - k - 1)=sa+na - 1 by lia];exact O.asym _ _ (mem _ (by lia)) (mem _ (by lia)) (k4 j j1)
 refine (show wpS (AW prog w) A E s (if na - k<=k3 then mLo x y >>= _ else mHi x y >>= _) Q st1 from ?_);split
 ·refine AO (args λb1 b2 b3 b4 b5 b6 b7 b8=>Ys C O g1 b1 b2 b3 b4 b5 b6 b7 b8 λr st' sm f=>?_)
  refine AO (DM (AO (Ga (AQ ?_))));have q:=fin r st' sm f (setArr st' (wr (AT st') (sa+k) r.toList.zipIdx)) rfl rfl rfl rfl;rw [<-show (HH st').isNone=true by rw [sm.good.failed];rfl] at q;exact q
 ·refine AO (args λb1 b2 b3 b4 b5 b6 b7 b8=>Yt C O g1 b1 b2 b3 b4 b5 b6 b7 b8 λr st' sm f=>?_)
  refine AO (DM (AO (Ga (AQ ?_))));have q:=fin r st' sm f (setArr st' (wr (AT st') (sa+k) r.toList.zipIdx)) rfl rfl rfl rfl;rw [<-show (HH st').isNone=true by rw [sm.good.failed];rfl] at q;exact q
end
end Srt
namespace Srt
open PySem PyProof.Rows
theorem Zw {c:Prop} [Decidable c] {z:Nat} (h:1 < z):(if c then z - 2 - 1 else z - 2)+1 < z:=by split <;> omega
def Stk (lt:Ao->Ao->Bool) (arr:Array Ao):List (Nat×Nat×Nat)->Nat->Nat->Prop
 | [],lo,hi=>lo=hi
 | (s,n,_) :: r,lo,hi=>s=lo/\1<=n/\Up lt arr s (s+n)/\Stk lt arr r (s+n) hi
section
variable {lt:Ao->Ao->Bool} {arr arr':Array Ao}
theorem Stk.le:∀ {l:List (Nat×Nat×Nat)} {lo hi:Nat},Stk lt arr l lo hi->lo+l.length<=hi
 | [],lo,hi,h=>by cases h;simp
 | (s,n,_) :: r,lo,hi,⟨h1,h2,_,h4⟩=>by
  have:=Stk.le h4;rw [BA]
  lia
theorem Stk.app:∀ {l r:List (Nat×Nat×Nat)} {lo hi:Nat},Stk lt arr (l++r) lo hi↔∃mid,Stk lt arr l lo mid/\Stk lt arr r mid hi
 | [],r,lo,hi=>⟨λh=>⟨lo,rfl,h⟩,λ⟨_,e,h⟩=>by cases e;exact h⟩
 | (s,n,_) :: l,r,lo,hi=>by
  constructor
  ·rintro ⟨h1,h2,h3,h4⟩
   obtain ⟨mid,a,b⟩:=Stk.app.mp h4;exact ⟨mid,⟨h1,h2,h3,a⟩,b⟩
  ·rintro ⟨mid,⟨h1,h2,h3,h4⟩,b⟩
   exact ⟨h1,h2,h3,Stk.app.mpr ⟨mid,h4,b⟩⟩
theorem Stk.pw {f:Nat×Nat×Nat->Nat×Nat×Nat} (hf:∀x,(f x).1=x.1/\(f x).2.1=x.2.1):∀ {l:List (Nat×Nat×Nat)} {lo hi:Nat} (i:Nat),Stk lt arr l lo hi->Stk lt arr (l.modify i f) lo hi
 | [],lo,hi,i,h=>by cases i <;> exact h
 | (s,n,p) :: r,lo,hi,0,h=>by
  obtain ⟨e1,e2⟩:=hf (s,n,p);show Stk lt arr (f (s,n,p) :: r) lo hi;generalize f (s,n,p)=q at e1 e2;obtain ⟨s',n',p'⟩:=q;dsimp only at e1 e2;subst e1 e2;exact h
 | (s,n,p) :: r,lo,hi,i+1,⟨h1,h2,h3,h4⟩=>⟨h1,h2,h3,Stk.pw hf i h4⟩
theorem Stk.out:∀ {l:List (Nat×Nat×Nat)} {lo hi x y:Nat},Stk lt arr l lo hi->Out arr arr' x y->(hi<=x∨y<=lo)->Stk lt arr' l lo hi
 | [],lo,hi,x,y,h,o,d=>h
 | (s,n,_) :: r,lo,hi,x,y,⟨h1,h2,h3,h4⟩,o,d=>by
  have:=h4.le;exact ⟨h1,h2,h3.out o (by lia),Stk.out h4 o (by lia)⟩
end
section
variable {prog:Ar} {w:BG} {A:A8} {E:AD->AF->Prop} {s:AF} {a₀:Array Ao} {κ:FK} {lt:Ao->Ao->Bool}
theorem Out.wide {xs ys:Array Ao} {l h l' h':Nat} (o:Out xs ys l h) (h1:l'<=l) (h2:h<=h'):Out xs ys l' h':=λi hi=>o i (by lia)
theorem IM {st:BH} {i hi:Nat} {Q:Bool->BH->Prop} (C:Iq prog w A s a₀ κ lt) (O:Ord (·∈a₀) lt) (g:Good a₀ κ st) (k:Stk lt (AT st) (AU st).toList 0 hi) (hs:hi<=a₀.size) (hi1:i+1 < (AU st).size)
  (h:∀st',Good a₀ κ st'->Stk lt (AT st') (AU st').toList 0 hi->(AU st').size+1=(AU st).size->Out (AT st) (AT st') 0 hi->Q true st'):wpS (AW prog w) A E s (mergeAt' i) Q st:=by
 obtain ⟨sa,na,pw,e1⟩:∃sa na pw,(AU st)[i]?=some (sa,na,pw):=⟨_,_,_,getElem?_pos (AU st) i (by lia)⟩
 obtain ⟨sb,nb,pw2,e2⟩:∃sa na pw,(AU st)[i+1]?=some (sa,na,pw):=⟨_,_,_,getElem?_pos (AU st) (i+1) hi1⟩
 obtain ⟨l,r,el,hl⟩:∃l r,(AU st).toList=l++(sa,na,pw) :: (sb,nb,pw2) :: r/\l.length=i:=by
  have a1:(AU st).toList[i]?=some (sa,na,pw):=by simpa using e1
  have a2:(AU st).toList[i+1]?=some (sb,nb,pw2):=by simpa using e2
  obtain ⟨b1,c1⟩:=AG.mp a1;obtain ⟨b2,c2⟩:=AG.mp a2;refine ⟨(AU st).toList.take i,(AU st).toList.drop (i+2),?_,by rw [B4];lia⟩
  conv=>lhs;rw [<-Ct i (AU st).toList,By b1,By b2,c1,c2]
 rw [el] at k;obtain ⟨mid,k1,⟨q1,q2,q3,⟨q4,q5,q6,q7⟩⟩⟩:=Stk.app.mp k;have hle:=q7.le;have hle1:=k1.le
 refine Q5 C O g e1 e2 q4 q2 q5 (by lia) q3 q6 λst' g' p' u' o'=>?_
 have pl:(AU st').toList=l++(sa,na+nb,pw) :: r:=by
  rw [p',Array.toList_eraseIdxIfInBounds,OV,el];rw [JV _ _ (by lia),hl,Nat.sub_self,List.set_cons_zero,List.eraseIdx_append_of_length_le (by lia),show i+1 - l.length=1 by lia];rfl
 refine h st' g' ?_ ?_ (o'.wide (by lia) (by lia))
 ·rw [pl]
  refine Stk.app.mpr ⟨mid,k1.out o' (.inl (by lia)),q1,by lia,u',?_⟩
  have e:sb+nb=sa+(na+nb):=by lia
  rw [e] at q7;exact q7.out o' (.inr (by lia))
 ·have z1:=congrArg NE pl
  have z2:=congrArg NE el;simp at z1 z2
  lia
theorem wpS_sortRuns {st:BH} {Q:Unit->BH->Prop} (C:Iq prog w A s a₀ κ lt) (O:Ord (·∈a₀) lt) (g:Good a₀ κ st) (hp:AU st = #[])
  (h:∀st',Good a₀ κ st'->Up lt (AT st') 0 a₀.size->Q () st'):wpS (AW prog w) A E s sortRuns' Q st:=by
 rw [sortRuns'_eq];refine AO (Ga ?_);dsimp only;rw [g.size];generalize minRun' a₀.size a₀.size 0=mr
 refine AO (DC (B2 (I:=λx c st'=>∃lo,c=(none,lo)/\Good a₀ κ st'/\Stk lt (AT st') (AU st').toList 0 lo/\lo<=a₀.size/\min x a₀.size<=lo)
  (Q:=λc st'=>c=(none,a₀.size)/\Good a₀ κ st'/\Stk lt (AT st') (AU st').toList 0 a₀.size) ?step ?fin ?init) ?post)
 case init=>exact ⟨0,rfl,g,by rw [hp];rfl,by lia,by lia⟩
 case fin=>
  rintro c st' ⟨lo,rfl,g',k',h1,h2⟩
  have:lo=a₀.size:=by lia
  subst this;exact ⟨rfl,g',k'⟩
 case step=>
  rintro x c st1 _ hx ⟨lo,rfl,g1,k1,h1,h2⟩;dsimp only
  by_cases hge:lo ≥ a₀.size
  ·rw [if_pos hge]
   have:lo=a₀.size:=by lia
   subst this;exact AQ ⟨rfl,g1,k1⟩
  rw [if_neg hge];refine AO (wpS_countRun C O (by lia) (by lia) g1 λst2 n g2 n1 n2 u2 o2 p2=>?_);dsimp only
  have k2:Stk lt (AT st2) (AU st2).toList 0 lo:=by
   rw [p2];exact k1.out o2 (.inl (AS _))
  by_cases hm:n < mr
  ·rw [if_pos hm]
   refine AO (Ht ?_);refine AO (wpS_binarySort C O (by lia) (by omega) g2 u2 λst3 g3 u3 o3 p3=>?_)
   have k3:Stk lt (AT st3) (AU st3).toList 0 lo:=by
    rw [p3];exact k2.out o3 (.inl (AS _))
   rw [if_neg (by simp)];refine AO (Ga ?_)
   cases hb:(AU st3).back? with
   | none=>
    dsimp only;refine AO (DM (AQ ⟨lo+min (a₀.size - lo) mr,rfl,⟨g3.perm,g3.kind,g3.failed⟩,?_,by lia,by lia⟩));show Stk lt (AT st3) ((AU st3).push (lo,min (a₀.size - lo) mr,0)).toList 0 (lo+min (a₀.size - lo) mr);rw [Hl];exact Stk.app.mpr ⟨lo,k3,rfl,by omega,u3,rfl⟩
   | some t=>
    obtain ⟨s1,n1,z⟩:=t;dsimp only;generalize power' a₀.size (2 * s1+n1) (2 * s1+n1+n1+min (a₀.size - lo) mr) a₀.size=pw
    refine AO (DC (B2 (I:=λ_ c st4=>c=(none,())/\Good a₀ κ st4/\Stk lt (AT st4) (AU st4).toList 0 lo/\Up lt (AT st4) lo (lo+min (a₀.size - lo) mr))
     (Q:=λc st4=>c=(none,())/\Good a₀ κ st4/\Stk lt (AT st4) (AU st4).toList 0 lo/\Up lt (AT st4) lo (lo+min (a₀.size - lo) mr)) ?_ (λc st4 h=>h) ⟨rfl,g3,k3,u3⟩) ?_)
    ·rintro x' c' st4 _ _ ⟨rfl,g4,k4,u4⟩
     refine AO (Ga ?_)
     by_cases hz:(AU st4).size > 1
     ·rw [if_pos hz]
      obtain ⟨s2,n2,older,e2⟩:∃s2 n2 older,(AU st4)[(AU st4).size - 2]?=some (s2,n2,older):=⟨_,_,_,getElem?_pos (AU st4) ((AU st4).size - 2) (by lia)⟩
      rw [e2];dsimp only
      by_cases ho:older<=pw
      ·rw [if_pos ho]
       exact AQ ⟨rfl,g4,k4,u4⟩
      ·rw [if_neg ho]
       refine AO (IM C O g4 k4 (by omega) (by lia) λst5 g5 k5 _ o5=>?_);exact AQ ⟨rfl,g5,k5,u4.out o5 (.inr (by lia))⟩
     ·rw [if_neg hz]
      exact AQ ⟨rfl,g4,k4,u4⟩
    ·rintro c' st4 ⟨rfl,g4,k4,u4⟩
     dsimp only;refine AO (DM (AO (DM (AQ ⟨lo+min (a₀.size - lo) mr,rfl,⟨g4.perm,g4.kind,g4.failed⟩,?_,by lia,by lia⟩))));show Stk lt (AT st4) ((((AU st4).modify ((AU st4).size - 1) λx=>(x.fst,x.2.fst,pw))).push (lo,min (a₀.size - lo) mr,0)).toList 0 (lo+min (a₀.size - lo) mr);rw [Hl,Tv];exact Stk.app.mpr ⟨lo,Stk.pw (f:=λx=>(x.fst,x.2.fst,pw)) (λx=>⟨rfl,rfl⟩) _ k4,rfl,by omega,u4,rfl⟩
  ·rw [if_neg hm]
   refine AO (Ga ?_)
   cases hb:(AU st2).back? with
   | none=>
    dsimp only;refine AO (DM (AQ ⟨lo+n,rfl,⟨g2.perm,g2.kind,g2.failed⟩,?_,by lia,by lia⟩));show Stk lt (AT st2) ((AU st2).push (lo,n,0)).toList 0 (lo+n);rw [Hl];exact Stk.app.mpr ⟨lo,k2,rfl,by omega,u2,rfl⟩
   | some t=>
    obtain ⟨s1,n1,z⟩:=t;dsimp only;generalize power' a₀.size (2 * s1+n1) (2 * s1+n1+n1+n) a₀.size=pw
    refine AO (DC (B2 (I:=λ_ c st4=>c=(none,())/\Good a₀ κ st4/\Stk lt (AT st4) (AU st4).toList 0 lo/\Up lt (AT st4) lo (lo+n))
     (Q:=λc st4=>c=(none,())/\Good a₀ κ st4/\Stk lt (AT st4) (AU st4).toList 0 lo/\Up lt (AT st4) lo (lo+n)) ?_ (λc st4 h=>h) ⟨rfl,g2,k2,u2⟩) ?_)
    ·rintro x' c' st4 _ _ ⟨rfl,g4,k4,u4⟩
     refine AO (Ga ?_)
     by_cases hz:(AU st4).size > 1
     ·rw [if_pos hz]
      obtain ⟨s2,n2,older,e2⟩:∃s2 n2 older,(AU st4)[(AU st4).size - 2]?=some (s2,n2,older):=⟨_,_,_,getElem?_pos (AU st4) ((AU st4).size - 2) (by lia)⟩
      rw [e2];dsimp only
      by_cases ho:older<=pw
      ·rw [if_pos ho]
       exact AQ ⟨rfl,g4,k4,u4⟩
      ·rw [if_neg ho]
       refine AO (IM C O g4 k4 (by omega) (by lia) λst5 g5 k5 _ o5=>?_);exact AQ ⟨rfl,g5,k5,u4.out o5 (.inr (by lia))⟩
     ·rw [if_neg hz]
      exact AQ ⟨rfl,g4,k4,u4⟩
    ·rintro c' st4 ⟨rfl,g4,k4,u4⟩
     dsimp only;refine AO (DM (AO (DM (AQ ⟨lo+n,rfl,⟨g4.perm,g4.kind,g4.failed⟩,?_,by lia,by lia⟩))));show Stk lt (AT st4) ((((AU st4).modify ((AU st4).size - 1) λx=>(x.fst,x.2.fst,pw))).push (lo,n,0)).toList 0 (lo+n);rw [Hl,Tv];exact Stk.app.mpr ⟨lo,Stk.pw (f:=λx=>(x.fst,x.2.fst,pw)) (λx=>⟨rfl,rfl⟩) _ k4,rfl,by omega,u4,rfl⟩
 case post=>
  rintro c st1 ⟨rfl,g1,k1⟩;dsimp only
  refine AO (DC (B2 (I:=λx c st4=>c=(none,())/\Good a₀ κ st4/\Stk lt (AT st4) (AU st4).toList 0 a₀.size/\((AU st4).size<=1∨(AU st4).size+x<=a₀.size))
   (Q:=λc st4=>c=(none,())/\Good a₀ κ st4/\Stk lt (AT st4) (AU st4).toList 0 a₀.size/\(AU st4).size<=1) ?_ ?_ ?_) ?_)
  ·rintro x c st4 _ _ ⟨rfl,g4,k4,d⟩
   refine AO (Ga ?_)
   by_cases hz:(AU st4).size<=1
   ·rw [if_pos hz]
    exact AQ ⟨rfl,g4,k4,hz⟩
   ·rw [if_neg hz]
    refine AO (IM C O g4 k4 (AS _) (Zw (by lia)) λst5 g5 k5 z5 o5=>?_);exact AQ ⟨rfl,g5,k5,.inr (by lia)⟩
  ·rintro c st4 ⟨rfl,g4,k4,d⟩
   exact ⟨rfl,g4,k4,by lia⟩
  ·refine ⟨rfl,g1,k1,.inr ?_⟩
   have:=k1.le;simp at this;omega
  ·rintro c st4 ⟨rfl,g4,k4,d⟩
   refine AQ (h st4 g4 ?_);generalize hl:(AU st4).toList=l at k4
   have hd:l.length<=1:=by rw [<-hl];simpa using d
   match l,k4,hd with
   | [],k4,_=>exact λi j h1 h2 h3=>by have:(0:Nat)=a₀.size:=k4;lia
   | [(s,n,_)],⟨e1,_,u,e2⟩,_=>
    have e2:s+n=a₀.size:=e2;rw [e2,e1] at u;exact u
end
end Srt
namespace Srt
open PySem PyProof.Rows
def ltL:List Int->List Int->Bool
 | [],[]=>false
 | [],_ :: _=>true
 | _ :: _,[]=>false
 | x :: xs,y :: ys=>if x=y then ltL xs ys else decide (x < y)
theorem Hx:∀x y,ltL x y=true->ltL y x=false
 | [],[],h=>by cases h
 | [],_ :: _,_=>rfl
 | _ :: _,[],h=>by cases h
 | x :: xs,y :: ys,h=>by
  unfold ltL at h ⊢
  by_cases e:x=y
  ·rw [if_pos e] at h;rw [if_pos e.symm];exact Hx xs ys h
  ·rw [if_neg e] at h;rw [if_neg (CS e)];simp at h ⊢;lia
theorem QH:∀x y z,ltL y x=false->ltL z y=false->ltL z x=false
 | [],y,[],_,_=>rfl
 | [],[],_ :: _,_,_=>rfl
 | [],_ :: _,_ :: _,_,_=>rfl
 | x :: xs,[],z,h,_=>by cases h
 | _,y :: ys,[],_,h=>by cases h
 | x :: xs,y :: ys,z :: zs,h1,h2=>by
  unfold ltL at h1 h2 ⊢
  by_cases e1:y=x
  ·rw [if_pos e1] at h1
   subst e1
   by_cases e2:z=y
   ·rw [if_pos e2] at h2 ⊢
    exact QH xs ys zs h1 h2
   ·rw [if_neg e2] at h2 ⊢;exact h2
  ·rw [if_neg e1] at h1
   by_cases e2:z=y
   ·subst e2;rw [if_neg e1];exact h1
   ·rw [if_neg e2] at h2
    by_cases e3:z=x
    ·subst e3;simp at h1 h2;lia
    ·rw [if_neg e3];simp at h1 h2 ⊢;lia
theorem UK:∀x y,ltL x y=false->ltL y x=false->x=y
 | [],[],_,_=>rfl
 | [],_ :: _,h,_=>by cases h
 | _ :: _,[],_,h=>by cases h
 | x :: xs,y :: ys,h1,h2=>by
  unfold ltL at h1 h2
  by_cases e:x=y
  ·rw [if_pos e] at h1;rw [if_pos e.symm] at h2;rw [e,UK xs ys h1 h2]
  ·rw [if_neg e] at h1;rw [if_neg (CS e)] at h2;simp at h1 h2;lia
def ltK (f:AD->List Int) (x y:Ao):Bool:=ltL (f x.1) (f y.1)
theorem Ze (f:AD->List Int) (U:Ao->Prop):Ord U (ltK f):=⟨λx y _ _ h=>Hx _ _ h,λx y z _ _ _ h1 h2=>QH _ _ _ h1 h2⟩
section
variable {prog:Ar} {w:BG} {A:A8} {E:AD->AF->Prop} {s:AF}
theorem Sr {a b:Int} {t u:Tok} (o:Bool) {Q:Bool->AF->Prop} (h:Q (decide (a < b)) s):Ah (AW prog w) A (oneLt' o (.int a t) (.int b u)) Q E s:=by
 cases o with
 | true=>exact oneLt_int h
 | false=>
  rw [oneLt'_eq];simp only [DZ,if_false];exact AB (wpAny_lt_int (Co h))
def Te (s:AF) (v:AD) (ns:List Int):Prop:=∃a its,v=.ref a/\s.heap.IsTuple a its/\FY its.toList ns
def gl (o:Bool):(AD×AD)×Nat->Option Bool×Unit->Sem (ForInStep (Option Bool×Unit)):=λe _=>match e with
 | ((p,q),i)=>eqBool p q >>= λc=>if (!c)=true then oneLt' (o&&i==0) p q >>= λb=>pure (.done (some b,())) else pure (.yield (none,()))
theorem Xr (o:Bool) (x y:AD):keyLt' (eI o) x y=(HQ x >>= λr=>HQ y >>= λq=>forIn (r.toList.zip q.toList).zipIdx ((none,()):Option Bool×Unit) (gl o) >>= λz=>match z.1 with
  | some b=>pure b
  | none=>pure (decide (r.size < q.size))):=by kernel_rfl
theorem YQ (o:Bool) {n0:Nat}:∀ {is js:List AD} {ns ms:List Int} (k:Nat) {Q:Bool->AF->Prop},FY is ns->FY js ms->Q (ltL ns ms) s ->
  Ah (AW prog w) A (forIn ((is.zip js).zipIdx k) ((none,()):Option Bool×Unit) (gl o) >>= λz=>match z.1 with
   | some b=>pure b
   | none=>pure (decide (n0+is.length < n0+js.length))) Q E s:=by
 intro is
 induction is with
 | nil=>
  intro js ns ms k Q h1 h2 hq;cases h1;rw [List.zip_nil_left,Ym,O0];refine AB (AM (AM ?_))
  cases h2 with
  | nil=>simpa [ltL] using hq
  | cons m t h=>simpa [ltL] using hq
 | cons v is ih=>
  intro js ns ms k Q h1 h2 hq
  cases h1 with
  | cons n t h1=>
   cases h2 with
   | nil=>
    rw [List.zip_nil_right,Ym,O0];refine AB (AM (AM ?_));rw [decide_eq_false (by rw [BA,Yo];lia)];exact hq
   | cons m u h2=>
    rw [List.zip_cons_cons,List.zipIdx_cons,JC];rw [bind_assoc];unfold ltL at hq;refine AB ?_;refine AB (ee ?_)
    by_cases e:n=m
    ·rw [if_pos e] at hq
     rw [if_neg (by simp [e])];refine AM ?_;have:=ih (k+1) h1 h2 hq;simpa [Nat.add_lt_add_iff_left] using this
    ·rw [if_neg e] at hq
     rw [if_pos (by simp [e])];refine AB (Sr _ (AM ?_));exact AB (AM (AM hq))
end
end Srt
namespace Srt
open PySem PyProof.Rows
section
variable {prog:Ar} {w:BG} {A:A8} {E:AD->AF->Prop} {s:AF}
theorem LW {v:AD} {ns:List Int} (h:Te s v ns):∃its:Array AD,FY its.toList ns/\s.TypeIs v "tuple"/\∀(E:AD->AF->Prop) (Q:Array AD->AF->Prop),Q its s->Ah (AW prog w) A (HQ v) Q E s:=by
 obtain ⟨a,its,rfl,⟨o,ho,hc,n,hd⟩,hi⟩:=h;exact ⟨its,hi,⟨o,ho,hc⟩,λE Q q=>listItems_at ho hd q⟩
theorem aE {x y:AD} {ns ms:List Int} (o:Bool) (hx:Te s x ns) (hy:Te s y ms) {Q:Bool->AF->Prop} (h:Q (ltL ns ms) s):Ah (AW prog w) A (keyLt' (eI o) x y) Q E s:=by
 obtain ⟨r,hr,_,wr⟩:=LW (prog:=prog) (w:=w) (A:=A) hx;obtain ⟨q,hq,_,wq⟩:=LW (prog:=prog) (w:=w) (A:=A) hy;rw [Xr];refine AB (wr E _ (AB (wq E _ ?_)));have:=YQ (prog:=prog) (w:=w) (A:=A) (E:=E) (n0:=0) o 0 hr hq h;simp only [DN,Bo] at this;exact this
theorem Vq {v:AD} {n:Int} {ns:List Int} (h:Te s v (n :: ns)) {Q:Option AD->AF->Prop} (hq:∀t,Q (some (.int n t)) s):Ah (AW prog w) A (Ut v) Q E s:=by
 obtain ⟨r,hr,ty,wr⟩:=LW (prog:=prog) (w:=w) (A:=A) h;refine (AB (WP ty ?_):Ah _ _ (Ut v) Q E s);refine (show Ah (AW prog w) A (if (FX "tuple" != FX "tuple")=true then _ else _) Q E s from ?_);rw [if_neg (by simp)];refine AB (wr E _ (AM ?_));generalize hl:r.toList=l at hr
 cases hr with
 | cons _ t h2=>
  have:r[0]?=some (.int n t):=by
   rw [<-Array.getElem?_toList,hl];rfl
  rw [this];exact hq t
theorem Nz:∀ {vs:List AD},(∀v∈vs,∃n ns,Te s v (n :: ns))->∀ {Q:List (Option AD)->AF->Prop},(∀is ns,FY is ns->is.length=vs.length->Q (is.map some) s)->Ah (AW prog w) A (vs.mapM Ut) Q E s
 | [],_,Q,h=>by
  rw [List.mapM_nil];exact AM (h [] [] .nil rfl)
 | v :: vs,hv,Q,h=>by
  obtain ⟨n,ns,hn⟩:=hv v A6;rw [List.mapM_cons];refine AB (Vq hn λt=>AB (Nz (λv hv'=>hv v (Al _ hv')) λis ms h1 h2=>AM ?_));exact h (.int n t :: is) (n :: ms) (.cons n t h1) (by rw [BA,h2,BA])
theorem P6 {is:List AD} {ns:List Int} (h:FY is ns) (h0:is≠[]):oneTypeOnly' is.toArray=pure (some (.type "int")):=by
 rw [oneTypeOnly'_eq,WW,mapM_typeOf_ints h];simp only [map_pure,pure_bind]
 cases is with
 | nil=>exact absurd rfl h0
 | cons v is=>
  have e0:(Js (λ_=>FX "int") (v :: is)).toArray[0]?=some (FX "int"):=by simp
  have e1:((Js (λ_=>FX "int") (v :: is)).toArray.all λx=>x==FX "int")=true:=by
   simp only [List.all_toArray,eS,BW]
   exact λ_ _=>rfl
  rw [e0];simp only [e1,if_true]
theorem Xp {vs:List AD} (hv:∀v∈vs,∃n ns,Te s v (n :: ns)) (h0:vs≠[]) {Q:FK->AF->Prop} (h:Q (eI true) s):Ah (AW prog w) A (keyKind' vs.toArray) Q E s:=by
 rw [keyKind'_eq,WW];refine AB ?_;rw [map_eq_pure_bind];refine AB (Nz hv λis ns h1 h2=>AM ?_)
 have hall:((is.map some).toArray.all λx=>x.isSome)=true:=by simp
 rw [if_pos hall];refine AB (bE ?_)
 have hf:(is.map some).toArray.filterMap id=is.toArray:=by simp
 rw [hf,P6 h1 (by intro e;subst e;cases vs with | nil=>exact h0 rfl | cons=>simp at h2)];refine AB (AM (AM ?_));exact h
end
end Srt
namespace Srt
open PySem PyProof.Rows
section
variable {prog:Ar} {w:BG} {A:A8} {E:AD->AF->Prop} {s:AF}
theorem F0 {vs:List AD} {x:Ao} (h:x∈pairsOf vs):x.1∈vs/\x.1=x.2:=by
 have:x∈(pairsOf vs).toList:=BM.mpr h;rw [pairsOf_toList] at this;exact ⟨(mem_zip_self this).2,(mem_zip_self this).1⟩
theorem VT (vs:List AD):(pairsOf vs).map (·.2)=vs.toArray:=by
 apply Array.ext'
 rw [IL,pairsOf_toList];simp [List.map_snd_zip]
def Qj (prog:Ar) (w:BG) (A:A8) (s:AF) (vs:List AD) (f:AD->List Int):Prop:=
 ∃κ:FK,(∀(Q:FK->AF->Prop) (E:AD->AF->Prop),Q κ s->Ah (AW prog w) A (keyKind' vs.toArray) Q E s)/\Iq prog w A s (pairsOf vs) κ (ltK f)
theorem On {a:AI} {vs:List AD} {n:Nat} {P:Fin->AF->Prop} {f:AD->List Int} (ho:s.heap.get? a=some (HZ "list" vs.toArray n)) (hz:vs.length<=sizeLine)
  (hk:2<=vs.length->∀s':AF,(∀b o,b≠a->s.heap.get? b=some o->s'.heap.get? b=some o)->Qj prog w A s' vs f)
  (h:∀out:Array AD,out.toList.Perm vs->out.toList.Pairwise (λx y=>ltL (f y) (f x)=false)->P (.done (.ret .none)) { s with heap:=bJ s.heap a vs out }) :
  Ah (AW prog w) A (Builtin.«list.sort» ⟨[.ref a],[]⟩) P E s:=by
 have ha:a < s.heap.objs.size:=Aa ho
 have hsz:vs.toArray.size=vs.length:=by simp
 obtain ⟨e1,ho1⟩:∃e1,(s.heap.update a (Hb λ_=>#[])).get? a=some (HZ "list" #[] e1):=⟨_,get?_update_seq ho (λ_=>#[])⟩
 have ho6:(((s.heap.update a (Hb λ_=>#[])).push (HZ "tuple" vs.toArray 0)).push (HZ "list" #[] 0)).get? a=some (HZ "list" #[] e1):=
  AJ _ (AJ _ ho1)
 have old:∀b o,b≠a->s.heap.get? b=some o->(((s.heap.update a (Hb λ_=>#[])).push (HZ "tuple" vs.toArray 0)).push (HZ "list" #[] 0)).get? b=some o:=λb o hb hg=>
  AJ _ (AJ _ (by rw [U0 _ _ _ _ hb];exact hg))
 have fin:∀st':BH,(AT st').Perm (pairsOf vs)->(AT st').toList.Pairwise (Rl (ltK f))->P (.done (.ret .none)) { s with heap:=bJ s.heap a vs ((AT st').map (·.2)) }:=by
  intro st' hp hs
  have hmem:∀x∈(AT st').toList,x.1=x.2:=λx hx=>by
   have:x∈(pairsOf vs).toList:=(Eu.mp hp).mem_iff.mp hx;exact (F0 (BM.mp this)).2
  refine h _ ?_ ?_
  ·have:=(Eu.mp hp).map (·.2)
   rw [<-IL,<-IL,VT] at this;simpa using this
  ·rw [IL,Cg]
   refine hs.imp_of_mem λ{x y} hx hy r=>?_
   rw [<-hmem x hx,<-hmem y hy];exact r
 have last:∀st':BH,(AT st').Perm (pairsOf vs)->HH st'=none->(AT st').toList.Pairwise (Rl (ltK f))->(((AT st').map (·.2)).size<=sizeLine+1):=λst' hp _ _=>by
  rw [Array.size_map,hp.size_eq,pairsOf_size]
  lia
 rw [list_sort_plain];refine AB (listItems_at ho rfl (AB (Us ho rfl (AB (Yj ho1 rfl (AB (wpAny_newTuple (AB (wpAny_newList (Fp ?_)))))) ) (by rw [hsz];exact hz) (EK _))));show Ah (AW prog w) A _ P E { s with heap:=((s.heap.update a (Hb λ_=>#[])).push (HZ "tuple" vs.toArray 0)).push (HZ "list" #[] 0) };dsimp only
 by_cases h2:vs.toArray.size < 2
 ·rw [if_pos h2,if_pos h2]
  refine AB (AM ?_);rw [StateT.run_pure]
  have hs0:(AT (GF SJ (vs.toArray.zip vs.toArray) #[] 7 none)).toList.Pairwise (Rl (ltK f)):=by
   have:(AT (GF SJ (vs.toArray.zip vs.toArray) #[] 7 none)).toList.length < 2:=by
    rw [Bo];show (pairsOf vs).size < 2;rw [pairsOf_size];omega
   generalize (AT (GF SJ (vs.toArray.zip vs.toArray) #[] 7 none)).toList=l at this
   match l,this with
   | [],_=>exact .nil
   | [x],_=>exact CB _ _
   | _ :: _ :: _,h=>simp at h;lia
  refine AB (AM (AB (Yj ho6 rfl (AB (Us ho6 rfl ?_ (EK _) (last (GF SJ (vs.toArray.zip vs.toArray) #[] 7 none) (LO _) rfl hs0))))));simp only [bne_self_eq_false,DZ,if_false];exact AM (fin (GF SJ (vs.toArray.zip vs.toArray) #[] 7 none) (LO _) hs0)
 ·rw [if_neg h2,if_neg h2]
  obtain ⟨κ,kk,C⟩:=hk (by lia) { s with heap:=((s.heap.update a (Hb λ_=>#[])).push (HZ "tuple" vs.toArray 0)).push (HZ "list" #[] 0) } old;refine AB (kk _ _ ?_)
  refine AB (Eh (Srt.wpS_sortRuns (a₀:=pairsOf vs) (st:=GF κ (vs.toArray.zip vs.toArray) #[] 7 none)
   (Q:=λ_ st'=>(AT st').Perm (pairsOf vs)/\HH st'=none/\(AT st').toList.Pairwise (Rl (ltK f))) C (Ze f _) ⟨LO _,rfl,rfl⟩ rfl λst' g u=>⟨g.perm,g.failed,?_⟩) ?_ λ_ _ e=>e)
  ·have:=We (a:=AT st') (lo:=0) (hi:=(AT st').size) (AS _) (by rw [g.size];exact u)
   rwa [IY,List.drop_zero] at this
  rintro ⟨⟨⟩,st'⟩ s' ⟨rfl,hp,hf,hs⟩;refine AB (Yj ho6 rfl (AB (Us ho6 rfl ?_ (EK _) (last st' hp hf hs))));rw [hf];simp only [bne_self_eq_false,DZ,if_false];exact AM (fin st' hp hs)
theorem VB {vs:List AD} {f:AD->List Int} (h:∀v∈vs,Te s v (f v)/\f v≠[]) (h0:vs≠[]):Qj prog w A s vs f:=
 ⟨eI true,λQ E q=>Xp (λv hv=>by
  obtain ⟨h1,h2⟩:=h v hv
  cases e:f v with
  | nil=>exact absurd e h2
  | cons n ns=>exact ⟨n,ns,by rw [<-e];exact h1⟩) h0 q,λx y hx hy Q E q=>aE true (h _ (F0 hx).1).1 (h _ (F0 hy).1).1 q⟩
def XR (v:AD):List Int:=[numOf v]
theorem VC {vs:List AD} {ns:List Int} (h:FY vs ns) (h2:2<=vs.length):Qj prog w A s vs XR:=by
 refine ⟨oneType',λQ E q=>?_,λx y hx hy Q E q=>?_⟩
 ·match vs,h2,h with
  | v :: u :: r,_,h=>rw [keyKind_ints h];exact AM q
 ·obtain ⟨n,t,e1⟩:=h.all _ (F0 hx).1
  obtain ⟨m,u,e2⟩:=h.all _ (F0 hy).1;rw [keyLt'_oneType,e1,e2];refine oneLt_int ?_
  have:ltK XR x y=decide (n < m):=by
   unfold ltK XR;rw [e1,e2];show (if n=m then false else decide (n < m))=_;split
   ·rename_i e;simp [e]
   ·rfl
  rw [<-this];exact q
end
end Srt
namespace Srt
open PySem PyProof.Rows
def Ot (h:Bk) (d:AI) (es:Array Lz) (ep:Nat):Prop:=∃o,h.get? d=some o/\o.ExactDict/\o.data=.dict es ep
theorem Ot.at' {h h':Bk} {d:AI} {es:Array Lz} {ep:Nat} (x:Ot h d es ep) (e:∀o,h.get? d=some o->h'.get? d=some o):Ot h' d es ep:=let ⟨o,ho,r⟩:=x;⟨o,e _ ho,r⟩
theorem Ot.ty {s:AF} {d:AI} {es:Array Lz} {ep:Nat} (x:Ot s.heap d es ep):s.TypeIs (.ref d) "dict":=let ⟨o,ho,hc,_⟩:=x;⟨o,ho,hc.1⟩
section
variable {prog:Ar} {w:BG} {A:A8} {E:AD->AF->Prop} {s:AF} {d it:AI} {es:Array Lz} {ep i:Nat}
theorem W4 {Q:AD->AF->Prop} (hd:(d==Df)=false) (hm:Ot s.heap d es ep)
  (kq:Q (.ref s.heap.objs.size) { s with heap:=s.heap.push { cls:=.type "dict_keyiterator",data:=.fields #[.ref d,.int 0 0,.int es.size 0,.int ep 0] } }):Ah (AW prog w) A (bK (.ref d)) Q E s:=by
 have hT:=hm.ty;obtain ⟨o,ho,hc,hdat⟩:=hm;refine wpAny_pyIter_slot hT Pl (Dd Pl hT PySem.F.entry_dict_iter ?_ (PySem.F.args_dict_iter_1 _));unfold Builtin.«dict.__iter__»;refine AB ?_;unfold hU;refine AB (wpAny_notOrdered_dict hT (show Ah _ _ (pure (Au d)) _ _ s from AM ?_));refine (show Ah _ _ (NH d >>= _) _ _ s from ?_);unfold NH;rw [if_neg (by simp [hd])];refine AB (AM (AB (OK ho hdat (AB (Qw ho hdat (AB (Bj (AM ⟨_,rfl, "dict_keyiterator",_,⟨_,Af _ rfl,rfl⟩,CO.lookup,?_⟩))))))));simpa [ES] using kq
theorem W3 {Q:Option AD->AF->Prop} (ki:s.heap.IsKeyIter it d i es.size ep) (hm:Ot s.heap d es ep) (hi:i < es.size)
  (kq:∀h',h'.IsKeyIter it d (i+1) es.size ep->EM it s.heap h'->Q (some es[i].key) { s with heap:=h' }):Ah (AW prog w) A (Ph (.ref it)) Q E s:=by
 obtain ⟨o,ho,hc,hd⟩:=id ki;obtain ⟨od,hod,hcd,hdd⟩:=hm;unfold Ph;refine AB (HF (DL (name:=HI "__next__") ki.typeIs CO (Dd CO ki.typeIs Jr (AB (AM (AB (AB ?_)))) (Jk _))))
 first | refine AB (Ed ki.typeIs (AM (AB (LP ho hd ?_)))) | refine AB (Fo ki.typeIs (AM (AB (LP ho hd ?_))))
 simp only [show Iy "dict_keyiterator" = false by decide,DZ,if_false];refine (show Ah _ _ (if (Au d==BO)=true then _ else _) _ _ s from ?_);rw [if_neg (λz:(Au d==BO)=true=>AR z)];refine AB (AM (AB (OK hod hdd ?_)));rw [if_neg (by simp)];refine AB (AM (AB (Qw hod hdd ?_)));rw [if_neg (by simp)];refine AM ?_;simp only [show ¬((i:Int) < 0) by lia,if_false,Bf,Array.getElem?_eq_getElem hi];refine AB ?_
 first | refine AB (Ed ki.typeIs (AM (AB (KR ki.typeIs ?_)))) | refine AB (Fo ki.typeIs (AM (AB (KR ki.typeIs ?_))))
 refine (show Ah _ _ (Yi (.ref it) 1 (ES ((i:Int)+1)) >>= _) _ _ s from ?_);have ki':(s.heap.update it (C0 (·.setIfInBounds 1 (ES ((i:Int)+1))))).IsKeyIter it d (i+1) es.size ep:=⟨_,Ef _ ho (El (CG hd _)),(IG ..).trans hc,by rw [CG hd];simp [ES]⟩;refine AB (FJ ho hd (by simp) (AB (Fp (AB (KR (s:={ s with heap:=s.heap.update it (C0 (·.setIfInBounds 1 (ES ((i:Int)+1)))) }) ki'.typeIs ?_)))));exact (show Ah _ _ (pure es[i].key) _ _ _ from AM (AM ⟨_,rfl,AM (kq _ ki' (Fx ..))⟩))
theorem ZE {Q:Option AD->AF->Prop} (h0:A.handled=none) (ki:s.heap.IsKeyIter it d i es.size ep) (hm:Ot s.heap d es ep) (hi:es.size<=i)
  (kq:∀h',Tu it s.heap h'->Q none { s with heap:=h' }):Ah (AW prog w) A (Ph (.ref it)) Q E s:=by
 obtain ⟨o,ho,hc,hd⟩:=id ki;obtain ⟨od,hod,hcd,hdd⟩:=hm;unfold Ph;refine AB (HF (DL (name:=HI "__next__") ki.typeIs CO (Dd CO ki.typeIs Jr (AB (AM (AB (AB ?_)))) (Jk _))))
 first | refine AB (Ed ki.typeIs (AM (AB (LP ho hd ?_)))) | refine AB (Fo ki.typeIs (AM (AB (LP ho hd ?_))))
 simp only [show Iy "dict_keyiterator" = false by decide,DZ,if_false];refine (show Ah _ _ (if (Au d==BO)=true then _ else _) _ _ s from ?_);rw [if_neg (λz:(Au d==BO)=true=>AR z)];refine AB (AM (AB (OK hod hdd ?_)));rw [if_neg (by simp)];refine AB (AM (AB (Qw hod hdd ?_)));rw [if_neg (by simp)];refine AM ?_;simp only [show ¬((i:Int) < 0) by lia,if_false,Bf,Array.getElem?_eq_none hi];refine AB ?_
 first | refine AB (Ed ki.typeIs (AM (show Ah _ _ (Yi (.ref it) 0 .none >>= _) _ _ s from ?_))) | refine AB (Fo ki.typeIs (AM (show Ah _ _ (Yi (.ref it) 0 .none >>= _) _ _ s from ?_)))
 refine AB (FJ ho hd (by simp) (show Ah _ _ (newExc (.type "StopIteration") [] >>= _) _ _ _ from AB ?_));simp only [newExc,newTuple];refine AB (Bj (AB (m:=LQ _ _) (Ql (a:=BO) (by first | rfl | (simp only [LQ];rfl)) (Bj ?_ (by size_fits)))) (by size_fits));simp only [raiseNew];refine AB (wpAny_handled ?_);rw [show A.in1.handled=none from h0];refine AB (AM (wpAny_throw ?_));refine AB (eZ (T:="StopIteration") (b:=true) ⟨_,Af _ rfl,rfl⟩ isSubtype_stop (AM ?_));exact kq _ (((Fx ..).extBut.push _).push _)
theorem VI (h0:A.handled=none) (I:AI) (hne:d≠I):Walks prog w A I [I,d] [I] es.size (λi v=>∃h:i < es.size,v=es[i].key) (λi h=>h.IsKeyIter I d i es.size ep/\Ot h d es ep) where
 sub:=λx hx=>by simp at hx;simp [hx]
 frame:=λ_ _ _ st keep=>⟨st.1.at λo e=>keep I (by simp) o e,st.2.at' λo e=>keep d (by simp) o e⟩
 item:=λi s Q E hi st kq=>W3 st.1 st.2 hi λh' ki' hs'=>kq _ h' s.toks ⟨hi,rfl⟩ ⟨ki',st.2.at' λo e=>hs'.extBut d o hne e⟩ λb o hb e=>hs'.extBut b o (λh=>hb (by simp [h])) e
 done:=λs Q E st kq=>ZE h0 st.1 st.2 (AS _) λh' he'=>kq h' s.toks λb o hb e=>he' b o (λh=>hb (by simp [h])) e
 self:=λ_ _ _ _ st kq=>wpAny_pyIter_keyiter st.1 kq
theorem T6 (lo:(d==Df)=false):PySem.W.KdlSrc prog w "dict" d d es.size (λi v=>∃h:i < es.size,v=es[i].key) (λh=>Ot h d es ep) where
 type:=λ_ hm=>hm.ty
 there:=λ_ hm=>⟨let ⟨_,ho,_⟩:=hm;Aa ho,let ⟨_,ho,_⟩:=hm;Aa ho⟩
 keep:=λ_ _ hm hk=>hm.at' λo e=>hk d (.inl rfl) o e
 notList:=by decide
 notTuple:=by decide
 hint:=λ_ _ _ _ hm hq=>PySem.W.kdl_hint_dict hm.ty hq
 iter:=λ_ _ h0 hm=>⟨_,_,(λ_ _ hq=>W4 lo hm hq),VI h0 _ (Ax (let ⟨_,ho,_⟩:=hm;Aa ho)),⟨⟨_,Af _ rfl,rfl,rfl⟩,hm.at' λo e=>AJ _ e⟩⟩
end
end Srt
namespace L2
open PySem PySem.Spec PyProof.Rows
open Srt (ltL)
theorem RS {α β:Type} {R:α->β->Prop} {l2 l2':List β} (p:l2.Perm l2'):∀ {l1:List α},Gb R l1 l2->∃l1',Gb R l1' l2'/\l1'.Perm l1:=by
 induction p with
 | nil=>intro l1 h;cases h;exact ⟨[],.nil,.refl _⟩
 | cons x _ ih=>
  intro l1 h
  cases h with
  | cons r t=>
   obtain ⟨l',h1,h2⟩:=ih t;exact ⟨_ :: l',.cons r h1,h2.cons _⟩
 | swap x y l=>
  intro l1 h
  cases h with
  | cons r t=>
   cases t with
   | cons r2 t=>exact ⟨_ :: _ :: _,.cons r2 (.cons r t),List.Perm.swap _ _ _⟩
 | trans _ _ ih1 ih2=>
  intro l1 h;obtain ⟨a,h1,h2⟩:=ih1 h;obtain ⟨b,h3,h4⟩:=ih2 h1;exact ⟨b,h3,h4.trans h2⟩
theorem Kj {α β γ:Type} {R:α->β->Prop} {f:α->γ} {g:β->γ}:∀ {l1:List α} {l2:List β},Gb R l1 l2->(∀a∈l1,∀b,R a b->g b=f a)->l2.map g=l1.map f
 | _,_,.nil,_=>rfl
 | _,_,.cons r t,h=>by rw [A5,A5,h _ A6 _ r,Kj t λa ha=>h a (Al _ ha)]
theorem Nd {α β:Type} {R:α->β->Prop}:∀ {l1:List α} {l2:List β} {b:β},Gb R l1 l2->b∈l2->∃a∈l1,R a b
 | _,_,_,.nil,h=>nomatch h
 | _,_,b,.cons r t,h=>by
  rcases A4.mp h with h | h
  ·subst h;exact ⟨_,A6,r⟩
  ·obtain ⟨a,ha,e⟩:=Nd t h
   exact ⟨a,Al _ ha,e⟩
def Om:V->Int
 | .int n=>n
 | _=>0
def VG (H:Hp):AD->List Int
 | .int n _=>[n]
 | .ref b=>match H b with
  | some (.tup xs)=>xs.map Om
  | _=>[]
 | _=>[]
theorem Lf (r:List Int):(r.map V.int).map Om=r:=by
 rw [BZ];exact (B6 λa _=>rfl).trans (List.map_id' r)
def gr (K:AA) (H:Hp) (p:AI) (G:List V->Prop):Prop:=
 (∃vs,(SqL K H p vs∨SqT K H p vs)/\G vs)∨(∃kvs,H p=some (.dK kvs)/\G (kvs.map λx=>kV x.1)) ∨
  ∃kvs,H p=some (.dT kvs)/\∀bs:List AI,Gb (λ(k:List Key×V) b=>H b=some (.tup (k.1.map kV))) kvs bs->G (bs.map V.ref)
def Pf (H:Hp) (f:V->List Int) (vs:List V):Prop:=(∀v∈vs,∃n,v=.int n/\f v=[n])∨∀v∈vs,∃b,v=.ref b/\H b=some (.tup ((f v).map V.int))/\f v≠[]
def fQ (K:AA):List V->Hp->VK->Prop:=λxs H Q=>∃p,xs=[.ref p]/\gr K H p λvs=>∃f:V->List Int,Pf H f vs /\
 ∀out,out.Perm vs->out.Pairwise (λx y=>ltL (f y) (f x)=false)->∀l,H l=none->Q (.ref l) (upd H l (.lst out))
theorem Pf.rel {H:Hp} {f:V->List Int} {vs:List V} (h:Pf H f vs):∀v∈vs,∀u,RelV v u->VG H u=f v:=λv hv u r=>by
 rcases h with h | h
 ·obtain ⟨n,rfl,e⟩:=h v hv
  obtain ⟨t,rfl⟩:=r;exact e.symm
 ·obtain ⟨b,rfl,e,_⟩:=h v hv
  cases r;show (match H b with | some (.tup xs)=>xs.map Om | _=>[])=_;rw [e];exact Lf _
theorem RF {X:Cx} {pins:List (AI×Obj)} {s:AF} {σ:St} {H:Hp} {p:AI} {G:List V->Prop} (hc:X.calm=true) (I:Inv X pins σ H s) (h:gr X.K H p G) :
  ∃vs its,G vs/\BU vs its/\its.length<=sizeLine/\∀(R:List AD->AF->Prop) (E:AD->AF->Prop),(∀(g:Bk) (tk:Nat),(∀b o,s.heap.get? b=some o->g.get? b=some o)->R its { s with heap:=g,toks:=tk })->Ah (AW X.prog X.w) X.A.in1 (collect (.ref p)) R E s:=by
 have hh:X.A.handled=none:=I.ok.hd hc
 rcases h with ⟨vs,sq,g⟩ | ⟨kvs,e,g⟩ | ⟨kvs,e,g⟩
 ·rcases sq with sq | sq
  ·obtain ⟨its,rv,pl,hz⟩:=I.list sq
   refine ⟨vs,its,g,rv,by rw [<-rv.length];exact hz,λR E k=>collect_list pl.isList (k _ s.toks λb o e=>?_) (by rw [<-rv.length];exact hz)⟩;rw [U0 _ _ _ _ (Ax (Aa e))];exact AJ _ e
  ·obtain ⟨its,rv,⟨o,ho,hcl,n,hd⟩,hz⟩:=I.tuple sq
   have hz':its.length<=sizeLine:=by rw [<-rv.length];exact hz
   exact ⟨vs,its,g,rv,hz',λR E k=>wpAny_collect_seq p (.inr rfl) ho hcl hd (λh' kp=>by simpa using k h' s.toks kp) (by simpa using hz')⟩
 ·obtain ⟨hz,sm,us,kv,o,es,ep,g1,g2,g3,g5,g6,_⟩:=(show Cn X.prog X.w H s.heap p (.dK kvs) from I.hok p _ e)
  have hlen:es.size=kvs.length:=by
   have a1:=g6.length;have a2:kvs.length=us.length:=EU kv;rw [Bo] at a1
   lia
  have hv:BU (kvs.map λx=>kV x.1) (es.toList.map (·.key)):=by
   have key:∀ {l:List Lz} {us:List (Key×AD)} {kvs:List (Key×V)},Pairs (EB X.prog X.w) l us->KV kvs us->BU (kvs.map λx=>kV x.1) (l.map (·.key)):=by
    intro l us kvs hp
    induction hp generalizing kvs with
    | nil=>intro h;cases h;exact .nil
    | cons q1 q2 _ ih=>
     intro h
     cases h with
     | cons r t=>
      refine .cons ?_ (ih t);dsimp only;rw [r.1]
      rcases DI q1 with ⟨i,t,e1,e2⟩ | ⟨x,t,e1,e2⟩
      ·rw [e1,e2];exact ⟨t,rfl⟩
      ·rw [e1,e2];exact ⟨t,rfl⟩
   exact key g6 kv
  refine ⟨_,es.toList.map (·.key),g,hv,by rw [AK,Bo,hlen];exact hz,λR E k=>?_⟩
  refine R9 (Srt.T6 (es:=es) (ep:=ep) sm) hh ⟨o,g1,g2,g3⟩ (by rw [hlen];exact hz) λg' tk acc kp ac=>?_
  have:acc.toList=es.toList.map (·.key):=by
   apply Ch
   intro j
   by_cases hj:j < es.size
   ·have hj2:j < acc.size:=by rw [ac.1];exact hj
    obtain ⟨_,e2⟩:=ac.2 j acc[j] (by simp [hj2]);simp [hj,hj2,e2]
   ·have hj2:¬j < acc.size:=by rw [ac.1];exact hj
    simp [hj,hj2]
  rw [this];exact k g' tk kp
 ·obtain ⟨hz,sm,xs,rr,o,es,ep,g1,g2,g3,g4,_⟩:=(show Cn X.prog X.w H s.heap p (.dT kvs) from I.hok p _ e)
  have hlen:es.size=kvs.length:=by
   have a1:=congrArg NE g4;have a2:kvs.length=xs.length:=EU rr;rw [Bo,AK] at a1
   lia
  have hb:Gb (λ(k:List Key×V) b=>H b=some (.tup (k.1.map kV))) kvs (xs.map (·.2.1)):=by
   have key:∀ {kvs:List (List Key×V)} {xs:List (List Key×AI×AD)},Gb (λ(p:List Key×V) (q:List Key×AI×AD)=>p.1=q.1/\H q.2.1=some (.tup (p.1.map kV))/\RelV p.2 q.2.2) kvs xs->Gb (λ(k:List Key×V) b=>H b=some (.tup (k.1.map kV))) kvs (xs.map (·.2.1)):=by
    intro kvs xs h
    induction h with
    | nil=>exact .nil
    | cons r _ ih=>exact .cons r.2.1 ih
   exact key rr
  have hk:es.toList.map (·.key)=(xs.map (·.2.1)).map Au:=by
   rw [g4,BZ,BZ];rfl
  have hv:∀l:List AI,BU (l.map V.ref) (l.map Au):=λl=>by
   induction l with
   | nil=>exact .nil
   | cons a l ih=>exact .cons rfl ih
  refine ⟨_,(xs.map (·.2.1)).map Au,g _ hb,hv _,by rw [AK,AK,<-EU rr];exact hz,λR E k=>?_⟩
  refine R9 (Srt.T6 (es:=es) (ep:=ep) sm) hh ⟨o,g1,g2,g3⟩ (by rw [hlen];exact hz) λg' tk acc kp ac=>?_
  have:acc.toList=(xs.map (·.2.1)).map Au:=by
   rw [<-hk]
   apply Ch
   intro j
   by_cases hj:j < es.size
   ·have hj2:j < acc.size:=by rw [ac.1];exact hj
    obtain ⟨_,e2⟩:=ac.2 j acc[j] (by simp [hj2]);simp [hj,hj2,e2]
   ·have hj2:¬j < acc.size:=by rw [ac.1];exact hj
    simp [hj,hj2]
  rw [this];exact k g' tk kp
theorem RK {X:Cx} {s:AF} {H:Hp} {f:V->List Int} {vs:List V} {its:List AD} (I:∀b xs,H b=some (.tup xs)->∃is:List AD,BU xs is/\eU s.heap b is.toArray) (h:Pf H f vs) (rv:BU vs its) (h2:2<=its.length) {A:A8}:Srt.Qj X.prog X.w A s its (VG H):=by
 rcases id h with hi | ht
 ·have:∃ns,FY its ns:=by
   have key:∀ {vs:List V} {its:List AD},BU vs its->(∀v∈vs,∃n,v=.int n/\f v=[n])->∃ns,FY its ns:=by
    intro vs its r
    induction r with
    | nil=>exact λ_=>⟨[],.nil⟩
    | cons r _ ih=>
     intro hv
     obtain ⟨ns,hns⟩:=ih λv hv'=>hv v (Al _ hv')
     obtain ⟨n,rfl,_⟩:=hv _ A6;obtain ⟨t,rfl⟩:=r;exact ⟨n :: ns,.cons n t hns⟩
   exact key rv hi
  obtain ⟨ns,hns⟩:=this;obtain ⟨κ,k1,k2⟩:=Srt.VC (prog:=X.prog) (w:=X.w) (A:=A) (s:=s) hns h2;refine ⟨κ,k1,λx y hx hy Q E q=>k2 x y hx hy Q E ?_⟩;obtain ⟨n,t,e1⟩:=hns.all _ (Srt.F0 hx).1;obtain ⟨m,u,e2⟩:=hns.all _ (Srt.F0 hy).1
  have e:Srt.ltK Srt.XR x y=Srt.ltK (VG H) x y:=by
   unfold Srt.ltK Srt.XR;rw [e1,e2];rfl
  rw [e];exact q
 ·refine Srt.VB (λu hu=>?_) (by intro e;subst e;simp at h2)
  obtain ⟨v,hv,r⟩:=Nd rv hu;rw [h.rel v hv u r];obtain ⟨b,rfl,e,ne⟩:=ht v hv;cases r;refine ⟨⟨b,?_⟩,ne⟩;obtain ⟨is,r,o,ho,hcl,n,hd⟩:=I b _ e;exact ⟨is.toArray,rfl,⟨o,ho,hcl,n,hd⟩,by simpa using intsAre_of r⟩
theorem V1 {X:Cx} (hc:X.calm=true):IF X (.builtin "sorted") (fQ X.K):=by
 intro pins s σ H xs us Q I r h;obtain ⟨p,rfl,src⟩:=h;obtain ⟨u,rfl,rx⟩:=vals1 r;cases rx;obtain ⟨vs,its,⟨f,rows,q⟩,rv,hz,col⟩:=RF hc I src;refine Calls.call_function_entry kind_sorted plain_sorted entry_sorted (args_sorted1 _) ?_;unfold Builtin.«sorted»;refine AB (m:=checkCount "sorted" 1 1 _) (AM (AB (col _ _ λg tk kp=>?_)));refine AB (wpAny_newList ?_ hz);have I1:Inv X pins σ H { s with heap:=g,toks:=tk }:=I.kept kp;have hl:(g.push (HZ "list" its.toArray 0)).get? g.objs.size=some (HZ "list" its.toArray 0):=Af _ rfl;refine AB (Fp (Dd slot_list_sort ⟨_,hl,rfl⟩ entry_list_sort (Srt.On (f:=VG H) hl hz (λh2 s' keep=>?_) λout po so=>⟨_,rfl,AM ⟨_,rfl,?_⟩⟩) (args_list_sort _)))
 ·refine RK (λb xs e=>?_) rows rv h2
  obtain ⟨_,is,r,o,ho,hcl,n,hd⟩:=(show Cn X.prog X.w H g b (.tup xs) from I1.hok b _ e);exact ⟨is,r,o,keep b o (Ax (Aa ho)) (AJ _ ho),hcl,n,hd⟩
 ·obtain ⟨vo,ro,pv⟩:=RS po.symm rv
  have so':vo.Pairwise (λx y=>ltL (f y) (f x)=false):=by
   have e:out.toList.map (VG H)=vo.map f:=Kj ro λa ha b rb=>rows.rel a (pv.mem_iff.mp ha) b rb
   have:=(Cg (f:=VG H) (R:=λx y=>ltL y x=false)).mpr so;rw [e] at this;exact Cg.mp this
  obtain ⟨k,hk⟩:=sortedHeap_at (out:=out) hl
  have hlen:vo.length<=sizeLine:=by rw [pv.length_eq,rv.length];exact hz
  have I2:=I1.laid (a:=g.objs.size) (o:=.lst vo) (t':=tk) (h':=bJ (g.push (HZ "list" its.toArray 0)) g.objs.size its out)
   (λb u z=>by
    have lt:b < g.objs.size:=Aa z;rw [sortedHeap_old (Ax lt) (by rw [size_push'];exact Ma lt)]
    exact AJ _ z) (AS _) ⟨hlen,out.toList,k,ro,hk⟩
  exact ⟨.ref g.objs.size,_,I2,rfl,q vo pv so' _ (I1.hok.fresh (AS _))⟩
end L2
namespace L2
open PySem PySem.Spec PyProof.Rows
open Srt (ltL)
def E6 (ns:List Int):List Int:=ns.mergeSort (λa b=>decide (a<=b))
@[simp] theorem eY:E6 []=[]:=by unfold E6;simp
theorem Eo (ns:List Int):(E6 ns).Perm ns:=Uw ns _
theorem Kb (ns:List Int):(E6 ns).Pairwise (·<=·):=by
 have:=Qz (le:=λa b:Int=>decide (a<=b)) (by intro a b c h1 h2;simp at h1 h2 ⊢;lia) (by intro a b;simp;lia) ns
 exact this.imp λh=>by simpa using h
def Kc (rs:List (List Int)):List (List Int):=rs.mergeSort (λa b=>!ltL b a)
theorem G3 (rs:List (List Int)):(Kc rs).Perm rs:=Uw rs _
theorem NS (rs:List (List Int)):(Kc rs).Pairwise (λa b=>ltL b a=false):=by
 have:=Qz (le:=λa b:List Int=>!ltL b a) (by intro a b c h1 h2;simp at h1 h2 ⊢;exact Srt.QH _ _ _ h1 h2) (by
  intro a b
  cases e:ltL b a with
  | false=>simp
  | true=>simp [Srt.Hx _ _ e]) rs
 exact this.imp λh=>by simpa using h
theorem O7 {l l':List (List Int)} (p:l.Perm l') (h:l.Pairwise (λa b=>ltL b a=false)) (h':l'.Pairwise (λa b=>ltL b a=false)):l=l':=
 p.eq_of_pairwise (λa b _ _ h1 h2=>Srt.UK a b h2 h1) h h'
def Xq:Key->D
 | .inl i=>.int i
 | .inr x=>.str x
def Hh (d:D) (S:Sto):Option (List D):=match d with
 | .fro ds=>some ds
 | .tup ds=>some ds
 | .ref n=>match S[n]? with
  | some (.lst ds)=>some ds
  | some (.dK kvs)=>some (kvs.map λx=>Xq x.1)
  | some (.dT kvs)=>some (kvs.map λx=>.tup (x.1.map Xq))
  | _=>none
 | _=>none
def Ml (r:List Int):D:=.tup (r.map D.int)
def PH:List D->Option (List (List Int))
 | []=>some []
 | .tup ds :: r=>match Io ds,PH r with
  | some (n :: ns),some rs=>some ((n :: ns) :: rs)
  | _,_=>none
 | _ :: _=>none
def Kd (ds:List D):Option (List D):=match Io ds with
 | some ns=>some ((E6 ns).map D.int)
 | none=>match PH ds with
  | some rs=>some ((Kc rs).map Ml)
  | none=>none
def GN (m:ME):ME:=λe S=>(m e S).bind λd S1=>match Hh d S1 with
 | some ds=>match Kd ds with
  | some es=>.ok (.ref S1.length) (S1++[.lst es])
  | none=>.bad
 | none=>.bad
section
variable {X:Cx} {E:EW} {e:Expr} {p pos:Pos} {m:ME}
theorem Zq (x y:Int):ltL [y] [x]=decide (y < x):=by
 show (if y=x then false else decide (y < x))=_;split
 ·rename_i e;simp [e]
 ·rfl
def Og (H:Hp):V->List Int
 | .int n=>[n]
 | .ref b=>match H b with
  | some (.tup xs)=>xs.map Om
  | _=>[]
 | _=>[]
theorem RL {K:AA} {ρ:List AI} {H:Hp}:∀ {ds:List D} {rs:List (List Int)} {vs:List V},PH ds=some rs->At K ρ H ds vs->vs.map (Og H)=rs/\∀v∈vs,∃b,v=.ref b/\H b=some (.tup ((Og H v).map V.int))/\Og H v≠[]
 | [],_,_,h,.nil=>by cases h;exact ⟨rfl,λv hv=>nomatch hv⟩
 | .tup ts :: ds,rs,_,h,.cons r t=>by
  unfold PH at h;split at h
  ·rename_i n ns rs' h1 h2
   cases h;obtain ⟨i1,i2⟩:=RL h2 t
   cases r with
   | @tup _ b ws hb rr=>
    have:=Ku h1;subst this;have:=rr.ints;subst this
    have e:Og H (.ref b)=n :: ns:=by
     show (match H b with | some (.tup xs)=>xs.map Om | _=>[])=_;rw [hb];exact Lf _
    refine ⟨by rw [A5,e,i1],λv hv=>?_⟩
    rcases A4.mp hv with hv | hv
    ·subst hv
     refine ⟨b,rfl,?_,?_⟩
     ·rw [e];exact hb
     ·rw [e];exact List.cons_ne_nil _ _
    ·exact i2 v hv
  ·cases h
 | .non :: _,_,_,h,_=>by cases h
 | .bl _ :: _,_,_,h,_=>by cases h
 | .int _ :: _,_,_,h,_=>by cases h
 | .str _ :: _,_,_,h,_=>by cases h
 | .fro _ :: _,_,_,h,_=>by cases h
 | .ref _ :: _,_,_,h,_=>by cases h
 | .exc _ :: _,_,_,h,_=>by cases h
theorem RN {K:AA} {ρ:List AI} {H:Hp}:∀ {vs:List V},(∀v∈vs,∃b,v=.ref b/\H b=some (.tup ((Og H v).map V.int))/\Og H v≠[])->At K ρ H ((vs.map (Og H)).map Ml) vs
 | [],_=>.nil
 | v :: vs,h=>by
  obtain ⟨b,e,hb,_⟩:=h v A6;refine .cons ?_ (RN λu hu=>h u (Al _ hu));subst e;exact .tup hb (At.of_ints _)
theorem Wr {K:AA} {ρ:List AI} {H:Hp} {ds es:List D} {vs:List V} (h:Kd ds=some es) (r:At K ρ H ds vs) :
  ∃f:V->List Int,Pf H f vs/\∀out,out.Perm vs->out.Pairwise (λx y=>ltL (f y) (f x)=false)->At K ρ H es out:=by
 unfold Kd at h;split at h
 ·rename_i ns hz
  cases h;have:=Ku hz;subst this;have:=r.ints;subst this;refine ⟨λv=>[Om v],.inl λv hv=>?_,λout po so=>?_⟩
  ·obtain ⟨n,_,rfl⟩:=BF.mp hv
   exact ⟨n,rfl,rfl⟩
  ·have e1:out=(out.map Om).map V.int:=by
    rw [BZ]
    conv=>lhs;rw [<-Tq out]
    refine B6 λv hv=>?_
    obtain ⟨n,_,rfl⟩:=BF.mp (po.mem_iff.mp hv);rfl
   have e2:out.map Om=E6 ns:=by
    have p1:(out.map Om).Perm (E6 ns):=by
     have:=po.map Om;rw [Lf] at this;exact this.trans (Eo ns).symm
    refine p1.eq_of_pairwise (λa b _ _ h1 h2=>ah h1 h2) ?_ (Kb ns);rw [Cg]
    refine so.imp λ{x y} hxy=>?_
    rw [Zq] at hxy;simp at hxy;exact hxy
   rw [e1,e2];exact At.of_ints _
 ·split at h
  ·rename_i rs hr
   cases h;obtain ⟨i1,i2⟩:=RL hr r;refine ⟨Og H,.inr i2,λout po so=>?_⟩
   have e2:out.map (Og H)=Kc rs:=by
    refine O7 ?_ (Cg.mpr so) (NS rs);have:=po.map (Og H);rw [i1] at this;exact this.trans (G3 rs).symm
   rw [<-e2]
   exact RN λv hv=>i2 v (po.mem_iff.mp hv)
  ·cases h
theorem Nn {K:AA} {ρ:List AI} {H:Hp}:∀ks:List Key,At K ρ H (ks.map Xq) (ks.map kV)
 | []=>.nil
 | .inl i :: ks=>.cons (.int i) (Nn ks)
 | .inr x :: ks=>.cons (.str x) (Nn ks)
theorem Nm {K:AA} {ρ:List AI} {H:Hp}:∀ {kvs:List (Key×D)} {kvs':List (Key×V)},KVR K ρ H kvs kvs'->At K ρ H (kvs.map λx=>Xq x.1) (kvs'.map λx=>kV x.1)
 | _,_,.nil=>.nil
 | (k,_) :: _,(k',_) :: _,.cons r t=>by
  have e:k=k':=r.1;subst e
  cases k with
  | inl i=>exact .cons (.int i) (Nm t)
  | inr x=>exact .cons (.str x) (Nm t)
theorem Ri {K:AA} {ρ:List AI} {H:Hp}:∀ {kvs:List (List Key×D)} {kvs':List (List Key×V)} {bs:List AI},KVR K ρ H kvs kvs'->Gb (λ(k:List Key×V) b=>H b=some (.tup (k.1.map kV))) kvs' bs->At K ρ H (kvs.map λx=>.tup (x.1.map Xq)) (bs.map V.ref)
 | _,_,_,.nil,.nil=>.nil
 | (k,_) :: _,(k',_) :: _,_,.cons r t,.cons r2 t2=>by
  have e:k=k':=r.1;subst e;exact .cons (.tup r2 (Nn k)) (Ri t t2)
theorem Lm (hc:X.calm=true) (hg:Gl X "sorted") (hm:X.mg "sorted" = none) (h:GE X E e m) (he:AX [e] X.env=(false,B0 e X.env) :: AX [] X.env:=by rfl):GE X E (.Call (.Name "sorted" p) [e] [] pos) (GN m):=
 (Hu (V1 hc) hg hm gy (FI h He he) (by decide) (by decide) he rfl).imp λσ H Q ⟨ρ,l,S,hl,hs,hm⟩=>by
 refine ⟨ρ,l,S,hl,hs,hm.seq λd S1 hm ρ1 H1 x l1 s1 r1=>?_⟩
 cases hq:Hh d S1 with
 | none=>rw [hq] at hm;exact hm.elim
 | some ds=>
  rw [hq] at hm;dsimp only at hm
  cases hi:Kd ds with
  | none=>rw [hi] at hm;exact hm.elim
  | some es=>
   rw [hi] at hm
   have fin:∀vs:List V,At X.K ρ1 H1 es vs->∀q,H1 q=none->Q (.ref q) (upd H1 q (.lst vs)):=λvs rr q hq=>by
    have le:Le X.K ρ1 H1 (ρ1++[q]) (upd H1 q (.lst vs)):=Le.alloc hq;obtain ⟨s4,l4,at4⟩:=s1.alloc (ho:=.lst vs) (o:=.lst es) hq ⟨_,Be,rr.mono le⟩;exact hm _ _ _ (l1.trans l4) s4 (.ref at4)
   have out:∀vs,At X.K ρ1 H1 ds vs->∃f:V->List Int,Pf H1 f vs/\∀out,out.Perm vs->out.Pairwise (λx y=>ltL (f y) (f x)=false)->∀l,H1 l=none->Q (.ref l) (upd H1 l (.lst out)):=λvs rr=>by
    obtain ⟨f,k1,k2⟩:=Wr hi rr;exact ⟨f,k1,λout po so=>fin out (k2 out po so)⟩
   cases r1 with
   | fro h1 h2=>cases hq;exact ⟨_,rfl,.inl ⟨_,.inl h1.sq,out _ h2⟩⟩
   | tup h1 h2=>cases hq;exact ⟨_,rfl,.inl ⟨_,.inr (.inl (.inl h1)),out _ h2⟩⟩
   | @ref n a hn=>
    obtain ⟨o,ho,ro⟩:=s1.there hn;unfold Hh at hq;simp only [ho] at hq
    cases o with
    | lst ys=>cases hq;obtain ⟨vs,e,rr⟩:=ro;exact ⟨_,rfl,.inl ⟨vs,.inl (.inl (.inl e)),out _ rr⟩⟩
    | dK kvs=>cases hq;obtain ⟨vs,e,rr⟩:=ro;exact ⟨_,rfl,.inr (.inl ⟨vs,e,out _ (Nm rr)⟩)⟩
    | dT kvs=>cases hq;obtain ⟨vs,e,rr⟩:=ro;exact ⟨_,rfl,.inr (.inr ⟨vs,e,λbs hb=>out _ (Ri rr hb)⟩)⟩
    | ins C fs=>cases hq
   | _=>cases hq
end
end L2
namespace L2
open PySem PySem.Spec PyProof.Rows
def isV (A:String):Option Bool:=if A = "NoneType" then some false else none
theorem dD {K:AA}:∀A b,isV A=some b->Bn K (.type A) (.type "ValueError")=some b:=λA b e=>by
 unfold isV at e;split at e
 ·rename_i hA
  subst hA;cases e
  kernel_rfl
 ·cases e
theorem dF {K:AA} {C:AI} (h:∀A∈["NoneType", "bool", "int", "str", "tuple", "list", "dict"],Bn K (.type A) (.ref C)=some false):∀A b,isN A=some b->Bn K (.type A) (.ref C)=some b:=λA b e=>by
 unfold isN at e;split at e
 ·rename_i hA
  cases e;exact h A (by simpa using hA)
 ·cases e
theorem Zy {K:AA} {C:AI} (h1:(EJ K C).isSome=true) (h2:Iz K (.ref C)=some (.type "type")):∀A∈["NoneType", "bool", "int", "str", "tuple", "list", "dict"],Bn K (.type A) (.ref C)=some false:=λA h=>by
 have key:∀A,Jp K (.type A) (.ref C)=some false->Bn K (.type A) (.ref C)=some false:=λA e=>by
  unfold Bn PySem.W.kitCls;rw [if_neg (by simp)];dsimp only;rw [if_pos (by rw [h1,h2];rfl)];exact e
 refine key A ?_;simp only [A4,D5,or_false] at h
 rcases h with rfl | rfl | rfl | rfl | rfl | rfl | rfl <;> kernel_rfl
end L2
namespace L2
open PySem PySem.Spec PyProof.Rows
def Wq (K:AA):Sp:=λvs H Q _=>∃(a:AI) (ns:List Int),vs=[.ref a]/\Ou K H a (ns.map V.int)/\ns.length<=63/\∀H',Q (.bl true) H'
theorem Xn {P:Ar} {w:BG} {K:AA} {mg:Str->Option AD} {base:Bk} {k:Nat} {fa:AI} {fd:DY} {f:List D->Sto->Res D} (F:De P w K mg base (CXG P w) k fa fd ["script"] (spM K 1 f))
  (h:∀ns:List Int,ns.length<=63->∃S',f [.fro (ns.map D.int)] []=.ok (.bl true) S'):De P w K mg base (CXG P w) k fa fd ["script"] (Wq K):=F.imp λvs H Q E ⟨a,ns,e,hS,hl,q⟩=>by
 subst e;obtain ⟨S',e⟩:=h ns hl;refine ⟨[],[.fro (ns.map D.int)],[],rfl,.cons (.fro hS (At.of_ints ns)) .nil,⟨rfl,λi j a hi=>by simp at hi,λn o a hn=>by simp at hn⟩,?_⟩;rw [e]
 exact λρ' H' x _ _ r=>by cases r;exact q H'
theorem dc {K:AA} {H:Hp} {a:AI} {ns:List Int} (hO:aU H) (hS:SqL K H a (ns.map V.int)):Ou K H a (ns.map V.int):=by
 rcases hS with (h | h) | h
 ·rcases hO a with z | ⟨o,xs,z⟩ <;> rw [z] at h <;> cases h
 ·exact .inl h
 ·exact .inr h
theorem HA {K:AA} {C:AI} {v:AD} {b:Bool} (h:Jq K C v=some b):(EJ K C).isSome=true:=by
 obtain ⟨cd,a,_⟩:=Option.bind_eq_some_iff.mp h;rw [a];rfl
theorem dn {P:Ar} {w:BG} {H:Hp} {s:AF} {e:AD} {s':AF} (h:CXG P w [] H s (λ_ _ _=>False) e s'):False:=by
 obtain ⟨_,_,_,_,_,_,_,_,_,z⟩:=h;exact z
end L2
namespace L2
open PySem
def bC (I:Lo->Sto->Prop) (R:Fl->Sto->Prop) (f:Fl) (S:Sto):Prop:=match f with
 | .nx e=>I e S
 | .ct e=>I e S
 | .bk e=>R (.nx e) S
 | .rt d=>R (.rt d) S
 | .ex c e=>R (.ex c e) S
theorem Z6 {v:Hk} {g:MG} {b:MS} {xs:List D} (I:Nat->Lo->Sto->Prop) (R:Fl->Sto->Prop) (hv:∀i e S,I i e S->v S=some xs)
  (step:∀i d e S,xs[i]?=some d->I i e S->∃e1 S1,g d e S=.ok e1 S1/\∃f S2,b e1 S1=.ok f S2/\bC (I (i+1)) R f S2)
  (fin:∀e S,I xs.length e S->R (.nx e) S):∀(k i:Nat) (e:Lo) (S:Sto),I i e S->i<=xs.length->xs.length<=i+k->∃f S',Iv v g b k i e S=.ok f S'/\R f S':=by
 intro k
 induction k with
 | zero=>
  intro i e S h h1 h2
  have:i=xs.length:=by lia
  subst this;refine ⟨.nx e,S,?_,fin e S h⟩;unfold Iv;rw [hv _ e S h];simp
 | succ k ih=>
  intro i e S h h1 h2;unfold Iv;rw [hv _ e S h];dsimp only
  by_cases hi:i < xs.length
  ·have hd:xs[i]?=some xs[i]:=by simp [hi]
   rw [hd];dsimp only;obtain ⟨e1,S1,q1,f,S2,q2,t⟩:=step i _ e S hd h;rw [q1];dsimp only [Res.bind];rw [q2];dsimp only [Res.bind]
   cases f with
   | nx e2=>exact ih (i+1) e2 S2 t (by lia) (by lia)
   | ct e2=>exact ih (i+1) e2 S2 t (by lia) (by lia)
   | bk e2=>exact ⟨_,_,rfl,t⟩
   | rt d=>exact ⟨_,_,rfl,t⟩
   | ex c e2=>exact ⟨_,_,rfl,t⟩
  ·have:i=xs.length:=by lia
   subst this;rw [show xs[xs.length]?=none by simp];exact ⟨.nx e,S,rfl,fin e S h⟩
theorem C9 {v:Hk} {g:MG} {b:MS} {xs:List D} {e:Lo} {S:Sto} (I:Nat->Lo->Sto->Prop) (R:Fl->Sto->Prop) (h0:I 0 e S) (hv:∀i e S,I i e S->v S=some xs)
  (step:∀i d e S,xs[i]?=some d->I i e S->∃e1 S1,g d e S=.ok e1 S1/\∃f S2,b e1 S1=.ok f S2/\bC (I (i+1)) R f S2)
  (fin:∀e S,I xs.length e S->R (.nx e) S):∃f S',Iv v g b (CY v S) 0 e S=.ok f S'/\R f S':=by
 have hl:CY v S=xs.length:=by unfold CY;rw [hv 0 e S h0]
 rw [hl];exact Z6 I R hv step fin _ _ _ _ h0 (EK _) (by lia)
theorem YN {v:Hk} {g:MG} {c:MT} {m:ME} {xs:List D} (I:Nat->Lo->Sto->List D->Prop) (hv:∀i e S acc,I i e S acc->v S=some xs)
  (step:∀i d e S acc,xs[i]?=some d->I i e S acc->acc.length < sizeLine/\∃e1 S1,g d e S=.ok e1 S1/\∃b S2,c e1 S1=.ok b S2/\((b=true/\∃y S3,m e1 S2=.ok y S3/\I (i+1) e1 S3 (acc++[y]))∨(b=false/\I (i+1) e1 S2 acc))) :
  ∀(k i:Nat) (e:Lo) (S:Sto) (acc:List D),I i e S acc->i<=xs.length->xs.length<=i+k->∃r S',GZ v g c m k i e S acc=.ok r S'/\∃e',I xs.length e' S' r:=by
 intro k
 induction k with
 | zero=>
  intro i e S acc h h1 h2
  have:i=xs.length:=by lia
  subst this;refine ⟨acc,S,?_,e,h⟩;unfold GZ;rw [hv _ e S acc h];simp
 | succ k ih=>
  intro i e S acc h h1 h2;unfold GZ;rw [hv _ e S acc h];dsimp only
  by_cases hi:i < xs.length
  ·have hd:xs[i]?=some xs[i]:=by simp [hi]
   rw [hd];dsimp only;obtain ⟨hz,e1,S1,q1,b,S2,q2,t⟩:=step i _ e S acc hd h;rw [if_pos hz,q1];dsimp only [okR,Res.bind];rw [q2];dsimp only [okR,Res.bind]
   rcases t with ⟨rfl,y,S3,q3,t⟩ | ⟨rfl,t⟩
   ·rw [if_pos rfl,q3]
    exact ih (i+1) e1 S3 _ t (by lia) (by lia)
   ·rw [if_neg AR]
    exact ih (i+1) e1 S2 acc t (by lia) (by lia)
  ·have:i=xs.length:=by lia
   subst this;rw [show xs[xs.length]?=none by simp];exact ⟨acc,S,rfl,e,h⟩
theorem Ji {v:Hk} {g:MG} {c:MT} {m:ME} {xs:List D} {e:Lo} {S:Sto} (I:Nat->Lo->Sto->List D->Prop) (h0:I 0 e S []) (hv:∀i e S acc,I i e S acc->v S=some xs)
  (step:∀i d e S acc,xs[i]?=some d->I i e S acc->acc.length < sizeLine/\∃e1 S1,g d e S=.ok e1 S1/\∃b S2,c e1 S1=.ok b S2/\((b=true/\∃y S3,m e1 S2=.ok y S3/\I (i+1) e1 S3 (acc++[y]))∨(b=false/\I (i+1) e1 S2 acc))) :
  ∃r S',GZ v g c m (CY v S) 0 e S []=.ok r S'/\∃e',I xs.length e' S' r:=by
 have hl:CY v S=xs.length:=by unfold CY;rw [hv 0 e S [] h0]
 rw [hl];exact YN I hv step _ _ _ _ _ h0 (EK _) (by lia)
theorem Xl {j:Int} (h:-1000000<=j):-(2 ^ 62)<=j:=Int.le_trans (by decide) h
theorem X0 {j:Int} (h:j<=1000000):j < 2 ^ 62:=Wa h (by decide)
theorem IX {ml:ML} {e:Lo} {S S1:Sto} {j:Int} (h:ml e S=.ok [.int j] S1) (h0:-1000000<=j) (h1:j<=1000000):iR1 ml e S=.ok (Bt (Bc 0 j.toNat)) S1:=by
 unfold iR1;rw [h];dsimp only [Res.bind];rw [if_pos ⟨Xl h0,X0 h1⟩]
theorem Nu {ml:ML} {e:Lo} {S S1:Sto} {i j:Int} (h:ml e S=.ok [.int i,.int j] S1) (h0:-1000000<=i) (h1:i<=1000000) (h2:-1000000<=j) (h3:j<=1000000):iR2 ml e S=.ok (Bt (Bc i (j - i).toNat)) S1:=by
 unfold iR2;rw [h];dsimp only [Res.bind];rw [if_pos ⟨Xl h0,X0 h1,Xl h2,X0 h3⟩]
theorem Dv (lo:Int) (n:Nat):(Bc lo n).length=n:=by simp [Bc]
theorem Dw {lo:Int} {n i:Nat} {d:D} (h:(Bc lo n)[i]?=some d):i < n/\d=.int (lo+i):=by
 rw [Ld] at h;split at h
 ·rename_i hi
  cases h;exact ⟨hi,rfl⟩
 ·cases h
theorem Kz {i j:Int} {S:Sto} (h:0 < j) (h1:j<=1000000):Jv (.int i) (.int j) S=.ok (.int (i / j)) S:=by
 show (if aX i j then _ else _)=_;rw [if_pos ⟨h,by lia⟩]
theorem EY {i j:Int} {S:Sto} (h:0 < j):Ea (.int i) (.int j) S=.ok (.int (i % j)) S:=by
 show (if 0 < j then _ else _)=_;rw [if_pos h]
theorem BD {f:D->D->Sto->Res D} {ma mb:ME} {e:Lo} {S S1 S2 S3:Sto} {x y d:D} (ha:ma e S=.ok x S1) (hb:mb e S1=.ok y S2) (hf:f x y S2=.ok d S3):m2 f ma mb e S=.ok d S3:=by
 unfold m2;rw [ha];dsimp only [Res.bind];rw [hb];dsimp only [Res.bind];rw [hf];rfl
theorem C7 {m:ME} {e:Lo} {S S1:Sto} {d:D} {i:Nat} (h:m e S=.ok d S1):Bp i m e S=.ok (.nx (e.set i (some d))) S1:=by
 unfold Bp VF;rw [h];rfl
theorem FB {m:ME} {e:Lo} {S S1:Sto} {d:D} (h:m e S=.ok d S1):Cw m e S=.ok (.rt d) S1:=by
 unfold Cw;rw [h];rfl
theorem ED {m:ME} {e:Lo} {S S1:Sto} {d:D} (h:m e S=.ok d S1):B7 m e S=.ok (.nx e) S1:=by
 unfold B7;rw [h];rfl
theorem DP {t:MT} {a b:MS} {e:Lo} {S S1:Sto} {c:Bool} (h:t e S=.ok c S1):sIf t a b e S=if c=true then a e S1 else b e S1:=by
 unfold sIf;rw [h];rfl
theorem dC {t:MT} {a b:ME} {e:Lo} {S S1:Sto} {c:Bool} (h:t e S=.ok c S1):Va t a b e S=if c=true then a e S1 else b e S1:=by
 unfold Va;rw [h];rfl
theorem Cj {m:MI} {g:MG} {b:MS} {e:Lo} {S S1:Sto} {v:Hk} (h:m e S=.ok v S1):Dg m g b e S=Iv v g b (CY v S1) 0 e S1:=by
 unfold Dg;rw [h];rfl
theorem BL {n:Nat} {f:List D->Sto->Res D} {m:ML} {e:Lo} {S S1:Sto} {ds:List D} (h:m e S=.ok ds S1) (hn:ds.length=n):A0 n f m e S=f ds S1:=by
 unfold A0;rw [h];dsimp only [Res.bind];rw [if_pos hn]
theorem Av {a b:MS} {e e1:Lo} {S S1:Sto} (h:a e S=.ok (.nx e1) S1):BK a b e S=b e1 S1:=by unfold BK;rw [h];rfl
theorem La {a b:MS} {e:Lo} {S S1:Sto} {d:D} (h:a e S=.ok (.rt d) S1):BK a b e S=.ok (.rt d) S1:=by unfold BK;rw [h];rfl
theorem Lb {a b:MS} {e e1:Lo} {S S1:Sto} {c:AI} (h:a e S=.ok (.ex c e1) S1):BK a b e S=.ok (.ex c e1) S1:=by unfold BK;rw [h];rfl
theorem CP {n:Nat} {mb:MS} {ds:List D} {S S1:Sto} {d:D} (h:mb (DE n ds) S=.ok (.rt d) S1):D4 n mb ds S=.ok d S1:=by unfold D4;rw [h];rfl
theorem Sm {n:Nat} {mb:MS} {ds:List D} {S S1:Sto} {e:Lo} (h:mb (DE n ds) S=.ok (.nx e) S1):D4 n mb ds S=.ok .non S1:=by unfold D4;rw [h];rfl
theorem NX {n:Nat} {mb:MS} {ds:List D} {S S1:Sto} {c:AI} {e:Lo} (h:mb (DE n ds) S=.ok (.ex c e) S1):D4 n mb ds S=.err c S1:=by unfold D4;rw [h];rfl
def Keeps (S S':Sto):Prop:=S.length<=S'.length/\∀j,j < S.length->S'[j]?=S[j]?
theorem Keeps.refl (S:Sto):Keeps S S:=⟨AS _,λ_ _=>rfl⟩
theorem Keeps.trans {S S1 S2:Sto} (a:Keeps S S1) (b:Keeps S1 S2):Keeps S S2:=⟨Aq a.1 b.1,λj h=>(b.2 j (Ad h a.1)).trans (a.2 j h)⟩
theorem Keeps.app (S:Sto) (G:Sto):Keeps S (S++G):=⟨by simp,λj h=>Ag h⟩
theorem Keeps.set {S S1:Sto} (a:Keeps S S1) {m:Nat} (h:S.length<=m) (o:Ob):Keeps S (S1.set m o):=⟨by simpa using a.1,λj hj=>by rw [A9 (by lia)];exact a.2 j hj⟩
theorem Keeps.at {S S1:Sto} (a:Keeps S S1) {j:Nat} {o:Ob} (h:S[j]?=some o):S1[j]?=some o:=by
 rw [a.2 j (AG.mp h).1];exact h
theorem Hj {mo ma:ME} {e:Lo} {S S1 S2:Sto} {n:Nat} {xs xs2:List D} {y:D} (h1:mo e S=.ok (.ref n) S1) (h2:S1[n]?=some (.lst xs)) (h3:ma e S1=.ok y S2) (h4:S2[n]?=some (.lst xs2)) (h5:xs2.length < sizeLine) :
  FH mo ma e S=.ok .non (S2.set n (.lst (xs2++[y]))):=by
 unfold FH;rw [h1];dsimp only [Res.bind];rw [h2];dsimp only;rw [h3];dsimp only [Res.bind];rw [h4];dsimp only;rw [if_pos h5]
theorem Tw {xs ys:List D} {S:Sto} (h:xs.length+ys.length<=sizeLine):CQ (.tup xs) (.tup ys) S=.ok (.tup (xs++ys)) S:=by
 unfold CQ;dsimp only;rw [if_pos h]
theorem C1 {n:Nat} {S:Sto} {xs:List D} (h:S[n]?=some (.lst xs)):C2 (.ref n) S=some xs:=by
 unfold C2 L9;dsimp only;rw [h]
theorem Fi {m:ME} {e:Lo} {S S1:Sto} {n:Nat} {xs:List D} (h:m e S=.ok (.ref n) S1) (hx:S1[n]?=some (.lst xs)):Ec m e S=.ok (C2 (.ref n)) S1:=by
 unfold Ec;rw [h];dsimp only [Res.bind];rw [C1 hx]
theorem Kv {m:ME} {e:Lo} {S S1:Sto} {xs:List D} (h:m e S=.ok (.tup xs) S1):Ec m e S=.ok (Bt xs) S1:=by
 unfold Ec;rw [h];rfl
theorem FL {ml:ML} {e:Lo} {S S1:Sto} {ds:List D} (h:ml e S=.ok ds S1):Ce ml e S=.ok (.ref S1.length) (S1++[.lst ds]):=by
 unfold Ce;rw [h];rfl
theorem Bx (S:Sto) (o:Ob):(S++[o])[S.length]?=some o:=by simp
theorem Ep {n:Nat} {S:Sto} {ds:List D} (h:S[n]?=some (.lst ds)):HL (.ref n) S=some ds:=by
 unfold HL;dsimp only;rw [h]
theorem Nr {n:Nat} {S:Sto} {ds:List D} (h:S[n]?=some (.lst ds)):Hh (.ref n) S=some ds:=by
 unfold Hh;dsimp only;rw [h]
theorem LY {m:ME} {e:Lo} {S S1:Sto} {d:D} {ds es:List D} (h:m e S=.ok d S1) (hi:Hh d S1=some ds) (hs:Kd ds=some es):GN m e S=.ok (.ref S1.length) (S1++[.lst es]):=by
 unfold GN;rw [h];dsimp only [Res.bind];rw [hi];dsimp only;rw [hs]
theorem NP {m:ME} {e:Lo} {S S1:Sto} {d:D} {ds:List D} (h:m e S=.ok d S1) (hq:HL d S1=some ds):JH m e S=.ok (.tup ds) S1:=by
 unfold JH;rw [h];dsimp only [Res.bind];rw [hq]
theorem Gg {m:ME} {e:Lo} {S S1:Sto} {d:D} {ds:List D} (h:m e S=.ok d S1) (hq:HL d S1=some ds):Eb m e S=.ok (.int ds.length) S1:=by
 unfold Eb;rw [h];dsimp only [Res.bind];rw [hq]
theorem Pz {C:AI} {f:Str} {mo mv:ME} {e:Lo} {S S1 S2:Sto} {n:Nat} {fs:List (Str×D)} {v:D} (hv:mv e S=.ok v S1) (ho:mo e S1=.ok (.ref n) S2) (hs:S2[n]?=some (.ins C fs)) (hl:fs.length < 1000) :
  PB C f mo mv e S=.ok (.nx e) (S2.set n (.ins C (Mm f v fs))):=by
 unfold PB;rw [hv];dsimp only [Res.lift];rw [ho];dsimp only [Res.lift];rw [hs];dsimp only;rw [if_pos ⟨rfl,hl⟩]
theorem TV {C:AI} {f:Str} {m:ME} {e:Lo} {S S1:Sto} {n:Nat} {fs:List (Str×D)} {v:D} (h:m e S=.ok (.ref n) S1) (hs:S1[n]?=some (.ins C fs)) (hl:fs.lookup f=some v):Er C f m e S=.ok v S1:=by
 unfold Er;rw [h];dsimp only [Res.bind];rw [hs];dsimp only;rw [if_pos rfl,hl]
theorem Zo {C:AI} {n:Nat} {f:List D->Sto->Res D} {ml:ML} {e:Lo} {S S1 S2:Sto} {ds:List D} (h:ml e S=.ok ds S1) (hn:ds.length+1=n) (hf:f (.ref S1.length :: ds) (S1++[.ins C []])=.ok .non S2):MF C n f ml e S=.ok (.ref S1.length) S2:=by
 unfold MF;rw [h];dsimp only [Res.bind];rw [if_pos hn,hf]
theorem BQ {m:ME} {r:ML} {e:Lo} {S S1 S2:Sto} {d:D} {ds:List D} (h:m e S=.ok d S1) (hr:r e S1=.ok ds S2):AE m r e S=.ok (d :: ds) S2:=by
 unfold AE;rw [h];dsimp only [Res.bind];rw [hr]
theorem Ia {n:Nat} {mi:MI} {g:MG} {c:MT} {m:ME} {e:Lo} {S S1:Sto} {v:Hk} (h:mi e S=.ok v S1):GX n mi g c m e S=GZ v g c m (CY v S1) 0 (An n none++e) S1 []:=by
 unfold GX;rw [h];rfl
theorem E5 {m:ME} {e:Lo} {S S1:Sto} {b:Bool} (h:m e S=.ok (.bl b) S1):mB m e S=.ok b S1:=by
 unfold mB;rw [h];rfl
theorem UH {f g:D->D->Sto->Res D} {ma mb mc:ME} {e:Lo} {S S1 S2 S3 S4 S5:Sto} {x y w d:D} (ha:ma e S=.ok x S1) (hb:mb e S1=.ok y S2) (hf:f x y S2=.ok (.bl true) S3) (hc:mc e S3=.ok w S4) (hg:g y w S4=.ok d S5):m3 f g ma mb mc e S=.ok d S5:=by
 unfold m3;rw [ha];dsimp only [Res.bind];rw [hb];dsimp only [Res.bind];rw [hf];dsimp only [Res.bind,okR];rw [hc];dsimp only [Res.bind];rw [hg]
theorem gC {f g:D->D->Sto->Res D} {ma mb mc:ME} {e:Lo} {S S1 S2 S3:Sto} {x y:D} (ha:ma e S=.ok x S1) (hb:mb e S1=.ok y S2) (hf:f x y S2=.ok (.bl false) S3):m3 f g ma mb mc e S=.ok (.bl false) S3:=by
 unfold m3;rw [ha];dsimp only [Res.bind];rw [hb];dsimp only [Res.bind];rw [hf];rfl
theorem KG {i j:Int} {S:Sto} {b:Bool} (h:decide (i<=j)=b):leD (.int i) (.int j) S=.ok (.bl b) S:=by subst h;rfl
theorem JI {i j:Int} {S:Sto} {b:Bool} (h:decide (i < j)=b):ltD (.int i) (.int j) S=.ok (.bl b) S:=by subst h;rfl
theorem QO {i j:Int} {S:Sto} {b:Bool} (h:decide (j < i)=b):gtD (.int i) (.int j) S=.ok (.bl b) S:=by subst h;rfl
theorem db {i j:Int} {S:Sto} {b:Bool} (h:decide (j<=i)=b):geD (.int i) (.int j) S=.ok (.bl b) S:=by subst h;rfl
theorem Hi {i j:Int} {S:Sto} {b:Bool} (h:decide (i=j)=b):eqD false (.int i) (.int j) S=.ok (.bl b) S:=by
 subst h;show Res.ok (D.bl (i==j)) S=_;rfl
theorem Lg {m:MT} {e:Lo} {S S1:Sto} {b:Bool} (h:m e S=.ok b S1):Nk m e S=.ok (!b) S1:=by
 unfold Nk;rw [h];rfl
theorem Na {C:AI} {ml:ML} {e:Lo} {S S1:Sto} {ds:List D} (h:ml e S=.ok ds S1) (hl:ds.length<=30):EA C ml e S=.ok (.ex C e) S1:=by
 unfold EA;rw [h];dsimp only [Res.lift];rw [if_pos (Aq hl (by decide))]
theorem bY {cs:List AI} {i:Nat} {b h:MS} {e e1 e2:Lo} {S S1 S2:Sto} {c:AI} (hb:b e S=.ok (.ex c e1) S1) (hc:c∈cs) (hh:h (e1.set i (some (.exc c))) S1=.ok (.nx e2) S2):ZC cs i b h e S=.ok (.nx (e2.set i none)) S2:=by
 unfold ZC;rw [hb];dsimp only [Res.bind];rw [if_pos hc,hh]
theorem IN {ml:ML} {e:Lo} {S S1:Sto} {ds:List D} (h:ml e S=.ok ds S1) (hl:ds.length<=1000):EC ml e S=.ok (.tup ds) S1:=by
 unfold EC;rw [h];dsimp only [Res.bind];rw [if_pos (Aq hl (by decide))]
theorem Xt {tab:String->Option Bool} {tabC:AI->Option Bool} {m:ME} {e:Lo} {S S1:Sto} {C:AI} {b:Bool} (h:m e S=.ok (.exc C) S1) (hb:tabC C=some b):mIs tab tabC m e S=.ok (.bl b) S1:=by
 unfold mIs;rw [h];dsimp only [Res.bind];rw [hb]
theorem cU {ta tb:MT} {e:Lo} {S S1:Sto} (h:ta e S=.ok true S1):mOr ta tb e S=.ok true S1:=by
 unfold mOr;rw [h];rfl
theorem cT {ta tb:MT} {e:Lo} {S S1:Sto} (h:ta e S=.ok false S1):mOr ta tb e S=tb e S1:=by
 unfold mOr;rw [h];rfl
theorem aQ {ta tb:MT} {e:Lo} {S S1:Sto} (h:ta e S=.ok true S1):Rc ta tb e S=tb e S1:=by
 unfold Rc;rw [h];rfl
theorem aP {ta tb:MT} {e:Lo} {S S1:Sto} (h:ta e S=.ok false S1):Rc ta tb e S=.ok false S1:=by
 unfold Rc;rw [h];rfl
theorem fN {m:ME} {e:Lo} {S S1:Sto} {d:D} {ds:List D} (h:m e S=.ok d S1) (hq:HL d S1=some ds):Rb m e S=.ok ds S1:=by
 unfold Rb;rw [h];dsimp only [Res.bind];rw [hq]
theorem bv {f:List D->Sto->Res D} {ml:ML} {e:Lo} {S S1 S2:Sto} {ds:List D} {d:D} (h:ml e S=.ok ds S1) (hf:f ds S1=.ok d S2):mQ f ml e S=.ok d S2:=by
 unfold mQ;rw [h];dsimp only [Res.bind];rw [hf];rfl
theorem Zt {acc:Str} {e:Lo} {S:Sto} (h:acc.length<=sizeLine):TJ acc e S=.ok acc S:=by
 unfold TJ;rw [if_pos h]
theorem Nq {m:ME} {r:MJ} {acc y z:Str} {e:Lo} {S S1 S2:Sto} (h:m e S=.ok (.str y) S1) (hl:(acc++y).length<=sizeLine) (hr:r (acc++y) e S1=.ok z S2):Im m r acc e S=.ok z S2:=by
 unfold Im;rw [h];dsimp only [Res.bind];rw [if_pos hl,hr]
theorem Zs {m:MJ} {e:Lo} {S S1:Sto} {y:Str} (h:m M7 e S=.ok y S1):PP m e S=.ok (.str y) S1:=by
 unfold PP;rw [h];rfl
theorem dg {m:ME} {e:Lo} {S S1:Sto} {i:Int} (h:m e S=.ok (.int i) S1) (hi:i.natAbs.log2 < 1920):Vb m e S=.ok (.str (toString i)) S1:=by
 unfold Vb;rw [h];dsimp only [Res.bind];rw [if_pos hi]
theorem Kq {n:Nat} {S:Sto} {ds:List D} (h:S[n]?=some (.lst ds)):Mq (.ref n) S=some ds:=by
 unfold Mq;dsimp only;rw [h]
def ch:Nat->Nat->Nat
 | _,0=>1
 | 0,_+1=>0
 | n+1,k+1=>ch n k+ch n (k+1)
theorem aG (n:Nat):ch n 0=1:=by cases n <;> rfl
theorem TX:∀ {n k:Nat},n < k->ch n k=0
 | 0,k+1,_=>rfl
 | n+1,k+1,h=>by
  show ch n k+ch n (k+1)=0;rw [TX (by lia),TX (by lia)]
theorem Ug:∀n:Nat,ch n n=1
 | 0=>rfl
 | n+1=>by
  show ch n n+ch n (n+1)=1;rw [Ug n,TX (by lia)]
theorem YS:∀ {n k:Nat},k<=n->0 < ch n k
 | n,0,_=>by rw [aG];exact Nat.zero_lt_one
 | n+1,k+1,h=>by
  show 0 < ch n k+ch n (k+1);have:=YS (n:=n) (k:=k) (by lia)
  lia
theorem Xx (j:Nat):∀d:Nat,((Ac (d+1)).map λi=>ch (i+j) j).sum=ch (d+j+1) (j+1)
 | 0=>by
  simp [Ug]
 | d+1=>by
  rw [DB,A3,OF,Xx j d];show _=ch (d+1+j) j+ch (d+1+j) (j+1);rw [A5,Lw,KZ,List.sum_nil,show d+1+j=d+j+1 by lia]
  lia
end L2
namespace L2
open PySem PySem.Spec PyProof.Rows
section
variable {X:Cx} {E:EW} {e:Expr} {tg:Expr}
end
def tCs (cs:List V):TA:=λ_ H Q=>Q cs H
section
variable {X:Cx} {E:EW} {e:Expr} {es:List Expr} {p pos p2:Pos} {x1:Nat} {m:ME} {c:V} {cs:List V} {Cs:List AI} {tabC:AI->Option Bool}
theorem fg:PA X [] (tCs []):=He
theorem VU (h:PE X e (tC c)) (hr:PA X es (tCs cs)) (hs:AX (e :: es) X.env=(false,B0 e X.env) :: AX es X.env:=by rfl):PA X (e :: es) (tCs (c :: cs)):=FI h hr hs
def rIsT (K:AA) (Cs:List AI):List V->Hp->VK->Prop:=λxs H Q=>
 ∃a o u C b tp,xs=[.ref a,.ref tp]/\H a=some (.frz o u)/\Ov o C/\XIs K C/\H tp=some (.tup (Cs.map V.ref))/\Cv K (.ref C) (Cs.map Au)=some b/\Q (.bl b) H
theorem O3:∀ {l:List AI} {us:List AD},BU (l.map V.ref) us->us=l.map Au
 | [],_,.nil=>rfl
 | a :: l,_,.cons r t=>by rw [O3 t,show _=Au a from r];rfl
theorem YT:IF X (.builtin "isinstance") (rIsT X.K Cs):=by
 intro pins s σ H xs us Q I r h;obtain ⟨a,o,u,C,b,tp,rfl,ha,xo,xc,ht,e,q⟩:=h;obtain ⟨v,w,rfl,r1,r2⟩:=vals2 r;cases (show v=Au a from r1);cases (show w=Au tp from r2);obtain ⟨g,_⟩:=(show Cn X.prog X.w H s.heap a (.frz o u) from I.hok a _ ha);obtain ⟨_,is,rv,⟨cl,dd,dt,sl⟩,ho,hcl,n,hd⟩:=(show Cn X.prog X.w H s.heap tp (.tup (Cs.map V.ref)) from I.hok tp _ ht);dsimp only at hcl hd;subst hcl hd;rw [<-O3 rv] at e
 exact PySem.W.kia_tup (Rj xc) I.kIn ⟨o,g,xo⟩ ho e (λz=>nomatch z) λtk=>⟨.bl b,H,I.tok tk,rfl,q⟩
def Xg (tabC:AI->Option Bool) (m:ME):ME:=λe S=>(m e S).bind λd S1=>match d with
 | .exc C=>match tabC C with
  | some b=>.ok (.bl b) S1
  | none=>.bad
 | _=>.bad
theorem dX (hC:∀C b,tabC C=some b->XIs X.K C/\Cv X.K (.ref C) (Cs.map Au)=some b) (hz:Cs.length<=1000)
  (hg:Gl X "isinstance") (hm:X.mg "isinstance" = none) (h:GE X E e m) (hce:PA X es (tCs (Cs.map V.ref)))
  (he:AX [e,.Tuple es x1 p2] X.env=(false,B0 e X.env) :: AX [.Tuple es x1 p2] X.env:=by rfl) (he2:AX [.Tuple es x1 p2] X.env=(false,B0 (.Tuple es x1 p2) X.env) :: AX [] X.env:=by rfl) (hpl:(Ej pos (AX [.Tuple es x1 p2] X.env)).any (·.1)=false:=by rfl) :
  GE X E (.Call (.Name "isinstance" p) [e,.Tuple es x1 p2] [] pos) (Xg tabC m):=
 (Hu YT hg hm KO (FI h (FI (XH hce) He he2) he) (by decide) (by decide) he hpl).imp λσ H Q ⟨ρ,l,S,hl,hs,hm⟩=>by
 refine ⟨ρ,l,S,hl,hs,hm.seq λd S1 hm ρ1 H1 x l1 s1 r1=>⟨by rw [AK];exact Aq hz (by decide),λtp hp=>?_⟩⟩
 cases d with
 | exc C=>
  dsimp only at hm
  cases hb:tabC C with
  | none=>rw [hb] at hm;exact hm.elim
  | some b=>
   rw [hb] at hm;obtain ⟨s2,l2⟩:=Fc (ho:=.tup (Cs.map V.ref)) s1 hp
   cases r1 with
   | @exc _ a o u g xo=>
    exact ⟨a,o,u,C,b,tp,rfl,l2.frz _ _ _ g,xo,(hC C b hb).1,Be,(hC C b hb).2,hm ρ1 _ _ (l1.trans l2) s2 (.bl _)⟩
 | _=>exact hm.elim
end
end L2
namespace L2
open PySem PySem.Spec PyProof.Rows
def pickG {α:Type} (xs:List α) (lo hi st:Option Int):List α:=(sliceRange (Ee lo hi st xs.length).1 (Ee lo hi st xs.length).2.1 (Ee lo hi st xs.length).2.2).filterMap (xs[·]?)
theorem VM {α β:Type} (f:α->β) (xs:List α) (lo hi st:Option Int):pickG (xs.map f) lo hi st=(pickG xs lo hi st).map f:=by
 unfold pickG;rw [AK,List.map_filterMap]
 congr 1
 funext i
 rw [AV]
theorem Jt (its:List AD) (lo hi st:Option Int):WA its.toArray lo hi st=(pickG its lo hi st).toArray:=by
 unfold WA pickG;simp only [Ab,List.getElem?_toArray]
theorem BU.pickIx {xs:List V} {us:List AD} (r:BU xs us):∀is:List Nat,BU (is.filterMap (xs[·]?)) (is.filterMap (us[·]?))
 | []=>.nil
 | i :: is=>by
  have ih:=BU.pickIx r is
  cases hx:xs[i]? with
  | none=>
   have hu:us[i]?=none:=by
    rw [CJ] at hx ⊢;rw [<-r.length];exact hx
   rw [FP (by simpa using hx),FP (by simpa using hu)];exact ih
  | some x=>
   obtain ⟨u,hu,ru⟩:=r.get hx;rw [FO (by simpa using hx),FO (by simpa using hu)];exact .cons ru ih
theorem BU.pickG {xs:List V} {us:List AD} (r:BU xs us) (lo hi st:Option Int):BU (L2.pickG xs lo hi st) (L2.pickG us lo hi st):=by
 unfold L2.pickG;rw [r.length];exact r.pickIx _
theorem At.pickIx {K:AA} {ρ:List AI} {H:Hp} {ds:List D} {vs:List V} (r:At K ρ H ds vs):∀is:List Nat,At K ρ H (is.filterMap (ds[·]?)) (is.filterMap (vs[·]?))
 | []=>.nil
 | i :: is=>by
  have ih:=At.pickIx r is
  cases hx:ds[i]? with
  | none=>
   have hu:vs[i]?=none:=by
    rw [CJ] at hx ⊢;rw [<-r.length];exact hx
   rw [FP (by simpa using hx),FP (by simpa using hu)];exact ih
  | some x=>
   obtain ⟨u,hu,ru⟩:=r.get hx;rw [FO (by simpa using hx),FO (by simpa using hu)];exact .cons ru ih
theorem At.pickG {K:AA} {ρ:List AI} {H:Hp} {ds:List D} {vs:List V} (r:At K ρ H ds vs) (lo hi st:Option Int):At K ρ H (L2.pickG ds lo hi st) (L2.pickG vs lo hi st):=by
 unfold L2.pickG;rw [r.length];exact r.pickIx _
section
variable {X:Cx} {E:EW} {e st:Expr} {te:TE} {lo hi:Option Expr} {tl th ts:TO} {pos p2:Pos} {m:ME} {ml mh ms:MO}
def tSlS (K:AA) (te:TE) (tl th ts:TO):TE:=λσ H Q=>te σ H λx H1=>tl σ H1 λl H2=>th σ H2 λu H3=>ts σ H3 λc H4=>
 ∃a xs,x=.ref a/\SqL K H4 a xs/\c≠some 0/\∀p,H4 p=none->Q (.ref p) (upd H4 p (.lst (pickG xs l u c)))
theorem VQ (he:PE X e te) (hl:PO X lo tl) (hu:PO X hi th) (hst:PO X (some st) ts):PE X (.Subscript e (.Slice lo hi (some st) p2) pos) (tSlS X.K te tl th ts):=by
 intro pins s σ H Q I h;refine SO (thn (he pins s σ H _ I h) λv s1 ⟨x,H1,I1,r1,q1⟩=>?_);refine wpAny_Slice (thn (hl pins s1 σ H1 _ I1 q1) λvl s2 ⟨l,H2,I2,pl,q2⟩=>thn (hu pins s2 σ H2 _ I2 q2) λvu s3 ⟨u,H3,I3,pu,q3⟩=>?_)
 refine thn (hst pins s3 σ H3 _ I3 q3) λvc s3 ⟨c,H3,I3,pc,q3⟩=>?_
 have I4:Inv X pins σ H3 { s3 with heap:=s3.heap.push { cls:=.type "slice",data:=.fields #[vl,vu,vc] } }:=I3.kept (t':=s3.toks) λb ob q=>AJ _ q
 obtain ⟨a,xs,rfl,hx,hc,q⟩:=q3;cases r1;obtain ⟨its,r,ht,hz⟩:=I4.list hx;show Ah (AW X.prog X.w) X.A (Ms e (.Slice lo hi (some st) p2) (.ref a) (.ref s3.heap.objs.size)) (EP X pins σ Q) X.xe { s3 with heap:=s3.heap.push { cls:=.type "slice",data:=.fields #[vl,vu,vc] } };refine tail_any (ops:=[.ref a,.ref s3.heap.objs.size]) ht.isList.typeIs OM.lookup ?_ (by with_unfolding_all rfl);have hlen:=r.length;refine Uo ht.isList (OI ..) pl pu pc hc ?_ (by rw [Ab] <;> lia);rw [Jt]
 have hle:(pickG xs l u c).length<=xs.length:=by
  have:=slicePick_size_le its.toArray l u c;rw [Jt,Ab,Ab,<-(r.pickG l u c).length,<-hlen] at this;exact this
 refine ⟨.ref _,_,I4.laid (t':=s3.toks) (o:=.lst (pickG xs l u c)) (λb ob q=>AJ _ q) (AS _) ?_,rfl,q _ (I4.hok.fresh (AS _))⟩;exact ⟨Aq hle hz,_,0,r.pickG l u c,Af _ rfl⟩
def M1 (m:ME) (ml mh ms:MO):ME:=λe S=>(m e S).bind λd S1=>(ml e S1).bind λlo S2=>(mh e S2).bind λhi S3=>(ms e S3).bind λst S4=>match Mq d S4 with
 | some ds=>if st=some 0 then .bad else .ok (.ref S4.length) (S4++[.lst (pickG ds lo hi st)])
 | none=>.bad
theorem Vo (he:GE X E e m) (hl:GO X E lo ml) (hu:GO X E hi mh) (hst:GO X E (some st) ms):GE X E (.Subscript e (.Slice lo hi (some st) p2) pos) (M1 m ml mh ms):=(VQ he hl hu hst).imp λσ H Q ⟨ρ,l,S,hl,hs,hm⟩=>by
 refine ⟨ρ,l,S,hl,hs,hm.seq λd S1 hm ρ1 H1 x l1 s1 r1=>⟨ρ1,l,S1,hl.mono l1,s1,(hm.later l1).seq λlo S2 hm ρ2 H2 l2 s2=>⟨ρ2,l,S2,hl.mono (l1.trans l2),s2,(hm.later l2).seq λhi S3 hm ρ3 H3 l3 s3=>⟨ρ3,l,S3,hl.mono (l1.trans (l2.trans l3)),s3,(hm.later l3).seq λst S4 hm ρ4 H4 l4 s4=>?_⟩⟩⟩⟩;have r4:=r1.mono (l2.trans (l3.trans l4))
 cases hq:Mq d S4 with
 | none=>rw [hq] at hm;exact hm.elim
 | some ds=>
  rw [hq] at hm;dsimp only at hm;split at hm
  ·exact hm.elim
  ·rename_i hc
   obtain ⟨p,xs,rfl,rr,sq⟩:=IT s4 r4 hq;refine ⟨p,xs,rfl,sq,hc,λq hq=>?_⟩;have le:Le X.K ρ4 H4 (ρ4++[q]) (upd H4 q (.lst (pickG xs lo hi st))):=Le.alloc hq;obtain ⟨s5,l5,at5⟩:=s4.alloc (ho:=.lst (pickG xs lo hi st)) (o:=.lst (pickG ds lo hi st)) hq ⟨_,Be,(rr.pickG lo hi st).mono le⟩;exact hm _ _ _ (l1.trans (l2.trans (l3.trans (l4.trans l5)))) s5 (.ref at5)
end
section
variable {X:Cx} {E:EW} {e:Expr} {p pos:Pos} {m:ME}
end
end L2
namespace PySem
open Sem (wp)
open AutoSeq1 (wpAny_loadPart')
theorem JG (l:AI) (items:Array AD) (n:Nat) (dct:Option AI) (sl:Array (Option AD)) :
  Meets (Builtin.«enumerate.__new__» ⟨[.type "enumerate",.ref l],[]⟩) (λ_ R s=>s.heap.get? l=some { cls:=.type "tuple",dict:=dct,data:=.seq items n,slots:=sl } /\
   R (.ok (.ret (.ref (s.heap.push { cls:=.type "tuple_iterator",data:=.fields #[.ref l,.int 0 0] }).objs.size)))
    { s with heap:=(s.heap.push { cls:=.type "tuple_iterator",data:=.fields #[.ref l,.int 0 0] }).push { cls:=.type "enumerate",data:=.fields #[.none,.bool false,.ref s.heap.objs.size,ES 0,.none,.none] } }):=
 .of_wp λprog w A R s h=>by
  obtain ⟨hp,g,d,tk,os⟩:=s;obtain ⟨hl,h⟩:=h;have hsub:=sub_enumerate;have hL:Bk.IsTuple (AF.heap ⟨hp,g,d,tk,os⟩) l items:=⟨_,hl,rfl,n,rfl⟩
  wp_walk using KL hl
  refine wpAny_stack_any λst=>AM ?_
  split
  ·rename_i c _ _ _ _ _
   cases (c==FX "enumerate")
   ·wp_walk using KL hl,Fv hL
    exact ⟨_,rfl,h⟩
   ·wp_walk using KL hl,Fv hL
    exact ⟨_,rfl,h⟩
  ·wp_walk using KL hl,Fv hL
   exact ⟨_,rfl,h⟩
section
variable {prog:Ar} {w:BG} {A:A8} {E:AD->AF->Prop} {s:AF}
theorem JT {l:AI} {items:Array AD} {Q:AD->AF->Prop} (hL:s.heap.IsTuple l items)
  (h:∀h',Pq h' (s.heap.objs.size+1) s.heap.objs.size 0 .none->h'.IsTupleIter s.heap.objs.size l 0->h'.objs.size=s.heap.objs.size+2 ->
   (∀b o,s.heap.get? b=some o->h'.get? b=some o)->Q (.ref (s.heap.objs.size+1)) { s with heap:=h' }) :
  Ah (AW prog w) A (call (.type "enumerate") [.ref l]) Q E s:=by
 obtain ⟨⟨c,dct,dt,sl⟩,hl,hc,n,hd⟩:=hL
 replace hc:c=.type "tuple":=hc
 replace hd:dt=.seq items n:=hd
 subst hc hd
 refine callType_new F.called_enumerate (by decide) (F.typeCall_enumerate_1 _) (F.newCall_enumerate_1 _) (λobj=>Wb obj _) F.entry_enumerate_new
  (JG l items n dct sl) ⟨hl,?_⟩
 have hz:(s.heap.push { cls:=.type "tuple_iterator",data:=.fields #[.ref l,.int 0 0] }).objs.size=s.heap.objs.size+1:=HP ..;show _/\_;rw [hz]
 have he:Pq ((s.heap.push { cls:=.type "tuple_iterator",data:=.fields #[.ref l,.int 0 0] }).push
   { cls:=.type "enumerate",data:=.fields #[.none,.bool false,.ref s.heap.objs.size,ES 0,.none,.none] }) (s.heap.objs.size+1) s.heap.objs.size 0 .none:=by
  have:=Af (s.heap.push { cls:=.type "tuple_iterator",data:=.fields #[.ref l,.int 0 0] })
   (o:={ cls:=.type "enumerate",data:=.fields #[.none,.bool false,.ref s.heap.objs.size,ES 0,.none,.none] }) rfl
  rw [hz] at this;exact this
 refine ⟨⟨_,he,rfl⟩,h _ he ⟨_,AJ _ (Af _ rfl),rfl,rfl⟩ (by rw [HP,hz]) λb o x=>AJ _ (AJ _ x)⟩
theorem Kn {it t:AI} {i:Nat} {items} {x:AD} {Q:AD->AF->Prop} (hit:s.heap.IsTupleIter it t i)
  (ht:s.heap.IsTuple t items) (hx:items[i]?=some x)
  (hQ:∀h',h'.IsTupleIter it t (i+1)->EM it s.heap h'->Q x { s with heap:=h' }) :
  Ah (AW prog w) A (D9 (.ref it)) Q E s:=by
 obtain ⟨o,ho,hc,hd⟩:=id hit;obtain ⟨ol,hol,_,nl,hdl⟩:=ht;unfold D9
 refine AB (DL (name:=HI "__next__") hit.typeIs FF
  (Dd FF hit.typeIs Qt ?_ (Pr _)))
 show Ah _ _ (field (.ref it) 0 >>= _) _ _ s;refine AB (DD ho hd (x:=.ref t) rfl ?_);show Ah _ _ (if (Au t==BO)=true then _ else _) _ _ s;rw [if_neg (show ¬((Au t==BO)=true) from AR)];show Ah _ _ (field (.ref it) 1 >>= _) _ _ s;refine AB (DD ho hd (x:=.int i 0) rfl ?_);show Ah _ _ (seqItems? (.ref t) >>= _) _ _ s;refine AB (wpAny_seqItems hol hdl ?_);simp only [Bf,hx];refine AB (FJ ho hd (by simp) (AM ⟨x,rfl,AM (hQ _ ?_ (Fx ..))⟩))
 exact ⟨_,Ef _ ho (El (CG hd _)),(IG ..).trans hc,by
  rw [CG hd];simp [ES]⟩
theorem Hw {it t:AI} {i:Nat} {items} {Q:AD->AF->Prop} (hh:A.handled=none)
  (hit:s.heap.IsTupleIter it t i) (ht:s.heap.IsTuple t items) (hx:items[i]?=none)
  (hE:∀h' e,Tu it s.heap h'->(∃o,h'.get? e=some o/\o.cls=.type "StopIteration")->E (.ref e) { s with heap:=h' }) :
  Ah (AW prog w) A (D9 (.ref it)) Q E s:=by
 obtain ⟨o,ho,hc,hd⟩:=id hit;obtain ⟨ol,hol,_,nl,hdl⟩:=ht;unfold D9
 refine AB (DL (name:=HI "__next__") hit.typeIs FF
  (Dd FF hit.typeIs Qt ?_ (Pr _)))
 show Ah _ _ (field (.ref it) 0 >>= _) _ _ s;refine AB (DD ho hd (x:=.ref t) rfl ?_);show Ah _ _ (if (Au t==BO)=true then _ else _) _ _ s;rw [if_neg (show ¬((Au t==BO)=true) from AR)];show Ah _ _ (field (.ref it) 1 >>= _) _ _ s;refine AB (DD ho hd (x:=.int i 0) rfl ?_);show Ah _ _ (seqItems? (.ref t) >>= _) _ _ s;refine AB (wpAny_seqItems hol hdl ?_);simp only [Bf,hx];refine AB (bE (AB (FJ ho hd (by simp) ?_)));show Ah _ _ (newExc (.type "StopIteration") [] >>= _) _ _ _;refine AB ?_;simp only [newExc,newTuple];refine AB (Bj ?_ (by size_fits));refine AB (m:=LQ _ _) (Ql (a:=BO) (by first | rfl | (simp only [LQ];rfl)) ?_);refine Bj ?_ (by size_fits);simp only [raiseNew];refine AB (wpAny_handled ?_)
 first | rw [show A.in1.handled=none from hh] | rw [hh]
 refine AB (AM (wpAny_throw ?_));exact hE _ _ (((Fx ..).extBut.push _).push _) ⟨_,Af _ rfl,rfl⟩
theorem R5 {prog:Ar} {w:BG} {A:A8} (hh:A.handled=none) (it l:AI) (hne:l≠it) (items:Array AD) :
  Draws prog w A it [it,l] items.size (λi v=>items[i]?=some v) (λi h=>h.IsTupleIter it l i/\h.IsTuple l items) where
 live:=λ_ _ st=>let ⟨o,ho,_⟩:=st.1;⟨o,ho⟩
 frame:=λ_ _ _ st hk=>⟨st.1.at λo e=>hk it (by simp) o e,let ⟨o,ho,r⟩:=st.2;⟨o,hk l (by simp) o ho,r⟩⟩
 item:=λi s Q E hi st hQ=>by
  refine Kn st.1 st.2 (x:=items[i]) (by simp [hi]) λh' hit' hs'=>?_
  exact hQ _ h' s.toks (by simp [hi]) ⟨hit',st.2.extBut hs'.extBut hne⟩ hs'
 done:=λs Q E st hE=>Hw hh st.1 st.2 (by simp) hE
theorem Jl {e it l:AI} {i:Nat} {items:Array AD} {old:AD} {Q:Option AD->AF->Prop} (hh:A.handled=none)
  (he:Pq s.heap e it i old) (hit:s.heap.IsTupleIter it l i) (hl:s.heap.IsTuple l items) (hx:items[i]?=none)
  (hQ:∀h',Tu it s.heap h'->Q none { s with heap:=h' }):Ah (AW prog w) A (Ph (.ref e)) Q E s:=by
 have hT:s.TypeIs (.ref e) "enumerate":=⟨_,he,rfl⟩;unfold Ph
 refine AB (HF (DL (name:=HI "__next__") hT WO
  (Dd WO hT F.entry_enumerate_next ?_ (F.args_enumerate_next_1 _))))
 show Ah _ _ (field (.ref e) 2 >>= _) _ _ _;refine AB (DD he rfl (x:=.ref it) rfl ?_);refine AB (Hw hh hit hl hx λh' x he' hx'=>?_);obtain ⟨o,ho,hc⟩:=hx';refine AB (eZ (T:="StopIteration") (b:=true) ⟨o,ho,hc⟩ isSubtype_stop ?_);exact AM (hQ _ he')
end
end PySem
namespace L2
open PySem PySem.Spec PyProof.Rows
theorem Inv.turned2 {X:Cx} {pins:List (AI×Obj)} {σ:List (Option V)} {H:Hp} {s:AF} {h':Bk} {t':Nat} {e it a:AI} {o:HO} (I:Inv X pins σ H s) (k:∀b u,b≠e->b≠it->s.heap.get? b=some u->h'.get? b=some u)
  (fe:KI X pins H e) (fi:KI X pins H it) (ha:s.heap.objs.size<=a) (new:Cn X.prog X.w (upd H a o) h' a o):Inv X pins σ (upd H a o) { s with heap:=h',toks:=t' }:=by
 have hn:=I.hok.fresh ha
 have nit:∀b u,H b=some u->b≠e/\b≠it:=λb u q=>⟨λz=>(by rw [z,fe.1] at q;cases q),λz=>(by rw [z,fi.1] at q;cases q)⟩
 have out:∀b:AI,b∉[e,it]->b≠e/\b≠it:=λb hb=>⟨λz=>hb (by simp [z]),λz=>hb (by simp [z])⟩
 refine I.step (g':=s.gens) (d':=s.drawn) (ch:=[e,it]) (λb hb=>?_) (λb o _ _ hc q _=>k b o (out b hc).1 (out b hc).2 q) (λb o _ _ hc q _=>⟨o.slots,k b o (out b hc).1 (out b hc).2 q⟩) (λb o _ q n=>?_)
  (λb o hc q=>⟨o,k b o (out b hc).1 (out b hc).2 q⟩) (λb xs q=>by rw [BR (Bh q hn)];exact q) (λb o u q=>by rw [BR (Bh q hn)];exact q) (λb ps q=>⟨#[],by rw [BR (Bh q hn),q];simp⟩) (λm hm=>?_) (λb u q=>?_) I.bare
 ·have hb':b=e∨b=it:=by simpa using hb
  rcases hb' with z | z
  ·subst z;exact ⟨fe.2.2.2.1,fe.2.1,fe.2.2.2.2.1,fe.2.2.2.2.2⟩
  ·subst z;exact ⟨fi.2.2.2.1,fi.2.1,fi.2.2.2.2.1,fi.2.2.2.2.2⟩
 ·rw [BR (Ax (Ad (Aa q) ha))];exact n
 ·obtain ⟨o,es,ep,ho,r⟩:=hm
  exact ⟨o,es,ep,k _ o (CS fe.2.1) (CS fi.2.1) ho,r⟩
 ·by_cases hb:b=a
  ·subst hb;rw [Be] at q;cases q;exact new
  ·rw [BR hb] at q
   refine (I.hok b u q).stay (λc v hc r=>?_) (λc r=>by rw [BR (Bh r hn)];exact r) λc xs r=>by rw [BR (Bh r hn)];exact r
   have:c≠e/\c≠it:=by
    rcases hc with z | z
    ·rw [z];exact nit b u q
    ·exact nit c _ z
   exact k c v this.1 this.2 r
def Ite (sq:Hp->List V->Prop):It:=
 ⟨λi H=>∃xs x,sq H xs/\xs[i]?=some x,λi H y H'=>∃p x,H p=none/\y=.ref p/\H'=upd H p (.tup [.int i,x])/\∀xs,sq H xs->xs[i]?=some x,λi H=>∃xs,sq H xs/\xs.length<=i⟩
section
variable {P:Ar} {w:BG} {K:AA} {elts:List Expr} {x1:Nat} {pos:Pos}
theorem PX {X:Cx} {pins:List (AI×Obj)} {σ:St} {H:Hp} {s:AF} {E:AD->AF->Prop} {sq:Hp->List V->Prop} {e it:AI} {i:Nat} {x:V} {u:AD} {tk:Nat} {h':Bk} {tn:Nat->Bk->Prop}
  (I:Inv X pins σ H s) (hne:e≠it) (hf:∀b∈[e,it],KI X pins H b) (le:e < s.heap.objs.size) (li:it < s.heap.objs.size) (ru:RelV x u) (hx:∀xs,sq H xs->xs[i]?=some x)
  (ho:IsEnumOut h' e it ((i:Int)+1) u s.heap.objs.size) (hT:h'.get? s.heap.objs.size=some { cls:=.type "tuple",data:=.seq #[.int i tk,u] }) (hk:∀b o,b≠e->b≠it->s.heap.get? b=some o->h'.get? b=some o)
  (ht:∀h2,EM e h' h2->(∃old,Pq h2 e it ((i+1:Nat):Int) old)->tn (i+1) h2) :
  Ah (AW X.prog X.w) X.A (KN (.Tuple elts x1 pos) (.ref e) (.ref s.heap.objs.size)) (λ_ s2=>∃y H',Inv X pins σ H' s2/\RelV y (.ref s.heap.objs.size)/\(Ite sq).yld i H y H'/\tn (i+1) s2.heap/\∀b∈[e,it],H' b=none) E { s with heap:=h',toks:=tk+1 }:=by
 have fe:=hf e (by simp);have fi:=hf it (by simp);have ne:e≠s.heap.objs.size:=Ax le;have ni:it≠s.heap.objs.size:=Ax li
 have new:Cn X.prog X.w (upd H s.heap.objs.size (.tup [.int i,x])) h' s.heap.objs.size (.tup [.int i,x]):=
  ⟨Aq (show 2<=1000 by decide) (by decide),[.int i tk,u],.cons ⟨tk,rfl⟩ (.cons ru .nil),_,hT,rfl,_,rfl⟩
 have I1:=I.turned2 (t':=tk+1) hk fe fi (AS _) new
 refine wpAny_letOwnedTupleGo_enum (s:={ s with heap:=h',toks:=tk+1 }) ho λh2 he2 hs2=>?_
 have hs2':EM e h' h2:=hs2;have I2:=I1.turned (t':=tk+1) (h':=h2) (it:=e) (λb o hb q=>(hs2'.2 b hb).trans q) (by rw [BR ne];exact fe.1) fe.2.1 fe.2.2.2.1 fe.2.2.2.2.1 fe.2.2.2.2.2;refine ⟨.ref s.heap.objs.size,_,I2,rfl,⟨s.heap.objs.size,x,I.hok.fresh (AS _),rfl,rfl,hx⟩,ht h2 hs2' ⟨u,by rw [ag,Int.natCast_one];exact he2⟩,λb hb=>?_⟩
 have hb':b=e∨b=it:=by simpa using hb
 rcases hb' with z | z
 ·rw [z,BR ne];exact fe.1
 ·rw [z,BR ni];exact fi.1
theorem Sb (a e it:AI) (hne:e≠it):Qg P w K (.Tuple elts x1 pos) (Ite λH xs=>SqL K H a xs) [e,it] e (λi h=>(∃old,Pq h e it i old)/\h.IsListIter it a i) where
 mem:=by simp
 obj:=λi h st b hb=>by
  have hb':b=e∨b=it:=by simpa using hb
  rcases hb' with z | z
  ·subst z
   obtain ⟨⟨old,he⟩,_⟩:=st
   exact ⟨_,he,λv z=>by
    have z':NG _=Q3 v:=z
    cases z'⟩
  ·subst z
   obtain ⟨_,o,e,c,d⟩:=st;exact ⟨o,e,λv z=>by rw [d] at z;cases z⟩
 keep:=λi h h' st k=>⟨st.1.imp λold he=>k e (by simp) _ he,st.2.at λo q=>k it (by simp) o q⟩
 item:=by
  intro X hP hw hK hc i pins s σ H E I hf st hg;subst hP hw hK;obtain ⟨xs,x,hq,hx⟩:=hg;obtain ⟨its,rv,p,hz⟩:=I.list hq;obtain ⟨u,hu,ru⟩:=rv.get hx;obtain ⟨⟨old,he⟩,hit⟩:=st
  have li:it < s.heap.objs.size:=by obtain ⟨o,q,_⟩:=hit;exact Aa q
  refine wpAny_pyNext_enum_item he hit p.isList (x:=u) (by simpa using hu) hne λh' ho hit' hT hsz hk=>?_
  exact ⟨_,rfl,PX (sq:=λH xs=>SqL X.K H a xs) (tn:=λi h=>(∃old,Pq h e it i old)/\h.IsListIter it a i) I hne hf (Aa he) li ru (λys hy=>by rw [I.list_inj hy hq];exact hx) ho hT hk λh2 hs2 he2=>⟨he2,hit'.at λo q=>(hs2.2 it (CS hne)).trans q⟩⟩
 done:=by
  intro X hP hw hK hc i pins s σ H E I hf st hg;subst hP hw hK;obtain ⟨xs,hq,hx⟩:=hg;obtain ⟨its,rv,p,hz⟩:=I.list hq;obtain ⟨⟨old,he⟩,hit⟩:=st;obtain ⟨f0,f1,f2,f3,f4,f5⟩:=hf it (by simp);have hl:=rv.length
  exact wpAny_pyNext_enum_end (I.ok.hd hc) he hit p.isList (by simp;lia) λh' eb=>⟨rfl,I.turned (t':=s.toks) (λb o hb e=>eb b o hb e) f0 f1 f3 f4 f5⟩
 self:=λ_ _ _ _ _ st h=>by
  obtain ⟨⟨old,he⟩,_⟩:=st;exact Ix he h
theorem Sa (a e it:AI) (hne:e≠it) (hae:a≠it) (hef:e≠a):Qg P w K (.Tuple elts x1 pos) (Ite λH xs=>SqT K H a xs) [e,it] e (λi h=>(∃old,Pq h e it i old)/\h.IsTupleIter it a i) where
 mem:=by simp
 obj:=λi h st b hb=>by
  have hb':b=e∨b=it:=by simpa using hb
  rcases hb' with z | z
  ·subst z
   obtain ⟨⟨old,he⟩,_⟩:=st
   exact ⟨_,he,λv z=>by
    have z':NG _=Q3 v:=z
    cases z'⟩
  ·subst z
   obtain ⟨_,o,e,c,d⟩:=st;exact ⟨o,e,λv z=>by rw [d] at z;cases z⟩
 keep:=λi h h' st k=>⟨st.1.imp λold he=>k e (by simp) _ he,st.2.at λo q=>k it (by simp) o q⟩
 item:=by
  intro X hP hw hK hc i pins s σ H E I hf st hg;subst hP hw hK;obtain ⟨xs,x,hq,hx⟩:=hg;obtain ⟨its,rv,p,hz⟩:=I.tuple hq;have p':s.heap.IsTuple a its.toArray:=p;obtain ⟨u,hu,ru⟩:=rv.get hx
  have hlt:i < its.toArray.size:=by
   have:=(AG.mp hu).1;simpa using this
  obtain ⟨⟨old,he⟩,hit⟩:=st
  have li:it < s.heap.objs.size:=by obtain ⟨o,q,_⟩:=hit;exact Aa q
  refine wpAny_pyNext_enum_itemD (R5 (A:=X.A.in1) (I.ok.hd hc) it a hae its.toArray) he ⟨hit,p'⟩ hlt hne (by simp [hne,hef]) λu' h' tk hu' ho hst' hT hsz hk=>?_
  have:u'=u:=by
   have hu2:its[i]?=some u':=by simpa using hu'
   rw [hu] at hu2;cases hu2;rfl
  subst this;exact ⟨_,rfl,PX (sq:=λH xs=>SqT X.K H a xs) (tn:=λi h=>(∃old,Pq h e it i old)/\h.IsTupleIter it a i) I hne hf (Aa he) li ru (λys hy=>by rw [I.tuple_inj hy hq];exact hx) ho hT hk λh2 hs2 he2=>⟨he2,hst'.1.at λo q=>(hs2.2 it (CS hne)).trans q⟩⟩
 done:=by
  intro X hP hw hK hc i pins s σ H E I hf st hg;subst hP hw hK;obtain ⟨xs,hq,hx⟩:=hg;obtain ⟨its,rv,p,hz⟩:=I.tuple hq;obtain ⟨⟨old,he⟩,hit⟩:=st;obtain ⟨f0,f1,f2,f3,f4,f5⟩:=hf it (by simp);have hl:=rv.length
  exact Jl (I.ok.hd hc) he hit (show s.heap.IsTuple a its.toArray from p) (by simp;lia) λh' eb=>⟨rfl,I.turned (t':=s.toks) (λb o hb e=>eb b o hb e) f0 f1 f3 f4 f5⟩
 self:=λ_ _ _ _ _ st h=>by
  obtain ⟨⟨old,he⟩,_⟩:=st;exact Ix he h
end
section
variable {X:Cx} {E:EW} {e:Expr} {elts:List Expr} {x1:Nat} {p pos ptg:Pos} {m:ME} {ta:TA}
def gZ (K:AA) (ta:TA):TI:=λσ H R=>ta σ H λvs H1=>∃a,vs=[.ref a]/\(((∃xs,SqL K H1 a xs)/\R (Ite λH xs=>SqL K H a xs) H1)∨((∃xs,SqT K H1 a xs)/\R (Ite λH xs=>SqT K H a xs) H1))
theorem ZT (hg:Gl X "enumerate") (hm:X.mg "enumerate" = none) (ha:PA X [e] ta) (hs:AX [e] X.env=[(false,B0 e X.env)]:=by rfl):PI X (.Tuple elts x1 ptg) (.Call (.Name "enumerate" p) [e] [] pos) (gZ X.K ta):=by
 intro pins s σ H R I h;refine Call_ (IV I hg hm boot_enumerate (Bz (thn (ha pos pins s σ H _ I h) λus s1 ⟨vs,H1,I1,r1,q1⟩=>?_) hs rfl));obtain ⟨a,rfl,q1⟩:=q1;obtain ⟨u,rfl,ru⟩:=vals1 r1;cases ru
 have fp:∀ {h':Bk} (b:AI),b∈[s1.heap.objs.size+1,s1.heap.objs.size]->KI X pins H1 b:=λb hb=>by
  have hb':b=s1.heap.objs.size+1∨b=s1.heap.objs.size:=by simpa using hb
  rcases hb' with z | z
  ·rw [z];exact I1.fpOk (Jy _) (I1.hok.fresh (Jy _))
  ·rw [z];exact I1.fpOk (AS _) (I1.hok.fresh (AS _))
 rcases q1 with ⟨⟨xs,sq⟩,q⟩ | ⟨⟨xs,sq⟩,q⟩
 ·obtain ⟨its,rv,pl,hz⟩:=I1.list sq
  refine call_enumerate_list pl.isList λh' he hit hsz hk=>Ix he ?_
  exact ⟨_,[s1.heap.objs.size+1,s1.heap.objs.size],_,_,H1,rfl,I1.kept (t':=s1.toks) hk,Sb a _ _ (Yl _),⟨⟨_,he⟩,hit⟩,fp (h':=h'),q⟩
 ·obtain ⟨its,rv,pl,hz⟩:=I1.tuple sq
  have pl':s1.heap.IsTuple a its.toArray:=pl
  have la:a < s1.heap.objs.size:=by obtain ⟨o,q,_⟩:=pl';exact Aa q
  refine JT pl' λh' he hit hsz hk=>Ix he ?_
  exact ⟨_,[s1.heap.objs.size+1,s1.heap.objs.size],_,_,H1,rfl,I1.kept (t':=s1.toks) hk,Sa a _ _ (Yl _) (Ax la) (MZ (Ma la)),⟨⟨_,he⟩,hit⟩,fp (h':=h'),q⟩
def JR (ds:List D):List D:=ds.zipIdx.map λx=>.tup [.int x.2,x.1]
def MA (v:Hk):Hk:=λS=>(v S).map JR
def Lk (m:ME):MI:=λe S=>(m e S).bind λd S1=>match C2 d S1 with
 | some _=>.ok (MA (C2 d)) S1
 | none=>.bad
theorem N2 (ds:List D):(JR ds).length=ds.length:=by unfold JR;simp
theorem IZ (ds:List D) (i:Nat):(JR ds)[i]?=(ds[i]?).map λd=>.tup [.int i,d]:=by
 unfold JR;rw [AV,List.getElem?_zipIdx]
 cases ds[i]? <;> simp
theorem L8 {K:AA} {ρ:List AI} {H:Hp} {J:It} {v:Hk} {sq:Hp->List V->Prop} (hJ:Lr K ρ H J v) (h1:∀i H,J.go i H->∃xs x,sq H xs/\xs[i]?=some x) (h2:∀i H,J.stop i H->∃xs,sq H xs/\xs.length<=i)
  (h3:∀i H x,(∀xs,sq H xs->xs[i]?=some x)->J.yld i H x H):Lr K ρ H (Ite sq) (MA v):=by
 intro ρ2 H2 S ds i l s hv;unfold MA at hv
 cases hd:v S with
 | none=>rw [hd] at hv;cases hv
 | some ds0=>
  rw [hd] at hv;cases hv;obtain ⟨a1,a2⟩:=hJ ρ2 H2 S ds0 i l s hd;refine ⟨λhn=>?_,λd hd'=>?_⟩
  ·rw [IZ] at hn
   refine h2 i H2 (a1 ?_)
   cases hq:ds0[i]? with
   | none=>rfl
   | some d=>rw [hq] at hn;cases hn
  ·rw [IZ] at hd'
   cases hq:ds0[i]? with
   | none=>rw [hq] at hd';cases hd'
   | some d0=>
    rw [hq] at hd';cases hd';obtain ⟨b1,b2⟩:=a2 d0 hq;refine ⟨h1 i H2 b1,λy H' hy=>?_⟩;obtain ⟨p,x,hp,rfl,rfl,hx⟩:=hy;obtain ⟨ρ3,l3,s3,r3⟩:=b2 x H2 (h3 i H2 x hx);obtain ⟨s4,l4⟩:=Fc (ho:=.tup [.int i,x]) s3 hp;exact ⟨ρ3,l3.trans l4,s4,.tup Be (.cons (.int _) (.cons (r3.mono l4) .nil))⟩
theorem US (hg:Gl X "enumerate") (hm:X.mg "enumerate" = none) (h:GE X E e m) (he:AX [e] X.env=[(false,B0 e X.env)]:=by rfl):GI X E (.Tuple elts x1 ptg) (.Call (.Name "enumerate" p) [e] [] pos) (Lk m):=
 (ZT hg hm (FI h He he) he).imp λσ H R ⟨ρ,l,S,hl,hs,hm⟩=>by
 refine ⟨ρ,l,S,hl,hs,hm.seq λd S1 hm ρ1 H1 x l1 s1 r1=>?_⟩
 cases d with
 | tup ds=>
  have hm':=hm
  cases r1 with
  | @tup _ a vs q1 q2=>
   exact ⟨a,rfl,.inr ⟨⟨vs,.inl (.inl q1)⟩,hm' ρ1 H1 _ l1 s1 (L8 (NJ q1 q2) (λi H z=>z) (λi H z=>z) λi H x z=>⟨rfl,z⟩)⟩⟩
 | _=>
  cases hv:C2 _ S1 with
  | none=>rw [hv] at hm;exact hm.elim
  | some ds=>
   rw [hv] at hm
   have:∃a,x=.ref a:=by
    cases r1 <;> first | exact ⟨_,rfl⟩ | (cases hv;done)
   obtain ⟨a,rfl⟩:=this;obtain ⟨xs,sq,_⟩:=NM s1 r1 hv;exact ⟨a,rfl,.inl ⟨⟨xs,sq⟩,hm ρ1 H1 _ l1 s1 (L8 (NL r1) (λi H z=>z) (λi H z=>z) λi H x z=>⟨rfl,z⟩)⟩⟩
end
end L2
namespace L2
open PySem PySem.Spec PyProof.Rows
section
variable {X:Cx}
variable {E:EW} {e:Expr} {p pos:Pos} {m:ME}
end
end L2
namespace PySem
open Sem (wp)
open AutoSeq1 (wpAny_loadPart')
namespace F
end F
section
variable {prog:Ar} {w:BG} {A:A8} {E:AD->AF->Prop} {s:AF} {I:AI} {fp wr:List AI} {G:Array SU->Array SU->Prop} {n:Nat} {P:Nat->AD->Prop} {St:Nat->AF->Prop}
end
end PySem
namespace L2
open PySem PySem.Spec PyProof.Rows
section
variable {X:Cx} {E:EW} {e:Expr} {p p2 pos pos2:Pos} {m:ME} {te:TE}
end
end L2
namespace L2
open PySem
theorem dy {α:Type} {xs:List α} {j:Int} {x:α} (h0:0<=j) (h:xs[j.toNat]?=some x):atI xs j=some x:=by
 have hlt:=(AG.mp h).1;unfold atI ixN;rw [if_pos (by omega),if_pos (by lia)];simpa using h
theorem UO {d:D} {S:Sto} {ds:List D} {j:Int} {z:D} (hd:HL d S=some ds) (h0:0<=j) (h:ds[j.toNat]?=some z):ixA d (.int j) S=.ok z S:=by
 show G4 (ixD d (.int j) S) _=_
 have:ixD d (.int j) S=.ok z S:=by
  unfold ixD;rw [hd];dsimp only;rw [dy h0 h]
 rw [this];rfl
theorem TK {S:Sto} {n:Nat} {ds:List D} {j:Int} {z:D} (hn:S[n]?=some (.lst ds)) (h0:0<=j) (h:ds[j.toNat]?=some z):ixA (.ref n) (.int j) S=.ok z S:=UO (Ep hn) h0 h
theorem Hy {ml:ML} {e:Lo} {S S1:Sto} {ds:List D} (h:ml e S=.ok ds S1) (hz:ds.length<=1000):BX ml e S=.ok ds S1:=by
 unfold BX;rw [h];dsimp only [Res.bind];rw [if_pos (Aq hz (by decide))]
theorem dE {tab:AI->Option Bool} {m:ME} {e:Lo} {S S1:Sto} {C:AI} {b:Bool} (h:m e S=.ok (.exc C) S1) (hb:tab C=some b):Xg tab m e S=.ok (.bl b) S1:=by
 unfold Xg;rw [h];dsimp only [Res.bind];rw [hb]
theorem dk {n k:Nat} {S:Sto} {ds:List D} (neg:Bool) (h1:S[n]?=some (.lst ds)) (h2:S[k]?=some (.lst [])):eqD neg (.ref n) (.ref k) S=.ok (.bl (if neg then !ds.isEmpty else ds.isEmpty)) S:=by
 unfold eqD eqB;rw [Kq h1,Kq h2]
 cases ds with
 | nil=>rfl
 | cons x xs=>rfl
theorem G0 {m:ME} {e:Lo} {S S1:Sto} {c:AI} (h:m e S=.err c S1):B7 m e S=.ok (.ex c e) S1:=by
 unfold B7;rw [h];rfl
theorem dq {α:Type} (xs:List α) {k:Nat} (h:k<=xs.length):K0 xs none (some (k:Int))=xs.take k:=by
 unfold K0;rw [HT.P4,HT.RJ,ae h];simp
theorem Rv {α:Type} (xs:List α) {k:Nat} (h:k<=xs.length):K0 xs (some (k:Int)) none=xs.drop k:=by
 unfold K0;rw [HT.P4,HT.RJ,ae h];exact Cf (by simp)
theorem N4 {α β:Type} (f:α->β) (l:List α) (lo hi:Option Int):K0 (l.map f) lo hi=(K0 l lo hi).map f:=by
 unfold K0;rw [AK,bQ,List.map_drop]
theorem O8 {n:Nat} {S:Sto} {ds:List D} {lo hi:Option Int} (h:S[n]?=some (.lst ds)):IQ (.ref n) lo hi S=.ok (.ref S.length) (S++[.lst (K0 ds lo hi)]):=by
 unfold IQ;dsimp only;rw [Kq h]
theorem OD {l b:Nat} {S:Sto} {xs ys:List D} (h1:S[l]?=some (.lst xs)) (h2:S[b]?=some (.lst ys)) (hz:xs.length+ys.length<=100000):CQ (.ref l) (.ref b) S=.ok (.ref S.length) (S++[.lst (xs++ys)]):=by
 unfold CQ;dsimp only;rw [h1,h2];dsimp only;rw [if_pos (Aq hz (by decide))]
theorem Ie {P:AI->Prop}:∀C∈([]:List AI),P C:=λ_ h=>absurd h D5
theorem all_cons {P:AI->Prop} {a:AI} {l:List AI} (h:P a) (t:∀C∈l,P C):∀C∈a :: l,P C:=λC hC=>by
 rcases A4.mp hC with e | hC
 ·rw [e];exact h
 ·exact t C hC
theorem Se {P:AI->Bool->Prop} {al ex:List AI} (h1:∀C∈al,P C true) (h2:∀C∈ex,C∉al->P C false) (C:AI) (b:Bool) (e:(if C∈al then some true else if C∈ex then some false else none)=some b):P C b:=by
 split at e
 ·cases e;exact h1 C ‹_›
 ·split at e
  ·cases e;exact h2 C ‹_› ‹_›
  ·cases e
theorem YZ {K:AA} {v:AD}:Cv K v []=some false:=by simp only [Cv]
theorem Gi {K:AA} {v t:AD} {ts:List AD} (h:Bn K v t=some false):Cv K v (t :: ts)=Cv K v ts:=by simp only [Cv,h]
theorem Qe {K:AA} {v t:AD} {ts:List AD} (h:Bn K v t=some true):Cv K v (t :: ts)=some true:=by simp only [Cv,h]
theorem TF {α:Type}:∀ {l:List α},l.length=1->∃x1,l=[x1]
 | [a],_=>⟨a,rfl⟩
theorem Jn {α:Type}:∀ {l:List α},l.length=2->∃x1 x2,l=[x1,x2]
 | y :: _,q=>by
  obtain ⟨x2,rfl⟩:=TF (IH q);exact ⟨y,x2,rfl⟩
theorem Xm {α:Type}:∀ {l:List α},l.length=3->∃x1 x2 x3,l=[x1,x2,x3]
 | y :: _,q=>by
  obtain ⟨x2,x3,rfl⟩:=Jn (IH q);exact ⟨y,x2,x3,rfl⟩
theorem gM {α:Type}:∀ {l:List α},l.length=4->∃x1 x2 x3 x4,l=[x1,x2,x3,x4]
 | y :: _,q=>by
  obtain ⟨x2,x3,x4,rfl⟩:=Xm (IH q);exact ⟨y,x2,x3,x4,rfl⟩
end L2
namespace L2
open PySem PySem.Spec PyProof.Rows
section
variable {X:Cx} {E:EW} {e:Expr} {m:ME} {pos:Pos}
end
section
variable {X:Cx} {E:EW} {tg e a b:Expr} {p p2 pos pos2:Pos} {m:ME} {ml:ML} {ta:TA}
def Ii (lo:Int) (n:Nat):List V:=(Ac n).map λk:Nat=>V.int (lo+k)
theorem RM {lo:Int}:∀ {n:Nat} {acc:List AD},acc.length=n->(∀(k:Nat) v,acc[k]?=some v->∃t,v=.int (lo+k) t)->BU (Ii lo n) acc
 | 0,acc,hl,_=>by
  have:acc=[]:=NF hl;subst this;exact .nil
 | n+1,acc,hl,h=>by
  cases acc with
  | nil=>cases hl
  | cons v r=>
   have hl':r.length=n:=IH hl;obtain ⟨t,e⟩:=h 0 v rfl
   have ih:=RM (lo:=lo+1) hl' λk v hv=>by
    obtain ⟨t,e⟩:=h (k+1) v hv;exact ⟨t,by rw [e];congr 1;lia⟩
   have e2:Ii lo (n+1)=.int lo :: Ii (lo+1) n:=by
    unfold Ii;rw [Fs,A5,BZ]
    congr 1
    ·congr 1;lia
    ·apply B6
     intro k _;show V.int (lo+((k+1:Nat):Int))=V.int (lo+1+k)
     congr 1
     lia
   rw [e2];refine .cons ⟨t,?_⟩ ih;rw [e]
   congr 1
   lia
theorem ZD {K:AA} {ρ:List AI} {H:Hp} (lo:Int) (n:Nat):At K ρ H (Bc lo n) (Ii lo n):=by
 unfold Bc Ii
 induction Ac n with
 | nil=>exact .nil
 | cons k r ih=>exact .cons (.int _) ih
end
end L2
namespace PySem
open Sem (wp)
open PyProof.Rows (IntsAre)
section
variable {prog:Ar} {w:BG} {A:A8} {E:AD->AF->Prop} {s:AF}
theorem QW {R:bO->AF->Prop} {r:AI} {a b c:Int} {t u v:Tok} {n:Nat} (hh:A.handled=none) (hr:eV s.heap r a b c t u v) (hsm:Db a b c=true) (hn:BV a b c=n) (hl:n<=2 ^ 24)
  (hR:∀(h':Bk) (tk:Nat) (acc:Array AD) (c':Nat),(∀b o,s.heap.get? b=some o->h'.get? b=some o)->h'.get? s.heap.objs.size=some { cls:=.type "list",data:=.seq acc c' }->eT (λi v=>∃t,v=.int (a+i * c) t) acc n->R (.ok (.ret (.ref s.heap.objs.size))) { s with heap:=h',toks:=tk }) :
  Hn (AW prog w) A (.builtin "proto.collect" ⟨[.ref r],[]⟩) R s:=by
 refine Qx F.entry_proto_collect ?_;rw [Jb F.plain_proto_collect _];show Ah _ A.in1 (newList [] >>= λl=>WE (.builtin "list.__iadd__" ⟨[l,.ref r],[]⟩)) _ _ s;refine AB (Bj (AM ⟨plainId_quiet aj _,Qx F.entry_list_iadd ?_⟩));rw [Jb aj _];show Ah _ A.in1 (hG (.ref s.heap.objs.size) (.ref r) (.ref s.heap.objs.size)) _ _ _;have hS₀:(s.heap.push { cls:=.type "list",data:=.seq ([]:List AD).toArray }).get? s.heap.objs.size=some { cls:=.type "list",data:=.seq #[] 0 }:=Af _ rfl
 exact wpAny_extend_range (A:=A) (R:=R) (s:={ s with heap:=s.heap.push { cls:=.type "list",data:=.seq ([]:List AD).toArray } }) hh (AJ _ hr) hsm hn hl s.heap.objs.size (.ref s.heap.objs.size) 0 hS₀ λh' tk acc c' hk hS hacc=>
  hR h' tk acc c' (λb o e=>hk b o (Ax (Aa e)) (AJ _ e)) hS hacc
theorem Ry {Q:List AD->AF->Prop} {r:AI} {a b c:Int} {t u v:Tok} {n:Nat} (hh:A.handled=none) (hr:eV s.heap r a b c t u v) (hsm:Db a b c=true) (hn:BV a b c=n) (hl:n<=2 ^ 24)
  (hQ:∀(h':Bk) (tk:Nat) (acc:Array AD),(∀b o,s.heap.get? b=some o->h'.get? b=some o)->eT (λi v=>∃t,v=.int (a+i * c) t) acc n->Q acc.toList { s with heap:=h',toks:=tk }):Ah (AW prog w) A (collect (.ref r)) Q E s:=by
 unfold collect;refine AB (wpAny_runValue (QW hh hr hsm hn hl λh' tk acc c' hk hS hacc=>?_));show Ah _ A (load s.heap.objs.size >>= _) _ _ _;exact AB (wpAny_load hS (AM (hQ h' tk acc hk hacc)))
theorem N7 {Q₁:AD->AF->Prop} {r:AI} {a b c:Int} {t u v:Tok} {n:Nat} (hh:A.handled=none) (hr:eV s.heap r a b c t u v) (hsm:Db a b c=true) (hn:BV a b c=n) (hl:n<=2 ^ 24) (hsz:n<=sizeLine)
  (h:∀(h':Bk) (tk:Nat) (acc:Array AD),(∀b o,s.heap.get? b=some o->h'.get? b=some o)->eT (λi v=>∃t,v=.int (a+i * c) t) acc n->Q₁ (.ref h'.objs.size) { s with heap:=h'.push { cls:=.type "tuple",data:=.seq acc },toks:=tk }) :
  Hn (AW prog w) A (.call (.builtin "tuple.__new__") ⟨[.type "tuple",.ref r],[]⟩) (wants Q₁ E) s:=by
 refine codeAny_of_tree ?_;show Ah _ A.in1 (do Pj "tuple.__new__" ⟨[.type "tuple",.ref r],[]⟩;WE (.builtin "tuple.__new__" ⟨[.type "tuple",.ref r],[]⟩)) _ _ s;refine AB (Ql (F.newCall_tuple_1 _) (AM ⟨plainId_quiet ai _,Qx F.entry_tuple_new ?_⟩));rw [Jb ai _];have hsub:=sub_tuple_self;have hinit:=init_tuple_lookup;have hmh:=madeHere_tuple;have hTI:s.TypeIs (.ref r) "range":=⟨_,hr,rfl⟩
 have hh1:A.in1.handled=none:=by simp [hh]
 wp_walk using WP hTI,Ry hh1 hr hsm hn hl
 intro h' tk acc hk hacc;show Ah _ _ (Ci acc.toList.toArray >>= λv=>ret v) _ _ _;unfold Ci;refine AB (Bj ?_ (by show acc.toList.toArray.size<=sizeLine;simp only [Array.toArray_toList];rw [hacc.1];exact hsz));refine AM ?_
 have e:acc.toList.toArray=acc:=by simp
 rw [e];exact h h' tk acc hk hacc
theorem N8 {Q:AD->AF->Prop} {r:AI} {a b c:Int} {t u v:Tok} {n:Nat} (hh:A.handled=none) (hr:eV s.heap r a b c t u v) (hsm:Db a b c=true) (hn:BV a b c=n) (hl:n<=2 ^ 24) (hsz:n<=sizeLine)
  (hQ:∀(h':Bk) (tk:Nat) (acc:Array AD),(∀b o,s.heap.get? b=some o->h'.get? b=some o)->eT (λi v=>∃t,v=.int (a+i * c) t) acc n->Q (.ref h'.objs.size) { s with heap:=h'.push { cls:=.type "tuple",data:=.seq acc },toks:=tk }) :
  Ah (AW prog w) A (call (.type "tuple") [.ref r]) Q E s:=by
 refine callType_codes (Q₁:=λobj s₁=>s₁.TypeIs obj "tuple"/\Q obj s₁) Q2 (F.typeCall_tuple_1 _) F.entry_object_init
  (N7 hh hr hsm hn hl hsz λh' tk acc hk hacc=>⟨⟨_,Af _ rfl,rfl⟩,hQ h' tk acc hk hacc⟩) λobj s₁ h₁=>?_
 exact ⟨h₁.1,Wb obj _,object_init_meets Q2.init.lookup Q2.made (by decide) prog w A.in1 _ s₁ ⟨h₁.1,rfl,h₁.2⟩⟩
end
end PySem
namespace L2
open PySem PySem.Spec PyProof.Rows
section
variable {X:Cx} {E:EW} {a b:Expr} {p p2 pos pos2:Pos} {ml:ML} {ta:TA}
theorem RB {pins:List (AI×Obj)} {σ:St} {H:Hp} {s:AF} {Q:VK} {i j:Int} {t u v:Tok} {tk:Nat} (hc:X.calm=true) (I:Inv X pins σ H s) (b1:-1000000<=i/\i<=1000000/\-1000000<=j/\j<=1000000)
  (q:∀q,H q=none->Q (.ref q) (upd H q (.tup (Ii i (j - i).toNat)))) :
  Ah (AW X.prog X.w) X.A (call (.type "tuple") [.ref s.heap.objs.size]) (EP X pins σ Q) X.xe { s with heap:=s.heap.push { cls:=.type "range",data:=.fields #[.int i t,.int j u,.int 1 v] },toks:=tk }:=by
 obtain ⟨b1,b2,b3,b4⟩:=b1
 have hn:BV i j 1=((j - i).toNat:Nat):=by rw [rangeSize_one];split <;> lia
 have hz2:(j - i).toNat<=2000000:=by lia
 refine N8 (s:={ s with heap:=s.heap.push { cls:=.type "range",data:=.fields #[.int i t,.int j u,.int 1 v] },toks:=tk }) (I.ok.hd hc) (Q1 ..) (small_one (Xl b1) (X0 b2) (Xl b3) (X0 b4)) hn (Aq hz2 (by decide)) (Aq hz2 (by decide)) λh' tk' acc hk hacc=>?_
 have k:∀b o,s.heap.get? b=some o->(h'.push { cls:=.type "tuple",data:=.seq acc }).get? b=some o:=λb o e=>AJ _ (hk b o (AJ _ e))
 have hr:BU (Ii i (j - i).toNat) acc.toList:=RM (by have:=hacc.1;simpa using this) λk v hv=>by
  obtain ⟨t,e⟩:=hacc.2 k v (by simpa using hv);exact ⟨t,by rw [e];congr 1;lia⟩
 have hz:s.heap.objs.size<=h'.objs.size:=by
  have:=hk s.heap.objs.size _ (Af s.heap rfl);exact Mb (Aa this)
 refine ⟨.ref _,upd H _ (.tup (Ii i (j - i).toNat)),I.laid (t':=tk') k hz ?_,rfl,q _ (I.hok.fresh hz)⟩;refine ⟨?_,acc.toList,hr,_,Af _ rfl,rfl,0,by simp⟩;rw [hr.length,show acc.toList.length=(j - i).toNat by have:=hacc.1;simpa using this];exact Aq hz2 (by decide)
def ak (ta:TA):TE:=λσ H Q=>ta σ H λvs H1=>∃i j:Int,(vs=[.int i,.int j]∨vs=[.int j]/\i=0)/\(-1000000<=i/\i<=1000000/\-1000000<=j/\j<=1000000)/\∀q,H1 q=none->Q (.ref q) (upd H1 q (.tup (Ii i (j - i).toNat)))
theorem XG (hc:X.calm=true) (hg:Gl X "tuple") (hm:X.mg "tuple" = none) (hg2:Gl X "range") (hm2:X.mg "range" = none) (ha:PA X [a] ta)
  (hs:AX [a] X.env=[(false,B0 a X.env)]:=by rfl)
  (he2:AX [.Call (.Name "range" p2) [a] [] pos2] X.env=(false,B0 (.Call (.Name "range" p2) [a] [] pos2) X.env) :: AX [] X.env:=by rfl) :
  PE X (.Call (.Name "tuple" p) [.Call (.Name "range" p2) [a] [] pos2] [] pos) (ak ta):=by
 intro pins s σ H Q I hq;refine Fw (IV I hg hm MY ?_ (by decide) (by decide));refine Bz ?_ he2 rfl;rw [he2];show Ah _ _ (spliced ((false,B0 (.Call (.Name "range" p2) [a] [] pos2) X.env) :: Ej pos (AX [] X.env))) _ _ s;refine U1 ?_;refine Call_ (IV I hg2 hm2 SL (Bz (thn (ha pos2 pins s σ H _ I hq) λus s1 ⟨vs,H1,I1,r1,q1⟩=>?_) hs rfl));obtain ⟨i,j,e,bb,q⟩:=q1
 rcases e with e | ⟨e,rfl⟩
 ·subst e
  cases r1 with
  | cons r rr=>
   cases rr with
   | cons r' rr=>
    cases rr;obtain ⟨t,rfl⟩:=r;obtain ⟨t',rfl⟩:=r';exact call_range_2 (LS (RB hc I1 bb q))
 ·subst e
  cases r1 with
  | cons r rr=>
   cases rr;obtain ⟨t,rfl⟩:=r;exact call_range_1 (LS (RB hc I1 bb q))
def fP (ds:List D) (S:Sto):Res D:=match ds with
 | [.int i,.int j]=>if -1000000<=i/\i<=1000000/\-1000000<=j/\j<=1000000 then .ok (.tup (Bc i (j - i).toNat)) S else .bad
 | [.int j]=>if -1000000<=j/\j<=1000000 then .ok (.tup (Bc 0 j.toNat)) S else .bad
 | _=>.bad
def RZ (ml:ML):ME:=λe S=>(ml e S).bind fP
theorem Wm {es:List Expr} {σ:St} {H:Hp} {Q:VK} (h:gE X.K E (RZ ml) σ H Q):ak (gA X.K E ml) σ H Q:=by
 obtain ⟨ρ,l,S,hl,hs,hm⟩:=h;refine ⟨ρ,l,S,hl,hs,hm.seq λds S1 hm ρ1 H1 xs l1 s1 r1=>?_⟩
 have fin:∀(i j:Int),(Bv X.K (λc=>E c σ) ρ H (Res.ok (.tup (Bc i (j - i).toNat)) S1) λd S'=>∀ρ' H' x,Le X.K ρ H ρ' H'->B8 X.K ρ' S' H'->Bi X.K ρ' H' d x->Q x H')->∀q,H1 q=none->Q (.ref q) (upd H1 q (.tup (Ii i (j - i).toNat))):=λi j hm q hq=>by
  obtain ⟨s4,l4⟩:=Fc (ho:=.tup (Ii i (j - i).toNat)) s1 hq;exact hm _ _ _ (l1.trans l4) s4 (.tup Be (ZD _ _))
 unfold fP at hm;split at hm
 ·rename_i i j
  split at hm
  ·rename_i hb
   cases r1 with
   | cons r rr=>
    cases rr with
    | cons r' rr=>
     cases rr;cases r;cases r';exact ⟨i,j,.inl rfl,hb,fin i j hm⟩
  ·exact hm.elim
 ·rename_i j
  split at hm
  ·rename_i hb
   cases r1 with
   | cons r rr=>
    cases rr;cases r;exact ⟨0,j,.inr ⟨rfl,rfl⟩,⟨by lia,by lia,hb.1,hb.2⟩,fin 0 j (by rw [Int.sub_zero];exact hm)⟩
  ·exact hm.elim
 ·exact hm.elim
theorem X6 (hc:X.calm=true) (hg:Gl X "tuple") (hm:X.mg "tuple" = none) (hg2:Gl X "range") (hm2:X.mg "range" = none) (ha:GA X E [a] ml)
  (hs:AX [a] X.env=[(false,B0 a X.env)]:=by rfl)
  (he2:AX [.Call (.Name "range" p2) [a] [] pos2] X.env=(false,B0 (.Call (.Name "range" p2) [a] [] pos2) X.env) :: AX [] X.env:=by rfl) :
  GE X E (.Call (.Name "tuple" p) [.Call (.Name "range" p2) [a] [] pos2] [] pos) (RZ ml):=(XG hc hg hm hg2 hm2 ha hs he2).imp λ_ _ _ h=>Wm (es:=[]) h
end
end L2
namespace PySem
open Sem (wp)
open AutoSeq1 (wpAny_loadPart')
section
variable {prog:Ar} {w:BG} {A:A8} {E:AD->AF->Prop} {s:AF}
end
end PySem
namespace PySem
section
variable {prog:Ar} {w:BG} {A:A8} {E:AD->AF->Prop} {s:AF}
end
end PySem
namespace L2
open PySem PySem.Spec PyProof.Rows
section
variable {P:Ar} {w:BG} {K:AA} {elts:List Expr} {x1:Nat} {pos:Pos}
end
section
variable {X:Cx} {E:EW} {e:Expr} {elts:List Expr} {x1:Nat} {p pos ptg kp vp:Pos} {j1:Nat} {m:ME} {ta:TA}
end
end L2
namespace PySem
open Sem (wp)
section
variable {prog:Ar} {w:BG} {A:A8} {E:AD->AF->Prop} {s:AF}
end
end PySem
namespace L2
open PySem PySem.Spec PyProof.Rows
section
variable {X:Cx} {E:EW} {e a b c:Expr} {p p2 pos pos2:Pos} {m:ME} {te:TE} {ml:ML} {ta:TA} {tg:Expr}
end
def Itd (lo:Int) (n:Nat):It:=⟨λi _=>i < n,λi H x H'=>H'=H/\x=.int (lo - i),λi _=>n<=i⟩
theorem RA {P:Ar} {w:BG} {K:AA} {tg:Expr} (it:AI) (lo:Int) (n:Nat):Qg P w K tg (Itd lo n) [it] it (λi h=>Qs h it (lo+(i:Nat) * -1) ((n:Int) - (i:Nat)) (-1)) where
 mem:=by simp
 obj:=λi h st b hb=>by
  have e:b=it:=by simpa using hb
  subst e
  exact ⟨_,st,λv z=>by
   have z':NG _=Q3 v:=z
   cases z'⟩
 keep:=λi h h' st k=>k it (by simp) _ st
 item:=by
  intro X hP hw hK hc i pins s σ H E I hf st hg;subst hP hw hK;obtain ⟨f0,f1,f2,f3,f4,f5⟩:=hf it (by simp);have W:=eN (prog:=X.prog) (w:=X.w) (I.ok.hd hc) it lo (-1) n
  refine W.item i s _ _ hg st λv h' tk hv st' kk=>?_
  obtain ⟨t,rfl⟩:=hv;have I1:Inv X pins σ H { s with heap:=h',toks:=tk }:=I.turned (λb o hb e=>kk b o (by simpa using hb) e) f0 f1 f3 f4 f5;refine ⟨_,rfl,UR (s:={ s with heap:=h',toks:=tk }) (n:="range_iterator") st' rfl rfl (by decide) ⟨.int (lo - i),H,I1,⟨t,?_⟩,⟨rfl,rfl⟩,st',λb hb=>(hf b hb).1⟩⟩
  congr 1
  lia
 done:=by
  intro X hP hw hK hc i pins s σ H E I hf st hg;subst hP hw hK;obtain ⟨f0,f1,f2,f3,f4,f5⟩:=hf it (by simp)
  exact WQ (I.ok.hd hc) st (by have:n<=i:=hg;lia) λh' eb=>⟨rfl,I.turned (t':=s.toks) (λb o hb e=>eb b o hb e) f0 f1 f3 f4 f5⟩
 self:=λ_ _ _ _ _ st h=>WR st h
theorem RH (i j:Int):BV i j (-1)=if i > j then i - j else 0:=by
 unfold BV;rw [if_neg (show ¬((-1:Int) > 0) by decide),show (-(-1):Int)=1 by decide,ez]
 split <;> lia
theorem Ww {i j:Int} (h1:-1000000<=i) (h2:i<=1000000) (h3:-1000000<=j) (h4:j<=1000000):Db i j (-1)=true:=by
 unfold Db;rw [RH];simp only [fC,FD,Yq,decide_eq_true_eq,beq_iff_eq,show ¬((-1:Int) > 0) by decide,if_false]
 split <;> lia
theorem Y7 (i j:Int):BV i j (-1)=(((i - j).toNat:Nat):Int):=by
 rw [RH]
 split <;> lia
section
variable {X:Cx} {E:EW} {a b c:Expr} {p pos:Pos} {ml:ML} {ta:TA} {tg:Expr}
def gP (ta:TA):TI:=λσ H R=>ta σ H λvs H1=>∃i j:Int,vs=[.int i,.int j,.int (-1)]/\(-1000000<=i/\i<=1000000/\-1000000<=j/\j<=1000000)/\R (Itd i (i - j).toNat) H1
theorem VN (hg:Gl X "range") (hm:X.mg "range" = none) (ha:PA X [a,b,c] ta) (hs:AX [a,b,c] X.env=[(false,B0 a X.env),(false,B0 b X.env),(false,B0 c X.env)]:=by rfl) (hs2:AX [b,c] X.env=[(false,B0 b X.env),(false,B0 c X.env)]:=by rfl) :
  PI X tg (.Call (.Name "range" p) [a,b,c] [] pos) (gP ta):=by
 intro pins s σ H R I h;refine Call_ (IV I hg hm SL (Bz (thn (ha pos pins s σ H _ I h) λus s1 ⟨vs,H1,I1,r1,q1⟩=>?_) (by rw [hs,hs2]) (by rw [hs2];rfl)));obtain ⟨i,j,e,⟨b1,b2,b3,b4⟩,q⟩:=q1;subst e
 cases r1 with
 | cons r rr=>
  cases rr with
  | cons r' rr=>
   cases rr with
   | cons r'' rr=>
    cases rr;obtain ⟨t,rfl⟩:=r;obtain ⟨t',rfl⟩:=r';obtain ⟨t'',rfl⟩:=r'';refine call_range_3 (by decide) ?_ (Qp (Pm (by decide)));refine bF (Q1 ..) (Ww b1 b2 b3 b4) ?_
    have I2:Inv X pins σ H1 { s1 with heap:=s1.heap.push { cls:=.type "range",data:=.fields #[.int i t,.int j t',.int (-1) t''] },toks:=s1.toks }:=I1.kept λb o e=>AJ _ e
    refine ⟨_,[(s1.heap.push { cls:=.type "range",data:=.fields #[.int i t,.int j t',.int (-1) t''] }).objs.size],_,_,H1,rfl,I2.kept (t':=s1.toks) λb o e=>AJ _ e,RA _ i (i - j).toNat,?_,λb hb=>?_,q⟩
    ·have e1:i+((0:Nat):Int) * -1=i:=by lia
     have e2:(((i - j).toNat:Nat):Int) - ((0:Nat):Int)=BV i j (-1):=by rw [Y7];lia
     show Qs _ _ (i+((0:Nat):Int) * -1) ((((i - j).toNat:Nat):Int) - ((0:Nat):Int)) (-1);rw [e1,e2];exact Af _ rfl
    ·have e:b=(s1.heap.push { cls:=.type "range",data:=.fields #[.int i t,.int j t',.int (-1) t''] }).objs.size:=by simpa using hb
     subst e;exact I2.fpOk (AS _) (I2.hok.fresh (AS _))
def N3 (lo:Int) (n:Nat):List D:=(Ac n).map λi:Nat=>D.int (lo - i)
def iRD (ml:ML):MI:=λe S=>(ml e S).bind λds S1=>match ds with
 | [.int i,.int j,.int k]=>if k = -1/\-1000000<=i/\i<=1000000/\-1000000<=j/\j<=1000000 then .ok (Bt (N3 i (i - j).toNat)) S1 else .bad
 | _=>.bad
theorem Vn (hg:Gl X "range") (hm:X.mg "range" = none) (ha:GA X E [a,b,c] ml) (hs:AX [a,b,c] X.env=[(false,B0 a X.env),(false,B0 b X.env),(false,B0 c X.env)]:=by rfl) (hs2:AX [b,c] X.env=[(false,B0 b X.env),(false,B0 c X.env)]:=by rfl) :
  GI X E tg (.Call (.Name "range" p) [a,b,c] [] pos) (iRD ml):=(VN hg hm ha hs hs2).imp λσ H R ⟨ρ,l,S,hl,hs,hm⟩=>by
 refine ⟨ρ,l,S,hl,hs,hm.seq λds S1 hm ρ1 H1 xs l1 s1 r1=>?_⟩;split at hm
 ·rename_i i j k
  split at hm
  ·rename_i hb
   obtain ⟨rfl,hb⟩:=hb
   cases r1 with
   | cons r rr=>
    cases rr with
    | cons r' rr=>
     cases rr with
     | cons r'' rr=>
      cases rr;cases r;cases r';cases r'';refine ⟨i,j,rfl,hb,hm ρ1 H1 _ l1 s1 ?_⟩;intro ρ2 H2 S2 ds k l2 s2 hv;cases hv
      have e:∀k:Nat,(N3 i (i - j).toNat)[k]?=if k < (i - j).toNat then some (.int (i - k)) else none:=λk=>by
       unfold N3;rw [AV]
       by_cases hk:k < (i - j).toNat
       ·rw [if_pos hk,BC hk];rfl
       ·rw [if_neg hk,CL (by rw [Lx];lia)];rfl
      rw [e];refine ⟨λhn=>?_,λd hd=>?_⟩
      ·show (i - j).toNat<=k
       by_cases hk:k < (i - j).toNat
       ·rw [if_pos hk] at hn;cases hn
       ·lia
      ·by_cases hk:k < (i - j).toNat
       ·rw [if_pos hk] at hd
        cases hd;refine ⟨hk,λy H' ⟨e1,e2⟩=>?_⟩;subst e1 e2;exact ⟨ρ2,.refl,s2,.int _⟩
       ·rw [if_neg hk] at hd;cases hd
  ·exact hm.elim
 ·exact hm.elim
end
end L2
namespace L2
open PySem PySem.Spec PyProof.Rows
section
variable {X:Cx} {E:EW} {e a b c:Expr} {p p2 pos pos2:Pos} {m:ME} {te:TE} {ml:ML} {ta:TA} {tg:Expr}
end
theorem df {P:Ar} {w:BG} {K:AA} {mg:Str->Option AD} {base:Bk} {CX:CXT} {k n:Nat} {f:AI} {fd:DY} {ps:List Str}:De P w K mg base CX k f fd ps (spM K n λ_ _=>.bad):=
 ⟨λ_ _ _ _ ⟨_,_,_,_,_,_,h⟩=>h.elim,λ_ _ _ _ _ _ _ _ _ _ _ _ _ ⟨_,_,_,_,_,_,h⟩=>h.elim⟩
end L2
namespace L2
open PySem PySem.Spec PyProof.Rows
section
variable {X:Cx} {E:EW} {k v:Expr} {pos:Pos} {mk mv:ME}
end
end L2
namespace PySem
end PySem
namespace L2
open PySem PySem.Spec PyProof.Rows
section
variable {X:Cx} {E:EW} {o e:Expr} {apos cpos:Pos} {mo ma:ME}
end
section
variable {X:Cx} {o e:Expr} {apos cpos:Pos} {td ty:TE}
end
section
variable {X:Cx} {E:EW} {o e:Expr} {apos cpos:Pos} {mo ma:ME}
end
end L2
namespace L2
open PySem PySem.Spec PyProof.Rows
section
variable {X:Cx}
end
section
variable {X:Cx} {E:EW} {o e f:Expr} {apos cpos:Pos} {mo mi my:ME}
end
end L2
namespace PySem
open Sem (wp)
section
variable {prog:Ar} {w:BG} {A:A8} {E:AD->AF->Prop} {s:AF}
end
end PySem
namespace L2
open PySem PySem.Spec PyProof.Rows
section
variable {P:Ar} {w:BG} {K:AA} {elts:List Expr} {x1:Nat} {pos:Pos}
end
section
variable {X:Cx} {E:EW} {e1 e2:Expr} {elts:List Expr} {x1:Nat} {p pos ptg:Pos} {ml:ML} {ta:TA}
end
end L2
namespace HT
open PySem PySem.Spec PyProof.Rows
section
variable {prog:Ar} {w:BG} {A:A8} {E:AD->AF->Prop} {s:AF}
end
end HT
namespace L2
open PySem PySem.Spec PyProof.Rows
section
variable {X:Cx}
variable {E:EW} {e:Expr} {lo hi:Option Expr} {pos p2:Pos} {m:ME} {ml mh:MO}
end
end L2
namespace L2
open PySem PySem.Spec PyProof.Rows
section
variable {X:Cx}
instance (i j:Int):Decidable ((λ_ j:Int=>0<=j) i j):=inferInstanceAs (Decidable (0<=j))
end
end L2
namespace L2
open PySem PySem.Spec PyProof.Rows
section
variable {X:Cx} {E:EW} {CX:CXT} {k n:Nat} {f C:AI} {fd:DY} {ps:List Str} {m:Str} {pos apos:Pos} {o e:Expr} {es:List Expr} {mo:ME} {ml:ML} {g:List D->Sto->Res D}
end
end L2
namespace L2
open PySem PySem.Spec PyProof.Rows
section
variable {X:Cx} {E:EW} {o:Expr} {apos cpos:Pos} {mo:ME}
end
end L2
namespace L2
open PySem PySem.Spec PyProof.Rows
section
variable {X:Cx}
end
end L2
namespace L2
open PySem PySem.Spec PyProof.Rows
section
variable {X:Cx} {E:EW} {g:Str} {gp hpos pos:Pos} {G:AI} {cs:List AI} {body suite:List Cp} {b₀:Cp} {mb mh:MS}
end
end L2
namespace L2
open PySem PySem.Spec PyProof.Rows PySem.SeqAt
def VH:D->D->Sto->Res D
 | .ref l,.int k,S=>match S[l]? with
  | some (.lst xs)=>if 0<=k/\k<=1000/\xs.length * k.toNat<=1000000 then .ok (.ref S.length) (S++[.lst (An k.toNat xs).flatten]) else .bad
  | _=>.bad
 | _,_,_=>.bad
section
variable {X:Cx} {K:AA} {ρ:List AI} {H:Hp}
theorem At.rep {ds:List D} {vs:List V} (r:At K ρ H ds vs):∀k:Nat,At K ρ H (An k ds).flatten (An k vs).flatten
 | 0=>.nil
 | k+1=>by
  rw [DH,DH,Di,Di];exact r.append (At.rep r k)
theorem ci:OpR X (DX .Mult) (rD X.K VH):=cX.imp λx y H Q ⟨ρ,S,a,b,d,S',hs,ra,rb,hm,k⟩=>by
 cases ra with
 | @ref n a1 hn=>
  cases rb with
  | int i=>
   unfold VH at hm;dsimp only at hm;split at hm
   ·rename_i xs h1
    split at hm
    ·rename_i hz
     cases hm;obtain ⟨vs,e1,r1⟩:=hs.ob _ _ _ h1 hn;refine ⟨_,_,_,rfl,rfl,e1,by omega,by omega,Aq (by rw [<-r1.length];exact hz.2.2) (by decide),λp hp=>?_⟩;have le:Le X.K ρ H (ρ++[p]) (upd H p (.lst (An i.toNat vs).flatten)):=Le.alloc hp;obtain ⟨s2,l2,at2⟩:=hs.alloc (ho:=.lst (An i.toNat vs).flatten) (o:=.lst (An i.toNat xs).flatten) hp ⟨_,Be,(r1.rep _).mono le⟩;exact k _ _ _ l2 s2 (.ref at2)
    ·cases hm
   ·cases hm
  | _=>cases hm
 | _=>cases hm
def eqI (S:Sto) (x y:D):Option Bool:=match x,y with
 | .ref n,.ref m=>if n=m then none else match S[n]?,S[m]? with
  | some (.lst xs),some (.lst ys)=>if xs.length=ys.length then eqL (eqP 7) xs ys else some false
  | _,_=>none
 | _,_=>none
def aB (x y:D) (S:Sto):Option Bool:=match x,y with
 | .ref n,.ref m=>match S[n]?,S[m]? with
  | some (.lst xs),some (.lst ys)=>if xs.length=ys.length then eqL (eqI S) xs ys else some false
  | _,_=>none
 | _,_=>none
def YI (neg:Bool) (x y:D) (S:Sto):Res D:=match aB x y S with
 | some b=>.ok (.bl (if neg then !b else b)) S
 | none=>.bad
variable {pins:List (AI×Obj)} {σ:St} {s:AF}
theorem Y9 {f:D->D->Option Bool} {A:A8} (ih:∀(x y:D) (b:Bool) (xv yv:V) (u v:AD),f x y=some b->Bi X.K ρ H x xv->Bi X.K ρ H y yv->RelV xv u->RelV yv v->EqAt A s u v b)
  {xs ys:List D} {vs ws:List V} {us zs:List AD} {b:Bool} (h:eqL f xs ys=some b) (r1:At X.K ρ H xs vs) (r2:At X.K ρ H ys ws) (q1:BU vs us) (q2:BU ws zs) :
  ∃e:Nat->Bool,(∀j (h1:j < us.toArray.size) (h2:j < zs.toArray.size),EqAt A s us.toArray[j] zs.toArray[j] (e j))/\b=((Ac (min us.toArray.size zs.toArray.size)).all e&&us.toArray.size==zs.toArray.size):=by
 obtain ⟨i1,i2⟩:=QS h;refine ⟨λj=>match xs[j]?,ys[j]? with | some x,some y=>(f x y).getD false | _,_=>false,λj h1 h2=>?_,?_⟩
 ·obtain ⟨v,e1,rv⟩:=BU.at_ q1 h1
  obtain ⟨w,e2,rw'⟩:=BU.at_ q2 h2;obtain ⟨x,e3,rx⟩:=r1.get' e1;obtain ⟨y,e4,ry⟩:=r2.get' e2;obtain ⟨c,hc⟩:=i1 j x y e3 e4;have:=ih x y c v w _ _ hc rx ry rv rw';simp only [e3,e4,hc,Lv];exact this
 ·rw [i2,r1.length,r2.length,q1.length,q2.length,Ab,Ab]
  try congr 1
theorem Rg {S:Sto} {A:A8} {f:D->D->Option Bool} {n m:Nat} {xs ys:List D} {b:Bool} {p p':AI} (I:Inv X pins σ H s) (hu:A.units+1 < D3) (hs:B8 X.K ρ S H) (g1:ρ[n]?=some p) (g2:ρ[m]?=some p') (h1:S[n]?=some (.lst xs)) (h2:S[m]?=some (.lst ys))
  (ih:∀(x y:D) (b:Bool) (xv yv:V) (u v:AD),f x y=some b->Bi X.K ρ H x xv->Bi X.K ρ H y yv->RelV xv u->RelV yv v->EqAt A.in1 s u v b)
  (h:(if xs.length=ys.length then eqL f xs ys else some false)=some b):RcAt A s (.ref p) (.ref p') b/\RcNeAt A s (.ref p) (.ref p') (!b):=by
 obtain ⟨vs,e1,rr⟩:=hs.ob _ _ _ h1 g1;obtain ⟨vs',e2,rr'⟩:=hs.ob _ _ _ h2 g2;obtain ⟨its,rv,pl,_⟩:=I.list (.inl (.inl e1));obtain ⟨its2,rv2,pl2,_⟩:=I.list (.inl (.inl e2));split at h
 ·rename_i hlen
  obtain ⟨e,he,rfl⟩:=Y9 (A:=A.in1) ih h rr rr' rv rv2
  have hsz:its.toArray.size=its2.toArray.size:=by
   simp only [Ab];rw [<-rv.length,<-rv2.length,<-rr.length,<-rr'.length];exact hlen
  have e1:((Ac (min its.toArray.size its2.toArray.size)).all e&&its.toArray.size==its2.toArray.size)=(Ac its.toArray.size).all e:=by
   rw [<-hsz,en,beq_self_eq_true,bU]
  rw [e1];exact ⟨gt pl.isList pl2.isList hsz (by omega) he,aa pl.isList pl2.isList hsz (by omega) he⟩
 ·rename_i hlen
  cases h
  have hsz:(its.toArray.size != its2.toArray.size)=true:=by
   simp only [Ab];rw [<-rv.length,<-rv2.length,<-rr.length,<-rr'.length];simpa using hlen
  exact ⟨WF pl.isList pl2.isList hsz (by omega),R7 pl.isList pl2.isList hsz (by omega)⟩
theorem aA {S:Sto} {x y:D} {b:Bool} {xv yv:V} {u v:AD} (I:Inv X pins σ H s) (hu:X.A.units+64 < D3) (hs:B8 X.K ρ S H) (r1:Bi X.K ρ H x xv) (r2:Bi X.K ρ H y yv) (q1:RelV xv u) (q2:RelV yv v) (h:aB x y S=some b) :
  RcAt X.A s u v b/\RcNeAt X.A s u v (!b):=by
 unfold aB at h;split at h
 ·rename_i n m
  split at h
  ·rename_i xs ys h1 h2
   cases r1 with
   | @ref _ p g1=>
    cases r2 with
    | @ref _ p' g2=>
     cases q1;cases q2;refine Rg I (by omega) hs g1 g2 h1 h2 (λx y b xv yv u v hf a1 a2 b1 b2=>?_) h;unfold eqI at hf;split at hf
     ·rename_i n' m'
      split at hf
      ·cases hf
      ·rename_i hne
       split at hf
       ·rename_i xs' ys' h3 h4
        cases a1 with
        | @ref _ o k1=>
         cases a2 with
         | @ref _ o' k2=>
          cases b1;cases b2;exact eX (λe=>hne (hs.nd _ _ _ k1 (e▸k2))) (Rg (A:=X.A.in1) I (by rw [EO];omega) hs k1 k2 h3 h4 (λx y b xv yv u v g1 g2 g3 g4 g5=>QT I 7 X.A.in1.in1 x y b xv yv u v (by rw [EO,EO];omega) g1 g2 g3 g4 g5) hf).1
       ·cases hf
     ·cases hf
  ·cases h
 ·cases h
theorem cj (hu:X.A.units+64 < D3):OpR X (Bd .Eq) (rD X.K (YI false)):=by
 intro pins s σ H x y v u Q I rx ry h;obtain ⟨ρ,S,a,b,d,S',hs,ra,rb,hm,k⟩:=h;unfold YI at hm;split at hm
 ·rename_i c hc
  cases hm;exact (aA I hu hs ra rb rx ry hc).1 _ _ _ _ ⟨.bl c,H,I,rfl,k ρ H _ .refl hs (.bl _)⟩
 ·cases hm
end
section
variable {P:Ar} {w:BG} {K:AA} {mg:Str->Option AD} {base:Bk}
theorem GB {N ps:List Str} {sc:HJ} (h1:N.Nodup:=by decide +kernel) (h2:∀x∈ps,sc.names.lookup x=some .local∨sc.names.lookup x=some .cell:=by decide +kernel) (h3:∀y∈sc.names,y.2≠.free:=by decide +kernel) (h4:sc.kind=.function:=by rfl) (h5:sc.isCoroutine=false:=by rfl) (h6:sc.isGenerator=false:=by rfl) (h7:N.take ps.length=ps:=by rfl):Bu N ps sc:=⟨h4,h5,h6,h1,h7,h2,h3⟩
theorem CH {x qual:Str} {st:Cp} {f:AI} {fd:DY} {N ps:List Str} {k n:Nat} (F:Fun K x qual st f fd) (Sc:Bu N ps (Am st)) (hn:ps.length=n) {mb:MS}
  (hbody:∀(cdv:AD) (A:A8) (outer:List Env) (s:AF) (H:Hp) (E:XK),Gj k (A.deeper (Jw qual (Am st) s.heap.objs.size f cdv))->IE (QV (CXG P w) P w K mg base N qual (Am st) f cdv A outer s H E)->(A.deeper (Jw qual (Am st) s.heap.objs.size f cdv)).units+64 < D3->N.Nodup ->
   ∀pn E',GSs ((QV (CXG P w) P w K mg base N qual (Am st) f cdv A outer s H E).w' pn E') E' (Bm st) mb) :
  De P w K mg base (CXG P w) (k+1) f fd ps (spM K n (D4 N.length mb)):=de F Sc hn λcdv A outer s H E hr=>hbody cdv A outer s H E hr ⟨rfl,rfl,rfl⟩ hr.units Sc.nd
end
section
variable {X:Cx} {E:EW} {e:Expr} {m:ME} {pos:Pos}
theorem CU {x:Str} (i:Nat) (hN:X.N.Nodup) (hi:X.N[i]?=some x:=by rfl) (hx:Loc X.env.scope x:=by first | exact Qp rfl | exact Qo rfl) (hf:X.fn x=true∨X.env.scope.names.lookup x=some .local:=by first | exact .inl rfl | exact .inr rfl | assumption):GG X (.Name x pos) (tgN i):=Z1 (ZV hN hi hx hf)
theorem C5 {x:Str} {pos':Pos} (i:Nat) (hN:X.N.Nodup) (he:GE X E e m) (hi:X.N[i]?=some x:=by rfl) (hx:Loc X.env.scope x:=by first | exact Qp rfl | exact Qo rfl) (hs:FV e (some (.Name x pos')) pos.line X.env=pure false:=by rfl)
  (hf:X.fn x=true∨X.env.scope.names.lookup x=some .local:=by first | exact .inl rfl | exact .inr rfl | assumption):GS X E (.Assign [.Name x pos'] e pos) (Bp i m):=dO hN hi hx he hs hf
end
end L2
namespace M
open PySem PySem.Spec PyProof.Rows L2
def top (i:Nat):Cp:=bP.main.body.getD i (.Pass ⟨0,0,0,0⟩)
structure Wd where
 GuardError:AI
 BadPlaces:AI
 BadTie:AI
 NoPlace:AI
 TooLarge:AI
 BadGuards:AI
 NotTwo:AI
 NotWood:AI
 Web:AI
def Wd.excs (W:Wd):List AI:=[W.BadPlaces,W.BadTie,W.NoPlace,W.TooLarge]
def BE (W:Wd) (C:AI):Option Bool:=if C∈([W.BadPlaces,W.BadTie,W.NoPlace]:List AI) then some true else if C∈W.excs then some false else none
def GV (W:Wd) (C:AI):Option Bool:=if C∈[W.TooLarge] then some true else if C∈W.excs then some false else none
def FG (W:Wd) (C:AI):Option Bool:=if C∈[W.BadPlaces,W.BadTie,W.NoPlace,W.TooLarge] then some true else if C∈W.excs then some false else none
abbrev Ds:Cp:=top 12
abbrev Dp:Cp:=top 13
abbrev Fy:Cp:=Zz (top 11) 0
abbrev C3:Cp:=top 14
abbrev Lc:Cp:=top 15
abbrev Gw:Cp:=top 17
abbrev C4:Cp:=top 18
abbrev Ex:Cp:=top 19
abbrev Ey:Cp:=top 20
abbrev FQ:Cp:=top 21
abbrev Gx:Cp:=top 22
abbrev Dm:Cp:=top 25
abbrev Dq:Cp:=top 26
abbrev Ew:Cp:=top 27
abbrev Ez:Cp:=top 30
abbrev Do:Cp:=top 29
abbrev Dr:Cp:=top 28
abbrev Du:Cp:=top 32
abbrev E1:Cp:=top 33
abbrev FS:Cp:=top 34
abbrev FR:Cp:=top 35
abbrev EN:Cp:=top 36
abbrev E0:Cp:=top 37
abbrev DK:Cp:=top 38
abbrev E2:Cp:=top 39
abbrev Dt:Cp:=top 40
abbrev O9:Cp:=top 41
def OA (W:Wd):MS:=
  (BK (Bp 2 Xh)
  (BK (Dg (Ec (AC 1)) (Gm 2 (CZ (tgN 3) (CZ (tgN 4) G1)))
  (BK (Bp 5 (EC (AE (mQ PM (AE (AC 3) (AE (AC 4) AY))) (AE (mQ PN (AE (AC 3) (AE (AC 4) AY))) AY))))
  (BK (sIf (mB (m2 (eqD false) (m2 ixA (AC 5) (mC (.int 0))) (m2 ixA (AC 5) (mC (.int 1))))) (EA W.BadTie (AE (mC (.str "a tie has one place twice")) AY)) sNx)
  (BK (sIf (mOr (mB (m2 ltD (m2 ixA (AC 5) (mC (.int 0))) (mC (.int 0)))) (mB (m2 geD (m2 ixA (AC 5) (mC (.int 1))) (AC 0)))) (EA W.BadTie (AE (mC (.str "a tie has a place that is not there")) AY)) sNx)
  (BK (sIf (mB (m2 (inA false) (AC 5) (AC 2))) (EA W.BadTie (AE (mC (.str "a tie is there twice")) AY)) sNx)
  (Ff (AC 2) (AC 5) (mC (.bl true))))))))
  (Cw (JH (GN (AC 2))))))
def Fn (W:Wd):List D->Sto->Res D:=D4 6 (OA W)
def JU (W:Wd):MS:=
  (BK (Bp 2 (Ce (GX 1 (iR1 (AE (AC 0) AY)) (tgN 0) E7 (Ce (BX AY)))))
  (BK (Dg (Ec (AC 1)) (Gm 2 (CZ (tgN 3) (CZ (tgN 4) G1)))
  (BK (B7 (FH (m2 ixA (AC 2) (AC 3)) (AC 4)))
  (B7 (FH (m2 ixA (AC 2) (AC 4)) (AC 3)))))
  (Cw (JH (Ce (GX 1 (Ec (AC 2)) (tgN 0) E7 (JH (GN (AC 0)))))))))
def Fj (W:Wd):List D->Sto->Res D:=D4 5 (JU W)
def OB (W:Wd):MS:=
  (BK (sIf (Nk (mB (m3 leD leD (mC (.int 1)) (AC 1) (mC (.int 60))))) (EA W.BadPlaces (AE (PP (Im (mC (.str "a web has 1 to ")) (Im (Vb (mC (.int 60))) (Im (mC (.str " places")) TJ)))) AY)) sNx)
  (BK (PB W.Web "places" (AC 0) (AC 1))
  (BK (PB W.Web "ties" (AC 0) (A0 2 (Fn W) (AE (AC 1) (AE (AC 2) AY))))
  (PB W.Web "near_sets" (AC 0) (A0 2 (Fj W) (AE (AC 1) (AE (Er W.Web "ties" (AC 0)) AY)))))))
def GD (W:Wd):List D->Sto->Res D:=D4 3 (OB W)
def K9 (W:Wd):MS:=
  (sIf (Nk (mB (m3 leD ltD (mC (.int 0)) (AC 1) (Er W.Web "places" (AC 0))))) (EA W.NoPlace (AE (mC (.str "the web has no such place")) AY)) sNx)
def EZ (W:Wd):List D->Sto->Res D:=D4 2 (K9 W)
def YU (W:Wd):MS:=
  (BK (B7 (A0 2 (EZ W) (AE (AC 0) (AE (AC 1) AY))))
  (Cw (m2 ixA (Er W.Web "near_sets" (AC 0)) (AC 1))))
def JM (W:Wd):List D->Sto->Res D:=D4 2 (YU W)
def Pd (W:Wd):MS:=
  (BK (Bp 2 (Ce (BX (AE (EC AY) AY))))
  (BK (Dg (iR1 (AE (AC 1) AY)) (tgN 3)
  (BK (Bp 4 (Ce (BX AY)))
  (BK (Dg (Ec (AC 2)) (tgN 5)
  (BK (Bp 6 (Va (Ra (AC 5)) (m2 CQ (m2 ixA (AC 5) (VZ (mC (.int 1)))) (mC (.int 1))) (mC (.int 0))))
  (Dg (iR2 (AE (AC 6) (AE (m2 CQ (m2 CQ (m2 Sg (AC 0) (AC 1)) (AC 3)) (mC (.int 1))) AY))) (tgN 7)
  (B7 (FH (AC 4) (m2 CQ (AC 5) (EC (AE (AC 7) AY))))))))
  (Bp 2 (AC 4)))))
  (Cw (AC 2))))
def Gy (W:Wd):List D->Sto->Res D:=D4 8 (Pd W)
def HX (W:Wd):MS:=
  (BK (Bp 2 TD)
  (BK (Dg (Ec (AC 1)) (tgN 3)
  (BK (Ff (AC 2) (AC 3) (mC (.bl true)))
  (Dg (Ec (A0 2 (JM W) (AE (AC 0) (AE (AC 3) AY)))) (tgN 4)
  (Ff (AC 2) (AC 4) (mC (.bl true))))))
  (BK (Dg (iR1 (AE (Er W.Web "places" (AC 0)) AY)) (tgN 3)
  (sIf (mB (m2 (inA true) (AC 3) (AC 2))) (Cw (AC 3)) sNx))
  (Cw (mC .non)))))
def Cc (W:Wd):List D->Sto->Res D:=D4 5 (HX W)
def LA (W:Wd):MS:=
  (BK (Dg (Lk (AC 1)) (Gm 2 (CZ (tgN 3) (CZ (tgN 4) G1)))
  (BK (Bp 5 (A0 2 (JM W) (AE (AC 0) (AE (AC 4) AY))))
  (Dg (Ec (Hg (AC 1) (Gn (m2 CQ (AC 3) (mC (.int 1)))) Hv)) (tgN 6)
  (sIf (mB (m2 (eqD false) (m2 (inA false) (AC 6) (AC 5)) (AC 2))) (Cw (EC (AE (AC 4) (AE (AC 6) AY)))) sNx))))
  (Cw (mC .non)))
def Gp (W:Wd):List D->Sto->Res D:=D4 7 (LA W)
def LB (W:Wd):MS:=
  (Cw (A0 3 (Gp W) (AE (AC 0) (AE (AC 1) (AE (mC (.bl true)) AY)))))
def Fk (W:Wd):List D->Sto->Res D:=D4 2 (LB W)
def MP (W:Wd):MS:=
  (Cw (A0 3 (Gp W) (AE (AC 0) (AE (AC 1) (AE (mC (.bl false)) AY)))))
def JN (W:Wd):List D->Sto->Res D:=D4 2 (MP W)
def Lq (W:Wd):MS:=
  (Cw (UG (m2 gtD (Eb (AC 1)) (mC (.int 0))) (m2 (Iu false) (A0 2 (JN W) (AE (AC 0) (AE (AC 1) AY))) (mC .non))))
def IC (W:Wd):List D->Sto->Res D:=D4 2 (Lq W)
def HB (W:Wd):MS:=
  (sIf (mB (m2 gtD (Er W.Web "places" (AC 0)) (mC (.int 12)))) (EA W.TooLarge (AE (PP (Im (mC (.str "the web has more than ")) (Im (Vb (mC (.int 12))) (Im (mC (.str " places")) TJ)))) AY)) sNx)
def Ca (W:Wd):List D->Sto->Res D:=D4 1 (HB W)
def DU (W:Wd):MS:=
  (BK (B7 (A0 1 (Ca W) (AE (AC 0) AY)))
  (BK (Dg (iR2 (AE (mC (.int 1)) (AE (Er W.Web "places" (AC 0)) AY))) (tgN 1)
  (Dg (Ec (A0 2 (Gy W) (AE (Er W.Web "places" (AC 0)) (AE (AC 1) AY)))) (tgN 2)
  (sIf (mB (m2 (Iu false) (A0 2 (Cc W) (AE (AC 0) (AE (AC 2) AY))) (mC .non))) (Cw (AC 2)) sNx)))
  (Cw (RZ (AE (Er W.Web "places" (AC 0)) AY)))))
def Cy (W:Wd):List D->Sto->Res D:=D4 3 (DU W)
def EE (W:Wd):MS:=
  (BK (B7 (A0 1 (Ca W) (AE (AC 0) AY)))
  (BK (Dg (iRD (AE (Er W.Web "places" (AC 0)) (AE (mC (.int 1)) (AE (VZ (mC (.int 1))) AY)))) (tgN 1)
  (Dg (Ec (A0 2 (Gy W) (AE (Er W.Web "places" (AC 0)) (AE (AC 1) AY)))) (tgN 2)
  (sIf (mB (m2 (Iu false) (A0 2 (Fk W) (AE (AC 0) (AE (AC 2) AY))) (mC .non))) (Cw (AC 2)) sNx)))
  (Cw (EC (AE (mC (.int 0)) AY)))))
def Cb (W:Wd):List D->Sto->Res D:=D4 3 (EE W)
def Ib (W:Wd):MS:=
  (BK (Bp 4 (Ce (BX AY)))
  (BK (Dg (Lk (AC 1)) (Gm 2 (CZ (tgN 5) (CZ (tgN 6) G1)))
  (BK (Bp 7 (m2 CQ (AC 6) (EC (AE (AC 2) AY))))
  (sIf (Ra (A0 2 (IC W) (AE (AC 0) (AE (AC 7) AY)))) (B7 (FH (AC 4) (m2 CQ (m2 CQ (Hg (AC 1) Hv (Gn (AC 5))) (Ce (BX (AE (AC 7) AY)))) (Hg (AC 1) (Gn (m2 CQ (AC 5) (mC (.int 1)))) Hv)))) sNx)))
  (BK (sIf (mB (m2 ltD (Eb (AC 1)) (AC 3))) (B7 (FH (AC 4) (m2 CQ (AC 1) (Ce (BX (AE (EC (AE (AC 2) AY)) AY)))))) sNx)
  (Cw (AC 4)))))
def Fm (W:Wd):List D->Sto->Res D:=D4 8 (Ib W)
def CK (W:Wd) (fr:List D->Sto->Res D):MS:=
  (BK (sIf (mB (m2 (eqD false) (AC 2) (Er W.Web "places" (AC 0)))) (Cw (AC 1)) sNx)
  (BK (Dg (Ec (A0 4 (Fm W) (AE (AC 0) (AE (AC 1) (AE (AC 2) (AE (AC 3) AY)))))) (tgN 4)
  (BK (Bp 5 (A0 4 fr (AE (AC 0) (AE (AC 4) (AE (m2 CQ (AC 2) (mC (.int 1))) (AE (AC 3) AY))))))
  (sIf (mB (m2 (Iu true) (AC 5) (mC .non))) (Cw (AC 5)) sNx)))
  (Cw (mC .non))))
def BY (W:Wd):Nat->List D->Sto->Res D
 | 0=>λ_ _=>.bad
 | n+1=>D4 6 (CK W (BY W n))
def DV (W:Wd):MS:=
  (BK (B7 (A0 1 (Ca W) (AE (AC 0) AY)))
  (BK (Dg (iR2 (AE (Eb (A0 1 (Cb W) (AE (AC 0) AY))) (AE (Er W.Web "places" (AC 0)) AY))) (tgN 1)
  (BK (Bp 2 (A0 4 (BY W 13) (AE (AC 0) (AE (Ce (BX AY)) (AE (mC (.int 0)) (AE (AC 1) AY))))))
  (sIf (mB (m2 (Iu true) (AC 2) (mC .non))) (Cw (AC 2)) sNx)))
  (Cw (Ce (GX 1 (iR1 (AE (Er W.Web "places" (AC 0)) AY)) (tgN 0) E7 (EC (AE (AC 0) AY)))))))
def DT (W:Wd):List D->Sto->Res D:=D4 3 (DV W)
def HD (W:Wd):MS:=
  (BK (sIf (mB (m2 ltD (AC 1) (Eb (AC 0)))) (Cw (m2 ixA (AC 0) (AC 1))) sNx)
  (Cw (mC (.int 0))))
def Cz (W:Wd):List D->Sto->Res D:=D4 2 (HD W)
def LD (W:Wd):MS:=
  (BK (Bp 2 (m2 Ea (m2 Nj (m2 CQ (m2 Ea (AC 0) (mC (.int 2147483647))) (AC 1)) (mC (.int 48271))) (mC (.int 2147483647))))
  (Cw (m2 Ea (m2 Nj (AC 2) (AC 2)) (mC (.int 2147483629)))))
def Bl (W:Wd):List D->Sto->Res D:=D4 3 (LD W)
def MR (W:Wd):MS:=
  (BK (Bp 2 (Ce (BX (AE (Eb (AC 0)) AY))))
  (BK (Dg (iR1 (AE (mC (.int 24)) AY)) (tgN 3)
  (BK (Bp 4 (M1 (AC 0) (Gn (m2 CQ (AC 1) (AC 3))) Hv (Gn (mC (.int 24)))))
  (sIf (mB (m2 (eqD true) (AC 4) (Ce (BX AY)))) (B7 (FH (AC 2) (TC (AC 4)))) sNx)))
  (Cw (AC 2))))
def JP (W:Wd):List D->Sto->Res D:=D4 5 (MR W)
def MQ (W:Wd):MS:=
  (BK (Bp 3 (Ce (BX AY)))
  (BK (Bp 4 (mC (.int 0)))
  (BK (Dg (iR2 (AE (mC (.int 1)) (AE (AC 1) AY))) (tgN 5)
  (Dg (iR1 (AE (AC 5) AY)) (tgN 6)
  (BK (Bp 7 (m2 ixA (AC 0) (m2 Ea (AC 4) (Eb (AC 0)))))
  (BK (Bp 4 (m2 CQ (AC 4) (mC (.int 1))))
  (sIf (mB (m2 ltD (m2 Ea (A0 2 (Bl W) (AE (AC 7) (AE (m2 CQ (m2 Nj (mC (.int 7)) (AC 6)) (m2 Nj (mC (.int 61)) (AC 5))) AY))) (mC (.int 6))) (AC 2))) (B7 (FH (AC 3) (EC (AE (AC 6) (AE (AC 5) AY))))) sNx)))))
  (Cw (AC 3)))))
def JO (W:Wd):List D->Sto->Res D:=D4 8 (MQ W)
def GP (W:Wd):MS:=
  (BK (Bp 2 (Ce (BX AY)))
  (BK (Dg (iR1 (AE (Eb (AC 0)) AY)) (tgN 3)
  (sIf (mB (m2 (eqD false) (m2 Ea (A0 2 (Bl W) (AE (AC 1) (AE (AC 3) AY))) (mC (.int 2))) (mC (.int 0)))) (B7 (FH (AC 2) (m2 ixA (AC 0) (AC 3)))) (B7 (FH (AC 2) (EC (AE (m2 ixA (m2 ixA (AC 0) (AC 3)) (mC (.int 1))) (AE (m2 ixA (m2 ixA (AC 0) (AC 3)) (mC (.int 0))) AY)))))))
  (BK (sIf (mB (m2 (eqD false) (m2 Ea (AC 1) (mC (.int 2))) (mC (.int 1)))) (B7 (Xf (AC 2))) sNx)
  (Cw (AC 2)))))
def ER (W:Wd):List D->Sto->Res D:=D4 4 (GP W)
def LC (W:Wd):MS:=
  (BK (Bp 2 (Ce (GX 1 (iR1 (AE (AC 1) AY)) (tgN 0) E7 (Ce (BX AY)))))
  (BK (Dg (Ec (AC 0)) (Gm 2 (CZ (tgN 3) (CZ (tgN 4) G1)))
  (BK (B7 (FH (m2 ixA (AC 2) (AC 3)) (AC 4)))
  (B7 (FH (m2 ixA (AC 2) (AC 4)) (AC 3)))))
  (Cw (Ce (GX 1 (Ec (AC 2)) (tgN 0) E7 (GN (AC 0)))))))
def Gq (W:Wd):List D->Sto->Res D:=D4 5 (LC W)
def ID (W:Wd):MS:=
  (BK (Bp 3 (A0 2 (Cz W) (AE (AC 0) (AE (mC (.int 0)) AY))))
  (BK (Bp 4 (m2 CQ (mC (.int 1)) (m2 Ea (AC 3) (AC 1))))
  (BK (sIf (mB (m2 (eqD false) (m2 Ea (m2 Jv (AC 3) (mC (.int 14))) (mC (.int 8))) (mC (.int 3)))) (Bp 4 (m2 CQ (AC 2) (m2 Ea (m2 Jv (AC 3) (mC (.int 112))) (m2 Sg (mC (.int 13)) (AC 2))))) sNx)
  (Cw (EC (AE (AC 4) (AE (A0 3 (JO W) (AE (A0 2 (JP W) (AE (AC 0) (AE (mC (.int 1)) AY))) (AE (AC 4) (AE (m2 CQ (mC (.int 1)) (m2 Ea (m2 Jv (AC 3) (mC (.int 5))) (mC (.int 6)))) AY)))) AY)))))))
def D0 (W:Wd):List D->Sto->Res D:=D4 5 (ID W)
def Ic (W:Wd):MS:=
  (BK (Bp 2 (Ce (BX AY)))
  (BK (ZC W.excs 3 (sIf (mB (m2 (eqD false) (AC 0) (mC (.int 0)))) (B7 (A0 1 (Cy W) (AE (AC 1) AY))) (sIf (mB (m2 (eqD false) (AC 0) (mC (.int 1)))) (B7 (A0 1 (Cb W) (AE (AC 1) AY))) (B7 (A0 1 (DT W) (AE (AC 1) AY))))) (BK (Bp 4 (Xg (BE W) (AC 3)))
  (Bp 2 (Ce (BX (AE (mIs isN (GV W) (AC 3)) (AE (mIs isV (FG W) (AC 3)) (AE (AC 4) AY))))))))
  (Cw (AC 2))))
def E3 (W:Wd):List D->Sto->Res D:=D4 5 (Ic W)
def HC (W:Wd):MS:=
  (BK (Bp 1 (A0 2 (Cz W) (AE (AC 0) (AE (mC (.int 0)) AY))))
  (BK (Bp 2 (m2 CQ (mC (.int 13)) (m2 Ea (m2 Jv (AC 1) (mC (.int 3))) (mC (.int 48)))))
  (BK (Bp 3 (Ce (BX AY)))
  (BK (Dg (iR2 (AE (mC (.int 1)) (AE (AC 2) AY))) (tgN 4)
  (sIf (mB (m2 (eqD false) (m2 Ea (A0 2 (Bl W) (AE (AC 1) (AE (AC 4) AY))) (mC (.int 3))) (mC (.int 0)))) (B7 (FH (AC 3) (EC (AE (m2 Ea (A0 2 (Bl W) (AE (AC 1) (AE (m2 CQ (mC (.int 97)) (AC 4)) AY))) (AC 4)) (AE (AC 4) AY))))) sNx))
  (BK (Bp 5 (MF W.Web 3 (GD W) (AE (AC 2) (AE (AC 3) AY))))
  (Cw (m2 (YI false) (Ce (GX 1 (iR1 (AE (mC (.int 3)) AY)) (tgN 0) E7 (A0 2 (E3 W) (AE (AC 0) (AE (AC 6) AY))))) (m2 VH (Ce (BX (AE (Ce (BX (AE (mC (.bl true)) (AE (mC (.bl true)) (AE (mC (.bl false)) AY))))) AY))) (mC (.int 3))))))))))
def G8 (W:Wd):List D->Sto->Res D:=D4 6 (HC W)
def YV (W:Wd):MS:=
  (BK (VF (A0 3 (D0 W) (AE (AC 0) (AE (mC (.int 9)) (AE (mC (.int 10)) AY)))) (Gm 2 (CZ (tgN 1) (CZ (tgN 2) G1))))
  (BK (Bp 3 (MF W.Web 3 (GD W) (AE (AC 1) (AE (A0 2 (ER W) (AE (AC 2) (AE (A0 2 (Cz W) (AE (AC 0) (AE (mC (.int 0)) AY))) AY))) AY))))
  (BK (Bp 4 (A0 2 (Gq W) (AE (AC 2) (AE (AC 1) AY))))
  (BK (Bp 5 (A0 1 (Cb W) (AE (AC 3) AY)))
  (BK (Bp 6 (A0 1 (DT W) (AE (AC 3) AY)))
  (BK (sIf (Nk (mB (m3 leD leD (Eb (A0 1 (Cy W) (AE (AC 3) AY))) (Eb (AC 5)) (Eb (AC 6))))) (Cw (mC (.bl false))) sNx)
  (BK (Dg (iR1 (AE (AC 1) AY)) (tgN 7)
  (sIf (Rc (mB (m2 (inA true) (AC 7) (AC 5))) (Nk (mB (mQ V6 (Rb (Ce (GX 1 (Ec (m2 ixA (AC 4) (AC 7))) (tgN 0) E7 (m2 (inA false) (AC 0) (AC 6))))))))) (Cw (mC (.bl false))) sNx))
  (BK (Dg (Ec (AC 6)) (tgN 8)
  (sIf (mB (m2 gtD (Eb (Ce (GX 1 (Ec (AC 8)) (tgN 0) (mB (m2 (inA false) (AC 0) (AC 6))) (AC 0)))) (mC (.int 1)))) (Cw (mC (.bl false))) sNx))
  (Cw (A0 1 (G8 W) (AE (AC 0) AY)))))))))))
def YG (W:Wd):List D->Sto->Res D:=D4 9 (YV W)
structure Txt (K:AA) (mg:Str->Option AD) (W:Wd) where
 d_checked_ties:Dfn K mg "checked_ties" "checked_ties" Ds ["places", "ties"]
 d_near_sets_of:Dfn K mg "near_sets_of" "near_sets_of" Dp ["places", "ties"]
 d_Web_init:Mtd K "__init__" "Web.__init__" Fy ["self", "places", "ties"]
 d_refuse_no_place:Dfn K mg "refuse_no_place" "refuse_no_place" C3 ["web", "place"]
 d_near:Dfn K mg "near" "near" Lc ["web", "place"]
 d_sets_of:Dfn K mg "sets_of" "sets_of" Gw ["places", "size"]
 d_first_unwatched:Dfn K mg "first_unwatched" "first_unwatched" C4 ["web", "some"]
 d_first_pair:Dfn K mg "first_pair" "first_pair" Ex ["web", "some", "wanted"]
 d_first_near:Dfn K mg "first_near" "first_near" Ey ["web", "some"]
 d_first_far:Dfn K mg "first_far" "first_far" FQ ["web", "some"]
 d_is_club:Dfn K mg "is_club" "is_club" Gx ["web", "some"]
 d_refuse_large:Dfn K mg "refuse_large" "refuse_large" Dm ["web"]
 d_fewest_watch:Dfn K mg "fewest_watch" "fewest_watch" Dq ["web"]
 d_most_apart:Dfn K mg "most_apart" "most_apart" Ew ["web"]
 d_clubs_with:Dfn K mg "clubs_with" "clubs_with" Ez ["web", "clubs", "place", "most"]
 d_parting_from:Dfn K mg "parting_from" "parting_from" Do ["web", "clubs", "place", "most"]
 d_fewest_clubs:Dfn K mg "fewest_clubs" "fewest_clubs" Dr ["web"]
 d__law_cell_at:Dfn K mg "_law_cell_at" "_law_cell_at" Du ["script", "k"]
 d__law_mixed:Dfn K mg "_law_mixed" "_law_mixed" E1 ["cell", "salt"]
 d__law_pool:Dfn K mg "_law_pool" "_law_pool" FS ["script", "start"]
 d__law_ties:Dfn K mg "_law_ties" "_law_ties" FR ["pool", "many", "thick"]
 d__law_turned:Dfn K mg "_law_turned" "_law_turned" EN ["ties", "cell"]
 d__law_nears:Dfn K mg "_law_nears" "_law_nears" E0 ["ties", "many"]
 d__law_small_web:Dfn K mg "_law_small_web" "_law_small_web" DK ["script", "most", "often"]
 d__law_marks:Dfn K mg "_law_marks" "_law_marks" E2 ["way", "web"]
 d__law_refused:Dfn K mg "_law_refused" "_law_refused" Dt ["script"]
 d_law:Dfn K mg "law" "law" O9 ["script"]
 c_Web:Own K mg "Web" W.Web d_Web_init.f
 n_Web_places:HE K W.Web "places"
 n_Web_ties:HE K W.Web "ties"
 n_Web_near_sets:HE K W.Web "near_sets"
 xm_GuardError:mg "GuardError" = some (.ref W.GuardError)
 x_BadPlaces:Xcl K mg "BadPlaces" W.BadPlaces
 x_BadTie:Xcl K mg "BadTie" W.BadTie
 x_NoPlace:Xcl K mg "NoPlace" W.NoPlace
 x_TooLarge:Xcl K mg "TooLarge" W.TooLarge
 xm_BadGuards:mg "BadGuards" = some (.ref W.BadGuards)
 xm_NotTwo:mg "NotTwo" = some (.ref W.NotTwo)
 xm_NotWood:mg "NotWood" = some (.ref W.NotWood)
 nd:W.excs.Nodup
 caught_GuardError:∀c∈W.excs,Th K c W.GuardError
 is_TooLarge:∀C b,GV W C=some b->XIs K C/\Bn K (.ref C) (.ref W.TooLarge)=some b
 i_TooLarge:(EJ K W.TooLarge).isSome=true/\Iz K (.ref W.TooLarge)=some (.type "type")
 is_ValueError:∀C b,FG W C=some b->XIs K C/\Bn K (.ref C) (.type "ValueError")=some b
 isT_BadGuards_BadPlaces_BadTie_NoPlace_NotTwo_NotWood:∀C b,BE W C=some b->XIs K C/\Cv K (.ref C) (([W.BadGuards,W.BadPlaces,W.BadTie,W.NoPlace,W.NotTwo,W.NotWood]:List AI).map Au)=some b
 b_ValueError:mg "ValueError" = none
 b_any:mg "any" = none
 b_enumerate:mg "enumerate" = none
 b_isinstance:mg "isinstance" = none
 b_len:mg "len" = none
 b_max:mg "max" = none
 b_min:mg "min" = none
 b_range:mg "range" = none
 b_sorted:mg "sorted" = none
 b_sum:mg "sum" = none
 b_tuple:mg "tuple" = none
 g_MOST_PLACES:∃tk,mg "MOST_PLACES" = some (.int 60 tk)
 g_MOST_PLACES_TRIED:∃tk,mg "MOST_PLACES_TRIED" = some (.int 12 tk)
section
variable {P:Ar} {w:BG} {K:AA} {mg:Str->Option AD} {base:Bk} {W:Wd}
theorem Mh:Bu ["places", "ties", "found", "one", "other", "tie"] ["places", "ties"] (Am Ds):=GB
theorem Mo (T:Txt K mg W):De P w K mg base (CXG P w) 1 T.d_checked_ties.f T.d_checked_ties.fd ["places", "ties"] (spM K 2 (Fn W)):=by
 refine CH (k:=0) T.d_checked_ties.F Mh rfl λ_ _ _ _ _ _ hr O hu nd pn E'=>?_
 exact (Ae (C5 2 nd YA)
  (Ae (C8 (A1 O).own rfl (FM (AH (pv 1))) (Ll rfl (EG (CU 3 nd) (EG (CU 4 nd) Jf)))
  (Ae (C5 5 nd (Gh (AN (Z3 rfl rfl T.b_min (AN (AH (pv 3)) (AN (AH (pv 4)) Ap))) (AN (Z4 rfl rfl T.b_max (AN (AH (pv 3)) (AN (AH (pv 4)) Ap))) Ap))))
  (Ae (Dz (DQ (Km hu) (Fu hu (AH (pv 5)) ge_int) (Fu hu (AH (pv 5)) ge_int) (DF _)) (Ak (IA (A1 O) rfl T.x_BadTie.xc rfl T.x_BadTie.m (AN JJ Ap))) CT)
  (Ae (Dz (gc (gb (DQ RT (Fu hu (AH (pv 5)) ge_int) ge_int (DF _)) (dI (DQ fu (Fu hu (AH (pv 5)) ge_int) (AH (pv 0)) (DF _))))) (Ak (IA (A1 O) rfl T.x_BadTie.xc rfl T.x_BadTie.m (AN JJ Ap))) CT)
  (Ae (Dz (aw hu (AH (pv 5)) (AH (pv 2))) (Ak (IA (A1 O) rfl T.x_BadTie.xc rfl T.x_BadTie.m (AN JJ Ap))) CT)
  (Ak (QP (A7 (KY (by decide:1<=64) _) hu) (AH (pv 2)) (AH (pv 5)) JL rfl)))))))
  (Ak (CC (Nx rfl T.b_tuple (Lm rfl rfl T.b_sorted (AH (pv 2))))))))
theorem Me:Bu ["places", "ties", "rows", "one", "other"] ["places", "ties"] (Am Dp):=GB
theorem Mn (T:Txt K mg W):De P w K mg base (CXG P w) 1 T.d_near_sets_of.f T.d_near_sets_of.fd ["places", "ties"] (spM K 2 (Fj W)):=by
 refine CH (k:=0) T.d_near_sets_of.F Me rfl λ_ _ _ _ _ _ hr O hu nd pn E'=>?_
 exact (Ae (UQ (i:=2) (own:=["place"]) (N':=["place", "·1", "·2", "·3", "·4", "·5"]) rfl rfl nd rfl (by first | exact Qp rfl | exact Qo rfl) (HW (by kernel_rfl)) (EQ rfl T.b_range (AN (AH (pv 0)) Ap)) (λ_ _ _ _ _ _=>(CU 0 (by decide +kernel:(["place", "·1", "·2", "·3", "·4", "·5"]:List Str).Nodup))) (λ_ _ _ _ _ _=>G5) (λ_ _ _ _ _ _=>(DR (Es Ap))))
  (Ae (C8 (A1 O).own rfl (FM (AH (pv 1))) (Ll rfl (EG (CU 3 nd) (EG (CU 4 nd) Jf)))
  (Ae (C6 (Dc (Fu hu (AH (pv 2)) (AH (pv 3))) (AH (pv 4))))
  (Ak (C6 (Dc (Fu hu (AH (pv 2)) (AH (pv 4))) (AH (pv 3)))))))
  (Ak (CC (Nx rfl T.b_tuple (DR (Jd (own:=["row"]) (N':=["row", "·1", "·2", "·3", "·4", "·5"]) rfl (HW (by kernel_rfl)) (FM (AH (pv 2))) (λ_ _ _ _ _ _=>(CU 0 (by decide +kernel:(["row", "·1", "·2", "·3", "·4", "·5"]:List Str).Nodup))) (λ_ _ _ _ _ _=>G5) (λ_ _ _ _ _ _=>(Nx rfl T.b_tuple (Lm rfl rfl T.b_sorted (AH (pv 0))))))))))))
theorem RI:Bu ["self", "places", "ties"] ["self", "places", "ties"] (Am Fy):=GB
theorem MC (T:Txt K mg W):De P w K mg base (CXG P w) 2 T.d_Web_init.f T.d_Web_init.fd ["self", "places", "ties"] (spM K 3 (GD W)):=by
 refine CH (k:=1) T.d_Web_init.F RI rfl λ_ _ _ _ _ _ hr O hu nd pn E'=>?_
 exact (Ae (Dz (QN (Nv RU RU ge_int (AH (pv 1)) (Ky rfl T.g_MOST_PLACES.choose_spec))) (Ak (IA (A1 O) rfl T.x_BadPlaces.xc rfl T.x_BadPlaces.m (AN (UV (Je JJ (Je (X9 (Ky rfl T.g_MOST_PLACES.choose_spec)) (Je JJ X4)))) Ap))) CT)
  (Ae (TN T.c_Web.cl T.n_Web_places (AH (pv 0)) (AH (pv 1)) rfl)
  (Ae (TN T.c_Web.cl T.n_Web_ties (AH (pv 0)) (BP (Mo T) (A1 O).pass (hr.mono (by decide)) rfl T.d_checked_ties.m T.d_checked_ties.kp T.d_checked_ties.b (AN (AH (pv 1)) (AN (AH (pv 2)) Ap))) rfl)
  (Ak (TN T.c_Web.cl T.n_Web_near_sets (AH (pv 0)) (BP (Mn T) (A1 O).pass (hr.mono (by decide)) rfl T.d_near_sets_of.m T.d_near_sets_of.kp T.d_near_sets_of.b (AN (AH (pv 1)) (AN (GC T.c_Web.cl T.n_Web_ties (AH (pv 0)) rfl) Ap))) rfl)))))
theorem J8:Bu ["web", "place"] ["web", "place"] (Am C3):=GB
theorem KB (T:Txt K mg W):De P w K mg base (CXG P w) 1 T.d_refuse_no_place.f T.d_refuse_no_place.fd ["web", "place"] (spM K 2 (EZ W)):=by
 refine CH (k:=0) T.d_refuse_no_place.F J8 rfl λ_ _ _ _ _ _ hr O hu nd pn E'=>?_
 exact (Ak (Dz (QN (Nv RU RT ge_int (AH (pv 1)) (GC T.c_Web.cl T.n_Web_places (AH (pv 0)) rfl))) (Ak (IA (A1 O) rfl T.x_NoPlace.xc rfl T.x_NoPlace.m (AN JJ Ap))) CT))
theorem ZB:Bu ["web", "place"] ["web", "place"] (Am Lc):=GB
theorem UB (T:Txt K mg W):De P w K mg base (CXG P w) 2 T.d_near.f T.d_near.fd ["web", "place"] (spM K 2 (JM W)):=by
 refine CH (k:=1) T.d_near.F ZB rfl λ_ _ _ _ _ _ hr O hu nd pn E'=>?_
 exact (Ae (C6 (BP (KB T) (A1 O).pass (hr.mono (by decide)) rfl T.d_refuse_no_place.m T.d_refuse_no_place.kp T.d_refuse_no_place.b (AN (AH (pv 0)) (AN (AH (pv 1)) Ap))))
  (Ak (CC (Fu hu (GC T.c_Web.cl T.n_Web_near_sets (AH (pv 0)) rfl) (AH (pv 1))))))
theorem Sk:Bu ["places", "size", "told", "step", "longer", "some", "least", "place"] ["places", "size"] (Am Gw):=GB
theorem Nf (T:Txt K mg W):De P w K mg base (CXG P w) 1 T.d_sets_of.f T.d_sets_of.fd ["places", "size"] (spM K 2 (Gy W)):=by
 refine CH (k:=0) T.d_sets_of.F Sk rfl λ_ _ _ _ _ _ hr O hu nd pn E'=>?_
 exact (Ae (C5 2 nd (DR (Es (AN (Gh Ap) Ap))))
  (Ae (C8 (A1 O).own rfl (EQ rfl T.b_range (AN (AH (pv 1)) Ap)) (CU 3 nd)
  (Ae (C5 4 nd (DR (Es Ap)))
  (Ae (C8 (A1 O).own rfl (FM (AH (pv 2))) (CU 5 nd)
  (Ae (C5 6 nd (X8 (Ro (AH (pv 5))) (Bb Dx (Fu hu (AH (pv 5)) (X7 ge_int)) ge_int) ge_int))
  (Ak (C8 (A1 O).own rfl (IB rfl T.b_range (AN (AH (pv 6)) (AN (Bb Dx (Bb Dx (Bb XS (AH (pv 0)) (AH (pv 1))) (AH (pv 3))) ge_int) Ap))) (CU 7 nd)
  (Ak (C6 (Dc (AH (pv 4)) (Bb Dx (AH (pv 5)) (Gh (AN (AH (pv 7)) Ap))))))))))
  (Ak (C5 2 nd (AH (pv 4)))))))
  (Ak (CC (AH (pv 2))))))
theorem J9:Bu ["web", "some", "watched", "place", "beside"] ["web", "some"] (Am C4):=GB
theorem KC (T:Txt K mg W):De P w K mg base (CXG P w) 3 T.d_first_unwatched.f T.d_first_unwatched.fd ["web", "some"] (spM K 2 (Cc W)):=by
 refine CH (k:=2) T.d_first_unwatched.F J9 rfl λ_ _ _ _ _ _ hr O hu nd pn E'=>?_
 exact (Ae (C5 2 nd YB)
  (Ae (C8 (A1 O).own rfl (FM (AH (pv 1))) (CU 3 nd)
  (Ae (QP (A7 (KY (by decide:1<=64) _) hu) (AH (pv 2)) (AH (pv 3)) JL rfl)
  (Ak (C8 (A1 O).own rfl (FM (BP (UB T) (A1 O).pass (hr.mono (by decide)) rfl T.d_near.m T.d_near.kp T.d_near.b (AN (AH (pv 0)) (AN (AH (pv 3)) Ap)))) (CU 4 nd)
  (Ak (QP (A7 (KY (by decide:1<=64) _) hu) (AH (pv 2)) (AH (pv 4)) JL rfl))))))
  (Ae (C8 (A1 O).own rfl (EQ rfl T.b_range (AN (GC T.c_Web.cl T.n_Web_places (AH (pv 0)) rfl) Ap)) (CU 3 nd)
  (Ak (Dz (Rp hu (AH (pv 3)) (AH (pv 2))) (Ak (CC (AH (pv 3)))) CT)))
  (Ak (CC JK)))))
theorem OZ:Bu ["web", "some", "wanted", "number", "one", "beside", "other"] ["web", "some", "wanted"] (Am Ex):=GB
theorem Ju (T:Txt K mg W):De P w K mg base (CXG P w) 3 T.d_first_pair.f T.d_first_pair.fd ["web", "some", "wanted"] (spM K 3 (Gp W)):=by
 refine CH (k:=2) T.d_first_pair.F OZ rfl λ_ _ _ _ _ _ hr O hu nd pn E'=>?_
 exact (Ae (C8 (A1 O).own rfl (US rfl T.b_enumerate (AH (pv 1))) (Ll rfl (EG (CU 3 nd) (EG (CU 4 nd) Jf)))
  (Ae (C5 5 nd (BP (UB T) (A1 O).pass (hr.mono (by decide)) rfl T.d_near.m T.d_near.kp T.d_near.b (AN (AH (pv 0)) (AN (AH (pv 4)) Ap))))
  (Ak (C8 (A1 O).own rfl (FM (Ny (AH (pv 1)) (Kw (Bb Dx (AH (pv 3)) ge_int)) M3)) (CU 6 nd)
  (Ak (Dz (DQ (Km hu) (az hu (AH (pv 6)) (AH (pv 5))) (AH (pv 2)) (DF _)) (Ak (CC (Gh (AN (AH (pv 4)) (AN (AH (pv 6)) Ap))))) CT))))))
  (Ak (CC JK)))
theorem Oa:Bu ["web", "some"] ["web", "some"] (Am Ey):=GB
theorem Oh (T:Txt K mg W):De P w K mg base (CXG P w) 4 T.d_first_near.f T.d_first_near.fd ["web", "some"] (spM K 2 (Fk W)):=by
 refine CH (k:=3) T.d_first_near.F Oa rfl λ_ _ _ _ _ _ hr O hu nd pn E'=>?_
 exact (Ak (CC (BP (Ju T) (A1 O).pass (hr.mono (by decide)) rfl T.d_first_pair.m T.d_first_pair.kp T.d_first_pair.b (AN (AH (pv 0)) (AN (AH (pv 1)) (AN JL Ap))))))
theorem P1:Bu ["web", "some"] ["web", "some"] (Am FQ):=GB
theorem P7 (T:Txt K mg W):De P w K mg base (CXG P w) 4 T.d_first_far.f T.d_first_far.fd ["web", "some"] (spM K 2 (JN W)):=by
 refine CH (k:=3) T.d_first_far.F P1 rfl λ_ _ _ _ _ _ hr O hu nd pn E'=>?_
 exact (Ak (CC (BP (Ju T) (A1 O).pass (hr.mono (by decide)) rfl T.d_first_pair.m T.d_first_pair.kp T.d_first_pair.b (AN (AH (pv 0)) (AN (AH (pv 1)) (AN JL Ap))))))
theorem Sl:Bu ["web", "some"] ["web", "some"] (Am Gx):=GB
theorem Ss (T:Txt K mg W):De P w K mg base (CXG P w) 5 T.d_is_club.f T.d_is_club.fd ["web", "some"] (spM K 2 (IC W)):=by
 refine CH (k:=4) T.d_is_club.F Sl rfl λ_ _ _ _ _ _ hr O hu nd pn E'=>?_
 exact (Ak (CC (L2.da (QQ XU (G7 rfl T.b_len (AH (pv 1))) ge_int (DF _)) (dW (QQ Su (BP (P7 T) (A1 O).pass (hr.mono (by decide)) rfl T.d_first_far.m T.d_first_far.kp T.d_first_far.b (AN (AH (pv 0)) (AN (AH (pv 1)) Ap))) JK (DF _))))))
theorem Mc:Bu ["web"] ["web"] (Am Dm):=GB
theorem Ge (T:Txt K mg W):De P w K mg base (CXG P w) 1 T.d_refuse_large.f T.d_refuse_large.fd ["web"] (spM K 1 (Ca W)):=by
 refine CH (k:=0) T.d_refuse_large.F Mc rfl λ_ _ _ _ _ _ hr O hu nd pn E'=>?_
 exact (Ak (Dz (DQ XU (GC T.c_Web.cl T.n_Web_places (AH (pv 0)) rfl) (Ky rfl T.g_MOST_PLACES_TRIED.choose_spec) (DF _)) (Ak (IA (A1 O) rfl T.x_TooLarge.xc rfl T.x_TooLarge.m (AN (UV (Je JJ (Je (X9 (Ky rfl T.g_MOST_PLACES_TRIED.choose_spec)) (Je JJ X4)))) Ap))) CT))
theorem Mf:Bu ["web", "size", "some"] ["web"] (Am Dq):=GB
theorem Ik (T:Txt K mg W):De P w K mg base (CXG P w) 4 T.d_fewest_watch.f T.d_fewest_watch.fd ["web"] (spM K 1 (Cy W)):=by
 refine CH (k:=3) T.d_fewest_watch.F Mf rfl λ_ _ _ _ _ _ hr O hu nd pn E'=>?_
 exact (Ae (C6 (BP (Ge T) (A1 O).pass (hr.mono (by decide)) rfl T.d_refuse_large.m T.d_refuse_large.kp T.d_refuse_large.b (AN (AH (pv 0)) Ap)))
  (Ae (C8 (A1 O).own rfl (IB rfl T.b_range (AN ge_int (AN (GC T.c_Web.cl T.n_Web_places (AH (pv 0)) rfl) Ap))) (CU 1 nd)
  (Ak (C8 (A1 O).own rfl (FM (BP (Nf T) (A1 O).pass (hr.mono (by decide)) rfl T.d_sets_of.m T.d_sets_of.kp T.d_sets_of.b (AN (GC T.c_Web.cl T.n_Web_places (AH (pv 0)) rfl) (AN (AH (pv 1)) Ap)))) (CU 2 nd)
  (Ak (Dz (DQ Su (BP (KC T) (A1 O).pass (hr.mono (by decide)) rfl T.d_first_unwatched.m T.d_first_unwatched.kp T.d_first_unwatched.b (AN (AH (pv 0)) (AN (AH (pv 2)) Ap))) JK (DF _)) (Ak (CC (AH (pv 2)))) CT)))))
  (Ak (CC (X6 rfl rfl T.b_tuple rfl T.b_range (AN (GC T.c_Web.cl T.n_Web_places (AH (pv 0)) rfl) Ap))))))
theorem OY:Bu ["web", "size", "some"] ["web"] (Am Ew):=GB
theorem Hf (T:Txt K mg W):De P w K mg base (CXG P w) 5 T.d_most_apart.f T.d_most_apart.fd ["web"] (spM K 1 (Cb W)):=by
 refine CH (k:=4) T.d_most_apart.F OY rfl λ_ _ _ _ _ _ hr O hu nd pn E'=>?_
 exact (Ae (C6 (BP (Ge T) (A1 O).pass (hr.mono (by decide)) rfl T.d_refuse_large.m T.d_refuse_large.kp T.d_refuse_large.b (AN (AH (pv 0)) Ap)))
  (Ae (C8 (A1 O).own rfl (Vn rfl T.b_range (AN (GC T.c_Web.cl T.n_Web_places (AH (pv 0)) rfl) (AN ge_int (AN (X7 ge_int) Ap)))) (CU 1 nd)
  (Ak (C8 (A1 O).own rfl (FM (BP (Nf T) (A1 O).pass (hr.mono (by decide)) rfl T.d_sets_of.m T.d_sets_of.kp T.d_sets_of.b (AN (GC T.c_Web.cl T.n_Web_places (AH (pv 0)) rfl) (AN (AH (pv 1)) Ap)))) (CU 2 nd)
  (Ak (Dz (DQ Su (BP (Oh T) (A1 O).pass (hr.mono (by decide)) rfl T.d_first_near.m T.d_first_near.kp T.d_first_near.b (AN (AH (pv 0)) (AN (AH (pv 2)) Ap))) JK (DF _)) (Ak (CC (AH (pv 2)))) CT)))))
  (Ak (CC (Gh (AN ge_int Ap))))))
theorem Oc:Bu ["web", "clubs", "place", "most", "told", "number", "club", "joined"] ["web", "clubs", "place", "most"] (Am Ez):=GB
theorem Oi (T:Txt K mg W):De P w K mg base (CXG P w) 6 T.d_clubs_with.f T.d_clubs_with.fd ["web", "clubs", "place", "most"] (spM K 4 (Fm W)):=by
 refine CH (k:=5) T.d_clubs_with.F Oc rfl λ_ _ _ _ _ _ hr O hu nd pn E'=>?_
 exact (Ae (C5 4 nd (DR (Es Ap)))
  (Ae (C8 (A1 O).own rfl (US rfl T.b_enumerate (AH (pv 1))) (Ll rfl (EG (CU 5 nd) (EG (CU 6 nd) Jf)))
  (Ae (C5 7 nd (Bb Dx (AH (pv 6)) (Gh (AN (AH (pv 2)) Ap))))
  (Ak (Dz (Ro (BP (Ss T) (A1 O).pass (hr.mono (by decide)) rfl T.d_is_club.m T.d_is_club.kp T.d_is_club.b (AN (AH (pv 0)) (AN (AH (pv 7)) Ap)))) (Ak (C6 (Dc (AH (pv 4)) (Bb Dx (Bb Dx (Ny (AH (pv 1)) M3 (Kw (AH (pv 5)))) (DR (Es (AN (AH (pv 7)) Ap)))) (Ny (AH (pv 1)) (Kw (Bb Dx (AH (pv 5)) ge_int)) M3))))) CT))))
  (Ae (Dz (DQ RT (G7 rfl T.b_len (AH (pv 1))) (AH (pv 3)) (DF _)) (Ak (C6 (Dc (AH (pv 4)) (Bb Dx (AH (pv 1)) (DR (Es (AN (Gh (AN (AH (pv 2)) Ap)) Ap))))))) CT)
  (Ak (CC (AH (pv 4)))))))
theorem Md:Bu ["web", "clubs", "place", "most", "tried", "parting"] ["web", "clubs", "place", "most"] (Am Do):=GB
theorem Ij (T:Txt K mg W):∀n:Nat,De P w K mg base (CXG P w) (6+n) T.d_parting_from.f T.d_parting_from.fd ["web", "clubs", "place", "most"] (spM K 4 (BY W n))
 | 0=>df
 | n+1=>by
  refine CH (k:=6+n) T.d_parting_from.F Md rfl λ_ _ _ _ _ _ hr O hu nd pn E'=>?_
  exact (Ae (Dz (DQ (Km hu) (AH (pv 2)) (GC T.c_Web.cl T.n_Web_places (AH (pv 0)) rfl) (DF _)) (Ak (CC (AH (pv 1)))) CT)
  (Ae (C8 (A1 O).own rfl (FM (BP (Oi T) (A1 O).pass (hr.mono (Aq (show 6<=6 by decide) (Nat.le_add_right _ _))) rfl T.d_clubs_with.m T.d_clubs_with.kp T.d_clubs_with.b (AN (AH (pv 0)) (AN (AH (pv 1)) (AN (AH (pv 2)) (AN (AH (pv 3)) Ap)))))) (CU 4 nd)
  (Ae (C5 5 nd (BP (Ij T n) (A1 O).pass (hr.mono (AS _)) rfl T.d_parting_from.m T.d_parting_from.kp T.d_parting_from.b (AN (AH (pv 0)) (AN (AH (pv 4)) (AN (Bb Dx (AH (pv 2)) ge_int) (AN (AH (pv 3)) Ap))))))
  (Ak (Dz (DQ UC (AH (pv 5)) JK (DF _)) (Ak (CC (AH (pv 5)))) CT))))
  (Ak (CC JK))))
theorem Mg:Bu ["web", "most", "parting"] ["web"] (Am Dr):=GB
theorem Il (T:Txt K mg W):De P w K mg base (CXG P w) 21 T.d_fewest_clubs.f T.d_fewest_clubs.fd ["web"] (spM K 1 (DT W)):=by
 refine CH (k:=20) T.d_fewest_clubs.F Mg rfl λ_ _ _ _ _ _ hr O hu nd pn E'=>?_
 exact (Ae (C6 (BP (Ge T) (A1 O).pass (hr.mono (by decide)) rfl T.d_refuse_large.m T.d_refuse_large.kp T.d_refuse_large.b (AN (AH (pv 0)) Ap)))
  (Ae (C8 (A1 O).own rfl (IB rfl T.b_range (AN (G7 rfl T.b_len (BP (Hf T) (A1 O).pass (hr.mono (by decide)) rfl T.d_most_apart.m T.d_most_apart.kp T.d_most_apart.b (AN (AH (pv 0)) Ap))) (AN (GC T.c_Web.cl T.n_Web_places (AH (pv 0)) rfl) Ap))) (CU 1 nd)
  (Ae (C5 2 nd (BP (Ij T 13) (A1 O).pass (hr.mono (by decide)) rfl T.d_parting_from.m T.d_parting_from.kp T.d_parting_from.b (AN (AH (pv 0)) (AN (DR (Es Ap)) (AN ge_int (AN (AH (pv 1)) Ap))))))
  (Ak (Dz (DQ UC (AH (pv 2)) JK (DF _)) (Ak (CC (AH (pv 2)))) CT))))
  (Ak (CC (DR (Jd (own:=["place"]) (N':=["place", "·1", "·2", "·3"]) rfl (HW (by kernel_rfl)) (EQ rfl T.b_range (AN (GC T.c_Web.cl T.n_Web_places (AH (pv 0)) rfl) Ap)) (λ_ _ _ _ _ _=>(CU 0 (by decide +kernel:(["place", "·1", "·2", "·3"]:List Str).Nodup))) (λ_ _ _ _ _ _=>G5) (λ_ _ _ _ _ _=>(Gh (AN (AH (pv 0)) Ap)))))))))
theorem Mj:Bu ["script", "k"] ["script", "k"] (Am Du):=GB
theorem Gf (T:Txt K mg W):De P w K mg base (CXG P w) 1 T.d__law_cell_at.f T.d__law_cell_at.fd ["script", "k"] (spM K 2 (Cz W)):=by
 refine CH (k:=0) T.d__law_cell_at.F Mj rfl λ_ _ _ _ _ _ hr O hu nd pn E'=>?_
 exact (Ae (Dz (DQ RT (AH (pv 1)) (G7 rfl T.b_len (AH (pv 0))) (DF _)) (Ak (CC (Fu hu (AH (pv 0)) (AH (pv 1))))) CT)
  (Ak (CC ge_int)))
theorem Oe:Bu ["cell", "salt", "mixed"] ["cell", "salt"] (Am E1):=GB
theorem GM (T:Txt K mg W):De P w K mg base (CXG P w) 1 T.d__law_mixed.f T.d__law_mixed.fd ["cell", "salt"] (spM K 2 (Bl W)):=by
 refine CH (k:=0) T.d__law_mixed.F Oe rfl λ_ _ _ _ _ _ hr O hu nd pn E'=>?_
 exact (Ae (C5 2 nd (Bb Fg (Bb QA (Bb Dx (Bb Fg (AH (pv 0)) ge_int) (AH (pv 1))) ge_int) ge_int))
  (Ak (CC (Bb Fg (Bb QA (AH (pv 2)) (AH (pv 2))) ge_int))))
theorem P3:Bu ["script", "start", "pool", "k", "more"] ["script", "start"] (Am FS):=GB
theorem P9 (T:Txt K mg W):De P w K mg base (CXG P w) 1 T.d__law_pool.f T.d__law_pool.fd ["script", "start"] (spM K 2 (JP W)):=by
 refine CH (k:=0) T.d__law_pool.F P3 rfl λ_ _ _ _ _ _ hr O hu nd pn E'=>?_
 exact (Ae (C5 2 nd (DR (Es (AN (G7 rfl T.b_len (AH (pv 0))) Ap))))
  (Ae (C8 (A1 O).own rfl (EQ rfl T.b_range (AN ge_int Ap)) (CU 3 nd)
  (Ae (C5 4 nd (Vo (AH (pv 0)) (Kw (Bb Dx (AH (pv 1)) (AH (pv 3)))) M3 (Kw ge_int)))
  (Ak (Dz (DQ (fq hu) (AH (pv 4)) (DR (Es Ap)) (DF _)) (Ak (C6 (Dc (AH (pv 2)) (dU rfl rfl T.b_sum (AH (pv 4)))))) CT))))
  (Ak (CC (AH (pv 2))))))
theorem P2:Bu ["pool", "many", "thick", "ties", "at", "other", "one", "cell"] ["pool", "many", "thick"] (Am FR):=GB
theorem P8 (T:Txt K mg W):De P w K mg base (CXG P w) 2 T.d__law_ties.f T.d__law_ties.fd ["pool", "many", "thick"] (spM K 3 (JO W)):=by
 refine CH (k:=1) T.d__law_ties.F P2 rfl λ_ _ _ _ _ _ hr O hu nd pn E'=>?_
 exact (Ae (C5 3 nd (DR (Es Ap)))
  (Ae (C5 4 nd ge_int)
  (Ae (C8 (A1 O).own rfl (IB rfl T.b_range (AN ge_int (AN (AH (pv 1)) Ap))) (CU 5 nd)
  (Ak (C8 (A1 O).own rfl (EQ rfl T.b_range (AN (AH (pv 5)) Ap)) (CU 6 nd)
  (Ae (C5 7 nd (Fu hu (AH (pv 0)) (Bb Fg (AH (pv 4)) (G7 rfl T.b_len (AH (pv 0))))))
  (Ae (C5 4 nd (Bb Dx (AH (pv 4)) ge_int))
  (Ak (Dz (DQ RT (Bb Fg (BP (GM T) (A1 O).pass (hr.mono (by decide)) rfl T.d__law_mixed.m T.d__law_mixed.kp T.d__law_mixed.b (AN (AH (pv 7)) (AN (Bb Dx (Bb QA ge_int (AH (pv 6))) (Bb QA ge_int (AH (pv 5)))) Ap))) ge_int) (AH (pv 2)) (DF _)) (Ak (C6 (Dc (AH (pv 3)) (Gh (AN (AH (pv 6)) (AN (AH (pv 5)) Ap)))))) CT)))))))
  (Ak (CC (AH (pv 3)))))))
theorem NW:Bu ["ties", "cell", "told", "k"] ["ties", "cell"] (Am EN):=GB
theorem Ng (T:Txt K mg W):De P w K mg base (CXG P w) 2 T.d__law_turned.f T.d__law_turned.fd ["ties", "cell"] (spM K 2 (ER W)):=by
 refine CH (k:=1) T.d__law_turned.F NW rfl λ_ _ _ _ _ _ hr O hu nd pn E'=>?_
 exact (Ae (C5 2 nd (DR (Es Ap)))
  (Ae (C8 (A1 O).own rfl (EQ rfl T.b_range (AN (G7 rfl T.b_len (AH (pv 0))) Ap)) (CU 3 nd)
  (Ak (Dz (DQ (Km hu) (Bb Fg (BP (GM T) (A1 O).pass (hr.mono (by decide)) rfl T.d__law_mixed.m T.d__law_mixed.kp T.d__law_mixed.b (AN (AH (pv 1)) (AN (AH (pv 3)) Ap))) ge_int) ge_int (DF _)) (Ak (C6 (Dc (AH (pv 2)) (Fu hu (AH (pv 0)) (AH (pv 3)))))) (Ak (C6 (Dc (AH (pv 2)) (Gh (AN (Fu hu (Fu hu (AH (pv 0)) (AH (pv 3))) ge_int) (AN (Fu hu (Fu hu (AH (pv 0)) (AH (pv 3))) ge_int) Ap)))))))))
  (Ae (Dz (DQ (Km hu) (Bb Fg (AH (pv 1)) ge_int) ge_int (DF _)) (Ak (C6 (TR (AH (pv 2))))) CT)
  (Ak (CC (AH (pv 2)))))))
theorem Od:Bu ["ties", "many", "nears", "one", "other"] ["ties", "many"] (Am E0):=GB
theorem Oj (T:Txt K mg W):De P w K mg base (CXG P w) 1 T.d__law_nears.f T.d__law_nears.fd ["ties", "many"] (spM K 2 (Gq W)):=by
 refine CH (k:=0) T.d__law_nears.F Od rfl λ_ _ _ _ _ _ hr O hu nd pn E'=>?_
 exact (Ae (UQ (i:=2) (own:=["place"]) (N':=["place", "·1", "·2", "·3", "·4", "·5"]) rfl rfl nd rfl (by first | exact Qp rfl | exact Qo rfl) (HW (by kernel_rfl)) (EQ rfl T.b_range (AN (AH (pv 1)) Ap)) (λ_ _ _ _ _ _=>(CU 0 (by decide +kernel:(["place", "·1", "·2", "·3", "·4", "·5"]:List Str).Nodup))) (λ_ _ _ _ _ _=>G5) (λ_ _ _ _ _ _=>(DR (Es Ap))))
  (Ae (C8 (A1 O).own rfl (FM (AH (pv 0))) (Ll rfl (EG (CU 3 nd) (EG (CU 4 nd) Jf)))
  (Ae (C6 (Dc (Fu hu (AH (pv 2)) (AH (pv 3))) (AH (pv 4))))
  (Ak (C6 (Dc (Fu hu (AH (pv 2)) (AH (pv 4))) (AH (pv 3)))))))
  (Ak (CC (DR (Jd (own:=["some"]) (N':=["some", "·1", "·2", "·3", "·4", "·5"]) rfl (HW (by kernel_rfl)) (FM (AH (pv 2))) (λ_ _ _ _ _ _=>(CU 0 (by decide +kernel:(["some", "·1", "·2", "·3", "·4", "·5"]:List Str).Nodup))) (λ_ _ _ _ _ _=>G5) (λ_ _ _ _ _ _=>(Lm rfl rfl T.b_sorted (AH (pv 0))))))))))
theorem Ke:Bu ["script", "most", "often", "first", "many"] ["script", "most", "often"] (Am DK):=GB
theorem Kk (T:Txt K mg W):De P w K mg base (CXG P w) 3 T.d__law_small_web.f T.d__law_small_web.fd ["script", "most", "often"] (spM K 3 (D0 W)):=by
 refine CH (k:=2) T.d__law_small_web.F Ke rfl λ_ _ _ _ _ _ hr O hu nd pn E'=>?_
 exact (Ae (C5 3 nd (BP (Gf T) (A1 O).pass (hr.mono (by decide)) rfl T.d__law_cell_at.m T.d__law_cell_at.kp T.d__law_cell_at.b (AN (AH (pv 0)) (AN ge_int Ap))))
  (Ae (C5 4 nd (Bb Dx ge_int (Bb Fg (AH (pv 3)) (AH (pv 1)))))
  (Ae (Dz (DQ (Km hu) (Bb Fg (Bb Mz (AH (pv 3)) ge_int) ge_int) ge_int (DF _)) (Ak (C5 4 nd (Bb Dx (AH (pv 2)) (Bb Fg (Bb Mz (AH (pv 3)) ge_int) (Bb XS ge_int (AH (pv 2))))))) CT)
  (Ak (CC (Gh (AN (AH (pv 4)) (AN (BP (P8 T) (A1 O).pass (hr.mono (by decide)) rfl T.d__law_ties.m T.d__law_ties.kp T.d__law_ties.b (AN (BP (P9 T) (A1 O).pass (hr.mono (by decide)) rfl T.d__law_pool.m T.d__law_pool.kp T.d__law_pool.b (AN (AH (pv 0)) (AN ge_int Ap))) (AN (AH (pv 4)) (AN (Bb Dx ge_int (Bb Fg (Bb Mz (AH (pv 3)) ge_int) ge_int)) Ap)))) Ap))))))))
theorem Of:Bu ["way", "web", "marks", "e", "other"] ["way", "web"] (Am E2):=GB
theorem Ol (T:Txt K mg W):De P w K mg base (CXG P w) 22 T.d__law_marks.f T.d__law_marks.fd ["way", "web"] (spM K 2 (E3 W)):=by
 refine CH (k:=21) T.d__law_marks.F Of rfl λ_ _ _ _ _ _ hr O hu nd pn E'=>?_
 exact (Ae (C5 2 nd (DR (Es Ap)))
  (Ae (dN (i:=3) O nd rfl rfl rfl T.xm_GuardError T.caught_GuardError (λpn' E'=>(Ak (Dz (DQ (Km hu) (AH (pv 0)) ge_int (DF _)) (Ak (C6 (BP (Ik T) (A1 O).pass (hr.mono (by decide)) rfl T.d_fewest_watch.m T.d_fewest_watch.kp T.d_fewest_watch.b (AN (AH (pv 1)) Ap)))) (Ak (Dz (DQ (Km hu) (AH (pv 0)) ge_int (DF _)) (Ak (C6 (BP (Hf T) (A1 O).pass (hr.mono (by decide)) rfl T.d_most_apart.m T.d_most_apart.kp T.d_most_apart.b (AN (AH (pv 1)) Ap)))) (Ak (C6 (BP (Il T) (A1 O).pass (hr.mono (by decide)) rfl T.d_fewest_clubs.m T.d_fewest_clubs.kp T.d_fewest_clubs.b (AN (AH (pv 1)) Ap))))))))) (λpn' ea=>(Ae (C5 4 nd (dX (Cs:=[W.BadGuards,W.BadPlaces,W.BadTie,W.NoPlace,W.NotTwo,W.NotWood]) T.isT_BadGuards_BadPlaces_BadTie_NoPlace_NotTwo_NotWood (Nat.le_of_ble_eq_true rfl) rfl T.b_isinstance (AH (pv 3)) (VU (c:=.ref W.BadGuards) (HU rfl T.xm_BadGuards rfl) (VU (c:=.ref W.BadPlaces) (HU rfl T.x_BadPlaces.m rfl) (VU (c:=.ref W.BadTie) (HU rfl T.x_BadTie.m rfl) (VU (c:=.ref W.NoPlace) (HU rfl T.x_NoPlace.m rfl) (VU (c:=.ref W.NotTwo) (HU rfl T.xm_NotTwo rfl) (VU (c:=.ref W.NotWood) (HU rfl T.xm_NotWood rfl) fg))))))))
  (Ak (C5 2 nd (DR (Es (AN (ay (c:=.ref W.TooLarge) (cv:=.ref W.TooLarge) (λ_ r=>r) (dF (Zy T.i_TooLarge.1 T.i_TooLarge.2)) T.is_TooLarge rfl T.b_isinstance (AH (pv 3)) (HU rfl T.x_TooLarge.m rfl)) (AN (ay (c:=.ty "ValueError") (cv:=.type "ValueError") (λ_ r=>r) dD T.is_ValueError rfl T.b_isinstance (AH (pv 3)) (Zc rfl T.b_ValueError PyProof.Rows.Boot.«ValueError» rfl)) (AN (AH (pv 4)) Ap))))))))))
  (Ak (CC (AH (pv 2))))))
theorem Mi:Bu ["script", "first", "many", "ties", "k", "web"] ["script"] (Am Dt):=GB
theorem Mp (T:Txt K mg W):De P w K mg base (CXG P w) 23 T.d__law_refused.f T.d__law_refused.fd ["script"] (spM K 1 (G8 W)):=by
 refine CH (k:=22) T.d__law_refused.F Mi rfl λ_ _ _ _ _ _ hr O hu nd pn E'=>?_
 exact (Ae (C5 1 nd (BP (Gf T) (A1 O).pass (hr.mono (by decide)) rfl T.d__law_cell_at.m T.d__law_cell_at.kp T.d__law_cell_at.b (AN (AH (pv 0)) (AN ge_int Ap))))
  (Ae (C5 2 nd (Bb Dx ge_int (Bb Fg (Bb Mz (AH (pv 1)) ge_int) ge_int)))
  (Ae (C5 3 nd (DR (Es Ap)))
  (Ae (C8 (A1 O).own rfl (IB rfl T.b_range (AN ge_int (AN (AH (pv 2)) Ap))) (CU 4 nd)
  (Ak (Dz (DQ (Km hu) (Bb Fg (BP (GM T) (A1 O).pass (hr.mono (by decide)) rfl T.d__law_mixed.m T.d__law_mixed.kp T.d__law_mixed.b (AN (AH (pv 1)) (AN (AH (pv 4)) Ap))) ge_int) ge_int (DF _)) (Ak (C6 (Dc (AH (pv 3)) (Gh (AN (Bb Fg (BP (GM T) (A1 O).pass (hr.mono (by decide)) rfl T.d__law_mixed.m T.d__law_mixed.kp T.d__law_mixed.b (AN (AH (pv 1)) (AN (Bb Dx ge_int (AH (pv 4))) Ap))) (AH (pv 4))) (AN (AH (pv 4)) Ap)))))) CT)))
  (Ae (C5 5 nd (UU T.c_Web.mk' (MC T) (A1 O).pass (hr.mono (by decide)) rfl T.c_Web.m T.d_Web_init.b (AN (AH (pv 2)) (AN (AH (pv 3)) Ap))))
  (Ak (CC (QQ (cj hu) (DR (Jd (own:=["way"]) (N':=["way", "·1", "·2", "·3", "·4", "·5", "web"]) rfl (HW (by kernel_rfl)) (EQ rfl T.b_range (AN ge_int Ap)) (λ_ _ _ _ _ _=>(CU 0 (by decide +kernel:(["way", "·1", "·2", "·3", "·4", "·5", "web"]:List Str).Nodup))) (λ_ _ _ _ _ _=>G5) (λ_ _ _ _ _ _=>(BP (Ol T) (good_none rfl).pass (hr.mono (by decide)) rfl T.d__law_marks.m T.d__law_marks.kp T.d__law_marks.b (AN (AH (pv 0)) (AN (AH (pv 6)) Ap)))))) (Bb ci (DR (Es (AN (DR (Es (AN JL (AN JL (AN JL Ap))))) Ap))) ge_int) (DF _)))))))))
theorem bq:Bu ["script", "many", "ties", "web", "nears", "apart", "clubs", "place", "club"] ["script"] (Am O9):=GB
theorem cg (T:Txt K mg W):De P w K mg base (CXG P w) 24 T.d_law.f T.d_law.fd ["script"] (spM K 1 (YG W)):=by
 refine CH (k:=23) T.d_law.F bq rfl λ_ _ _ _ _ _ hr O hu nd pn E'=>?_
 exact (Ae (dP (BP (Kk T) (A1 O).pass (hr.mono (by decide)) rfl T.d__law_small_web.m T.d__law_small_web.kp T.d__law_small_web.b (AN (AH (pv 0)) (AN ge_int (AN ge_int Ap)))) (Ll rfl (EG (CU 1 nd) (EG (CU 2 nd) Jf))))
  (Ae (C5 3 nd (UU T.c_Web.mk' (MC T) (A1 O).pass (hr.mono (by decide)) rfl T.c_Web.m T.d_Web_init.b (AN (AH (pv 1)) (AN (BP (Ng T) (A1 O).pass (hr.mono (by decide)) rfl T.d__law_turned.m T.d__law_turned.kp T.d__law_turned.b (AN (AH (pv 2)) (AN (BP (Gf T) (A1 O).pass (hr.mono (by decide)) rfl T.d__law_cell_at.m T.d__law_cell_at.kp T.d__law_cell_at.b (AN (AH (pv 0)) (AN ge_int Ap))) Ap))) Ap))))
  (Ae (C5 4 nd (BP (Oj T) (A1 O).pass (hr.mono (by decide)) rfl T.d__law_nears.m T.d__law_nears.kp T.d__law_nears.b (AN (AH (pv 2)) (AN (AH (pv 1)) Ap))))
  (Ae (C5 5 nd (BP (Hf T) (A1 O).pass (hr.mono (by decide)) rfl T.d_most_apart.m T.d_most_apart.kp T.d_most_apart.b (AN (AH (pv 3)) Ap)))
  (Ae (C5 6 nd (BP (Il T) (A1 O).pass (hr.mono (by decide)) rfl T.d_fewest_clubs.m T.d_fewest_clubs.kp T.d_fewest_clubs.b (AN (AH (pv 3)) Ap)))
  (Ae (Dz (QN (Nv RU RU (G7 rfl T.b_len (BP (Ik T) (A1 O).pass (hr.mono (by decide)) rfl T.d_fewest_watch.m T.d_fewest_watch.kp T.d_fewest_watch.b (AN (AH (pv 3)) Ap))) (G7 rfl T.b_len (AH (pv 5))) (G7 rfl T.b_len (AH (pv 6))))) (Ak (CC JL)) CT)
  (Ae (C8 (A1 O).own rfl (EQ rfl T.b_range (AN (AH (pv 1)) Ap)) (CU 7 nd)
  (Ak (Dz (gc (dJ (Rp hu (AH (pv 7)) (AH (pv 5))) (Z0 (QN (dL (dZ rfl rfl T.b_any (DR (Jd (own:=["other"]) (N':=["other", "·1", "·2", "·3", "·4", "·5", "apart", "·7", "·8", "·9"]) rfl (HW (by kernel_rfl)) (FM (Fu hu (AH (pv 4)) (AH (pv 7)))) (λ_ _ _ _ _ _=>(CU 0 (by decide +kernel:(["other", "·1", "·2", "·3", "·4", "·5", "apart", "·7", "·8", "·9"]:List Str).Nodup))) (λ_ _ _ _ _ _=>G5) (λ_ _ _ _ _ _=>(az hu (AH (pv 0)) (AH (pv 6)))))))))))) (Ak (CC JL)) CT)))
  (Ae (C8 (A1 O).own rfl (FM (AH (pv 6))) (CU 8 nd)
  (Ak (Dz (DQ XU (G7 rfl T.b_len (DR (Jd (own:=["place"]) (N':=["place", "·1", "·2", "·3", "·4", "·5", "apart", "·7", "·8", "·9"]) rfl (HW (by kernel_rfl)) (FM (AH (pv 8))) (λ_ _ _ _ _ _=>(CU 0 (by decide +kernel:(["place", "·1", "·2", "·3", "·4", "·5", "apart", "·7", "·8", "·9"]:List Str).Nodup))) (λ_ _ _ _ _ _=>(X5 (aw hu (AH (pv 0)) (AH (pv 6))))) (λ_ _ _ _ _ _=>(AH (pv 0)))))) ge_int (DF _)) (Ak (CC JL)) CT)))
  (Ak (CC (BP (Mp T) (A1 O).pass (hr.mono (by decide)) rfl T.d__law_refused.m T.d__law_refused.kp T.d__law_refused.b (AN (AH (pv 0)) Ap))))))))))))
end
end M
namespace M
open PySem L2
open Srt (ltL)
def pairD (x:Int×Int):D:=.tup [.int x.1,.int x.2]
def nrm (x:Int×Int):Int×Int:=(if x.2 < x.1 then x.2 else x.1,if x.2 > x.1 then x.2 else x.1)
def P5 (x:Int×Int):List Int:=[x.1,x.2]
def Ks (x:Int×Int):List Key:=[.inl x.1,.inl x.2]
theorem Rm {x y:Int×Int} (h:Ks x=Ks y):x=y:=by
 unfold Ks at h;simp at h;exact Tn h.1 h.2
theorem IW:∀ns:List Int,Io (ns.map D.int)=some ns
 | []=>rfl
 | n :: ns=>by
  rw [A5];unfold Io;rw [IW ns];rfl
theorem NY:∀rs:List (List Int),(∀r∈rs,r≠[])->PH (rs.map Ml)=some rs
 | [],_=>rfl
 | [] :: rs,h=>absurd rfl (h [] A6)
 | (n :: ns) :: rs,h=>by
  rw [A5];unfold Ml PH;rw [IW,show Js (λr:List Int=>D.tup (r.map D.int)) rs=rs.map Ml from rfl,NY rs λr hr=>h r (Al _ hr)]
theorem Si (rs:List (List Int)) (h:∀r∈rs,r≠[]):Kd (rs.map Ml)=some ((Kc rs).map Ml):=by
 unfold Kd
 cases rs with
 | nil=>simp [Io,Kc]
 | cons r rs=>
  have:Io ((r :: rs).map Ml)=none:=rfl;rw [this,NY _ h]
theorem NT (ns:List Int):Kd (ns.map D.int)=some ((E6 ns).map D.int):=by
 unfold Kd;rw [IW]
def Jm (ps:List (Int×Int)):List (List Key×D):=ps.map λx=>(Ks (nrm x),.bl true)
theorem Xd (ps:List (Int×Int)) (x:Int×Int):(LV (Jm ps) (Ks (nrm x))).isSome=decide (nrm x∈ps.map nrm):=by
 unfold LV Jm
 induction ps with
 | nil=>rfl
 | cons y ps ih=>
  rw [A5,B1]
  by_cases e:Ks (nrm y)=Ks (nrm x)
  ·rw [decide_eq_true e]
   simp [Rm e]
  ·rw [decide_eq_false e]
   have e':nrm x≠nrm y:=λz=>e (by rw [z])
   simp only [A5,A4,e',false_or];exact ih
theorem Xc (ps:List (Int×Int)) (x:Int×Int) (h:nrm x∉ps.map nrm):Kh (Jm ps) (Ks (nrm x)) (.bl true)=Jm (ps++[x]):=by
 unfold Kh;rw [if_neg]
 ·simp [Jm]
 ·intro z
  obtain ⟨y,hy,e⟩:=D6.mp z;obtain ⟨a,ha,rfl⟩:=BF.mp hy;exact h (by rw [<-Rm (of_decide_eq_true e)];exact B5 ha)
theorem gN {S:Sto} {n:Nat} {kvs:List (List Key×D)} {x:Int×Int} (h:S[n]?=some (.dT kvs)) (neg:Bool):inA neg (pairD x) (.ref n) S=.ok (.bl (if neg then !(LV kvs (Ks x)).isSome else (LV kvs (Ks x)).isSome)) S:=by
 show G4 (inD neg (pairD x) (.ref n) S) (Jo neg (pairD x) (.ref n) S)=_
 have e:inD neg (pairD x) (.ref n) S=.bad:=by
  unfold inD HL;dsimp only;rw [h]
 have e2:Ru (.ref n) (pairD x) S=some (LV kvs (Ks x)):=by
  unfold Ru pairD;dsimp only;rw [h];rfl
 rw [e];show Jo neg (pairD x) (.ref n) S=_;unfold Jo;rw [e2]
theorem YL {mo mi mv:ME} {e:Lo} {S:Sto} {d:Nat} {kvs:List (List Key×D)} {x:Int×Int} {v:D} (hv:mv e S=.ok v S) (ho:mo e S=.ok (.ref d) S) (hi:mi e S=.ok (pairD x) S) (h:S[d]?=some (.dT kvs)) (hl:kvs.length < sizeLine) :
  Ff mo mi mv e S=.ok (.nx e) (S.set d (.dT (Kh kvs (Ks x) v))):=by
 unfold Ff;rw [hv];dsimp only [Res.lift];rw [ho];dsimp only [Res.lift];rw [hi];dsimp only [Res.lift]
 have:Vx (.ref d) (pairD x) v S=some (S.set d (.dT (Kh kvs (Ks x) v))):=by
  unfold Vx pairD;dsimp only;rw [h];show (if kvs.length < sizeLine then some (S.set d (.dT (Kh kvs (Ks x) v))) else none)=_;rw [if_pos hl]
 rw [this]
theorem ix0 (x:Int×Int) (S:Sto):ixA (pairD x) (.int 0) S=.ok (.int x.1) S:=rfl
theorem ix1 (x:Int×Int) (S:Sto):ixA (pairD x) (.int 1) S=.ok (.int x.2) S:=rfl
def Fit (p:Int) (x:Int×Int):Prop:=(nrm x).1≠(nrm x).2/\0<=(nrm x).1/\(nrm x).2 < p
abbrev YY (W:Wd):MS:=BK (Bp 5 (EC (AE (mQ PM (AE (AC 3) (AE (AC 4) AY))) (AE (mQ PN (AE (AC 3) (AE (AC 4) AY))) AY))))
  (BK (sIf (mB (m2 (eqD false) (m2 ixA (AC 5) (mC (.int 0))) (m2 ixA (AC 5) (mC (.int 1))))) (EA W.BadTie (AE (mC (.str "a tie has one place twice")) AY)) sNx)
  (BK (sIf (mOr (mB (m2 ltD (m2 ixA (AC 5) (mC (.int 0))) (mC (.int 0)))) (mB (m2 geD (m2 ixA (AC 5) (mC (.int 1))) (AC 0)))) (EA W.BadTie (AE (mC (.str "a tie has a place that is not there")) AY)) sNx)
  (BK (sIf (mB (m2 (inA false) (AC 5) (AC 2))) (EA W.BadTie (AE (mC (.str "a tie is there twice")) AY)) sNx)
  (Ff (AC 2) (AC 5) (mC (.bl true))))))
theorem Wl {W:Wd} {p:Int} {t:D} {n:Nat} {S:Sto} {x:Int×Int} {z5:Option D} {ps:List (Int×Int)} (hn:S[n]?=some (.dT (Jm ps))) (hl:ps.length<=100000) :
  (Fit p x/\nrm x∉ps.map nrm->YY W [some (.int p),some t,some (.ref n),some (.int x.1),some (.int x.2),z5] S=.ok (.nx [some (.int p),some t,some (.ref n),some (.int x.1),some (.int x.2),some (pairD (nrm x))]) (S.set n (.dT (Jm (ps++[x]))))) /\
  (¬(Fit p x/\nrm x∉ps.map nrm)->YY W [some (.int p),some t,some (.ref n),some (.int x.1),some (.int x.2),z5] S=.ok (.ex W.BadTie [some (.int p),some t,some (.ref n),some (.int x.1),some (.int x.2),some (pairD (nrm x))]) S):=by
 have e0:Bp 5 (EC (AE (mQ PM (AE (AC 3) (AE (AC 4) AY))) (AE (mQ PN (AE (AC 3) (AE (AC 4) AY))) AY))) [some (.int p),some t,some (.ref n),some (.int x.1),some (.int x.2),z5] S =
   .ok (.nx [some (.int p),some t,some (.ref n),some (.int x.1),some (.int x.2),some (pairD (nrm x))]) S:=
  C7 (i:=5) (IN (ds:=[.int (nrm x).1,.int (nrm x).2]) (BQ (bv (ds:=[.int x.1,.int x.2]) (S1:=S) rfl rfl) (BQ (bv (ds:=[.int x.1,.int x.2]) (S1:=S) rfl rfl) rfl)) (by simp))
 have t1:=DP (t:=mB (m2 (eqD false) (m2 ixA (AC 5) (mC (.int 0))) (m2 ixA (AC 5) (mC (.int 1))))) (a:=EA W.BadTie (AE (mC (.str "a tie has one place twice")) AY)) (b:=sNx) (e:=[some (.int p),some t,some (.ref n),some (.int x.1),some (.int x.2),some (pairD (nrm x))]) (S:=S) (S1:=S)
  (E5 (BD (BD rfl rfl (ix0 _ _)) (BD rfl rfl (ix1 _ _)) (Hi (b:=decide ((nrm x).1=(nrm x).2)) rfl)))
 have t2:mOr (mB (m2 ltD (m2 ixA (AC 5) (mC (.int 0))) (mC (.int 0)))) (mB (m2 geD (m2 ixA (AC 5) (mC (.int 1))) (AC 0))) [some (.int p),some t,some (.ref n),some (.int x.1),some (.int x.2),some (pairD (nrm x))] S=.ok (decide ((nrm x).1 < 0∨p<=(nrm x).2)) S:=by
  by_cases c:(nrm x).1 < 0
  ·rw [cU (E5 (BD (BD rfl rfl (ix0 _ _)) rfl (JI (decide_eq_true c))))]
   simp [c]
  ·rw [cT (E5 (BD (BD rfl rfl (ix0 _ _)) rfl (JI (decide_eq_false c)))),E5 (BD (BD rfl rfl (ix1 _ _)) rfl (db (b:=decide (p<=(nrm x).2)) rfl))]
   simp [c]
 have t3:mB (m2 (inA false) (AC 5) (AC 2)) [some (.int p),some t,some (.ref n),some (.int x.1),some (.int x.2),some (pairD (nrm x))] S=.ok (decide (nrm x∈ps.map nrm)) S:=by
  refine E5 (BD rfl rfl ?_);rw [gN hn,<-Xd];rfl
 have rz:∀s:Str,EA W.BadTie (AE (mC (.str s)) AY) [some (.int p),some t,some (.ref n),some (.int x.1),some (.int x.2),some (pairD (nrm x))] S=.ok (.ex W.BadTie [some (.int p),some t,some (.ref n),some (.int x.1),some (.int x.2),some (pairD (nrm x))]) S:=λs=>Na rfl (by simp)
 constructor
 ·rintro ⟨⟨f1,f2,f3⟩,f4⟩
  rw [decide_eq_false f1,if_neg AR] at t1;have t2':=DP (a:=EA W.BadTie (AE (mC (.str "a tie has a place that is not there")) AY)) (b:=sNx) t2;rw [decide_eq_false (by lia),if_neg AR] at t2';have t3':=DP (a:=EA W.BadTie (AE (mC (.str "a tie is there twice")) AY)) (b:=sNx) t3;rw [decide_eq_false f4,if_neg AR] at t3';unfold YY;rw [Av e0,Av (t1.trans rfl),Av (t2'.trans rfl),Av (t3'.trans rfl),YL (x:=nrm x) rfl rfl rfl hn (by unfold Jm;rw [AK];exact A7 hl (by decide)),Xc _ _ f4]
 ·intro nf
  unfold YY;rw [Av e0]
  by_cases f1:(nrm x).1=(nrm x).2
  ·rw [decide_eq_true f1,if_pos rfl] at t1
   exact Lb (t1.trans (rz _))
  rw [decide_eq_false f1,if_neg AR] at t1;rw [Av (t1.trans rfl)];have t2':=DP (a:=EA W.BadTie (AE (mC (.str "a tie has a place that is not there")) AY)) (b:=sNx) t2
  by_cases f2:(nrm x).1 < 0∨p<=(nrm x).2
  ·rw [decide_eq_true f2,if_pos rfl] at t2'
   exact Lb (t2'.trans (rz _))
  rw [decide_eq_false f2,if_neg AR] at t2';rw [Av (t2'.trans rfl)];have t3':=DP (a:=EA W.BadTie (AE (mC (.str "a tie is there twice")) AY)) (b:=sNx) t3
  by_cases f3:nrm x∈ps.map nrm
  ·rw [decide_eq_true f3,if_pos rfl] at t3'
   exact Lb (t3'.trans (rz _))
  ·exact absurd ⟨⟨f1,by lia,by lia⟩,f3⟩ nf
end M
namespace M
open PySem L2
open Srt (ltL)
theorem Vi {m:ME} {e:Lo} {S S1:Sto} {d:D} {xs:List D} (h:m e S=.ok d S1) (hx:C2 d S1=some xs):Ec m e S=.ok (C2 d) S1:=by
 unfold Ec;rw [h];dsimp only [Res.bind];rw [hx]
def D1 (p:Int) (ps:List (Int×Int)):Prop:=(∀x∈ps,Fit p x)/\(ps.map nrm).Nodup
theorem D1.snoc {p:Int} {ps:List (Int×Int)} {x:Int×Int}:D1 p (ps++[x])↔D1 p ps/\Fit p x/\nrm x∉ps.map nrm:=by
 unfold D1;rw [A3,Ft]
 constructor
 ·rintro ⟨h1,h2,h3,h4⟩
  exact ⟨⟨λy hy=>h1 y (by simp [hy]),h2⟩,h1 x (by simp),λz=>h4 _ z _ (by simp) rfl⟩
 ·rintro ⟨⟨h1,h2⟩,h3,h4⟩
  refine ⟨λy hy=>?_,h2,by simp,λa ha b hb e=>?_⟩
  ·rcases Aj.mp hy with hy | hy
   ·exact h1 y hy
   ·rw [AL.mp hy];exact h3
  ·simp at hb
   subst hb;subst e;exact h4 ha
theorem D1.take {p:Int} {ps:List (Int×Int)} (h:D1 p ps) (i:Nat):D1 p (ps.take i):=by
 refine ⟨λx hx=>h.1 x (To hx),?_⟩;rw [bQ];exact h.2.sublist (WV _ _)
theorem take_snoc {α:Type} {l:List α} {i:Nat} {x:α} (h:l[i]?=some x):l.take (i+1)=l.take i++[x]:=by
 rw [Em,h];rfl
theorem QY (W:Wd) {p:Int} {d:D} {S:Sto} {ps:List (Int×Int)} (hv:∀S',Keeps S S'->C2 d S'=some (ps.map pairD)) (hl:ps.length<=100000) :
  ∃f S',Dg (Ec (AC 1)) (Gm 2 (CZ (tgN 3) (CZ (tgN 4) G1))) (YY W) [some (.int p),some d,some (.ref S.length),none,none,none] (S++[.dT []])=.ok f S' /\
   ((D1 p ps/\(∃z3 z4 z5,f=.nx [some (.int p),some d,some (.ref S.length),z3,z4,z5])/\S'=S++[.dT (Jm ps)])∨(¬D1 p ps/\∃e',f=.ex W.BadTie e'/\Keeps S S')):=by
 rw [Cj (Vi (m:=AC 1) (d:=d) (S1:=S++[.dT []]) rfl (hv _ (Keeps.app _ _)))];refine C9 (xs:=ps.map pairD) (λi e S'=>(∃z3 z4 z5,e=[some (.int p),some d,some (.ref S.length),z3,z4,z5])/\S'=S++[.dT (Jm (ps.take i))]/\D1 p (ps.take i)) _ ⟨⟨none,none,none,rfl⟩,by simp [Jm],by simp [D1]⟩ ?_ ?_ ?_
 ·rintro i e S' ⟨_,rfl,_⟩
  exact hv _ (Keeps.app _ _)
 ·rintro i y e S' hy ⟨⟨z3,z4,z5,rfl⟩,rfl,af⟩
  rw [AV] at hy
  cases hx:ps[i]? with
  | none=>rw [hx] at hy;cases hy
  | some x=>
   rw [hx] at hy;cases hy;have hlt:=(AG.mp hx).1;refine ⟨[some (.int p),some d,some (.ref S.length),some (.int x.1),some (.int x.2),z5],_,rfl,?_⟩;obtain ⟨s1,s2⟩:=Wl (W:=W) (p:=p) (t:=d) (z5:=z5) (x:=x) (Bx S (.dT (Jm (ps.take i)))) (by rw [B4];lia)
   by_cases c:Fit p x/\nrm x∉(ps.take i).map nrm
   ·refine ⟨_,_,s1 c,⟨⟨_,_,_,rfl⟩,?_,?_⟩⟩
    ·rw [take_snoc hx];simp
    ·rw [take_snoc hx];exact D1.snoc.mpr ⟨af,c⟩
   ·refine ⟨_,_,s2 c,.inr ⟨λa=>c ?_,_,rfl,Keeps.app _ _⟩⟩
    have:=a.take (i+1);rw [take_snoc hx] at this;exact (D1.snoc.mp this).2
 ·rintro e S' ⟨z,rfl,af⟩
  rw [AK,Br] at *
  obtain ⟨z3,z4,z5,rfl⟩:=z;exact .inl ⟨af,⟨_,_,_,rfl⟩,rfl⟩
def IP (ps:List (Int×Int)):List (List Int):=Kc (ps.map λx=>P5 (nrm x))
theorem QZ (W:Wd) {p:Int} {d:D} {S:Sto} {ps:List (Int×Int)} (hv:∀S',Keeps S S'->C2 d S'=some (ps.map pairD)) (hl:ps.length<=100000) (hf:D1 p ps) :
  ∃S',Fn W [.int p,d] S=.ok (.tup ((IP ps).map Ml)) S'/\Keeps S S':=by
 obtain ⟨f,S1,h1,⟨_,⟨z3,z4,z5,rfl⟩,rfl⟩ | ⟨h,_⟩⟩:=QY W hv hl (p:=p)
 ·have hi:Hh (.ref S.length) (S++[.dT (Jm ps)])=some ((ps.map λx=>P5 (nrm x)).map Ml):=by
   unfold Hh;dsimp only;rw [Bx];dsimp only;unfold Jm;rw [BZ,BZ];rfl
  have hs:=LY (m:=AC 2) (e:=[some (.int p),some d,some (.ref S.length),z3,z4,z5]) (S:=S++[.dT (Jm ps)]) rfl hi (Si _ (by intro r hr;obtain ⟨x,_,rfl⟩:=BF.mp hr;simp [P5]));refine ⟨S++[.dT (Jm ps)]++[.lst ((IP ps).map Ml)],CP ?_,(Keeps.app S _).trans (Keeps.app _ _)⟩;refine CA (Av (e:=[some (.int p),some d,none,none,none,none]) (e1:=[some (.int p),some d,some (.ref S.length),none,none,none]) (S:=S) (S1:=S++[.dT []]) rfl) ?_;refine CA (Av h1) ?_;exact FB (NP hs (Ep (Bx _ _)))
 ·exact absurd hf h
end M
namespace M
open PySem L2
def Bg (ts:List (Int×Int)) (x:Nat):List Int:=ts.flatMap λt=>(if t.1=(x:Int) then [t.2] else [])++(if t.2=(x:Int) then [t.1] else [])
theorem MD (ts:List (Int×Int)) (t:Int×Int) (x:Nat):Bg (ts++[t]) x=Bg ts x++((if t.1=(x:Int) then [t.2] else [])++(if t.2=(x:Int) then [t.1] else [])):=by
 unfold Bg;rw [Uy];simp
def FA (p:Nat) (F:Nat->List Int):Sto:=(Ac p).map λx=>Ob.lst ((F x).map D.int)
def DO (k p:Nat):List D:=(Ac p).map λx=>D.ref (k+x)
def stN (S:Sto) (p:Nat) (F:Nat->List Int):Sto:=S++FA p F++[.lst (DO S.length p)]
theorem Fz (p:Nat) (F:Nat->List Int):(FA p F).length=p:=by simp [FA]
theorem Px (S:Sto) (p:Nat) (F:Nat->List Int):(stN S p F).length=S.length+p+1:=by simp [stN,Fz];lia
theorem Gv (S:Sto) (p:Nat) (F:Nat->List Int):Keeps S (stN S p F):=(Keeps.app S _).trans (Keeps.app _ _)
theorem G2 (S:Sto) (p:Nat) (F:Nat->List Int):(stN S p F)[S.length+p]?=some (.lst (DO S.length p)):=by
 have:S.length+p=(S++FA p F).length:=by simp [Fz]
 unfold stN;rw [this];exact Bx _ _
theorem HR (S:Sto) {p a:Nat} (F:Nat->List Int) (h:a < p):(stN S p F)[S.length+a]?=some (.lst ((F a).map D.int)):=by
 unfold stN;rw [BJ,BI (by lia),Ag (by rw [Fz];lia),show S.length+a - S.length=a by lia];unfold FA;rw [AV,BC h];rfl
theorem T3 (S:Sto) {p a:Nat} (F:Nat->List Int) (ys:List Int) (h:a < p):(stN S p F).set (S.length+a) (.lst (ys.map D.int))=stN S p (λx=>if x=a then ys else F x):=by
 apply Ch
 intro j
 by_cases e:S.length+a=j
 ·subst e
  rw [As (by rw [Px];lia),HR _ _ h,if_pos rfl]
 ·rw [A9 e]
  by_cases h1:j < S.length
  ·rw [(Gv S p F).2 j h1,(Gv S p _).2 j h1]
  by_cases h2:j - S.length < p
  ·have e2:j=S.length+(j - S.length):=by lia
   rw [e2,HR S F h2,HR S _ h2,if_neg (by lia)]
  by_cases h3:j=S.length+p
  ·subst h3
   rw [G2,G2]
  ·rw [CL (by rw [Px];lia),CL (by rw [Px];lia)]
theorem UN {S:Sto} {p a:Nat} (F:Nat->List Int) (h:a < p):ixA (.ref (S.length+p)) (.int a) (stN S p F)=.ok (.ref (S.length+a)) (stN S p F):=by
 show G4 (ixD _ _ _) _=_;have e1:HL (.ref (S.length+p)) (stN S p F)=some (DO S.length p):=Ep (G2 S p F)
 have e2:atI (DO S.length p) (a:Int)=some (.ref (S.length+a)):=by
  unfold atI ixN;rw [show (DO S.length p).length=p by simp [DO],if_pos (by lia),if_pos (by lia)];simp only [GK,Bf];unfold DO;rw [AV,BC h];rfl
 have:ixD (.ref (S.length+p)) (.int a) (stN S p F)=.ok (.ref (S.length+a)) (stN S p F):=by
  unfold ixD;rw [e1];dsimp only;rw [e2]
 rw [this];rfl
theorem Wp (S:Sto):∀p:Nat,S++FA (p+1) (λ_=>[])=S++FA p (λ_=>[])++[.lst []]:=λp=>by
 unfold FA;rw [DB,A3,BJ];rfl
theorem PF {p:Nat} (hp:p<=60) {mp:ME} {e:Lo} {S:Sto} (h0:mp e S=.ok (.int p) S) :
  GX 1 (iR1 (AE mp AY)) (tgN 0) E7 (Ce (BX AY)) e S=.ok (DO S.length p) (S++FA p λ_=>[]):=by
 have hi:iR1 (AE mp AY) e S=.ok (Bt (Bc 0 p)) S:=by
  have:=IX (ml:=AE mp AY) (e:=e) (S:=S) (S1:=S) (j:=p) (BQ h0 rfl) (by lia) (by lia);simpa using this
 obtain ⟨r,S1,q1,e',⟨z,_⟩,rfl,rfl⟩:=Ji (v:=Bt (Bc 0 p)) (g:=tgN 0) (c:=E7) (m:=Ce (BX AY)) (xs:=Bc 0 p) (e:=none :: e) (S:=S)
  (λi e' S' acc=>(∃z,e'=z :: e)/\S'=S++FA i (λ_=>[])/\acc=DO S.length i)
  ⟨⟨none,rfl⟩,by simp [FA],rfl⟩ (λ_ _ _ _ _=>rfl)
  (by
   rintro i d e' S' acc hd ⟨⟨z,rfl⟩,rfl,rfl⟩;obtain ⟨hi,rfl⟩:=Dw hd;refine ⟨by simp [DO];exact A7 (m:=60) (by lia) (by decide),some (.int (0+i)) :: e,_,rfl,true,_,rfl,.inl ⟨rfl,.ref (S++FA i λ_=>[]).length,_,rfl,⟨_,rfl⟩,(Wp S i).symm,?_⟩⟩;unfold DO;rw [DB,A3,A2,Fz]
   rfl)
 rw [Dv] at q1;exact (Ia hi).trans q1
abbrev Pe:MS:=BK (B7 (FH (m2 ixA (AC 2) (AC 3)) (AC 4))) (B7 (FH (m2 ixA (AC 2) (AC 4)) (AC 3)))
def In (p:Nat) (t:Int×Int):Prop:=0<=t.1/\t.1 < p/\0<=t.2/\t.2 < p/\t.1≠t.2
theorem PD {p:Nat} {S:Sto} {F:Nat->List Int} {t:Int×Int} {d0 d1:D} (ht:In p t) (hF:∀x,(F x).length < 200000) :
  Pe [some d0,some d1,some (.ref (S.length+p)),some (.int t.1),some (.int t.2)] (stN S p F)=.ok (.nx [some d0,some d1,some (.ref (S.length+p)),some (.int t.1),some (.int t.2)])
   (stN S p λx=>F x++((if t.1=(x:Int) then [t.2] else [])++(if t.2=(x:Int) then [t.1] else []))):=by
 obtain ⟨a,ha⟩:∃a:Nat,t.1=a:=⟨t.1.toNat,by have:=ht.1;lia⟩
 obtain ⟨b,hb⟩:∃b:Nat,t.2=b:=⟨t.2.toNat,by have:=ht.2.2.1;lia⟩
 obtain ⟨_,h2,_,h4,h5⟩:=ht
 have hab:a≠b:=λe=>h5 (by rw [ha,hb,e])
 rw [ha,hb]
 have hz:∀x,((F x).map D.int).length < sizeLine:=λx=>by rw [AK];exact eo (hF x) (by decide)
 have s1:=Hj (mo:=m2 ixA (AC 2) (AC 3)) (ma:=AC 4) (e:=[some d0,some d1,some (.ref (S.length+p)),some (.int a),some (.int b)]) (S:=stN S p F) (S1:=stN S p F) (S2:=stN S p F) (n:=S.length+a) (y:=.int b) (BD rfl rfl (UN F (by lia))) (HR S F (by lia)) rfl (HR S F (by lia)) (hz a);rw [show (F a).map D.int++[D.int b]=(F a++[(b:Int)]).map D.int by simp,T3 S F _ (by lia)] at s1
 have hrow:(stN S p λx=>if x=a then F a++[(b:Int)] else F x)[S.length+b]?=some (.lst ((F b).map D.int)):=by
  rw [HR S _ (by lia),if_neg (CS hab)]
 have s2:=Hj (mo:=m2 ixA (AC 2) (AC 4)) (ma:=AC 3) (e:=[some d0,some d1,some (.ref (S.length+p)),some (.int a),some (.int b)]) (S:=stN S p λx=>if x=a then F a++[(b:Int)] else F x) (S1:=stN S p λx=>if x=a then F a++[(b:Int)] else F x) (S2:=stN S p λx=>if x=a then F a++[(b:Int)] else F x) (n:=S.length+b) (y:=.int a) (BD rfl rfl (UN _ (by lia))) hrow rfl hrow (hz b);rw [show (F b).map D.int++[D.int a]=(F b++[(a:Int)]).map D.int by simp,T3 S _ _ (by lia)] at s2;unfold Pe;rw [Av (ED s1),ED s2]
 congr 2
 funext x
 by_cases e1:x=b
 ·subst e1
  have:¬((a:Int)=(x:Int)):=by lia
  simp [this]
 ·by_cases e2:x=a
  ·subst e2
   have:¬((b:Int)=(x:Int)):=by lia
   simp [e1,this]
  ·have h1:¬((a:Int)=(x:Int)):=by lia
   have h2:¬((b:Int)=(x:Int)):=by lia
   simp [e1,e2,h1,h2]
end M
namespace M
open PySem L2
theorem KF (ts:List (Int×Int)) (x:Nat):(Bg ts x).length<=2 * ts.length:=by
 unfold Bg
 induction ts with
 | nil=>simp
 | cons t ts ih=>
  rw [WX,A2,BA]
  have:((if t.1=(x:Int) then [t.2] else [])++(if t.2=(x:Int) then [t.1] else [])).length<=2:=by split <;> split <;> simp
  lia
def Hd (p:Nat) (ts:List (Int×Int)):List D:=(Ac p).map λx=>.tup ((E6 (Bg ts x)).map D.int)
theorem Zm (W:Wd) {p:Nat} (hp:p<=60) {ts:List (Int×Int)} (ht:∀t∈ts,In p t) (hl:ts.length<=90000) (S:Sto) :
  ∃S',Fj W [.int p,.tup (ts.map pairD)] S=.ok (.tup (Hd p ts)) S'/\Keeps S S':=by
 have a1:=C7 (i:=2) (FL (PF hp (mp:=AC 0) (e:=[some (.int p),some (.tup (ts.map pairD)),none,none,none]) (S:=S) rfl));have e1:(S++FA p λ_=>[])++[.lst (DO S.length p)]=stN S p (Bg []):=rfl
 have e2:(S++FA p λ_=>[]).length=S.length+p:=by simp [Fz]
 rw [e1,e2] at a1
 obtain ⟨f,S1,h1,⟨z3,z4,rfl⟩,rfl⟩:=C9 (v:=Bt (ts.map pairD)) (g:=Gm 2 (CZ (tgN 3) (CZ (tgN 4) G1))) (b:=Pe) (xs:=ts.map pairD) (e:=[some (.int p),some (.tup (ts.map pairD)),some (.ref (S.length+p)),none,none]) (S:=stN S p (Bg []))
  (λi e S'=>(∃z3 z4,e=[some (.int p),some (.tup (ts.map pairD)),some (.ref (S.length+p)),z3,z4])/\S'=stN S p (Bg (ts.take i)))
  (λf S'=>(∃z3 z4,f=.nx [some (.int p),some (.tup (ts.map pairD)),some (.ref (S.length+p)),z3,z4])/\S'=stN S p (Bg ts))
  ⟨⟨none,none,rfl⟩,rfl⟩ (λ_ _ _ _=>rfl)
  (by
   rintro i y e S' hy ⟨⟨z3,z4,rfl⟩,rfl⟩;rw [AV] at hy
   cases hx:ts[i]? with
   | none=>rw [hx] at hy;cases hy
   | some t=>
    rw [hx] at hy;cases hy;refine ⟨[some (.int p),some (.tup (ts.map pairD)),some (.ref (S.length+p)),some (.int t.1),some (.int t.2)],_,rfl,_,_,PD (ht t (Ai hx)) (λx=>?_),⟨_,_,rfl⟩,?_⟩
    ·have:=KF (ts.take i) x
     rw [B4] at this;exact A7 (Aq this (Nat.mul_le_mul_left 2 (Aq (NC _ _) hl))) (by decide)
    ·rw [take_snoc hx,show Bg (ts.take i++[t])=_ from funext λx=>MD _ _ x])
  (by
   rintro e S' ⟨⟨z3,z4,rfl⟩,rfl⟩;rw [AK,Br]
   exact ⟨⟨_,_,rfl⟩,rfl⟩)
 have a2:=(Cj (g:=Gm 2 (CZ (tgN 3) (CZ (tgN 4) G1))) (b:=Pe) (Kv (m:=AC 1) (e:=[some (.int p),some (.tup (ts.map pairD)),some (.ref (S.length+p)),none,none]) (S:=stN S p (Bg [])) (S1:=stN S p (Bg [])) (xs:=ts.map pairD) rfl)).trans h1
 obtain ⟨r,S2,q1,e',⟨z,_⟩,K,rfl⟩:=Ji (v:=C2 (.ref (S.length+p))) (g:=tgN 0) (c:=E7) (m:=JH (GN (AC 0))) (xs:=DO S.length p) (e:=[none,some (.int p),some (.tup (ts.map pairD)),some (.ref (S.length+p)),z3,z4]) (S:=stN S p (Bg ts))
  (λi e' S' acc=>(∃z,e'=[z,some (.int p),some (.tup (ts.map pairD)),some (.ref (S.length+p)),z3,z4])/\Keeps (stN S p (Bg ts)) S'/\acc=(Ac i).map λx=>.tup ((E6 (Bg ts x)).map D.int))
  ⟨⟨none,rfl⟩,.refl _,rfl⟩ (λi e' S' acc h=>C1 (h.2.1.at (G2 S p _)))
  (by
   rintro i d e' S' acc hd ⟨⟨z,rfl⟩,K,rfl⟩
   have hi:i < p:=by
    have:=(AG.mp hd).1;simpa [DO] using this
   unfold DO at hd;rw [AV,BC hi] at hd;cases hd;have hit:Hh (.ref (S.length+i)) S'=some ((Bg ts i).map D.int):=Nr (K.at (HR S _ hi));have hs:=LY (m:=AC 0) (e:=[some (.ref (S.length+i)),some (.int p),some (.tup (ts.map pairD)),some (.ref (S.length+p)),z3,z4]) (S:=S') (S1:=S') rfl hit (NT _);refine ⟨by simp;exact A7 (m:=60) (by lia) (by decide),[some (.ref (S.length+i)),some (.int p),some (.tup (ts.map pairD)),some (.ref (S.length+p)),z3,z4],_,rfl,true,_,rfl,.inl ⟨rfl,_,_,NP hs (Ep (Bx _ _)),⟨_,rfl⟩,K.trans (Keeps.app _ _),?_⟩⟩;rw [DB,A3]
   rfl)
 have a3:=(Ia (n:=1) (g:=tgN 0) (c:=E7) (m:=JH (GN (AC 0))) (Fi (m:=AC 2) (e:=[some (.int p),some (.tup (ts.map pairD)),some (.ref (S.length+p)),z3,z4]) (S:=stN S p (Bg ts)) (S1:=stN S p (Bg ts)) rfl (G2 S p _))).trans q1;rw [show (DO S.length p).length=p by simp [DO]] at a3;refine ⟨S2++[.lst (Hd p ts)],CP ?_,((Gv S p _).trans K).trans (Keeps.app _ _)⟩;unfold JU;refine CA (Av a1) ?_;refine CA (Av a2) ?_;exact FB (NP (FL a3) (Ep (Bx _ _)))
end M
namespace M
open PySem L2
open Srt (ltL)
def toP (r:List Int):Int×Int:=(r.getD 0 0,r.getD 1 0)
def Fd (ps:List (Int×Int)):List (Int×Int):=(IP ps).map toP
theorem NQ {ps:List (Int×Int)} {r:List Int} (h:r∈IP ps):∃x∈ps,r=P5 (nrm x):=by
 have:=(G3 _).mem_iff.mp h;obtain ⟨x,hx,rfl⟩:=BF.mp this;exact ⟨x,hx,rfl⟩
theorem U7 (ps:List (Int×Int)):(Fd ps).map P5=IP ps:=by
 unfold Fd;rw [BZ]
 conv=>rhs;rw [<-Tq (IP ps)]
 refine B6 λr hr=>?_
 obtain ⟨x,_,rfl⟩:=NQ hr;rfl
theorem Sd (ps:List (Int×Int)):(IP ps).map Ml=(Fd ps).map pairD:=by
 rw [<-U7,BZ];rfl
theorem Wi {ps:List (Int×Int)} {t:Int×Int} (h:t∈Fd ps):∃x∈ps,t=nrm x:=by
 obtain ⟨r,hr,rfl⟩:=BF.mp h;obtain ⟨x,hx,rfl⟩:=NQ hr;exact ⟨x,hx,rfl⟩
theorem O5 (ps:List (Int×Int)):(Fd ps).Perm (ps.map nrm):=by
 unfold Fd IP;have:=(G3 (ps.map λx=>P5 (nrm x))).map toP;refine this.trans ?_;rw [BZ];exact Ts rfl
theorem ck (x:Int×Int):(nrm x).1<=(nrm x).2:=by
 unfold nrm;dsimp only
 split <;> split <;> lia
theorem Fit.in {p:Nat} {x:Int×Int} (h:Fit p x):In p (nrm x):=by
 obtain ⟨h1,h2,h3⟩:=h;have:=ck x;exact ⟨h2,by lia,by lia,h3,h1⟩
structure DJ (W:Wd) (S:Sto) (q p:Nat) (ts:List (Int×Int)):Prop where
 at_:∃fs:List (Str×D),S[q]?=some (.ins W.Web fs)/\fs.lookup ("places" : Str)=some (.int p)/\fs.lookup ("ties" : Str)=some (.tup (ts.map pairD))/\fs.lookup ("near_sets" : Str)=some (.tup (Hd p ts))
theorem DJ.keeps {W:Wd} {S S':Sto} {q p:Nat} {ts:List (Int×Int)} (h:DJ W S q p ts) (k:Keeps S S'):DJ W S' q p ts:=by
 obtain ⟨fs,h1,h2⟩:=h.at_;exact ⟨fs,k.at h1,h2⟩
theorem DJ.places {W:Wd} {S:Sto} {q p:Nat} {ts:List (Int×Int)} (h:DJ W S q p ts) {m:ME} {e:Lo} {S0:Sto} (hm:m e S0=.ok (.ref q) S):Er W.Web "places" m e S0=.ok (.int p) S:=by
 obtain ⟨fs,h1,h2,_⟩:=h.at_;exact TV hm h1 h2
theorem DJ.sets {W:Wd} {S:Sto} {q p:Nat} {ts:List (Int×Int)} (h:DJ W S q p ts) {m:ME} {e:Lo} {S0:Sto} (hm:m e S0=.ok (.ref q) S):Er W.Web "near_sets" m e S0=.ok (.tup (Hd p ts)) S:=by
 obtain ⟨fs,h1,_,_,h2⟩:=h.at_;exact TV hm h1 h2
theorem fx:¬(("places" : Str) = "ties"):=by decide +kernel
theorem fy:¬(("places" : Str) = "near_sets"):=by decide +kernel
theorem fw:¬(("ties" : Str) = "near_sets"):=by decide +kernel
theorem put2 (a b:D):Mm "ties" b [(("places" : Str),a)]=([("places",a),("ties",b)]:List (Str×D)):=by
 show (if ("places" : Str) = "ties" then _ else _)=_;rw [if_neg fx];rfl
theorem put3 (a b c:D):Mm "near_sets" c [(("places" : Str),a),("ties",b)]=([("places",a),("ties",b),("near_sets",c)]:List (Str×D)):=by
 show (if ("places" : Str) = "near_sets" then _ else _)=_;rw [if_neg fy]
 have:Mm "near_sets" c [(("ties" : Str),b)]=([("ties",b),("near_sets",c)]:List (Str×D)):=by
  show (if ("ties" : Str) = "near_sets" then _ else _)=_;rw [if_neg fw];rfl
 rw [this]
theorem gH (a b c:D):([("places",a),("ties",b),("near_sets",c)]:List (Str×D)).lookup ("places" : Str)=some a:=by
 rw [B3,show (("places" : Str)=="places")=true by decide +kernel]
theorem gF (a b c:D):([("places",a),("ties",b),("near_sets",c)]:List (Str×D)).lookup ("ties" : Str)=some b:=by
 rw [B3,show (("ties" : Str)=="places")=false by decide +kernel];dsimp only;rw [B3,show (("ties" : Str)=="ties")=true by decide +kernel]
theorem gD (a b c:D):([("places",a),("ties",b),("near_sets",c)]:List (Str×D)).lookup ("near_sets" : Str)=some c:=by
 rw [B3,show (("near_sets" : Str)=="places")=false by decide +kernel];dsimp only;rw [B3,show (("near_sets" : Str)=="ties")=false by decide +kernel];dsimp only;rw [B3,show (("near_sets" : Str)=="near_sets")=true by decide +kernel]
theorem cw (a b:D):([("places",a),("ties",b)]:List (Str×D)).lookup ("ties" : Str)=some b:=by
 rw [B3,show (("ties" : Str)=="places")=false by decide +kernel];dsimp only;rw [B3,show (("ties" : Str)=="ties")=true by decide +kernel]
theorem Q6 (W:Wd) {p:Nat} (h1:1<=p) (hp:p<=60) {d:D} {S:Sto} {ps:List (Int×Int)} (hv:∀S',Keeps S S'->C2 d S'=some (ps.map pairD)) (hl:ps.length<=90000) (hf:D1 p ps) {e:Lo} {ml:ML} {S0:Sto} (ha:ml e S0=.ok [.int p,d] S) :
  ∃S',MF W.Web 3 (GD W) ml e S0=.ok (.ref S.length) S'/\Keeps S S'/\DJ W S' S.length p (Fd ps):=by
 have t0:Nk (mB (m3 leD leD (mC (.int 1)) (AC 1) (mC (.int 60)))) [some (.ref S.length),some (.int p),some d] (S++[.ins W.Web []])=.ok false (S++[.ins W.Web []]):=
  Lg (b:=true) (E5 (UH (S3:=S++[.ins W.Web []]) rfl rfl (KG (decide_eq_true (by lia))) rfl (KG (decide_eq_true (by lia)))))
 have hq0:(S++[Ob.ins W.Web []])[S.length]?=some (.ins W.Web []):=Bx _ _;have e1:=Pz (C:=W.Web) (f:="places") (mo:=AC 0) (mv:=AC 1) (e:=[some (.ref S.length),some (.int p),some d]) (S:=S++[.ins W.Web []]) (v:=.int p) rfl rfl hq0 (by decide);have K1:Keeps S ((S++[Ob.ins W.Web []]).set S.length (.ins W.Web (Mm "places" (.int p) []))):=(Keeps.app S _).set (AS _) _;generalize hS1:(S++[Ob.ins W.Web []]).set S.length (.ins W.Web (Mm "places" (.int p) []))=S1 at e1 K1
 have hq1:S1[S.length]?=some (.ins W.Web [("places",.int p)]):=by rw [<-hS1];exact As (by simp)
 obtain ⟨S2,c2,K2⟩:=QZ W (p:=p) (d:=d) (S:=S1) (ps:=ps) (λS' k=>hv S' (K1.trans k)) (Aq hl (by decide)) hf;rw [Sd] at c2;have e2:=Pz (C:=W.Web) (f:="ties") (mo:=AC 0) (mv:=A0 2 (Fn W) (AE (AC 1) (AE (AC 2) AY))) (e:=[some (.ref S.length),some (.int p),some d]) (S:=S1) ((BL rfl rfl).trans c2) rfl (K2.at hq1) (by simp);have K3:Keeps S (S2.set S.length (.ins W.Web (Mm "ties" (.tup ((Fd ps).map pairD)) [("places",.int p)]))):=(K1.trans K2).set (AS _) _;rw [put2] at e2 K3;have hlt2:S.length < S2.length:=(AG.mp (K2.at hq1)).1;generalize hS3:S2.set S.length (.ins W.Web [("places",.int p),("ties",.tup ((Fd ps).map pairD))])=S3 at e2 K3
 have hq3:S3[S.length]?=some (.ins W.Web [("places",.int p),("ties",.tup ((Fd ps).map pairD))]):=by rw [<-hS3];exact As hlt2
 obtain ⟨S4,c4,K4⟩:=Zm W hp (ts:=Fd ps) (λt ht=>by
  obtain ⟨x,hx,rfl⟩:=Wi ht
  exact (hf.1 x hx).in) (by rw [(O5 ps).length_eq,AK];exact hl) S3
 have e3:=Pz (C:=W.Web) (f:="near_sets") (mo:=AC 0) (mv:=A0 2 (Fj W) (AE (AC 1) (AE (Er W.Web "ties" (AC 0)) AY))) (e:=[some (.ref S.length),some (.int p),some d]) (S:=S3)
  ((BL (BQ (S1:=S3) rfl (BQ (TV rfl hq3 (cw _ _)) rfl)) rfl).trans c4) rfl (K4.at hq3) (by simp)
 have hlt4:S.length < S4.length:=(AG.mp (K4.at hq3)).1;rw [put3] at e3;refine ⟨_,Zo ha rfl (Sm (e:=[some (.ref S.length),some (.int p),some d]) ?_),(K3.trans K4).set (AS _) _,⟨_,As hlt4,gH _ _ _,gF _ _ _,gD _ _ _⟩⟩;unfold OB;refine CA (Av (e:=[some (.ref S.length),some (.int p),some d]) (e1:=[some (.ref S.length),some (.int p),some d]) (S1:=S++[.ins W.Web []]) (CA (DP t0) rfl)) ?_;rw [Av e1,Av e2];exact e3
end M
namespace M
open PySem L2
end M
namespace M
open PySem L2
theorem XY {W:Wd} {S:Sto} {q p:Nat} {ts:List (Int×Int)} (hw:DJ W S q p ts) (x:Int):EZ W [.ref q,.int x] S=if 0<=x/\x < p then .ok .non S else .err W.NoPlace S:=by
 have t:Nk (mB (m3 leD ltD (mC (.int 0)) (AC 1) (Er W.Web "places" (AC 0)))) [some (.ref q),some (.int x)] S=.ok (decide ¬(0<=x/\x < p)) S:=by
  by_cases h1:0<=x
  ·by_cases h2:x < p
   ·rw [Lg (b:=true) (E5 (UH rfl rfl (KG (decide_eq_true h1)) (hw.places rfl) (JI (decide_eq_true h2))))]
    simp [h1,h2]
   ·rw [Lg (b:=false) (E5 (UH rfl rfl (KG (decide_eq_true h1)) (hw.places rfl) (JI (decide_eq_false h2))))]
    simp [h2]
  ·rw [Lg (b:=false) (E5 (gC rfl rfl (KG (decide_eq_false h1))))]
   simp [h1]
 have t':=DP (a:=EA W.NoPlace (AE (mC (.str "the web has no such place")) AY)) (b:=sNx) t
 by_cases c:0<=x/\x < p
 ·rw [if_pos c]
  rw [decide_eq_false (λz=>z c),if_neg AR] at t';exact Sm (t'.trans rfl)
 ·rw [if_neg c]
  rw [decide_eq_true c,if_pos rfl] at t';exact NX (t'.trans (Na rfl (by simp)))
theorem UE {W:Wd} {S:Sto} {q p:Nat} {ts:List (Int×Int)} (hw:DJ W S q p ts) {x:Nat} (hx:x < p):JM W [.ref q,.int x] S=.ok (.tup ((E6 (Bg ts x)).map D.int)) S:=by
 refine CP ?_;unfold YU
 have c:A0 2 (EZ W) (AE (AC 0) (AE (AC 1) AY)) [some (.ref q),some (.int x)] S=.ok .non S:=by
  refine (BL (ds:=[.ref q,.int x]) (S1:=S) rfl rfl).trans ?_;rw [XY hw,if_pos ⟨by omega,by omega⟩]
 refine CA (Av (e:=[some (.ref q),some (.int x)]) (ED c)) ?_;refine FB (BD (hw.sets rfl) rfl ?_);show G4 (ixD _ _ _) _=_
 have e2:atI (Hd p ts) (x:Int)=some (.tup ((E6 (Bg ts x)).map D.int)):=by
  unfold atI ixN;rw [show (Hd p ts).length=p by simp [Hd],if_pos (by omega),if_pos (by omega)];simp only [GK,Bf];unfold Hd;rw [AV,BC hx];rfl
 have:ixD (.tup (Hd p ts)) (.int x) S=.ok (.tup ((E6 (Bg ts x)).map D.int)) S:=by
  show (match atI (Hd p ts) (x:Int) with | some d=>Res.ok d S | none=>.bad)=_;rw [e2]
 rw [this];rfl
end M
namespace M
open PySem L2
open Srt (ltL)
theorem Qa (W:Wd) (ns:List Int) (k:Nat) (S:Sto):∃h:Int,Cz W [.fro (ns.map D.int),.int k] S=.ok (.int h) S:=by
 by_cases hk:k < ns.length
 ·refine ⟨ns[k],CP ?_⟩
  unfold HD;have t:mB (m2 ltD (AC 1) (Eb (AC 0))) (DE 2 [.fro (ns.map D.int),.int k]) S=.ok true S:=E5 (BD rfl (Gg (d:=.fro (ns.map D.int)) rfl rfl) (JI (decide_eq_true (by simp;omega))));refine La (CA (DP t) ?_);rw [if_pos rfl];refine FB (BD rfl rfl (UO (ds:=ns.map D.int) rfl (by lia) ?_));simp [hk]
 ·refine ⟨0,CP ?_⟩
  unfold HD;have t:mB (m2 ltD (AC 1) (Eb (AC 0))) (DE 2 [.fro (ns.map D.int),.int k]) S=.ok false S:=E5 (BD rfl (Gg (d:=.fro (ns.map D.int)) rfl rfl) (JI (decide_eq_false (by simp;lia))));refine CA (Av (CA (DP t) rfl)) ?_;rfl
theorem QG {i j:Int} {S:Sto} (h:-1000000000000<=j) (h1:j<=1000000000000):Nj (.int i) (.int j) S=.ok (.int (i * j)) S:=by
 show (if V8 i j then _ else _)=_;rw [if_pos (.inr ⟨Int.lt_of_lt_of_le (by decide) h,Wa h1 (by decide)⟩)]
theorem Kp (W:Wd) (c s:Int):∃v:Int,0<=v/\v < 2147483629/\∀S,Bl W [.int c,.int s] S=.ok (.int v) S:=by
 have h0:=Ja ((c % 2147483647+s) * 48271) (show (2147483647:Int)≠0 by decide);have h1:=Hc ((c % 2147483647+s) * 48271) (show (0:Int) < 2147483647 by decide);refine ⟨(c % 2147483647+s) * 48271 % 2147483647 * ((c % 2147483647+s) * 48271 % 2147483647) % 2147483629,Ja _ (by decide),Hc _ (by decide),λS=>CP ?_⟩;unfold LD
 have s1:Bp 2 (m2 Ea (m2 Nj (m2 CQ (m2 Ea (AC 0) (mC (.int 2147483647))) (AC 1)) (mC (.int 48271))) (mC (.int 2147483647))) (DE 3 [.int c,.int s]) S=.ok (.nx [some (.int c),some (.int s),some (.int ((c % 2147483647+s) * 48271 % 2147483647))]) S:=
  C7 (i:=2) (BD (BD (BD (BD rfl rfl (EY (by decide))) rfl rfl) rfl (QG (by decide) (by decide))) rfl (EY (by decide)))
 rw [Av s1]
 generalize (c % 2147483647+s) * 48271 % 2147483647=m at *
 exact FB (BD (BD rfl rfl (QG (by lia) (by lia))) rfl (EY (by decide)))
abbrev bA:MS:=BK (Bp 4 (M1 (AC 0) (Gn (m2 CQ (AC 1) (AC 3))) Hv (Gn (mC (.int 24)))))
  (sIf (mB (m2 (eqD true) (AC 4) (Ce (BX AY)))) (B7 (FH (AC 2) (TC (AC 4)))) sNx)
theorem bn {m:ME} {e:Lo} {S S1:Sto} {n:Nat} {ns:List Int} (h:m e S=.ok (.ref n) S1) (hn:S1[n]?=some (.lst (ns.map D.int))):TC m e S=.ok (.int (Y4 ns)) S1:=by
 unfold TC;rw [h];dsimp only [Res.bind];rw [Kq hn];dsimp only;rw [IW]
theorem VL {S:Sto} {ns ps:List Int} {n:Nat} {s k:Int} {z4:Option D} (hn:S[n]?=some (.lst (ps.map D.int))) (hl:ps.length<=1000) :
  ∃(S':Sto) (z:Option D) (qs:List Int),bA [some (.fro (ns.map D.int)),some (.int s),some (.ref n),some (.int k),z4] S=.ok (.nx [some (.fro (ns.map D.int)),some (.int s),some (.ref n),some (.int k),z]) S'/\S'[n]?=some (.lst (qs.map D.int))/\ps.length<=qs.length/\qs.length<=ps.length+1/\S.length<=S'.length/\∀j,j < S.length->j≠n->S'[j]?=S[j]?:=by
 have hlt:n < S.length:=(AG.mp hn).1
 have s1:Bp 4 (M1 (AC 0) (Gn (m2 CQ (AC 1) (AC 3))) Hv (Gn (mC (.int 24)))) [some (.fro (ns.map D.int)),some (.int s),some (.ref n),some (.int k),z4] S=.ok (.nx [some (.fro (ns.map D.int)),some (.int s),some (.ref n),some (.int k),some (.ref S.length)]) (S++[.lst ((pickG ns (some (s+k)) none (some 24)).map D.int)]):=by
  refine C7 (i:=4) ?_;rw [<-VM];rfl
 generalize pickG ns (some (s+k)) none (some 24)=cs at s1;have hc:=Bx S (.lst (cs.map D.int));have K1:Keeps S (S++[.lst (cs.map D.int)]):=Keeps.app _ _
 have e1:(S++[Ob.lst (cs.map D.int)]).length=S.length+1:=by simp
 generalize S++[Ob.lst (cs.map D.int)]=S1 at s1 hc K1 e1
 have t:mB (m2 (eqD true) (AC 4) (Ce (BX AY))) [some (.fro (ns.map D.int)),some (.int s),some (.ref n),some (.int k),some (.ref S.length)] S1=.ok (!cs.isEmpty) (S1++[.lst []]):=by
  refine E5 (BD (S2:=S1++[.lst []]) rfl rfl ?_);rw [dk true ((Keeps.app S1 _).at hc) (Bx _ _)];simp
 have K2:Keeps S (S1++[.lst []]):=K1.trans (Keeps.app _ _);have hc2:=(Keeps.app S1 [.lst []]).at hc;generalize S1++[Ob.lst []]=S2 at t K2 hc2;have hn2:=K2.at hn;have i1:=DP (a:=B7 (FH (AC 2) (TC (AC 4)))) (b:=sNx) t
 cases hq:cs.isEmpty with
 | true=>
  rw [hq] at i1;refine ⟨S2,_,ps,(Av s1).trans (i1.trans rfl),hn2,AS _,Jy _,K2.1,λj h1 _=>K2.2 j h1⟩
 | false=>
  rw [hq] at i1;have a1:=Hj (mo:=AC 2) (ma:=TC (AC 4)) (e:=[some (.fro (ns.map D.int)),some (.int s),some (.ref n),some (.int k),some (.ref S.length)]) (S:=S2) (n:=n) (S1:=S2) (S2:=S2) rfl hn2 (bn rfl hc2) hn2 (by rw [AK];exact A7 hl (by decide));refine ⟨_,_,ps++[Y4 cs],(Av s1).trans (i1.trans (ED a1)),?_,by simp,by simp,by simpa using K2.1,λj h1 h2=>?_⟩
  ·rw [As (Ad hlt K2.1),A3]
   rfl
  ·rw [A9 (CS h2)]
   exact K2.2 j h1
theorem ZP (W:Wd) (ns:List Int) (S:Sto):∃(S':Sto) (ps:List Int),JP W [.fro (ns.map D.int),.int 1] S=.ok (.ref S.length) S'/\Keeps S S'/\S'[S.length]?=some (.lst (ps.map D.int))/\1<=ps.length/\ps.length<=25:=by
 have s1:Bp 2 (Ce (BX (AE (Eb (AC 0)) AY))) (DE 5 [.fro (ns.map D.int),.int 1]) S=.ok (.nx [some (.fro (ns.map D.int)),some (.int 1),some (.ref S.length),none,none]) (S++[.lst ([(ns.length:Int)].map D.int)]):=by
  refine C7 (i:=2) (FL ?_);unfold BX;rw [BQ (r:=AY) (Gg (d:=.fro (ns.map D.int)) (S1:=S) rfl rfl) rfl,AK];rfl
 obtain ⟨f,S1,h1,⟨z3,z4,rfl⟩,K,ps,hn,hl1,hl2⟩:=C9 (v:=Bt (Bc 0 24)) (g:=tgN 3) (b:=bA) (xs:=Bc 0 24) (e:=[some (.fro (ns.map D.int)),some (.int 1),some (.ref S.length),none,none]) (S:=S++[.lst ([(ns.length:Int)].map D.int)])
  (λi e S'=>(∃z3 z4,e=[some (.fro (ns.map D.int)),some (.int 1),some (.ref S.length),z3,z4])/\Keeps S S'/\∃ps:List Int,S'[S.length]?=some (.lst (ps.map D.int))/\1<=ps.length/\ps.length<=i+1)
  (λf S'=>(∃z3 z4,f=.nx [some (.fro (ns.map D.int)),some (.int 1),some (.ref S.length),z3,z4])/\Keeps S S'/\∃ps:List Int,S'[S.length]?=some (.lst (ps.map D.int))/\1<=ps.length/\ps.length<=25)
  ⟨⟨none,none,rfl⟩,Keeps.app _ _,[(ns.length:Int)],Bx _ _,by simp,by simp⟩ (λ_ _ _ _=>rfl)
  (by
   rintro i d e S' hd ⟨⟨z3,z4,rfl⟩,K,ps,hn,h1,h2⟩;obtain ⟨hi,rfl⟩:=Dw hd;obtain ⟨S2,z,qs,q1,q2,q3,q4,q5,q6⟩:=VL (S:=S') (ns:=ns) (s:=1) (k:=0+i) (z4:=z4) hn (by lia)
   exact ⟨_,_,rfl,_,_,q1,⟨_,_,rfl⟩,⟨Aq K.1 q5,λj hj=>(q6 j (Ad hj K.1) (by lia)).trans (K.2 j hj)⟩,qs,q2,by lia,by lia⟩)
  (by
   rintro e S' ⟨⟨z3,z4,rfl⟩,K,ps,hn,h1,h2⟩;rw [Dv] at h2
   exact ⟨⟨_,_,rfl⟩,K,ps,hn,h1,by omega⟩)
 refine ⟨S1,ps,CP ?_,K,hn,hl1,hl2⟩;unfold MR;rw [Av s1];refine CA (Av ((Cj (IX (j:=24) rfl (by lia) (by lia))).trans h1)) ?_;rfl
end M
namespace M
open PySem L2
def Cm (o j:Nat) (ts:List (Int×Int)):Prop:=(∀x∈ts,0<=x.1/\x.1 < x.2/\(x.2 < o∨x.2=o/\x.1 < j))/\ts.Nodup
theorem Cm.nil (o j:Nat):Cm o j []:=⟨λ_ h=>absurd h D5,Oz⟩
theorem Cm.skip {o j:Nat} {ts:List (Int×Int)} (h:Cm o j ts):Cm o (j+1) ts:=⟨λx hx=>by
 obtain ⟨h1,h2,h3⟩:=h.1 x hx;refine ⟨h1,h2,?_⟩
 lia,h.2⟩
theorem Cm.add {o j:Nat} {ts:List (Int×Int)} (h:Cm o j ts) (hj:j < o):Cm o (j+1) (ts++[((j:Int),(o:Int))]):=by
 refine ⟨λx hx=>?_,?_⟩
 ·rcases Aj.mp hx with hx | hx
  ·exact h.skip.1 x hx
  ·rw [AL.mp hx]
   dsimp only
   lia
 ·rw [Ft]
  refine ⟨h.2,by simp,λx hx y hy e=>?_⟩;rw [AL.mp hy] at e;subst e;have:=(h.1 _ hx).2.2;dsimp only at this
  lia
theorem Cm.next {o:Nat} {ts:List (Int×Int)} (h:Cm o o ts):Cm (o+1) 0 ts:=⟨λx hx=>by
 obtain ⟨h1,h2,h3⟩:=h.1 x hx;refine ⟨h1,h2,?_⟩
 lia,h.2⟩
theorem XV {x:Int×Int} (h:x.1 < x.2):nrm x=x:=by
 unfold nrm;rw [if_neg (by lia),if_pos (by omega)]
theorem Cm.nrm {o j:Nat} {ts:List (Int×Int)} (h:Cm o j ts):ts.map M.nrm=ts:=by
 conv=>rhs;rw [<-Tq ts]
 exact B6 λx hx=>XV (h.1 x hx).2.1
theorem Cm.fit {p:Nat} {ts:List (Int×Int)} (h:Cm p 0 ts):D1 p ts:=by
 refine ⟨λx hx=>?_,by rw [h.nrm];exact h.2⟩;obtain ⟨h1,h2,h3⟩:=h.1 x hx;unfold Fit;rw [XV h2]
 lia
theorem M5 (S:Sto) (o o':Ob):(S++[o]).set S.length o'=S++[o']:=by simp
abbrev Ui (W:Wd):MS:=BK (Bp 7 (m2 ixA (AC 0) (m2 Ea (AC 4) (Eb (AC 0)))))
  (BK (Bp 4 (m2 CQ (AC 4) (mC (.int 1))))
  (sIf (mB (m2 ltD (m2 Ea (A0 2 (Bl W) (AE (AC 7) (AE (m2 CQ (m2 Nj (mC (.int 7)) (AC 6)) (m2 Nj (mC (.int 61)) (AC 5))) AY))) (mC (.int 6))) (AC 2))) (B7 (FH (AC 3) (EC (AE (AC 6) (AE (AC 5) AY))))) sNx))
theorem U9 (W:Wd) {S:Sto} {a:Nat} {pool:List Int} {d1:D} {th at_:Int} {o j:Nat} {z7:Option D} {ts:List (Int×Int)} (ha:S[a]?=some (.lst (pool.map D.int))) (hp:1<=pool.length) (ho:o<=1000) (hj:j < o) (hu:Cm o j ts) (hl:ts.length<=90000) :
  ∃(c:Int) (qs:List (Int×Int)),Ui W [some (.ref a),some d1,some (.int th),some (.ref S.length),some (.int at_),some (.int o),some (.int j),z7] (S++[.lst (ts.map pairD)])=.ok (.nx [some (.ref a),some d1,some (.int th),some (.ref S.length),some (.int (at_+1)),some (.int o),some (.int j),some (.int c)]) (S++[.lst (qs.map pairD)])/\Cm o (j+1) qs/\qs.length<=ts.length+1:=by
 have ha':=(Keeps.app S [.lst (ts.map pairD)]).at ha;have h0:=Ja at_ (show (pool.length:Int)≠0 by lia);have h1:=Hc at_ (show (0:Int) < pool.length by lia)
 have hlt:(at_ % pool.length).toNat < pool.length:=by lia
 have s1:Bp 7 (m2 ixA (AC 0) (m2 Ea (AC 4) (Eb (AC 0)))) [some (.ref a),some d1,some (.int th),some (.ref S.length),some (.int at_),some (.int o),some (.int j),z7] (S++[.lst (ts.map pairD)])=.ok (.nx [some (.ref a),some d1,some (.int th),some (.ref S.length),some (.int at_),some (.int o),some (.int j),some (.int pool[(at_ % pool.length).toNat])]) (S++[.lst (ts.map pairD)]):=by
  refine C7 (i:=7) (BD rfl (BD rfl (Gg (d:=.ref a) rfl (Ep ha')) (EY (by rw [AK];lia))) (TK ha' (by rw [AK];exact h0) ?_));rw [AK,AV,Aw hlt];rfl
 generalize pool[(at_ % pool.length).toNat]=c at s1;have s2:Bp 4 (m2 CQ (AC 4) (mC (.int 1))) [some (.ref a),some d1,some (.int th),some (.ref S.length),some (.int at_),some (.int o),some (.int j),some (.int c)] (S++[.lst (ts.map pairD)])=.ok (.nx [some (.ref a),some d1,some (.int th),some (.ref S.length),some (.int (at_+1)),some (.int o),some (.int j),some (.int c)]) (S++[.lst (ts.map pairD)]):=rfl;obtain ⟨v,_,_,hv⟩:=Kp W c (7 * j+61 * o)
 have t:mB (m2 ltD (m2 Ea (A0 2 (Bl W) (AE (AC 7) (AE (m2 CQ (m2 Nj (mC (.int 7)) (AC 6)) (m2 Nj (mC (.int 61)) (AC 5))) AY))) (mC (.int 6))) (AC 2)) [some (.ref a),some d1,some (.int th),some (.ref S.length),some (.int (at_+1)),some (.int o),some (.int j),some (.int c)] (S++[.lst (ts.map pairD)])=.ok (decide (v % 6 < th)) (S++[.lst (ts.map pairD)]):=
  E5 (BD (BD ((BL (ds:=[.int c,.int (7 * j+61 * o)]) (S1:=S++[.lst (ts.map pairD)]) (BQ rfl (BQ (BD (BD rfl rfl (QG (by lia) (by lia))) (BD rfl rfl (QG (by lia) (by lia))) rfl) rfl)) rfl).trans (hv _)) rfl (EY (by decide))) rfl (JI rfl))
 have i1:=DP (a:=B7 (FH (AC 3) (EC (AE (AC 6) (AE (AC 5) AY))))) (b:=sNx) t
 by_cases c0:v % 6 < th
 ·rw [decide_eq_true c0,if_pos rfl] at i1
  have a1:=Hj (mo:=AC 3) (ma:=EC (AE (AC 6) (AE (AC 5) AY))) (e:=[some (.ref a),some d1,some (.int th),some (.ref S.length),some (.int (at_+1)),some (.int o),some (.int j),some (.int c)]) (S:=S++[.lst (ts.map pairD)]) (n:=S.length) (S1:=S++[.lst (ts.map pairD)]) (S2:=S++[.lst (ts.map pairD)]) (y:=pairD ((j:Int),(o:Int))) rfl (Bx _ _) (IN (ds:=[.int j,.int o]) rfl (by simp)) (Bx _ _) (by rw [AK];exact A7 hl (by decide));rw [M5,show ts.map pairD++[pairD ((j:Int),(o:Int))]=(ts++[((j:Int),(o:Int))]).map pairD by simp] at a1;exact ⟨c,_,((Av s1).trans (Av s2)).trans (i1.trans (ED a1)),hu.add hj,by simp⟩
 ·rw [decide_eq_false c0,if_neg AR] at i1
  exact ⟨c,ts,((Av s1).trans (Av s2)).trans (i1.trans rfl),hu.skip,by lia⟩
theorem Wk (W:Wd) {S:Sto} {a:Nat} {pool:List Int} {d1:D} {th at_:Int} {o:Nat} {z6 z7:Option D} {ts:List (Int×Int)} (ha:S[a]?=some (.lst (pool.map D.int))) (hp:1<=pool.length) (ho:o<=1000) (hu:Cm o 0 ts) (hl:ts.length<=80000) :
  ∃(at':Int) (y6 y7:Option D) (qs:List (Int×Int)),Dg (iR1 (AE (AC 5) AY)) (tgN 6) (Ui W) [some (.ref a),some d1,some (.int th),some (.ref S.length),some (.int at_),some (.int o),z6,z7] (S++[.lst (ts.map pairD)])=.ok (.nx [some (.ref a),some d1,some (.int th),some (.ref S.length),some (.int at'),some (.int o),y6,y7]) (S++[.lst (qs.map pairD)])/\Cm (o+1) 0 qs/\qs.length<=ts.length+o:=by
 obtain ⟨f,S1,h1,at',y6,y7,qs,rfl,rfl,q1,q2⟩:=C9 (v:=Bt (Bc 0 o)) (g:=tgN 6) (b:=Ui W) (xs:=Bc 0 o) (e:=[some (.ref a),some d1,some (.int th),some (.ref S.length),some (.int at_),some (.int o),z6,z7]) (S:=S++[.lst (ts.map pairD)])
  (λi e S'=>∃(at':Int) (y6 y7:Option D) (qs:List (Int×Int)),e=[some (.ref a),some d1,some (.int th),some (.ref S.length),some (.int at'),some (.int o),y6,y7]/\S'=S++[.lst (qs.map pairD)]/\Cm o i qs/\qs.length<=ts.length+i)
  (λf S'=>∃(at':Int) (y6 y7:Option D) (qs:List (Int×Int)),f=.nx [some (.ref a),some d1,some (.int th),some (.ref S.length),some (.int at'),some (.int o),y6,y7]/\S'=S++[.lst (qs.map pairD)]/\Cm o o qs/\qs.length<=ts.length+o)
  ⟨at_,z6,z7,ts,rfl,rfl,hu,AS _⟩ (λ_ _ _ _=>rfl)
  (by
   rintro i d e S' hd ⟨at',y6,y7,qs,rfl,rfl,q1,q2⟩;obtain ⟨hi,rfl⟩:=Dw hd;obtain ⟨c,rs,k1,k2,k3⟩:=U9 W (d1:=d1) (th:=th) (at_:=at') (z7:=y7) ha hp ho hi q1 (by lia);refine ⟨[some (.ref a),some d1,some (.int th),some (.ref S.length),some (.int at'),some (.int o),some (.int i),y7],_,?_,_,_,k1,_,_,_,rs,rfl,rfl,k2,by lia⟩;show Res.ok [some (.ref a),some d1,some (.int th),some (.ref S.length),some (.int at'),some (.int o),some (.int (0+(i:Int))),y7] _=_
   rw [HK])
  (by
   rintro e S' ⟨at',y6,y7,qs,rfl,rfl,q1,q2⟩;rw [Dv] at q1 q2
   exact ⟨_,_,_,qs,rfl,rfl,q1,q2⟩)
 have hi:iR1 (AE (AC 5) AY) [some (.ref a),some d1,some (.int th),some (.ref S.length),some (.int at_),some (.int o),z6,z7] (S++[.lst (ts.map pairD)])=.ok (Bt (Bc 0 o)) (S++[.lst (ts.map pairD)]):=by
  have:=IX (ml:=AE (AC 5) AY) (e:=[some (.ref a),some d1,some (.int th),some (.ref S.length),some (.int at_),some (.int o),z6,z7]) (S:=S++[.lst (ts.map pairD)]) (S1:=S++[.lst (ts.map pairD)]) (j:=o) rfl (by lia) (by lia);simpa using this
 exact ⟨at',y6,y7,qs,(Cj hi).trans h1,q1.next,q2⟩
theorem Rh (W:Wd) {S:Sto} {a m:Nat} {pool:List Int} (th:Int) (ha:S[a]?=some (.lst (pool.map D.int))) (hp:1<=pool.length) (hm1:1<=m) (hm:m<=60) :
  ∃ts:List (Int×Int),JO W [.ref a,.int m,.int th] S=.ok (.ref S.length) (S++[.lst (ts.map pairD)])/\Cm m 0 ts/\ts.length<=3600:=by
 obtain ⟨f,S1,h1,at',y5,y6,y7,qs,rfl,rfl,q1,q2⟩:=C9 (v:=Bt (Bc 1 (m - 1))) (g:=tgN 5) (b:=Dg (iR1 (AE (AC 5) AY)) (tgN 6) (Ui W)) (xs:=Bc 1 (m - 1)) (e:=[some (.ref a),some (.int m),some (.int th),some (.ref S.length),some (.int 0),none,none,none]) (S:=S++[.lst []])
  (λi e S'=>∃(at':Int) (y5 y6 y7:Option D) (qs:List (Int×Int)),e=[some (.ref a),some (.int m),some (.int th),some (.ref S.length),some (.int at'),y5,y6,y7]/\S'=S++[.lst (qs.map pairD)]/\Cm (1+i) 0 qs/\qs.length<=60 * i)
  (λf S'=>∃(at':Int) (y5 y6 y7:Option D) (qs:List (Int×Int)),f=.nx [some (.ref a),some (.int m),some (.int th),some (.ref S.length),some (.int at'),y5,y6,y7]/\S'=S++[.lst (qs.map pairD)]/\Cm m 0 qs/\qs.length<=3600)
  ⟨0,none,none,none,[],rfl,rfl,Cm.nil _ _,by simp⟩ (λ_ _ _ _=>rfl)
  (by
   rintro i d e S' hd ⟨at',y5,y6,y7,qs,rfl,rfl,q1,q2⟩;obtain ⟨hi,rfl⟩:=Dw hd;obtain ⟨at2,w6,w7,rs,k1,k2,k3⟩:=Wk W (d1:=.int m) (th:=th) (at_:=at') (o:=1+i) (z6:=y6) (z7:=y7) ha hp (by lia) q1 (by lia);refine ⟨[some (.ref a),some (.int m),some (.int th),some (.ref S.length),some (.int at'),some (.int ((1+i:Nat):Int)),y6,y7],_,?_,_,_,k1,_,_,_,_,rs,rfl,rfl,k2,by lia⟩;show Res.ok [some (.ref a),some (.int m),some (.int th),some (.ref S.length),some (.int at'),some (.int (1+(i:Int))),y6,y7] _=_;rw [ag]
   rfl)
  (by
   rintro e S' ⟨at',y5,y6,y7,qs,rfl,rfl,q1,q2⟩;rw [Dv] at q1 q2;rw [show 1+(m - 1)=m by lia] at q1
   exact ⟨_,_,_,_,qs,rfl,rfl,q1,by lia⟩)
 have hi:iR2 (AE (mC (.int 1)) (AE (AC 1) AY)) [some (.ref a),some (.int m),some (.int th),some (.ref S.length),some (.int 0),none,none,none] (S++[.lst []])=.ok (Bt (Bc 1 (m - 1))) (S++[.lst []]):=by
  have:=Nu (ml:=AE (mC (.int 1)) (AE (AC 1) AY)) (e:=[some (.ref a),some (.int m),some (.int th),some (.ref S.length),some (.int 0),none,none,none]) (S:=S++[.lst []]) (S1:=S++[.lst []]) (i:=1) (j:=m) rfl (by lia) (by lia) (by lia) (by lia);rw [this,show ((m:Int) - 1).toNat=m - 1 by lia]
 refine ⟨qs,CP ?_,q1,q2⟩;unfold MQ;refine CA (Av (e:=DE 8 [.ref a,.int m,.int th]) (e1:=[some (.ref a),some (.int m),some (.int th),some (.ref S.length),none,none,none,none]) (S1:=S++[.lst []]) rfl) ?_;refine CA (Av (e1:=[some (.ref a),some (.int m),some (.int th),some (.ref S.length),some (.int 0),none,none,none]) (S1:=S++[.lst []]) rfl) ?_;refine CA (Av ((Cj hi).trans h1)) ?_;rfl
end M
namespace M
open PySem L2
open Srt (ltL)
theorem XW (x:Int×Int):nrm (x.2,x.1)=nrm x:=by
 unfold nrm;dsimp only
 congr 1
 ·split <;> split <;> lia
 ·split <;> split <;> lia
theorem bu {mo:ME} {e:Lo} {S S1:Sto} {n:Nat} {xs:List D} (h:mo e S=.ok (.ref n) S1) (hn:S1[n]?=some (.lst xs)):Xf mo e S=.ok .non (S1.set n (.lst xs.reverse)):=by
 unfold Xf;rw [h];dsimp only [Res.bind]
 have:atL (.ref n) S1=some (n,xs):=by unfold atL;dsimp only;rw [hn]
 rw [this]
abbrev YW (W:Wd):MS:=sIf (mB (m2 (eqD false) (m2 Ea (A0 2 (Bl W) (AE (AC 1) (AE (AC 3) AY))) (mC (.int 2))) (mC (.int 0)))) (B7 (FH (AC 2) (m2 ixA (AC 0) (AC 3)))) (B7 (FH (AC 2) (EC (AE (m2 ixA (m2 ixA (AC 0) (AC 3)) (mC (.int 1))) (AE (m2 ixA (m2 ixA (AC 0) (AC 3)) (mC (.int 0))) AY)))))
theorem U5 (W:Wd) {S:Sto} {t i:Nat} {c:Int} {ts us:List (Int×Int)} {x:Int×Int} (ht:S[t]?=some (.lst (ts.map pairD))) (hx:ts[i]?=some x) (hl:us.length<=90000) :
  ∃y:Int×Int,nrm y=nrm x/\YW W [some (.ref t),some (.int c),some (.ref S.length),some (.int i)] (S++[.lst (us.map pairD)])=.ok (.nx [some (.ref t),some (.int c),some (.ref S.length),some (.int i)]) (S++[.lst ((us++[y]).map pairD)]):=by
 have ht':=(Keeps.app S [.lst (us.map pairD)]).at ht;obtain ⟨v,_,_,hv⟩:=Kp W c i
 have tt:mB (m2 (eqD false) (m2 Ea (A0 2 (Bl W) (AE (AC 1) (AE (AC 3) AY))) (mC (.int 2))) (mC (.int 0))) [some (.ref t),some (.int c),some (.ref S.length),some (.int i)] (S++[.lst (us.map pairD)])=.ok (decide (v % 2=0)) (S++[.lst (us.map pairD)]):=
  E5 (BD (BD ((BL (ds:=[.int c,.int i]) (S1:=S++[.lst (us.map pairD)]) rfl rfl).trans (hv _)) rfl (EY (by decide))) rfl (Hi rfl))
 have gx:m2 ixA (AC 0) (AC 3) [some (.ref t),some (.int c),some (.ref S.length),some (.int i)] (S++[.lst (us.map pairD)])=.ok (pairD x) (S++[.lst (us.map pairD)]):=BD rfl rfl (TK ht' (by lia) (by rw [AV,Bf,hx];rfl));have i1:=DP (a:=B7 (FH (AC 2) (m2 ixA (AC 0) (AC 3)))) (b:=B7 (FH (AC 2) (EC (AE (m2 ixA (m2 ixA (AC 0) (AC 3)) (mC (.int 1))) (AE (m2 ixA (m2 ixA (AC 0) (AC 3)) (mC (.int 0))) AY))))) tt
 have hz:(us.map pairD).length < sizeLine:=by rw [AK];exact A7 hl (by decide)
 by_cases c0:v % 2=0
 ·rw [decide_eq_true c0,if_pos rfl] at i1
  have a1:=Hj (mo:=AC 2) (ma:=m2 ixA (AC 0) (AC 3)) (e:=[some (.ref t),some (.int c),some (.ref S.length),some (.int i)]) (S:=S++[.lst (us.map pairD)]) (n:=S.length) (S1:=S++[.lst (us.map pairD)]) (S2:=S++[.lst (us.map pairD)]) rfl (Bx _ _) gx (Bx _ _) hz;rw [M5,show us.map pairD++[pairD x]=(us++[x]).map pairD by simp] at a1;exact ⟨x,rfl,i1.trans (ED a1)⟩
 ·rw [decide_eq_false c0,if_neg AR] at i1
  have a1:=Hj (mo:=AC 2) (ma:=EC (AE (m2 ixA (m2 ixA (AC 0) (AC 3)) (mC (.int 1))) (AE (m2 ixA (m2 ixA (AC 0) (AC 3)) (mC (.int 0))) AY))) (e:=[some (.ref t),some (.int c),some (.ref S.length),some (.int i)]) (S:=S++[.lst (us.map pairD)]) (n:=S.length) (S1:=S++[.lst (us.map pairD)]) (S2:=S++[.lst (us.map pairD)]) (y:=pairD (x.2,x.1)) rfl (Bx _ _) (IN (ds:=[.int x.2,.int x.1]) (BQ (BD gx rfl (ix1 _ _)) (BQ (BD gx rfl (ix0 _ _)) rfl)) (by simp)) (Bx _ _) hz;rw [M5,show us.map pairD++[pairD (x.2,x.1)]=(us++[(x.2,x.1)]).map pairD by simp] at a1;exact ⟨(x.2,x.1),XW x,i1.trans (ED a1)⟩
theorem U4 (W:Wd) {S:Sto} {t:Nat} {ts:List (Int×Int)} (c:Int) (ht:S[t]?=some (.lst (ts.map pairD))) (hl:ts.length<=80000) :
  ∃us:List (Int×Int),ER W [.ref t,.int c] S=.ok (.ref S.length) (S++[.lst (us.map pairD)])/\(us.map nrm).Perm (ts.map nrm)/\us.length=ts.length:=by
 obtain ⟨f,S1,h1,z3,us,rfl,rfl,q1,q2⟩:=C9 (v:=Bt (Bc 0 ts.length)) (g:=tgN 3) (b:=YW W) (xs:=Bc 0 ts.length) (e:=[some (.ref t),some (.int c),some (.ref S.length),none]) (S:=S++[.lst []])
  (λi e S'=>∃(z3:Option D) (us:List (Int×Int)),e=[some (.ref t),some (.int c),some (.ref S.length),z3]/\S'=S++[.lst (us.map pairD)]/\us.map nrm=(ts.take i).map nrm/\us.length=i)
  (λf S'=>∃(z3:Option D) (us:List (Int×Int)),f=.nx [some (.ref t),some (.int c),some (.ref S.length),z3]/\S'=S++[.lst (us.map pairD)]/\us.map nrm=ts.map nrm/\us.length=ts.length)
  ⟨none,[],rfl,rfl,rfl,rfl⟩ (λ_ _ _ _=>rfl)
  (by
   rintro i d e S' hd ⟨z3,us,rfl,rfl,q1,q2⟩;obtain ⟨hi,rfl⟩:=Dw hd;have hx:ts[i]?=some ts[i]:=Aw hi;obtain ⟨y,k1,k2⟩:=U5 W (c:=c) (us:=us) ht hx (by lia);refine ⟨[some (.ref t),some (.int c),some (.ref S.length),some (.int i)],_,?_,_,_,k2,_,us++[y],rfl,rfl,?_,by simp [q2]⟩
   ·show Res.ok ([some (.ref t),some (.int c),some (.ref S.length),some (.int (0+(i:Int)))]:Lo) _=_
    rw [HK]
   ·rw [take_snoc hx,A3,A3,q1]
    simp [k1])
  (by
   rintro e S' ⟨z3,us,rfl,rfl,q1,q2⟩;rw [Dv] at q1 q2;rw [Br] at q1
   exact ⟨_,us,rfl,rfl,q1,q2⟩)
 have hi:iR1 (AE (Eb (AC 0)) AY) [some (.ref t),some (.int c),some (.ref S.length),none] (S++[.lst []])=.ok (Bt (Bc 0 ts.length)) (S++[.lst []]):=by
  have:=IX (ml:=AE (Eb (AC 0)) AY) (e:=[some (.ref t),some (.int c),some (.ref S.length),none]) (S:=S++[.lst []]) (S1:=S++[.lst []]) (j:=((ts.map pairD).length:Nat)) (BQ (Gg (d:=.ref t) rfl (Ep ((Keeps.app S _).at ht))) rfl) (by lia) (by rw [AK];lia);rw [AK] at this;simpa using this
 have e0:ER W [.ref t,.int c] S=D4 4 (GP W) [.ref t,.int c] S:=rfl
 have b2:∀(b:MS),BK (Bp 2 (Ce (BX AY))) (BK (Dg (iR1 (AE (Eb (AC 0)) AY)) (tgN 3) (YW W)) b) (DE 4 [.ref t,.int c]) S=b [some (.ref t),some (.int c),some (.ref S.length),z3] (S++[.lst (us.map pairD)]):=λb=>by
  refine CA (Av (e1:=[some (.ref t),some (.int c),some (.ref S.length),none]) (S1:=S++[.lst []]) rfl) ?_;exact Av ((Cj hi).trans h1)
 have tt:mB (m2 (eqD false) (m2 Ea (AC 1) (mC (.int 2))) (mC (.int 1))) [some (.ref t),some (.int c),some (.ref S.length),z3] (S++[.lst (us.map pairD)])=.ok (decide (c % 2=1)) (S++[.lst (us.map pairD)]):=E5 (BD (BD rfl rfl (EY (by decide))) rfl (Hi rfl));have i1:=DP (a:=B7 (Xf (AC 2))) (b:=sNx) tt
 by_cases c0:c % 2=1
 ·rw [decide_eq_true c0,if_pos rfl] at i1
  have r1:=bu (mo:=AC 2) (e:=[some (.ref t),some (.int c),some (.ref S.length),z3]) (S:=S++[.lst (us.map pairD)]) rfl (Bx _ _);rw [M5,<-Ye] at r1;refine ⟨us.reverse,CP ?_,?_,by rw [Ux];exact q2⟩
  ·unfold GP
   rw [b2];refine CA (Av (i1.trans (ED r1))) ?_;rfl
  ·rw [Ye,q1]
   exact List.reverse_perm _
 ·rw [decide_eq_false c0,if_neg AR] at i1
  refine ⟨us,CP ?_,by rw [q1],q2⟩;unfold GP;rw [b2];refine CA (Av (i1.trans rfl)) ?_;rfl
theorem Wu {l l':List (List Int)} (h:l.Perm l'):Kc l=Kc l':=O7 ((G3 l).trans (h.trans (G3 l').symm)) (NS l) (NS l')
theorem Y0 {ps qs:List (Int×Int)} (h:(ps.map nrm).Perm (qs.map nrm)):Fd ps=Fd qs:=by
 unfold Fd IP;have:=h.map P5;rw [BZ,BZ] at this;rw [show (λx=>P5 (nrm x))=P5∘nrm from rfl,Wu this]
theorem D1.of {p:Int} {ps qs:List (Int×Int)} (h:(ps.map nrm).Perm (qs.map nrm)) (f:D1 p qs):D1 p ps:=by
 refine ⟨λx hx=>?_,h.nodup_iff.mpr f.2⟩;obtain ⟨y,hy,e⟩:=BF.mp (h.mem_iff.mp (B5 hx));have:=f.1 y hy;unfold Fit at this ⊢;rw [<-e];exact this
theorem TU (W:Wd) {S:Sto} {t m:Nat} {ts:List (Int×Int)} {c:Int} (ht:S[t]?=some (.lst (ts.map pairD))) (hm1:1<=m) (hm:m<=60) (hf:D1 m ts) (hl:ts.length<=80000) {e:Lo} {mp mt:ME} {mc:ML} (h1:mp e S=.ok (.int m) S) (h2:AE mt mc e S=.ok [.ref t,.int c] S) :
  ∃(q:Nat) (S':Sto),MF W.Web 3 (GD W) (AE mp (AE (A0 2 (ER W) (AE mt mc)) AY)) e S=.ok (.ref q) S'/\Keeps S S'/\DJ W S' q m (Fd ts):=by
 obtain ⟨us,c1,p1,l1⟩:=U4 W c ht hl;obtain ⟨S',c2,K,hw⟩:=Q6 W hm1 hm (d:=.ref S.length) (S:=S++[.lst (us.map pairD)]) (ps:=us) (λS' k=>C1 (k.at (Bx _ _))) (by lia) (hf.of p1) (ml:=AE mp (AE (A0 2 (ER W) (AE mt mc)) AY)) (e:=e) (S0:=S) (BQ h1 (BQ ((BL h2 rfl).trans c1) rfl));rw [Y0 p1] at hw;exact ⟨_,S',c2,(Keeps.app _ _).trans K,hw⟩
end M
namespace M
open PySem L2
theorem Wt {l l':List Int} (h:l.Perm l'):E6 l=E6 l':=
 (((Eo l).trans h).trans (Eo l').symm).eq_of_pairwise (λa b _ _ h1 h2=>ah h1 h2) (Kb l) (Kb l')
theorem Vp {l l':List (Int×Int)} (h:l.Perm l') (x:Nat):(Bg l x).Perm (Bg l' x):=List.Perm.flatMap_right _ h
def nr (ts:List (Int×Int)) (x:Nat):List Int:=E6 (Bg ts x)
theorem UD {o:Nat} {ts:List (Int×Int)} (hu:Cm o 0 ts) (x:Nat):nr (Fd ts) x=nr ts x:=by
 have:=O5 ts;rw [hu.nrm] at this;exact Wt (Vp this x)
theorem KD {ts:List (Int×Int)} {x:Nat} {z:Int}:z∈nr ts x↔((x:Int),z)∈ts∨(z,(x:Int))∈ts:=by
 unfold nr;rw [(Eo _).mem_iff];unfold Bg;rw [Bs]
 constructor
 ·rintro ⟨t,ht,h⟩
  rcases Aj.mp h with h | h
  ·split at h
   ·rename_i e
    rw [AL.mp h,<-e];exact .inl ht
   ·cases h
  ·split at h
   ·rename_i e
    rw [AL.mp h,<-e];exact .inr ht
   ·cases h
 ·rintro (h | h)
  ·exact ⟨_,h,CF _ (by simp)⟩
  ·exact ⟨_,h,Ay _ (by simp)⟩
theorem QC {ts:List (Int×Int)} {x y:Nat}:(y:Int)∈nr ts x↔(x:Int)∈nr ts y:=by
 rw [KD,KD];exact Or.comm
theorem fv {o x:Nat} {ts:List (Int×Int)} (hu:Cm o 0 ts) {z:Int} (h:z∈nr ts x):0<=z/\z < o:=by
 rcases KD.mp h with h | h
 ·obtain ⟨h1,h2,h3⟩:=hu.1 _ h
  dsimp only at h1 h2 h3
  lia
 ·obtain ⟨h1,h2,h3⟩:=hu.1 _ h
  dsimp only at h1 h2 h3
  lia
theorem cm (ts:List (Int×Int)) (x:Nat):(nr ts x).length<=2 * ts.length:=by
 unfold nr;rw [(Eo _).length_eq];exact KF ts x
def LJ (S:Sto) (n o:Nat) (ts:List (Int×Int)):Prop:=∃rs:List Nat,S[n]?=some (.lst (rs.map D.ref))/\rs.length=o/\∀x,x < o->∃r,rs[x]?=some r/\S[r]?=some (.lst ((nr ts x).map D.int))
theorem LJ.keeps {S S':Sto} {n o:Nat} {ts:List (Int×Int)} (h:LJ S n o ts) (k:Keeps S S'):LJ S' n o ts:=by
 obtain ⟨rs,h1,h2,h3⟩:=h
 exact ⟨rs,k.at h1,h2,λx hx=>by
  obtain ⟨r,q1,q2⟩:=h3 x hx
  exact ⟨r,q1,k.at q2⟩⟩
theorem XZ (W:Wd) {S:Sto} {t o:Nat} {ts:List (Int×Int)} (ht:S[t]?=some (.lst (ts.map pairD))) (hu:Cm o 0 ts) (ho:o<=60) (hl:ts.length<=40000) :
  ∃n S',Gq W [.ref t,.int o] S=.ok (.ref n) S'/\Keeps S S'/\LJ S' n o ts:=by
 have a1:=C7 (i:=2) (FL (PF ho (mp:=AC 1) (e:=[some (.ref t),some (.int o),none,none,none]) (S:=S) rfl));have e1:(S++FA o λ_=>[])++[.lst (DO S.length o)]=stN S o (Bg []):=rfl
 have e2:(S++FA o λ_=>[]).length=S.length+o:=by simp [Fz]
 rw [e1,e2] at a1
 obtain ⟨f,S1,h1,⟨z3,z4,rfl⟩,rfl⟩:=C9 (v:=C2 (.ref t)) (g:=Gm 2 (CZ (tgN 3) (CZ (tgN 4) G1))) (b:=Pe) (xs:=ts.map pairD) (e:=[some (.ref t),some (.int o),some (.ref (S.length+o)),none,none]) (S:=stN S o (Bg []))
  (λi e S'=>(∃z3 z4,e=[some (.ref t),some (.int o),some (.ref (S.length+o)),z3,z4])/\S'=stN S o (Bg (ts.take i)))
  (λf S'=>(∃z3 z4,f=.nx [some (.ref t),some (.int o),some (.ref (S.length+o)),z3,z4])/\S'=stN S o (Bg ts))
  ⟨⟨none,none,rfl⟩,rfl⟩ (by rintro i e S' ⟨_,rfl⟩;exact C1 ((Gv S o _).at ht))
  (by
   rintro i y e S' hy ⟨⟨z3,z4,rfl⟩,rfl⟩;rw [AV] at hy
   cases hx:ts[i]? with
   | none=>rw [hx] at hy;cases hy
   | some x=>
    rw [hx] at hy;cases hy
    have hin:In o x:=by
     obtain ⟨g1,g2,g3⟩:=hu.1 x (Ai hx);exact ⟨by omega,by lia,by lia,by lia,by lia⟩
    refine ⟨[some (.ref t),some (.int o),some (.ref (S.length+o)),some (.int x.1),some (.int x.2)],_,rfl,_,_,PD hin (λz=>?_),⟨_,_,rfl⟩,?_⟩
    ·have:=KF (ts.take i) z
     rw [B4] at this
     lia
    ·rw [take_snoc hx,show Bg (ts.take i++[x])=_ from funext λz=>MD _ _ z])
  (by
   rintro e S' ⟨⟨z3,z4,rfl⟩,rfl⟩;rw [AK,Br]
   exact ⟨⟨_,_,rfl⟩,rfl⟩)
 have a2:=(Cj (g:=Gm 2 (CZ (tgN 3) (CZ (tgN 4) G1))) (b:=Pe) (Fi (m:=AC 0) (e:=[some (.ref t),some (.int o),some (.ref (S.length+o)),none,none]) (S:=stN S o (Bg [])) (S1:=stN S o (Bg [])) rfl ((Gv S o _).at ht))).trans h1
 obtain ⟨r,S2,q1,e',⟨z,_⟩,K,rs,rfl,q2,q3⟩:=Ji (v:=C2 (.ref (S.length+o))) (g:=tgN 0) (c:=E7) (m:=GN (AC 0)) (xs:=DO S.length o) (e:=[none,some (.ref t),some (.int o),some (.ref (S.length+o)),z3,z4]) (S:=stN S o (Bg ts))
  (λi e' S' acc=>(∃z,e'=[z,some (.ref t),some (.int o),some (.ref (S.length+o)),z3,z4])/\Keeps (stN S o (Bg ts)) S'/\∃rs:List Nat,acc=rs.map D.ref/\rs.length=i/\∀x,x < i->∃r,rs[x]?=some r/\S'[r]?=some (.lst ((nr ts x).map D.int)))
  ⟨⟨none,rfl⟩,.refl _,[],rfl,rfl,λx hx=>absurd hx (OQ _)⟩ (λi e' S' acc h=>C1 (h.2.1.at (G2 S o _)))
  (by
   rintro i d e' S' acc hd ⟨⟨z,rfl⟩,K,rs,rfl,k2,k3⟩
   have hi:i < o:=by
    have:=(AG.mp hd).1;simpa [DO] using this
   unfold DO at hd;rw [AV,BC hi] at hd;cases hd;have hit:Hh (.ref (S.length+i)) S'=some ((Bg ts i).map D.int):=Nr (K.at (HR S _ hi));have hs:=LY (m:=AC 0) (e:=[some (.ref (S.length+i)),some (.ref t),some (.int o),some (.ref (S.length+o)),z3,z4]) (S:=S') (S1:=S') rfl hit (NT _);have K2:=Keeps.app S' [.lst ((E6 (Bg ts i)).map D.int)];refine ⟨by rw [AK];exact A7 (show rs.length<=1000 by lia) (by decide),[some (.ref (S.length+i)),some (.ref t),some (.int o),some (.ref (S.length+o)),z3,z4],_,rfl,true,_,rfl,.inl ⟨rfl,_,_,hs,⟨_,rfl⟩,K.trans K2,rs++[S'.length],by simp,by simp [k2],λx hx=>?_⟩⟩
   by_cases c:x < i
   ·obtain ⟨r,g1,g2⟩:=k3 x c
    exact ⟨r,by rw [Ag (by lia)];exact g1,K2.at g2⟩
   ·have:x=rs.length:=by lia
    subst this
    exact ⟨S'.length,by simp,by rw [k2];exact Bx _ _⟩)
 rw [show (DO S.length o).length=o by simp [DO]] at q2 q3;have a3:=FL ((Ia (n:=1) (g:=tgN 0) (c:=E7) (m:=GN (AC 0)) (Fi (m:=AC 2) (e:=[some (.ref t),some (.int o),some (.ref (S.length+o)),z3,z4]) (S:=stN S o (Bg ts)) (S1:=stN S o (Bg ts)) rfl (G2 S o _))).trans q1);have K3:=Keeps.app S2 [.lst (rs.map D.ref)];refine ⟨_,_,CP ?_,((Gv S o _).trans K).trans K3,rs,Bx _ _,q2,λx hx=>?_⟩
 ·unfold LC
  refine CA (Av a1) ?_;refine CA (Av a2) ?_;exact FB a3
 ·obtain ⟨r,g1,g2⟩:=q3 x hx
  exact ⟨r,g1,K3.at g2⟩
end M
namespace M
open PySem L2
def Dk (ws:List Int):List (Key×D):=ws.map λz=>(FZ z,D.bl true)
def Kg (ws:List Int) (z:Int):List Int:=if z∈ws then ws else ws++[z]
theorem RP {ws:List Int} {z x:Int}:x∈Kg ws z↔x∈ws∨x=z:=by
 unfold Kg;split
 ·rename_i h
  exact ⟨.inl,λq=>q.elim id λe=>e▸h⟩
 ·simp
theorem RQ (ws:List Int) (z:Int):(Kg ws z).length<=ws.length+1:=by
 unfold Kg
 split <;> simp
theorem Wz (ws:List Int) (z:Int):Kh (Dk ws) (FZ z) (.bl true)=Dk (Kg ws z):=by
 unfold Kh Kg Dk
 by_cases h:z∈ws
 ·rw [if_pos h,if_pos]
  ·rw [BZ]
   refine B6 λy _=>?_
   dsimp only [Function.comp]
   split <;> rfl
  ·rw [D6]
   exact ⟨_,B5 h,by simp⟩
 ·rw [if_neg h,if_neg]
  ·simp
  ·intro q
   obtain ⟨y,hy,e⟩:=D6.mp q;obtain ⟨a,ha,rfl⟩:=BF.mp hy;have e:=of_decide_eq_true e;cases e;exact h ha
theorem W1 (ws:List Int) (z:Int):(LV (Dk ws) (FZ z)).isSome=decide (z∈ws):=by
 unfold LV Dk
 induction ws with
 | nil=>rfl
 | cons y ws ih=>
  rw [A5,B1]
  by_cases e:y=z
  ·subst e
   simp
  ·have e':¬((FZ y:Key)=FZ z):=λq=>e (by cases q;rfl)
   have e2:¬z=y:=λq=>e q.symm
   dsimp only;rw [decide_eq_false e'];simp only [A4,e2,false_or];exact ih
theorem W0 (ws:List Int):(Dk ws).length=ws.length:=by simp [Dk]
theorem dG {S:Sto} {n:Nat} {ws:List Int} (h:S[n]?=some (.dK (Dk ws))) (neg:Bool) (z:Int):inA neg (.int z) (.ref n) S=.ok (.bl (if neg then !decide (z∈ws) else decide (z∈ws))) S:=by
 show G4 (inD neg (.int z) (.ref n) S) (Jo neg (.int z) (.ref n) S)=_
 have e:inD neg (.int z) (.ref n) S=.bad:=by
  unfold inD HL;dsimp only;rw [h]
 have e2:Ru (.ref n) (.int z) S=some (LV (Dk ws) (FZ z)):=by
  unfold Ru;dsimp only;rw [h];rfl
 rw [e];show Jo neg (.int z) (.ref n) S=_;unfold Jo;rw [e2];dsimp only;rw [W1]
theorem T7 {mo mi mv:ME} {e:Lo} {S:Sto} {d:Nat} {ws:List Int} {z:Int} (hv:mv e S=.ok (.bl true) S) (ho:mo e S=.ok (.ref d) S) (hi:mi e S=.ok (.int z) S) (h:S[d]?=some (.dK (Dk ws))) (hl:ws.length<=1000000) :
  Ff mo mi mv e S=.ok (.nx e) (S.set d (.dK (Dk (Kg ws z)))):=by
 unfold Ff;rw [hv];dsimp only [Res.lift];rw [ho];dsimp only [Res.lift];rw [hi];dsimp only [Res.lift]
 have:Vx (.ref d) (.int z) (.bl true) S=some (S.set d (.dK (Dk (Kg ws z)))):=by
  unfold Vx;dsimp only;rw [h];show (if (Dk ws).length < sizeLine then some (S.set d (.dK (Kh (Dk ws) (FZ z) (.bl true)))) else none)=_;rw [if_pos (by rw [W0];exact A7 hl (by decide)),Wz]
 rw [this]
def B9 (x:Nat):D:=.int x
abbrev Ta (W:Wd):MS:=BK (Ff (AC 2) (AC 3) (mC (.bl true)))
  (Dg (Ec (A0 2 (JM W) (AE (AC 0) (AE (AC 3) AY)))) (tgN 4)
  (Ff (AC 2) (AC 4) (mC (.bl true))))
theorem ZI {S:Sto} {d0 d1 d3:D} {z4:Option D} {ws zs:List Int} (hl:ws.length+zs.length<=1000000) :
  ∃y4 vs,(∀x,x∈vs↔x∈ws∨x∈zs)/\vs.length<=ws.length+zs.length/\Iv (Bt (zs.map D.int)) (tgN 4) (Ff (AC 2) (AC 4) (mC (.bl true))) (CY (Bt (zs.map D.int)) (S++[.dK (Dk ws)])) 0 [some d0,some d1,some (.ref S.length),some d3,z4] (S++[.dK (Dk ws)])=.ok (.nx [some d0,some d1,some (.ref S.length),some d3,y4]) (S++[.dK (Dk vs)]):=by
 obtain ⟨f,S1,h1,y4,vs,rfl,rfl,q1,q2⟩:=C9 (v:=Bt (zs.map D.int)) (g:=tgN 4) (b:=Ff (AC 2) (AC 4) (mC (.bl true))) (xs:=zs.map D.int) (e:=[some d0,some d1,some (.ref S.length),some d3,z4]) (S:=S++[.dK (Dk ws)])
  (λi e S'=>∃(y4:Option D) (vs:List Int),e=[some d0,some d1,some (.ref S.length),some d3,y4]/\S'=S++[.dK (Dk vs)]/\(∀x,x∈vs↔x∈ws∨x∈zs.take i)/\vs.length<=ws.length+i)
  (λf S'=>∃(y4:Option D) (vs:List Int),f=.nx [some d0,some d1,some (.ref S.length),some d3,y4]/\S'=S++[.dK (Dk vs)]/\(∀x,x∈vs↔x∈ws∨x∈zs)/\vs.length<=ws.length+zs.length)
  ⟨z4,ws,rfl,rfl,λx=>by simp,AS _⟩ (λ_ _ _ _=>rfl)
  (by
   rintro i d e S' hd ⟨y4,vs,rfl,rfl,q1,q2⟩;rw [AV] at hd
   cases hx:zs[i]? with
   | none=>rw [hx] at hd;cases hd
   | some z=>
    rw [hx] at hd;cases hd;have hi:=(AG.mp hx).1;refine ⟨[some d0,some d1,some (.ref S.length),some d3,some (.int z)],_,rfl,_,_,T7 rfl rfl rfl (Bx _ _) (by lia),_,Kg vs z,rfl,by rw [JV _ _ (AS _)];simp,λx=>?_,by have:=RQ vs z;lia⟩
    rw [RP,q1,take_snoc hx,Aj,AL,or_assoc])
  (by
   rintro e S' ⟨y4,vs,rfl,rfl,q1,q2⟩;rw [AK] at q1 q2;rw [Br] at q1
   exact ⟨_,vs,rfl,rfl,q1,q2⟩)
 exact ⟨y4,vs,q1,q2,h1⟩
def Wat (ts:List (Int×Int)) (xs:List Nat) (z:Int):Prop:=∃x∈xs,z=x∨z∈nr ts x
theorem Wc {W:Wd} {S:Sto} {q o:Nat} {ts:List (Int×Int)} (hw:DJ W S q o (Fd ts)) (hu:Cm o 0 ts) (hl:ts.length<=4000) {xs:List Nat} (hx:∀x∈xs,x < o) (hxl:xs.length<=60) {d1:D} (hd:d1=.tup (xs.map B9)) :
  ∃y3 y4 ws,(∀z,z∈ws↔Wat ts xs z)/\Dg (Ec (AC 1)) (tgN 3) (Ta W) [some (.ref q),some d1,some (.ref S.length),none,none] (S++[.dK []])=.ok (.nx [some (.ref q),some d1,some (.ref S.length),y3,y4]) (S++[.dK (Dk ws)]):=by
 subst hd
 obtain ⟨f,S1,h1,y3,y4,ws,rfl,rfl,q1,q2⟩:=C9 (v:=Bt (xs.map B9)) (g:=tgN 3) (b:=Ta W) (xs:=xs.map B9) (e:=[some (.ref q),some (.tup (xs.map B9)),some (.ref S.length),none,none]) (S:=S++[.dK []])
  (λi e S'=>∃(y3 y4:Option D) (ws:List Int),e=[some (.ref q),some (.tup (xs.map B9)),some (.ref S.length),y3,y4]/\S'=S++[.dK (Dk ws)]/\(∀z,z∈ws↔Wat ts (xs.take i) z)/\ws.length<=9000 * i)
  (λf S'=>∃(y3 y4:Option D) (ws:List Int),f=.nx [some (.ref q),some (.tup (xs.map B9)),some (.ref S.length),y3,y4]/\S'=S++[.dK (Dk ws)]/\(∀z,z∈ws↔Wat ts xs z)/\ws.length<=9000 * xs.length)
  ⟨none,none,[],rfl,rfl,λz=>by simp [Wat],by simp⟩ (λ_ _ _ _=>rfl)
  (by
   rintro i d e S' hd ⟨y3,y4,ws,rfl,rfl,q1,q2⟩;rw [AV] at hd
   cases hq:xs[i]? with
   | none=>rw [hq] at hd;cases hd
   | some x=>
    rw [hq] at hd;cases hd;have hi:=(AG.mp hq).1;have hxo:=hx x (Ai hq);have nl:=cm ts x;have pl:=RQ ws x;obtain ⟨w4,vs,p1,p2,p3⟩:=ZI (S:=S) (d0:=.ref q) (d1:=.tup (xs.map B9)) (d3:=B9 x) (z4:=y4) (ws:=Kg ws x) (zs:=nr ts x) (by lia)
    have s1:Ff (AC 2) (AC 3) (mC (.bl true)) [some (.ref q),some (.tup (xs.map B9)),some (.ref S.length),some (B9 x),y4] (S++[.dK (Dk ws)])=.ok (.nx [some (.ref q),some (.tup (xs.map B9)),some (.ref S.length),some (B9 x),y4]) (S++[.dK (Dk (Kg ws x))]):=by
     rw [T7 (d:=S.length) (ws:=ws) (z:=x) rfl rfl rfl (Bx _ _) (by lia),JV _ _ (AS _)];simp
    have cn:A0 2 (JM W) (AE (AC 0) (AE (AC 3) AY)) [some (.ref q),some (.tup (xs.map B9)),some (.ref S.length),some (B9 x),y4] (S++[.dK (Dk (Kg ws x))])=.ok (.tup ((nr ts x).map D.int)) (S++[.dK (Dk (Kg ws x))]):=by
     rw [<-UD hu];exact (BL (ds:=[.ref q,.int x]) (S1:=S++[.dK (Dk (Kg ws x))]) rfl rfl).trans (UE (hw.keeps (Keeps.app _ _)) hxo)
    refine ⟨[some (.ref q),some (.tup (xs.map B9)),some (.ref S.length),some (B9 x),y4],_,rfl,_,_,(Av s1).trans ((Cj (Kv cn)).trans p3),_,_,vs,rfl,rfl,λz=>?_,by lia⟩;rw [p1,RP,q1,take_snoc hq];unfold Wat
    constructor
    ·rintro ((⟨y,hy,h⟩ | h) | h)
     ·exact ⟨y,CF _ hy,h⟩
     ·exact ⟨x,Ay _ (by simp),.inl h⟩
     ·exact ⟨x,Ay _ (by simp),.inr h⟩
    ·rintro ⟨y,hy,h⟩
     rcases Aj.mp hy with hy | hy
     ·exact .inl (.inl ⟨y,hy,h⟩)
     ·rw [AL.mp hy] at h
      exact h.elim (λh=>.inl (.inr h)) .inr)
  (by
   rintro e S' ⟨y3,y4,ws,rfl,rfl,q1,q2⟩;rw [AK] at q1 q2;rw [Br] at q1
   exact ⟨_,_,ws,rfl,rfl,q1,q2⟩)
 exact ⟨y3,y4,ws,q1,(Cj (Kv (m:=AC 1) rfl)).trans h1⟩
end M
namespace M
open PySem L2
def cV (o:Option Nat):D:=match o with
 | some x=>.int x
 | none=>.non
theorem Ip {P:Nat->Bool} {i:Nat} (h:∀j,j < i->P j=false):(Ac i).find? P=none:=by
 rw [Cu];intro j hj;rw [h j (CM.mp hj)];exact AR
theorem Op {P:Nat->Bool} {n i:Nat} (h:∀j,j < i->P j=false) (hi:P i=true) (hn:i < n):(Ac n).find? P=some i:=by
 have:Ac n=Ac i++[i]++(Ac (n - i - 1)).map (· + (i+1)):=by
  apply Ch
  intro j
  by_cases c:j < i
  ·rw [BJ,Ag (by simpa using c),BC (by lia),BC c]
  ·by_cases c2:j=i
   ·subst c2
    rw [BJ,BI (by simp),BC hn];simp
   ·rw [BI (by simp;lia)]
    by_cases c3:j < n
    ·rw [BC c3,AV,BC (by simp;omega)]
     simp
     lia
    ·rw [CL (by simp;lia),CL (by simp;omega)]
 rw [this,Hr,Hr,Ip h];simp [hi]
theorem Pw {W:Wd} {S:Sto} {q o:Nat} {ts:List (Int×Int)} (hw:DJ W S q o (Fd ts)) (hu:Cm o 0 ts) (ho:o<=60) (hl:ts.length<=4000) {xs:List Nat} (hx:∀x∈xs,x < o) (hxl:xs.length<=60) {P:Nat->Bool} (hP:∀x,P x=true↔¬Wat ts xs x) :
  ∃S',Cc W [.ref q,.tup (xs.map B9)] S=.ok (cV ((Ac o).find? P)) S'/\Keeps S S':=by
 obtain ⟨y3,y4,ws,hws,h1⟩:=Wc hw hu hl hx hxl (d1:=.tup (xs.map B9)) rfl;have hw':=hw.keeps (Keeps.app S [.dK (Dk ws)]);have hn:=Bx S (.dK (Dk ws))
 have hPd:∀j:Nat,P j = !decide ((j:Int)∈ws):=λj=>by
  cases hq:P j with
  | true=>
   have:=(hP j).mp hq;rw [decide_eq_false (λz=>this ((hws _).mp z))];rfl
  | false=>
   have:(j:Int)∈ws:=by
    refine (hws _).mpr (Classical.byContradiction λz=>?_);rw [(hP j).mpr z] at hq;cases hq
   rw [decide_eq_true this];rfl
 obtain ⟨f,S1,h2,rfl,hf⟩:=C9 (v:=Bt (Bc 0 o)) (g:=tgN 3) (b:=sIf (mB (m2 (inA true) (AC 3) (AC 2))) (Cw (AC 3)) sNx) (xs:=Bc 0 o) (e:=[some (.ref q),some (.tup (xs.map B9)),some (.ref S.length),y3,y4]) (S:=S++[.dK (Dk ws)])
  (λi e S'=>S'=S++[.dK (Dk ws)]/\(∃z3,e=[some (.ref q),some (.tup (xs.map B9)),some (.ref S.length),z3,y4])/\∀j,j < i->P j=false)
  (λf S'=>S'=S++[.dK (Dk ws)]/\((∃e,f=.nx e/\(Ac o).find? P=none)∨∃x:Nat,f=.rt (.int x)/\(Ac o).find? P=some x))
  ⟨rfl,⟨_,rfl⟩,λj hj=>absurd hj (OQ _)⟩ (λ_ _ _ _=>rfl)
  (by
   rintro i d e S' hd ⟨rfl,⟨z3,rfl⟩,hj⟩;obtain ⟨hi,rfl⟩:=Dw hd
   have t:mB (m2 (inA true) (AC 3) (AC 2)) [some (.ref q),some (.tup (xs.map B9)),some (.ref S.length),some (.int i),y4] (S++[.dK (Dk ws)])=.ok (P i) (S++[.dK (Dk ws)]):=by
    refine E5 (BD rfl rfl ?_);rw [dG hn,hPd];rfl
   refine ⟨[some (.ref q),some (.tup (xs.map B9)),some (.ref S.length),some (.int i),y4],S++[.dK (Dk ws)],?_,?_⟩
   ·show Res.ok ([some (.ref q),some (.tup (xs.map B9)),some (.ref S.length),some (.int (0+(i:Int))),y4]:Lo) _=_
    rw [HK]
   have i1:=DP (a:=Cw (AC 3)) (b:=sNx) t
   cases hq:P i with
   | true=>
    rw [hq,if_pos rfl] at i1;exact ⟨_,_,i1.trans rfl,rfl,.inr ⟨i,rfl,Op hj hq hi⟩⟩
   | false=>
    rw [hq,if_neg AR] at i1;refine ⟨_,_,i1.trans rfl,rfl,⟨_,rfl⟩,λj hj'=>?_⟩
    by_cases c:j < i
    ·exact hj j c
    ·rw [show j=i by lia];exact hq)
  (by
   rintro e S' ⟨rfl,⟨z3,rfl⟩,hj⟩;rw [Dv] at hj
   exact ⟨rfl,.inl ⟨_,rfl,Ip hj⟩⟩)
 have hi:iR1 (AE (Er W.Web "places" (AC 0)) AY) [some (.ref q),some (.tup (xs.map B9)),some (.ref S.length),y3,y4] (S++[.dK (Dk ws)])=.ok (Bt (Bc 0 o)) (S++[.dK (Dk ws)]):=by
  have:=IX (ml:=AE (Er W.Web "places" (AC 0)) AY) (e:=[some (.ref q),some (.tup (xs.map B9)),some (.ref S.length),y3,y4]) (S:=S++[.dK (Dk ws)]) (S1:=S++[.dK (Dk ws)]) (j:=o) (BQ (hw'.places rfl) rfl) (by lia) (by lia);simpa using this
 have b2:∀b:MS,BK (Bp 2 TD) (BK (Dg (Ec (AC 1)) (tgN 3) (Ta W)) (BK (Dg (iR1 (AE (Er W.Web "places" (AC 0)) AY)) (tgN 3) (sIf (mB (m2 (inA true) (AC 3) (AC 2))) (Cw (AC 3)) sNx)) b)) (DE 5 [.ref q,.tup (xs.map B9)]) S=BK (λ_ _=>.ok f (S++[.dK (Dk ws)])) b [] []:=λb=>by
  refine CA (Av (e1:=[some (.ref q),some (.tup (xs.map B9)),some (.ref S.length),none,none]) (S1:=S++[.dK []]) rfl) ?_;refine CA (Av h1) ?_;unfold BK;rw [(Cj hi).trans h2]
 refine ⟨S++[.dK (Dk ws)],CP (d:=cV ((Ac o).find? P)) ?_,Keeps.app _ _⟩;unfold HX;refine CA (b2 _) ?_
 rcases hf with ⟨e,rfl,hq⟩ | ⟨x,rfl,hq⟩
 ·rw [hq];rfl
 ·rw [hq];rfl
end M
namespace M
open PySem L2
theorem OC (y:Int):∀zs:List Int,LG (.int y) (zs.map D.int)=some (decide (y∈zs))
 | []=>rfl
 | z :: zs=>by
  rw [A5];unfold LG;rw [show eqP 8 (.int z) (.int y)=some (z==y) from rfl,OC y zs];dsimp only
  congr 1
  by_cases h:z=y
  ·simp [h]
  ·have:¬y=z:=λq=>h q.symm
   simp [h,this]
theorem M2 {d:D} {S:Sto} {zs:List Int} (h:HL d S=some (zs.map D.int)) (neg:Bool) (y:Int):inA neg (.int y) d S=.ok (.bl (if neg then !decide (y∈zs) else decide (y∈zs))) S:=by
 show G4 (inD neg (.int y) d S) _=_
 have e:inD neg (.int y) d S=.ok (.bl (if neg then !decide (y∈zs) else decide (y∈zs))) S:=by
  unfold inD;rw [h];dsimp only;rw [OC]
 rw [e];rfl
def UA (p:Nat×Nat):D:=.tup [B9 p.1,B9 p.2]
def XQ (o:Option (Nat×Nat)):D:=match o with
 | some p=>UA p
 | none=>.non
def pairsOf:List Nat->List (Nat×Nat)
 | []=>[]
 | x :: r=>r.map (λy=>(x,y))++pairsOf r
def nq (ts:List (Int×Int)) (w:Bool) (p:Nat×Nat):Bool:=decide ((p.2:Int)∈nr ts p.1)==w
abbrev Qc:MS:=sIf (mB (m2 (eqD false) (m2 (inA false) (AC 6) (AC 5)) (AC 2))) (Cw (EC (AE (AC 4) (AE (AC 6) AY)))) sNx
theorem Zd {S:Sto} {d0 d1 d3:D} {w:Bool} {x:Nat} {zs:List Int} {z6:Option D} (ys:List Nat) :
  ∃f,Iv (Bt (ys.map B9)) (tgN 6) Qc (CY (Bt (ys.map B9)) S) 0 [some d0,some d1,some (.bl w),some d3,some (B9 x),some (.tup (zs.map D.int)),z6] S=.ok f S /\
   (((∃y6,f=.nx [some d0,some d1,some (.bl w),some d3,some (B9 x),some (.tup (zs.map D.int)),y6])/\∀y∈ys,(decide ((y:Int)∈zs)==w)=false)∨∃y,ys.find? (λy:Nat=>decide ((y:Int)∈zs)==w)=some y/\f=.rt (UA (x,y))):=by
 obtain ⟨f,S1,h1,rfl,h2⟩:=C9 (v:=Bt (ys.map B9)) (g:=tgN 6) (b:=Qc) (xs:=ys.map B9) (e:=[some d0,some d1,some (.bl w),some d3,some (B9 x),some (.tup (zs.map D.int)),z6]) (S:=S)
  (λi e S'=>S'=S/\(∃y6,e=[some d0,some d1,some (.bl w),some d3,some (B9 x),some (.tup (zs.map D.int)),y6])/\∀y∈ys.take i,(decide ((y:Int)∈zs)==w)=false)
  (λf S'=>S'=S/\(((∃y6,f=.nx [some d0,some d1,some (.bl w),some d3,some (B9 x),some (.tup (zs.map D.int)),y6])/\∀y∈ys,(decide ((y:Int)∈zs)==w)=false)∨∃y,ys.find? (λy:Nat=>decide ((y:Int)∈zs)==w)=some y/\f=.rt (UA (x,y))))
  ⟨rfl,⟨_,rfl⟩,λy hy=>by simp at hy⟩ (λ_ _ _ _=>rfl)
  (by
   rintro i d e S' hd ⟨rfl,⟨y6,rfl⟩,hj⟩;rw [AV] at hd
   cases hq:ys[i]? with
   | none=>rw [hq] at hd;cases hd
   | some y=>
    rw [hq] at hd;cases hd
    have t:mB (m2 (eqD false) (m2 (inA false) (AC 6) (AC 5)) (AC 2)) [some d0,some d1,some (.bl w),some d3,some (B9 x),some (.tup (zs.map D.int)),some (B9 y)] S'=.ok (decide ((y:Int)∈zs)==w) S':=
     E5 (BD (BD rfl rfl (M2 (zs:=zs) rfl false y)) rfl rfl)
    refine ⟨[some d0,some d1,some (.bl w),some d3,some (B9 x),some (.tup (zs.map D.int)),some (B9 y)],S',rfl,?_⟩;have i1:=DP (a:=Cw (EC (AE (AC 4) (AE (AC 6) AY)))) (b:=sNx) t
    cases hw:(decide ((y:Int)∈zs)==w) with
    | true=>
     rw [hw,if_pos rfl] at i1;refine ⟨_,_,i1.trans (FB (IN (ds:=[B9 x,B9 y]) rfl (by simp))),rfl,.inr ⟨y,?_,rfl⟩⟩;have hi:=(AG.mp hq)
     have e1:ys=ys.take i++y :: ys.drop (i+1):=by
      conv=>lhs;rw [<-Ct i ys,By hi.1,hi.2]
     rw [e1,Hr,Cu.mpr (λz hz=>by rw [hj z hz];exact AR)];simp [hw]
    | false=>
     rw [hw,if_neg AR] at i1;refine ⟨_,_,i1.trans rfl,rfl,⟨_,rfl⟩,λz hz=>?_⟩;rw [take_snoc hq] at hz
     rcases Aj.mp hz with hz | hz
     ·exact hj z hz
     ·rw [AL.mp hz];exact hw)
  (by
   rintro e S' ⟨rfl,⟨y6,rfl⟩,hj⟩;rw [AK,Br] at hj
   exact ⟨rfl,.inl ⟨⟨_,rfl⟩,hj⟩⟩)
 exact ⟨f,h1,h2⟩
theorem Oq {ts:List (Int×Int)} {w:Bool} {x:Nat} (ys:List Nat):(ys.map λy=>(x,y)).find? (nq ts w)=(ys.find? λy:Nat=>decide ((y:Int)∈nr ts x)==w).map λy=>(x,y):=by
 rw [List.find?_map];rfl
theorem ZA {a b:MS} {e:Lo} {S S1:Sto} {f:Fl} (h:a e S=.ok f S1):BK a b e S=BK (λ_ _=>.ok f S1) b [] []:=by
 unfold BK;rw [h]
theorem T9 {W:Wd} {S:Sto} {q o:Nat} {ts:List (Int×Int)} (hw:DJ W S q o (Fd ts)) (hu:Cm o 0 ts) {xs:List Nat} (hx:∀x∈xs,x < o) (w:Bool) :
  Gp W [.ref q,.tup (xs.map B9),.bl w] S=.ok (XQ ((pairsOf xs).find? (nq ts w))) S:=by
 obtain ⟨f,S1,h1,rfl,hf⟩:=C9 (v:=MA (Bt (xs.map B9))) (g:=Gm 2 (CZ (tgN 3) (CZ (tgN 4) G1))) (b:=BK (Bp 5 (A0 2 (JM W) (AE (AC 0) (AE (AC 4) AY)))) (Dg (Ec (Hg (AC 1) (Gn (m2 CQ (AC 3) (mC (.int 1)))) Hv)) (tgN 6) Qc)) (xs:=JR (xs.map B9)) (e:=[some (.ref q),some (.tup (xs.map B9)),some (.bl w),none,none,none,none]) (S:=S)
  (λi e S'=>S'=S/\(∃z3 z4 z5 z6,e=[some (.ref q),some (.tup (xs.map B9)),some (.bl w),z3,z4,z5,z6])/\(pairsOf xs).find? (nq ts w)=(pairsOf (xs.drop i)).find? (nq ts w))
  (λf S'=>S'=S/\((∃e,f=.nx e/\(pairsOf xs).find? (nq ts w)=none)∨∃p,f=.rt (UA p)/\(pairsOf xs).find? (nq ts w)=some p))
  ⟨rfl,⟨_,_,_,_,rfl⟩,rfl⟩ (λ_ _ _ _=>rfl)
  (by
   rintro i d e S' hd ⟨rfl,⟨z3,z4,z5,z6,rfl⟩,hI⟩;rw [IZ,AV] at hd
   cases hq:xs[i]? with
   | none=>rw [hq] at hd;cases hd
   | some x=>
    rw [hq] at hd;cases hd;have hi:=(AG.mp hq);have hxo:=hx x (Ai hq);refine ⟨[some (.ref q),some (.tup (xs.map B9)),some (.bl w),some (.int i),some (B9 x),z5,z6],S',rfl,?_⟩
    have s5:Bp 5 (A0 2 (JM W) (AE (AC 0) (AE (AC 4) AY))) [some (.ref q),some (.tup (xs.map B9)),some (.bl w),some (.int i),some (B9 x),z5,z6] S'=.ok (.nx [some (.ref q),some (.tup (xs.map B9)),some (.bl w),some (.int i),some (B9 x),some (.tup ((nr ts x).map D.int)),z6]) S':=by
     rw [<-UD hu];exact C7 (i:=5) (CA (BL (ds:=[.ref q,.int x]) (S1:=S') rfl rfl) (UE hw hxo))
    have sl:Hg (AC 1) (Gn (m2 CQ (AC 3) (mC (.int 1)))) Hv [some (.ref q),some (.tup (xs.map B9)),some (.bl w),some (.int i),some (B9 x),some (.tup ((nr ts x).map D.int)),z6] S'=.ok (.tup ((xs.drop (i+1)).map B9)) S':=by
     show okR (IQ (.tup (xs.map B9)) (some ((i:Int)+1)) none S')=_
     have hw1:Pu (xs.map B9).length (some ((i:Int)+1)) none=false:=by
      unfold Pu
      refine decide_eq_false λz=>?_
      have z1:=z.1;rw [show ((i:Int)+1)=((i+1:Nat):Int) by lia,HT.P4,AK] at z1;have:=hi.1
      lia
     unfold IQ;dsimp only;rw [hw1,if_neg AR,show ((i:Int)+1)=((i+1:Nat):Int) by lia,N4,Rv xs (by have:=hi.1;lia)];rfl
    obtain ⟨f,g1,g2⟩:=Zd (S:=S') (d0:=.ref q) (d1:=.tup (xs.map B9)) (d3:=.int i) (w:=w) (x:=x) (zs:=nr ts x) (z6:=z6) (xs.drop (i+1))
    have e1:pairsOf (xs.drop i)=(xs.drop (i+1)).map (λy=>(x,y))++pairsOf (xs.drop (i+1)):=by
     rw [By hi.1,hi.2];rfl
    rw [e1,Hr,Oq] at hI;refine ⟨f,S',(Av s5).trans ((Cj (Kv sl)).trans g1),?_⟩
    rcases g2 with ⟨⟨y6,rfl⟩,hn⟩ | ⟨y,hy,rfl⟩
    ·have hn':(xs.drop (i+1)).find? (λy:Nat=>decide ((y:Int)∈nr ts x)==w)=none:=Cu.mpr (λz hz=>by rw [hn z hz];exact AR)
     rw [hn'] at hI;exact ⟨rfl,⟨_,_,_,_,rfl⟩,hI⟩
    ·rw [hy] at hI
     exact ⟨rfl,.inr ⟨(x,y),rfl,hI⟩⟩)
  (by
   rintro e S' ⟨rfl,⟨z3,z4,z5,z6,rfl⟩,hI⟩;rw [N2,AK,Mu] at hI
   exact ⟨rfl,.inl ⟨_,rfl,hI⟩⟩)
 have hi:Lk (AC 1) [some (.ref q),some (.tup (xs.map B9)),some (.bl w),none,none,none,none] S1=.ok (MA (Bt (xs.map B9))) S1:=rfl;refine CP ?_;unfold LA;refine CA (ZA ((Cj hi).trans h1)) ?_
 rcases hf with ⟨e,rfl,hq⟩ | ⟨p,rfl,hq⟩
 ·rw [hq];rfl
 ·rw [hq];rfl
theorem aR {ma mb:ME} {e:Lo} {S S1 S2:Sto} {d:D} (h1:ma e S=.ok (.bl true) S1) (h2:mb e S1=.ok d S2):UG ma mb e S=.ok d S2:=by
 unfold UG;rw [h1];exact h2
theorem VX {W:Wd} {S:Sto} {q o:Nat} {ts:List (Int×Int)} (hw:DJ W S q o (Fd ts)) (hu:Cm o 0 ts) {xs:List Nat} (hx:∀x∈xs,x < o):Fk W [.ref q,.tup (xs.map B9)] S=.ok (XQ ((pairsOf xs).find? (nq ts true))) S:=by
 refine CP ?_;unfold LB;exact FB (CA (BL (ds:=[.ref q,.tup (xs.map B9),.bl true]) (S1:=S) rfl rfl) (T9 hw hu hx true))
theorem bd {m:ME} {e:Lo} {S S1:Sto} {b:Bool} (h:m e S=.ok (.bl b) S1):Ra m e S=.ok b S1:=by
 unfold Ra;rw [h];rfl
theorem aO {bs:List Bool} {S:Sto}:V6 (bs.map D.bl) S=.ok (.bl (bs.any id)) S:=by
 unfold V6 aJ;rw [R0]
theorem JE:∀ {xs:List Nat} {p:Nat×Nat},p∈pairsOf xs->p.1∈xs/\p.2∈xs
 | x :: r,p,h=>by
  unfold pairsOf at h
  rcases Aj.mp h with h | h
  ·obtain ⟨y,hy,rfl⟩:=BF.mp h
   exact ⟨A6,Al _ hy⟩
  ·obtain ⟨h1,h2⟩:=JE h
   exact ⟨Al _ h1,Al _ h2⟩
theorem RY {α:Type} {f g:α->D} {l:List α} {v:Hk} {m:ME} {e:Lo} {S:Sto} (hv:v S=some (l.map f)) (hl:l.length<=1000000) (hm:∀x∈l,m (some (f x) :: e) S=.ok (g x) S) :
  GZ v (tgN 0) E7 m (CY v S) 0 (none :: e) S []=.ok (l.map g) S:=by
 obtain ⟨r,S1,q1,e',_,rfl,rfl⟩:=Ji (v:=v) (g:=tgN 0) (c:=E7) (m:=m) (xs:=l.map f) (e:=none :: e) (S:=S)
  (λi e' S' acc=>(∃z,e'=z :: e)/\S'=S/\acc=(l.take i).map g) ⟨⟨none,rfl⟩,rfl,rfl⟩ (by rintro i e' S' acc ⟨_,rfl,_⟩;exact hv)
  (by
   rintro i d e' S' acc hd ⟨⟨z,rfl⟩,rfl,rfl⟩;rw [AV] at hd
   cases hx:l[i]? with
   | none=>rw [hx] at hd;cases hd
   | some x=>
    rw [hx] at hd;cases hd;refine ⟨?_,some (f x) :: e,S',rfl,true,S',rfl,.inl ⟨rfl,g x,S',hm x (Ai hx),⟨_,rfl⟩,rfl,?_⟩⟩
    ·rw [AK,B4]
     exact A7 (Aq (NC _ _) hl) (by decide)
    ·rw [take_snoc hx,A3]
     rfl)
 rw [AK,Br] at q1;exact q1
theorem PJ (n:Nat):Bc 0 n=(Ac n).map B9:=by
 refine Ch λi=>?_
 rw [Ld,AV]
 by_cases h:i < n
 ·rw [if_pos h,BC h,HK];rfl
 ·rw [if_neg h,CL (by simpa using h)];rfl
theorem aC {α:Type} {f:α->D} {l:List α} {v:Hk} {g:MG} {b:MS} {e:Lo} {S:Sto} (I:List α->Lo->Sto->Prop) (h0:I [] e S) (hv:∀t e S,I t e S->v S=some (l.map f))
  (step:∀t x e S,x∈l->t.length < l.length->I t e S->∃e1 S1,g (f x) e S=.ok e1 S1/\∃e2 S2,b e1 S1=.ok (.nx e2) S2/\I (t++[x]) e2 S2) :
  ∃e' S',Iv v g b (CY v S) 0 e S=.ok (.nx e') S'/\I l e' S':=by
 obtain ⟨f',S',h1,e',rfl,h2⟩:=C9 (v:=v) (g:=g) (b:=b) (xs:=l.map f) (e:=e) (S:=S) (λi e S=>I (l.take i) e S) (λf' S'=>∃e',f'=.nx e'/\I l e' S') h0 (λi e S h=>hv _ e S h)
  (by
   intro i d e S hd hI;rw [AV] at hd
   cases hx:l[i]? with
   | none=>rw [hx] at hd;cases hd
   | some x=>
    rw [hx] at hd;cases hd;have hlt:=(AG.mp hx).1;obtain ⟨e1,S1,q1,e2,S2,q2,q3⟩:=step (l.take i) x e S (Ai hx) (by rw [B4];omega) hI;refine ⟨e1,S1,q1,.nx e2,S2,q2,?_⟩;show I (l.take (i+1)) e2 S2;rw [take_snoc hx]
    exact q3)
  (by
   intro e S hI;rw [AK,Br] at hI
   exact ⟨e,rfl,hI⟩)
 exact ⟨e',S',h1,h2⟩
theorem dH {t:MT} {a b:MS} {e:Lo} {S S0 S1:Sto} {d:D} (h:t e S=.ok true S0) (ha:a e S0=.ok (.rt d) S1):BK (sIf t a sNx) b e S=.ok (.rt d) S1:=La ((DP h).trans ((if_pos rfl).trans ha))
theorem UP {t:MT} {a b:MS} {e:Lo} {S S0:Sto} (h:t e S=.ok false S0):BK (sIf t a sNx) b e S=b e S0:=Av (e1:=e) ((DP h).trans ((if_neg AR).trans rfl))
end M
namespace M
open PySem L2
def CN (s:List Int):Int:=match s.getLast? with
 | some x=>x+1
 | none=>0
def ext (w:Nat) (k:Nat) (s:List Int):List (List Int):=(Ac (w+k+1 - CN s:Int).toNat).map λ(j:Nat)=>s++[CN s+j]
def TT (w:Nat):Nat->List (List Int)
 | 0=>[[]]
 | k+1=>(TT w k).flatMap (ext w k)
def Az (s:List Int):D:=.tup (s.map D.int)
theorem IU (s:List Int) (x:Int):CN (s++[x])=x+1:=by simp [CN]
theorem OE (w:Nat):∀k:Nat,∀s∈TT w k,0<=CN s/\CN s<=w+k/\s.length=k
 | 0,s,h=>by
  have:s=[]:=by simpa [TT] using h
  subst this;simp [CN]
 | k+1,s,h=>by
  simp only [TT,Bs] at h;obtain ⟨t,ht,hs⟩:=h;obtain ⟨h1,h2,h3⟩:=OE w k t ht;simp only [ext,BF,CM] at hs;obtain ⟨j,hj,rfl⟩:=hs;rw [IU];simp [h3]
  lia
def HS (w k:Nat) (s:List Int):Nat:=(w+k - CN s:Int).toNat
theorem MB {α β:Type} (f:β->Nat) (g:α->List β):∀l:List α,((l.flatMap g).map f).sum=(l.map λa=>((g a).map f).sum).sum
 | []=>rfl
 | a :: l=>by rw [WX,A3,OF,MB f g l,A5,KZ]
theorem T1 (f:Nat->Nat):∀n:Nat,((Ac n).map λj=>f (n - 1 - j)).sum=((Ac n).map f).sum
 | 0=>rfl
 | n+1=>by
  rw [Fs,A5,KZ,BZ,<-Fs,DB,A3,OF,<-T1 f n];simp
  have:(Js ((λj=>f (n - j))∘Nat.succ) (Ac n))=(Js (λj=>f (n - 1 - j)) (Ac n)):=by
   apply B6
   intro a _;simp
   congr 1
   lia
  rw [this]
  lia
theorem Ya (w g:Nat):∀k:Nat,k<=g->((TT w k).map λs=>ch (HS w k s+(g - k)) (g - k)).sum=ch (w+g) g
 | 0,_=>by simp [TT,HS,CN]
 | k+1,h=>by
  rw [<-Ya w g k (by lia)];show (((TT w k).flatMap (ext w k)).map _).sum=_;rw [MB]
  congr 1
  apply B6
  intro s hs;obtain ⟨h1,h2,_⟩:=OE w k s hs
  have e:(w+k+1 - CN s:Int).toNat=HS w k s+1:=by unfold HS;lia
  unfold ext;rw [e,BZ]
  have e2:(Js ((λs=>ch (HS w (k+1) s+(g - (k+1))) (g - (k+1)))∘λ(j:Nat)=>s++[CN s+j]) (Ac (HS w k s+1)))=Js (λj=>(λi=>ch (i+(g - (k+1))) (g - (k+1))) (HS w k s+1 - 1 - j)) (Ac (HS w k s+1)):=by
   apply B6
   intro j hj
   have hj:j < HS w k s+1:=by simpa using hj
   simp only [SV]
   have:HS w (k+1) (s++[CN s+(j:Int)])=HS w k s+1 - 1 - j:=by
    unfold HS at hj ⊢;rw [IU]
    lia
   rw [this]
  rw [e2,T1 (λi=>ch (i+(g - (k+1))) (g - (k+1))),Xx]
  congr 1 <;> lia
theorem d8 (w g k:Nat) (h:k<=g):(TT w k).length<=ch (w+g) g:=by
 rw [<-Ya w g k h]
 have:∀l:List (List Int),l.length<=(l.map λs=>ch (HS w k s+(g - k)) (g - k)).sum:=by
  intro l
  induction l with
  | nil=>simp
  | cons s l ih=>
   rw [A5,KZ,BA];have:=YS (n:=HS w k s+(g - k)) (k:=g - k) (by lia)
   lia
 exact this _
theorem Zu (s:List Int) (h:s≠[]) (S:Sto):ixA (Az s) (.int (-1)) S=.ok (.int (CN s - 1)) S:=by
 have hl:0 < s.length:=List.length_pos_iff.mpr h
 have e1:atI (s.map D.int) (-1)=some (.int (CN s - 1)):=by
  unfold atI ixN;rw [AK,if_neg (by lia),if_pos (by lia)];simp only [GK]
  have e:(-1+(s.length:Int)).toNat=s.length - 1:=by lia
  rw [e,AV];have:s.getLast?=s[s.length - 1]?:=List.getLast?_eq_getElem? ..;unfold CN;rw [this]
  have hh:s[s.length - 1]?=some s[s.length - 1]:=by simp [hl]
  rw [hh];simp
 unfold ixA op2 G4 ixD Az HL;dsimp only;rw [e1]
abbrev Tb:MS:=B7 (FH (AC 4) (m2 CQ (AC 5) (EC (AE (AC 7) AY))))
theorem OW {α β:Type} (f:α->β) (l:List α) {i:Nat} {x:α} (h:l[i]?=some x):(l.take (i+1)).map f=(l.take i).map f++[f x]:=by
 rw [Em,h];simp
theorem Sq {p g st:D} {n m:Nat} {s:List Int} {w k:Nat} {le:Int} {S:Sto} {xs0:List D} (hs:s.length<=60) (hm:S[m]?=some (.lst xs0)) (hsz:xs0.length+(ext w k s).length<=100000) (hle:le=CN s) {z7:Option D} :
  ∃z7',Iv (Bt (Bc le (w+k+1 - CN s:Int).toNat)) (tgN 7) Tb (CY (Bt (Bc le (w+k+1 - CN s:Int).toNat)) S) 0 [some p,some g,some (.ref n),some st,some (.ref m),some (Az s),some (.int le),z7] S =
   .ok (.nx [some p,some g,some (.ref n),some st,some (.ref m),some (Az s),some (.int le),z7']) (S.set m (.lst (xs0++(ext w k s).map Az))):=by
 subst hle
 have hlen:(ext w k s).length=(w+k+1 - CN s:Int).toNat:=by unfold ext;simp
 obtain ⟨f,S',h1,z,rfl,rfl⟩:=C9 (v:=Bt (Bc (CN s) (w+k+1 - CN s:Int).toNat)) (g:=tgN 7) (b:=Tb) (xs:=Bc (CN s) (w+k+1 - CN s:Int).toNat) (e:=[some p,some g,some (.ref n),some st,some (.ref m),some (Az s),some (.int (CN s)),z7]) (S:=S)
  (λi e S'=>∃z,e=[some p,some g,some (.ref n),some st,some (.ref m),some (Az s),some (.int (CN s)),z]/\S'=S.set m (.lst (xs0++((ext w k s).take i).map Az)))
  (λf S'=>∃z,f=.nx [some p,some g,some (.ref n),some st,some (.ref m),some (Az s),some (.int (CN s)),z]/\S'=S.set m (.lst (xs0++(ext w k s).map Az)))
  ⟨z7,rfl,by
   have hlt:=(AG.mp hm).1;simp
   apply Ch
   intro j
   by_cases hj:m=j
   ·subst hj;rw [As hlt];exact hm
   ·rw [A9 hj]⟩ (λ_ _ _ _=>rfl)
  (by
   rintro i d e S' hd ⟨z,rfl,rfl⟩;obtain ⟨hik,rfl⟩:=Dw hd;have hlt:=(AG.mp hm).1;have hat:(S.set m (.lst (xs0++((ext w k s).take i).map Az)))[m]?=some (.lst (xs0++((ext w k s).take i).map Az)):=As hlt
   have hx:(ext w k s)[i]?=some (s++[CN s+i]):=by
    unfold ext;rw [AV,BC hik];rfl
   refine ⟨_,_,rfl,_,_,ED (Hj (n:=m) rfl hat (BD rfl rfl (Tw (xs:=s.map D.int) (ys:=[.int (CN s+i)]) ?_)) hat ?_),?_⟩
   ·show (s.map D.int).length+1<=sizeLine
    rw [AK];exact Aq (Nat.add_le_add_right hs 1) (by decide)
   ·rw [A2,AK,B4]
    refine A7 (m:=100000) (by lia) (by decide)
   ·refine ⟨some (.int (CN s+i)),rfl,?_⟩
    rw [eR,OW Az _ hx,<-BJ]
    simp [Az])
  (by
   rintro e S' ⟨z,rfl,rfl⟩;refine ⟨z,rfl,?_⟩
   rw [Dv,<-hlen,Br])
 exact ⟨z,h1⟩
abbrev Uj:MS:=BK (Bp 6 (Va (Ra (AC 5)) (m2 CQ (m2 ixA (AC 5) (VZ (mC (.int 1)))) (mC (.int 1))) (mC (.int 0))))
  (Dg (iR2 (AE (AC 6) (AE (m2 CQ (m2 CQ (m2 Sg (AC 0) (AC 1)) (AC 3)) (mC (.int 1))) AY))) (tgN 7) Tb)
theorem Wy {S:Sto} {m:Nat} {o:Ob} (h:S[m]?=some o):S.set m o=S:=by
 have hlt:=(AG.mp h).1
 apply Ch
 intro j
 by_cases hj:m=j
 ·subst hj;rw [As hlt];exact h.symm
 ·rw [A9 hj]
theorem HV {α β:Type} (f:α->List β) (l:List α) {i:Nat} {x:α} (h:l[i]?=some x):(l.take (i+1)).flatMap f=(l.take i).flatMap f++f x:=by
 rw [Em,h];simp
theorem Lh {α β:Type} (f:α->List β) (l:List α) (i:Nat):((l.take i).flatMap f).length<=(l.flatMap f).length:=by
 conv=>rhs;rw [<-Ct i l,Uy,A2]
 lia
theorem VD {w g k n m:Nat} {S:Sto} {z5 z6 z7:Option D} (hk:k < g) (hwg:w+g<=60) (hn:S[n]?=some (.lst ((TT w k).map Az))) (hm:S[m]?=some (.lst [])) (hnm:n≠m) (hsz:(TT w (k+1)).length<=100000) :
  ∃y5 y6 y7,Iv (C2 (.ref n)) (tgN 5) Uj (CY (C2 (.ref n)) S) 0 [some (.int (w+g:Nat)),some (.int g),some (.ref n),some (.int k),some (.ref m),z5,z6,z7] S =
   .ok (.nx [some (.int (w+g:Nat)),some (.int g),some (.ref n),some (.int k),some (.ref m),y5,y6,y7]) (S.set m (.lst ((TT w (k+1)).map Az))):=by
 have hlt:=(AG.mp hm).1
 obtain ⟨f,S',h1,y5,y6,y7,rfl,rfl⟩:=C9 (v:=C2 (.ref n)) (g:=tgN 5) (b:=Uj) (xs:=(TT w k).map Az) (e:=[some (.int (w+g:Nat)),some (.int g),some (.ref n),some (.int k),some (.ref m),z5,z6,z7]) (S:=S)
  (λi e S'=>∃y5 y6 y7,e=[some (.int (w+g:Nat)),some (.int g),some (.ref n),some (.int k),some (.ref m),y5,y6,y7]/\S'=S.set m (.lst ((((TT w k).take i).flatMap (ext w k)).map Az)))
  (λf S'=>∃y5 y6 y7,f=.nx [some (.int (w+g:Nat)),some (.int g),some (.ref n),some (.int k),some (.ref m),y5,y6,y7]/\S'=S.set m (.lst ((TT w (k+1)).map Az)))
  ⟨z5,z6,z7,rfl,by simpa using (Wy hm).symm⟩
  (by
   rintro i e S' ⟨y5,y6,y7,rfl,rfl⟩
   exact C1 (by rw [A9 (CS hnm)];exact hn))
  (by
   rintro i d e S' hd ⟨y5,y6,y7,rfl,rfl⟩;rw [AV] at hd
   cases hs:(TT w k)[i]? with
   | none=>rw [hs] at hd;cases hd
   | some s=>
    rw [hs] at hd;cases hd;obtain ⟨b1,b2,b3⟩:=OE w k s (Ai hs);have hat:(S.set m (.lst ((((TT w k).take i).flatMap (ext w k)).map Az)))[m]?=some (.lst ((((TT w k).take i).flatMap (ext w k)).map Az)):=As hlt
    have hbound:((((TT w k).take i).flatMap (ext w k)).map Az).length+(ext w k s).length<=100000:=by
     rw [AK,<-A2,<-HV (ext w k) _ hs];exact Aq (Lh _ _ _) hsz
    obtain ⟨y7',hp⟩:=Sq (p:=.int (w+g:Nat)) (g:=.int g) (st:=.int k) (n:=n) (m:=m) (s:=s) (w:=w) (k:=k) (le:=CN s) (xs0:=(((TT w k).take i).flatMap (ext w k)).map Az) (z7:=y7) (by lia) hat hbound rfl;refine ⟨_,_,rfl,?_⟩
    have e1:Bp 6 (Va (Ra (AC 5)) (m2 CQ (m2 ixA (AC 5) (VZ (mC (.int 1)))) (mC (.int 1))) (mC (.int 0))) [some (.int (w+g:Nat)),some (.int g),some (.ref n),some (.int k),some (.ref m),some (Az s),y6,y7] (S.set m (.lst ((((TT w k).take i).flatMap (ext w k)).map Az))) =
      .ok (.nx [some (.int (w+g:Nat)),some (.int g),some (.ref n),some (.int k),some (.ref m),some (Az s),some (.int (CN s)),y7]) (S.set m (.lst ((((TT w k).take i).flatMap (ext w k)).map Az))):=by
     refine C7 (i:=6) ?_
     cases s with
     | nil=>rfl
     | cons x s=>
      rw [dC (c:=true) (S1:=S.set m (.lst ((((TT w k).take i).flatMap (ext w k)).map Az))) rfl,if_pos rfl];refine BD (BD rfl rfl (Zu _ (by simp) _)) rfl ?_;show Res.ok (D.int (CN (x :: s) - 1+1)) _=_;rw [Int.sub_add_cancel]
    have e2:iR2 (AE (AC 6) (AE (m2 CQ (m2 CQ (m2 Sg (AC 0) (AC 1)) (AC 3)) (mC (.int 1))) AY)) [some (.int (w+g:Nat)),some (.int g),some (.ref n),some (.int k),some (.ref m),some (Az s),some (.int (CN s)),y7] (S.set m (.lst ((((TT w k).take i).flatMap (ext w k)).map Az))) =
      .ok (Bt (Bc (CN s) (w+k+1 - CN s:Int).toNat)) (S.set m (.lst ((((TT w k).take i).flatMap (ext w k)).map Az))):=by
     have:=Nu (ml:=AE (AC 6) (AE (m2 CQ (m2 CQ (m2 Sg (AC 0) (AC 1)) (AC 3)) (mC (.int 1))) AY)) (e:=[some (.int (w+g:Nat)),some (.int g),some (.ref n),some (.int k),some (.ref m),some (Az s),some (.int (CN s)),y7]) (S:=S.set m (.lst ((((TT w k).take i).flatMap (ext w k)).map Az))) (S1:=S.set m (.lst ((((TT w k).take i).flatMap (ext w k)).map Az))) (i:=CN s) (j:=((w+g:Nat):Int) - g+k+1) rfl (by lia) (by lia) (by lia) (by lia);rw [this]
     congr 3
     lia
    refine ⟨_,_,(Av e1).trans ((Cj e2).trans hp),_,_,_,rfl,?_⟩
    rw [eR,HV (ext w k) _ hs,A3])
  (by
   rintro e S' ⟨y5,y6,y7,rfl,rfl⟩;refine ⟨y5,y6,y7,rfl,?_⟩;rw [AK,Br]
   rfl)
 exact ⟨y5,y6,y7,h1⟩
theorem T4 (W:Wd) (w g:Nat) (hwg:w+g<=60) (hc:ch (w+g) g<=100000) (S:Sto):∃n S',Gy W [.int (w+g:Nat),.int g] S=.ok (.ref n) S'/\Keeps S S'/\S.length<=n/\S'[n]?=some (.lst ((TT w g).map Az)):=by
 have hb:Pd W=BK (Bp 2 (Ce (BX (AE (EC AY) AY)))) (BK (Dg (iR1 (AE (AC 1) AY)) (tgN 3) (BK (Bp 4 (Ce (BX AY))) (BK (Dg (Ec (AC 2)) (tgN 5) Uj) (Bp 2 (AC 4))))) (Cw (AC 2))):=rfl;have e0:Bp 2 (Ce (BX (AE (EC AY) AY))) (DE 8 [.int (w+g:Nat),.int g]) S=.ok (.nx [some (.int (w+g:Nat)),some (.int g),some (.ref S.length),none,none,none,none,none]) (S++[.lst [.tup []]]):=rfl
 obtain ⟨f,S',h1,n,z3,z4,z5,z6,z7,rfl,k1,k2,k3⟩:=C9 (v:=Bt (Bc 0 g)) (g:=tgN 3) (b:=BK (Bp 4 (Ce (BX AY))) (BK (Dg (Ec (AC 2)) (tgN 5) Uj) (Bp 2 (AC 4)))) (xs:=Bc 0 g) (e:=[some (.int (w+g:Nat)),some (.int g),some (.ref S.length),none,none,none,none,none]) (S:=S++[.lst [.tup []]])
  (λi e S'=>∃n z3 z4 z5 z6 z7,e=[some (.int (w+g:Nat)),some (.int g),some (.ref n),z3,z4,z5,z6,z7]/\Keeps S S'/\S.length<=n/\S'[n]?=some (.lst ((TT w i).map Az)))
  (λf S'=>∃n z3 z4 z5 z6 z7,f=.nx [some (.int (w+g:Nat)),some (.int g),some (.ref n),z3,z4,z5,z6,z7]/\Keeps S S'/\S.length<=n/\S'[n]?=some (.lst ((TT w g).map Az)))
  ⟨S.length,none,none,none,none,none,rfl,Keeps.app S _,AS _,by simp [TT,Az]⟩ (λ_ _ _ _=>rfl)
  (by
   rintro i d e S1 hd ⟨n,z3,z4,z5,z6,z7,rfl,k1,k2,k3⟩;obtain ⟨hig,rfl⟩:=Dw hd;have hlt:=(AG.mp k3).1
   have e1:Bp 4 (Ce (BX AY)) [some (.int (w+g:Nat)),some (.int g),some (.ref n),some (.int (0+i)),z4,z5,z6,z7] S1=.ok (.nx [some (.int (w+g:Nat)),some (.int g),some (.ref n),some (.int i),some (.ref S1.length),z5,z6,z7]) (S1++[.lst []]):=by
    rw [HK];rfl
   obtain ⟨y5,y6,y7,e2⟩:=VD (w:=w) (g:=g) (k:=i) (n:=n) (m:=S1.length) (S:=S1++[.lst []]) (z5:=z5) (z6:=z6) (z7:=z7) hig hwg (by rw [Ag hlt];exact k3) (Bx _ _) (by lia)
    (Aq (d8 w g (i+1) (by lia)) (by omega))
   have e3:Ec (AC 2) [some (.int (w+g:Nat)),some (.int g),some (.ref n),some (.int i),some (.ref S1.length),z5,z6,z7] (S1++[.lst []])=.ok (C2 (.ref n)) (S1++[.lst []]):=
    Fi rfl (xs:=(TT w i).map Az) (by rw [Ag hlt];exact k3)
   refine ⟨_,_,rfl,_,_,(Av e1).trans ((Av ((Cj e3).trans e2)).trans rfl),S1.length,_,_,_,_,_,rfl,?_,?_,?_⟩
   ·exact (k1.trans (Keeps.app S1 _)).set k1.1 _
   ·exact k1.1
   ·exact As (by simp))
  (by
   rintro e S1 ⟨n,z3,z4,z5,z6,z7,rfl,k1,k2,k3⟩;rw [Dv] at k3
   exact ⟨n,z3,z4,z5,z6,z7,rfl,k1,k2,k3⟩)
 have hi:iR1 (AE (AC 1) AY) [some (.int (w+g:Nat)),some (.int g),some (.ref S.length),none,none,none,none,none] (S++[.lst [.tup []]])=.ok (Bt (Bc 0 g)) (S++[.lst [.tup []]]):=by
  have:=IX (ml:=AE (AC 1) AY) (e:=[some (.int (w+g:Nat)),some (.int g),some (.ref S.length),none,none,none,none,none]) (S:=S++[.lst [.tup []]]) (S1:=S++[.lst [.tup []]]) (j:=g) rfl (by lia) (by lia);simpa using this
 refine ⟨n,S',CP ?_,k1,k2,k3⟩;rw [hb,Av e0,Av ((Cj hi).trans h1)];rfl
theorem bD (w:Nat):∀k:Nat,∀s∈TT w k,s.Pairwise (· < ·)/\∀y∈s,0<=y/\y < CN s
 | 0,s,h=>by
  have:s=[]:=by simpa [TT] using h
  subst this;exact ⟨.nil,λ_ h=>absurd h D5⟩
 | k+1,s,h=>by
  simp only [TT,Bs] at h;obtain ⟨t,ht,hs⟩:=h;obtain ⟨h1,h2⟩:=bD w k t ht;obtain ⟨b1,_,_⟩:=OE w k t ht;simp only [ext,BF,CM] at hs;obtain ⟨j,hj,rfl⟩:=hs;rw [IU];refine ⟨BN.mpr ⟨h1,CB _ _,λa ha b hb=>?_⟩,λy hy=>?_⟩
  ·rw [AL.mp hb]
   have:=(h2 a ha).2
   lia
  ·rcases Aj.mp hy with hy | hy
   ·have:=h2 y hy
    lia
   ·rw [AL.mp hy]
    lia
end M
namespace M
open PySem L2
open Srt (ltL)
structure St (p:Nat) (s:List Int):Prop where
 up:s.Pairwise (· < ·)
 at':∀x∈s,0<=x/\x < p
theorem St.gap {p:Nat} {s:List Int} (h:St p s):∀(i j:Nat) {x y:Int},s[i]?=some x->s[j]?=some y->i<=j->x+(j - i:Nat)<=y
 | i,j,x,y,hx,hy,hij=>by
  revert y
  induction j with
  | zero=>
   intro y hy
   have e:i=0:=by lia
   subst e;rw [hx] at hy;cases hy;simp
  | succ j ih=>
   intro y hy
   by_cases c:i=j+1
   ·subst c
    rw [hx] at hy;cases hy;simp
   ·have hlt:=(AG.mp hy).1
    have hj:s[j]?=some s[j]:=Aw (by omega);have:=ih (by lia) _ hj;have h2:=Pn.mp h.up j (j+1) (by lia) hlt (by lia);rw [(AG.mp hy).2] at h2
    lia
theorem TH {s:List Int} {k:Nat} {x:Int} (h:s[k]?=some x):CN (s.take (k+1))=x+1:=by
 rw [Em,h];exact IU _ _
theorem Qi {w g:Nat} {s:List Int} (h:St (w+g) s) (hl:s.length=g):s∈TT w g:=by
 have key:∀k:Nat,k<=g->s.take k∈TT w k:=by
  intro k
  induction k with
  | zero=>intro _;simp [TT]
  | succ k ih=>
   intro hk;have hx:s[k]?=some s[k]:=Aw (by omega);generalize s[k]=x at hx;have hlast:s[g - 1]?=some s[g - 1]:=Aw (by omega);have hg:=h.gap k (g - 1) hx hlast (by lia);have hb:=(h.at' _ (Ai hlast)).2;have h0:=(h.at' _ (Ai hx)).1
   have hle:CN (s.take k)<=x:=by
    cases k with
    | zero=>simpa [CN] using h0
    | succ k=>
     have hy:s[k]?=some s[k]:=Aw (by omega);rw [TH hy];have:=h.gap k (k+1) hy hx (by lia)
     lia
   simp only [TT,Bs];refine ⟨s.take k,ih (by lia),?_⟩;simp only [ext,BF,CM];refine ⟨(x - CN (s.take k)).toNat,by omega,?_⟩;rw [take_snoc hx]
   congr 2
   lia
 have:=key g (AS _);rw [Cf (by lia)] at this;exact this
theorem Um {w g:Nat} {s:List Int} (h:s∈TT w g):St (w+g) s/\s.length=g:=by
 obtain ⟨h1,h2⟩:=bD w g s h;obtain ⟨_,b2,b3⟩:=OE w g s h;exact ⟨⟨h1,λx hx=>by have:=h2 x hx;lia⟩,b3⟩
theorem UL:∀(a b c d:List Int),ltL a b=true->a.length=b.length->ltL (a++c) (b++d)=true
 | [],[],_,_,h,_=>by cases h
 | [],_ :: _,_,_,_,hl=>by cases hl
 | _ :: _,[],_,_,_,hl=>by cases hl
 | x :: xs,y :: ys,c,d,h,hl=>by
  rw [ltL] at h;show ltL (x :: (xs++c)) (y :: (ys++d))=true;rw [ltL]
  by_cases e:x=y
  ·rw [if_pos e] at h ⊢
   exact UL xs ys c d h (IH hl)
  ·rw [if_neg e] at h ⊢
   exact h
theorem Rf:∀(a:List Int) {x y:Int},x < y->ltL (a++[x]) (a++[y])=true
 | [],x,y,h=>by
  show ltL [x] [y]=true;rw [ltL,if_neg (by lia)];exact decide_eq_true h
 | z :: a,x,y,h=>by
  show ltL (z :: (a++[x])) (z :: (a++[y]))=true;rw [ltL,if_pos rfl];exact Rf a h
theorem Qh (w:Nat):∀k:Nat,(TT w k).Pairwise λa b=>ltL a b=true
 | 0=>CB _ _
 | k+1=>by
  show ((TT w k).flatMap (ext w k)).Pairwise _;refine List.pairwise_flatMap.mpr ⟨λs _=>?_,(eu (λ{a b} ha hb h x hx y hy=>?_) (Qh w k))⟩
  ·unfold ext
   rw [Cg]
   exact SC.imp λ{i j} h=>Rf s (by lia)
  ·unfold ext at hx hy
   obtain ⟨i,_,rfl⟩:=BF.mp hx;obtain ⟨j,_,rfl⟩:=BF.mp hy;exact UL a b _ _ h (by rw [(OE w k a ha).2.2,(OE w k b hb).2.2])
theorem N0 {l:List (List Int)} {P:List Int->Bool} (hs:l.Pairwise λa b=>ltL a b=true) {x:List Int} (h:l.find? P=some x):∀y∈l,P y=true->ltL y x=false:=by
 induction l with
 | nil=>cases h
 | cons a l ih=>
  obtain ⟨h1,h2⟩:=LM.mp hs;intro y hy hp;rw [B1] at h
  cases ha:P a with
  | true=>
   rw [ha] at h;cases h
   rcases A4.mp hy with e | hy
   ·rw [e]
    cases hq:ltL x x with
    | false=>rfl
    | true=>have:=Srt.Hx _ _ hq;rw [hq] at this;cases this
   ·exact Srt.Hx _ _ (h1 y hy)
  | false=>
   rw [ha] at h
   rcases A4.mp hy with e | hy
   ·rw [e,ha] at hp;cases hp
   ·exact ih h2 h y hy hp
end M
namespace M
open PySem L2
open Srt (ltL)
def Ck (s:List Int):List Nat:=s.map Int.toNat
def apt (ts:List (Int×Int)) (xs:List Nat):Bool:=xs.all λx=>xs.all λy=>!decide ((y:Int)∈nr ts x)
theorem KA:∀ {xs:List Nat} {x y:Nat},x∈xs->y∈xs->x=y∨(x,y)∈pairsOf xs∨(y,x)∈pairsOf xs
 | a :: xs,x,y,hx,hy=>by
  rcases A4.mp hx with e1 | hx
  ·rcases A4.mp hy with e2 | hy
   ·exact .inl (e1.trans e2.symm)
   ·exact .inr (.inl (CF _ (by rw [e1];exact B5 hy)))
  ·rcases A4.mp hy with e2 | hy
   ·exact .inr (.inr (CF _ (by rw [e2];exact B5 hx)))
   ·rcases KA hx hy with h | h | h
    ·exact .inl h
    ·exact .inr (.inl (Ay _ h))
    ·exact .inr (.inr (Ay _ h))
theorem Ul {o:Nat} {ts:List (Int×Int)} (hu:Cm o 0 ts) (xs:List Nat):(pairsOf xs).find? (nq ts true)=none↔apt ts xs=true:=by
 have hir:∀x:Nat,(x:Int)∉nr ts x:=λx hx=>by
  rcases KD.mp hx with h | h <;> · have:=(hu.1 _ h).2.1;simp at this
 unfold apt;rw [Cu,BW]
 constructor
 ·intro h x hx
  refine BW.mpr λy hy=>?_
  have key:∀a b:Nat,(a,b)∈pairsOf xs->¬((b:Int)∈nr ts a):=λa b hab z=>h (a,b) hab (by unfold nq;simp [z])
  by_cases c:(y:Int)∈nr ts x
  ·rcases KA hx hy with e | e | e
   ·rw [<-e] at c;exact absurd c (hir x)
   ·exact absurd c (key x y e)
   ·exact absurd (QC.mp c) (key y x e)
  ·simp [c]
 ·intro h p hp
  obtain ⟨h1,h2⟩:=JE hp;have:=BW.mp (h p.1 h1) p.2 h2;unfold nq;simpa using this
structure V9 (p:Nat) (ts:List (Int×Int)) (s:List Int):Prop where
 st:St p s
 ap:apt ts (Ck s)=true
 no:∀y:List Int,St p y->(s.length < y.length∨y.length=s.length/\ltL y s=true)->apt ts (Ck y)=false
theorem LX {p:Nat} {s:List Int} (h:St p s):Az s=.tup ((Ck s).map B9):=by
 unfold Az Ck;rw [BZ]
 congr 1
 apply B6
 intro y hy;show D.int y=D.int ((y.toNat:Nat):Int);rw [D7 (h.at' y hy).1]
theorem QF {p:Nat} {s:List Int} (h:St p s):∀x∈Ck s,x < p:=λx hx=>by
 obtain ⟨y,hy,rfl⟩:=BF.mp hx;have:=h.at' y hy
 lia
theorem gm:∀p:Nat,p<=12->∀g:Nat,g<=p->ch p g<=100000:=by decide +kernel
abbrev du (W:Wd):MS:=sIf (mB (m2 (Iu false) (A0 2 (Fk W) (AE (AC 0) (AE (AC 2) AY))) (mC .non))) (Cw (AC 2)) sNx
theorem Zx (o:Option (Nat×Nat)) (S:Sto):Iu false (XQ o) .non S=.ok (.bl o.isNone) S:=by cases o <;> rfl
theorem Wj {W:Wd} {S:Sto} {q p n:Nat} {ts:List (Int×Int)} (hw:DJ W S q p (Fd ts)) (hu:Cm p 0 ts) {l:List (List Int)} (hl:∀s∈l,St p s) (hn:S[n]?=some (.lst (l.map Az))) {d1:D} {z2:Option D} :
  ∃f,Iv (C2 (.ref n)) (tgN 2) (du W) (CY (C2 (.ref n)) S) 0 [some (.ref q),some d1,z2] S=.ok f S/\((l.find? (λs=>apt ts (Ck s))=none/\∃z,f=.nx [some (.ref q),some d1,z])∨∃s,l.find? (λs=>apt ts (Ck s))=some s/\f=.rt (Az s)):=by
 obtain ⟨f,S',h1,rfl,h2⟩:=C9 (v:=C2 (.ref n)) (g:=tgN 2) (b:=du W) (xs:=l.map Az) (e:=[some (.ref q),some d1,z2]) (S:=S)
  (λi e S'=>S'=S/\l.find? (λs=>apt ts (Ck s))=(l.drop i).find? (λs=>apt ts (Ck s))/\∃z,e=[some (.ref q),some d1,z])
  (λf S'=>S'=S/\((l.find? (λs=>apt ts (Ck s))=none/\∃z,f=.nx [some (.ref q),some d1,z])∨∃s,l.find? (λs=>apt ts (Ck s))=some s/\f=.rt (Az s)))
  ⟨rfl,rfl,z2,rfl⟩ (by rintro i e S' ⟨rfl,_⟩;exact C1 hn)
  (by
   rintro i d e S' hd ⟨rfl,hf,z,rfl⟩;rw [AV] at hd
   cases hx:l[i]? with
   | none=>rw [hx] at hd;cases hd
   | some s=>
    rw [hx] at hd;cases hd;have hs:=hl s (Ai hx);obtain ⟨hlt,es⟩:=AG.mp hx;rw [By hlt,es,B1] at hf
    have t1:mB (m2 (Iu false) (A0 2 (Fk W) (AE (AC 0) (AE (AC 2) AY))) (mC .non)) [some (.ref q),some d1,some (Az s)] S'=.ok ((pairsOf (Ck s)).find? (nq ts true)).isNone S':=
     E5 (BD ((BL (ds:=[.ref q,Az s]) (S1:=S') rfl rfl).trans (by rw [LX hs];exact VX hw hu (QF hs))) rfl (Zx _ _))
    have i1:=DP (a:=Cw (AC 2)) (b:=sNx) t1;refine ⟨[some (.ref q),some d1,some (Az s)],S',rfl,?_⟩
    cases ha:apt ts (Ck s) with
    | true=>
     rw [(Ul hu _).mpr ha] at i1;rw [ha] at hf;exact ⟨_,_,i1.trans rfl,rfl,.inr ⟨s,hf,rfl⟩⟩
    | false=>
     rw [ha] at hf
     have hne:(pairsOf (Ck s)).find? (nq ts true)≠none:=λz=>by have:=(Ul hu _).mp z;rw [ha] at this;cases this
     have hb:((pairsOf (Ck s)).find? (nq ts true)).isNone=false:=by
      cases hq:(pairsOf (Ck s)).find? (nq ts true) with
      | none=>exact absurd hq hne
      | some _=>rfl
     rw [hb] at i1
     exact ⟨_,_,i1.trans rfl,rfl,hf,_,rfl⟩)
  (by
   rintro e S' ⟨rfl,hf,z,rfl⟩;rw [AK,Mu] at hf
   exact ⟨rfl,.inl ⟨hf,z,rfl⟩⟩)
 exact ⟨f,h1,h2⟩
theorem Nl (W:Wd) {S:Sto} {q p:Nat} {ts:List (Int×Int)} (hw:DJ W S q p ts) (hp:p<=12):Ca W [.ref q] S=.ok .non S:=by
 refine Sm (e:=[some (.ref q)]) ?_;unfold HB;refine (DP (c:=false) (S1:=S) (E5 (BD (hw.places rfl) rfl (QO (decide_eq_false (by lia)))))).trans rfl
theorem gj {lo:Int} {n i:Nat} {d:D} (h:(N3 lo n)[i]?=some d):i < n/\d=.int (lo - i):=by
 unfold N3 at h;rw [AV] at h
 cases hx:(Ac n)[i]? with
 | none=>rw [hx] at h;cases h
 | some k=>
  rw [hx] at h;cases h;obtain ⟨h1,h2⟩:=AG.mp hx;rw [Lx] at h1;rw [List.getElem_range] at h2;exact ⟨h1,by rw [h2]⟩
theorem R3 (W:Wd) {S:Sto} {q p:Nat} {ts:List (Int×Int)} (hw:DJ W S q p (Fd ts)) (hu:Cm p 0 ts) (hp1:1<=p) (hp:p<=12):∃s S',Cb W [.ref q] S=.ok (Az s) S'/\Keeps S S'/\V9 p ts s:=by
 have s1:B7 (A0 1 (Ca W) (AE (AC 0) AY)) (DE 3 [.ref q]) S=.ok (.nx [some (.ref q),none,none]) S:=ED ((BL (ds:=[.ref q]) (S1:=S) rfl rfl).trans (Nl W hw hp))
 have hr:iRD (AE (Er W.Web "places" (AC 0)) (AE (mC (.int 1)) (AE (VZ (mC (.int 1))) AY))) [some (.ref q),none,none] S=.ok (Bt (N3 p (p - 1))) S:=by
  unfold iRD;rw [BQ (ds:=[.int 1,.int (-1)]) (hw.places (m:=AC 0) (e:=[some (.ref q),none,none]) (S0:=S) rfl) rfl];show (if (-1:Int) = -1/\-1000000<=(p:Int)/\(p:Int)<=1000000/\(-1000000:Int)<=1/\(1:Int)<=1000000 then Res.ok (Bt (N3 p ((p:Int) - 1).toNat)) S else .bad)=_;rw [if_pos (by lia),show ((p:Int) - 1).toNat=p - 1 by lia]
 obtain ⟨f,S',h1,K,h2⟩:=C9 (v:=Bt (N3 p (p - 1))) (g:=tgN 1) (b:=Dg (Ec (A0 2 (Gy W) (AE (Er W.Web "places" (AC 0)) (AE (AC 1) AY)))) (tgN 2) (du W)) (xs:=N3 p (p - 1)) (e:=[some (.ref q),none,none]) (S:=S)
  (λi e S'=>Keeps S S'/\(∀y:List Int,St p y->p - i < y.length->apt ts (Ck y)=false)/\∃z1 z2,e=[some (.ref q),z1,z2])
  (λf S'=>Keeps S S'/\(((∃z1 z2,f=.nx [some (.ref q),z1,z2])/\∀y:List Int,St p y->1 < y.length->apt ts (Ck y)=false)∨∃s,f=.rt (Az s)/\V9 p ts s))
  ⟨Keeps.refl _,λy hy hl=>by
   have hlen:y.length<=p:=by
    by_cases c:y=[]
    ·rw [c];simp
    ·have hpos:0 < y.length:=by cases y with | nil=>exact absurd rfl c | cons _ _=>simp
     have h0:y[0]?=some y[0]:=Aw hpos;have hL:y[y.length - 1]?=some y[y.length - 1]:=Aw (by omega);have hg:=hy.gap 0 (y.length - 1) h0 hL (by lia);have b0:=(hy.at' _ (Ai h0)).1;have b1:=(hy.at' _ (Ai hL)).2;omega
   lia,none,none,rfl⟩ (λ_ _ _ _=>rfl)
  (by
   rintro i d e S' hd ⟨K,hno,z1,z2,rfl⟩;obtain ⟨hi,rfl⟩:=gj hd;have hw':=hw.keeps K
   obtain ⟨g,hg⟩:∃g:Nat,(p:Int) - i=g:=⟨p - i,by lia⟩
   rw [hg]
   obtain ⟨w,hwg⟩:∃w,p=w+g:=⟨p - g,by omega⟩
   obtain ⟨n,S2,q2,K2,_,a2⟩:=T4 W w g (by lia) (gm (w+g) (by lia) g (by lia)) S';rw [<-hwg] at q2
   have hl:∀s∈TT w g,St p s:=λs hs=>by rw [hwg];exact (Um hs).1
   obtain ⟨f,q3,q4⟩:=Wj (hw'.keeps K2) hu hl a2 (d1:=.int g) (z2:=z2);refine ⟨[some (.ref q),some (.int g),z2],S',rfl,f,S2,(Cj (Fi (n:=n) (xs:=(TT w g).map Az) ((BL (ds:=[.int p,.int g]) (S1:=S') (BQ (hw'.places rfl) rfl) rfl).trans q2) a2)).trans q3,?_⟩
   rcases q4 with ⟨hf,z,rfl⟩ | ⟨s,hf,rfl⟩
   ·refine ⟨K.trans K2,λy hy hlen=>?_,_,_,rfl⟩
    by_cases c:p - i < y.length
    ·exact hno y hy c
    ·have hyg:y.length=g:=by omega
     have hm:y∈TT w g:=Qi (by rw [<-hwg];exact hy) hyg;have:=Cu.mp hf y hm;simpa using this
   ·refine ⟨K.trans K2,.inr ⟨s,rfl,?_⟩⟩
    have hm:=Po hf;obtain ⟨_,hlen⟩:=Um hm;refine ⟨hl s hm,by simpa using Yp hf,λy hy hc=>?_⟩
    rcases hc with hc | ⟨hc,hlt⟩
    ·exact hno y hy (by lia)
    ·have hmy:y∈TT w g:=Qi (by rw [<-hwg];exact hy) (by lia)
     cases ha:apt ts (Ck y) with
     | false=>rfl
     | true=>have:=N0 (Qh w g) hf y hmy ha;rw [hlt] at this;cases this)
  (by
   rintro e S' ⟨K,hno,z1,z2,rfl⟩
   have e0:(N3 (p:Int) (p - 1)).length=p - 1:=by unfold N3;simp
   rw [e0] at hno
   exact ⟨K,.inl ⟨⟨_,_,rfl⟩,λy hy hl=>hno y hy (by lia)⟩⟩)
 rcases h2 with ⟨⟨z1,z2,rfl⟩,hno⟩ | ⟨s,rfl,hB⟩
 ·refine ⟨[0],S',CP (n:=3) (mb:=EE W) ?_,K,?_⟩
  ·unfold EE
   exact (Av s1).trans ((Av ((Cj hr).trans h1)).trans rfl)
  ·have hir:(0:Int)∉nr ts 0:=λhx=>by
    rcases KD.mp hx with h | h <;> · have:=(hu.1 _ h).2.1;simp at this
   refine ⟨⟨CB _ _,λx hx=>by rw [AL.mp hx];lia⟩,by unfold apt Ck;simpa using hir,λy hy hc=>?_⟩
   rcases hc with hc | ⟨hc,hlt⟩
   ·exact hno y hy (by simpa using hc)
   ·exfalso
    match y,hc,hy,hlt with
    | [a],_,hy,hlt=>
     have:=(hy.at' a (by simp)).1;rw [ltL] at hlt
     by_cases e:a=0
     ·rw [if_pos e] at hlt;cases hlt
     ·rw [if_neg e] at hlt
      have:=of_decide_eq_true hlt
      lia
 ·refine ⟨s,S',CP (n:=3) (mb:=EE W) ?_,K,hB⟩
  unfold EE;exact (Av s1).trans (La ((Cj hr).trans h1))
end M
namespace M
open PySem L2
open Srt (ltL)
def okJ (ts:List (Int×Int)) (c:List Int) (x:Nat):Bool:=c.all λy=>decide (y∈nr ts x)
def putAt (cs:List (List Int)) (k:Nat) (c:List Int):List (List Int):=cs.take k++[c]++cs.drop (k+1)
def grow (ts:List (Int×Int)) (most:Nat) (x:Nat) (cs:List (List Int)):List (List (List Int)):=
 ((Ac cs.length).filterMap λk=>if okJ ts (cs.getD k []) x then some (putAt cs k (cs.getD k []++[(x:Int)])) else none)++(if cs.length < most then [cs++[[(x:Int)]]] else [])
def lv (ts:List (Int×Int)) (most:Nat):Nat->Nat->List (List Int)->List (List (List Int))
 | 0,_,cs=>[cs]
 | n+1,x,cs=>(grow ts most x cs).flatMap (lv ts most n (x+1))
theorem GY {ts:List (Int×Int)} {most x:Nat} {cs ds:List (List Int)}:ds∈grow ts most x cs↔(∃k c,cs[k]?=some c/\okJ ts c x=true/\ds=putAt cs k (c++[(x:Int)]))∨cs.length < most/\ds=cs++[[(x:Int)]]:=by
 unfold grow;rw [Aj,LN]
 constructor
 ·rintro (⟨k,hk,h⟩ | h)
  ·have hk:=CM.mp hk
   rw [HN,Aw hk] at h;split at h
   ·rename_i ho
    cases h;exact .inl ⟨k,cs[k],Aw hk,ho,rfl⟩
   ·cases h
  ·split at h
   ·rename_i hl
    exact .inr ⟨hl,AL.mp h⟩
   ·cases h
 ·rintro (⟨k,c,h1,h2,rfl⟩ | ⟨h1,rfl⟩)
  ·refine .inl ⟨k,CM.mpr (AG.mp h1).1,?_⟩
   rw [HN,h1];exact if_pos h2
  ·rw [if_pos h1]
   exact .inr (AL.mpr rfl)
theorem UJ {ts:List (Int×Int)} {m m':Nat} (h:m<=m'):∀(n x:Nat) (cs ds:List (List Int)),ds∈lv ts m n x cs->ds∈lv ts m' n x cs
 | 0,_,_,_,hd=>hd
 | n+1,x,cs,ds,hd=>by
  obtain ⟨es,h1,h2⟩:=Bs.mp hd;refine Bs.mpr ⟨es,GY.mpr ?_,UJ h n (x+1) es ds h2⟩
  rcases GY.mp h1 with h1 | ⟨h1,e⟩
  ·exact .inl h1
  ·exact .inr ⟨by lia,e⟩
theorem Zp {ts:List (Int×Int)} {m m':Nat} (h:m<=m') {n x:Nat} {cs:List (List Int)} (he:lv ts m' n x cs=[]):lv ts m n x cs=[]:=by
 cases hq:lv ts m n x cs with
 | nil=>rfl
 | cons d l=>have:=UJ h n x cs d (by rw [hq];exact A6);rw [he] at this;cases this
structure Cl (ts:List (Int×Int)) (x:Nat) (c:List Int):Prop where
 ne:c≠[]
 st:St x c
 near:∀y∈c,∀z∈c,y≠z->z∈nr ts y.toNat
structure Row (ts:List (Int×Int)) (most x:Nat) (cs:List (List Int)):Prop where
 cl:∀c∈cs,Cl ts x c
 all:cs.flatten.Perm ((Ac x).map λy:Nat=>(y:Int))
 few:cs.length<=most
 up:(cs.map λc=>c.headD (-1)).Pairwise (· < ·)
theorem St.snoc {x:Nat} {c:List Int} (h:St x c):St (x+1) (c++[(x:Int)]):=⟨BN.mpr ⟨h.up,CB _ _,λa ha b hb=>by rw [AL.mp hb];exact (h.at' a ha).2⟩,λa ha=>by
 rcases Aj.mp ha with ha | ha
 ·have:=h.at' a ha;lia
 ·rw [AL.mp ha];lia⟩
theorem St.next {x:Nat} {c:List Int} (h:St x c):St (x+1) c:=⟨h.up,λa ha=>by have:=h.at' a ha;lia⟩
theorem QD {ts:List (Int×Int)} {x:Nat} {y:Int} (h0:0<=y):y∈nr ts x↔(x:Int)∈nr ts y.toNat:=by
 obtain ⟨n,rfl⟩:∃n:Nat,y=n:=⟨y.toNat,by lia⟩
 exact QC
theorem Cl.snoc {ts:List (Int×Int)} {x:Nat} {c:List Int} (h:Cl ts x c) (ho:okJ ts c x=true):Cl ts (x+1) (c++[(x:Int)]):=by
 have hn:∀y∈c,y∈nr ts x:=λy hy=>of_decide_eq_true (BW.mp ho y hy)
 refine ⟨by simp,h.st.snoc,λy hy z hz hyz=>?_⟩
 rcases Aj.mp hy with hy | hy
 ·rcases Aj.mp hz with hz | hz
  ·exact h.near y hy z hz hyz
  ·rw [AL.mp hz]
   exact (QD (h.st.at' y hy).1).mp (hn y hy)
 ·rw [AL.mp hy] at hyz ⊢
  rcases Aj.mp hz with hz | hz
  ·exact hn z hz
  ·exact absurd (AL.mp hz).symm hyz
theorem Cl.next {ts:List (Int×Int)} {x:Nat} {c:List Int} (h:Cl ts x c):Cl ts (x+1) c:=⟨h.ne,h.st.next,h.near⟩
theorem NZ (x:Nat):((Ac (x+1)).map λy:Nat=>(y:Int))=((Ac x).map λy:Nat=>(y:Int))++[(x:Int)]:=by
 rw [DB,A3];rfl
theorem Vk {c:List Int} (h:c≠[]) (x:Int):(c++[x]).headD (-1)=c.headD (-1):=by
 cases c with
 | nil=>exact absurd rfl h
 | cons _ _=>rfl
theorem RG {cs:List (List Int)} {k:Nat} {c:List Int} (h:cs[k]?=some c):cs=cs.take k++[c]++cs.drop (k+1):=by
 obtain ⟨hlt,e⟩:=AG.mp h;have:=Ct k cs;rw [By hlt,e] at this;simpa using this.symm
theorem PK {cs:List (List Int)} {k:Nat} {c d:List Int} (h:cs[k]?=some c):(putAt cs k d).length=cs.length:=by
 conv=>rhs;rw [RG h]
 unfold putAt;simp
theorem Row.grow {ts:List (Int×Int)} {most x:Nat} {cs ds:List (List Int)} (h:Row ts most x cs) (hd:ds∈M.grow ts most x cs):Row ts most (x+1) ds:=by
 rcases GY.mp hd with ⟨k,c,hk,ho,rfl⟩ | ⟨hl,rfl⟩
 ·have hc:=h.cl c (Ai hk)
  have es:=RG hk;refine ⟨λd hd=>?_,?_,by rw [PK hk];exact h.few,?_⟩
  ·unfold putAt at hd
   rcases Aj.mp hd with hd | hd
   ·rcases Aj.mp hd with hd | hd
    ·exact (h.cl d (To hd)).next
    ·rw [AL.mp hd];exact hc.snoc ho
   ·exact (h.cl d (List.mem_of_mem_drop hd)).next
  ·rw [NZ]
   refine Tr ?_ (h.all.append_right _)
   conv=>rhs;rw [es]
   unfold putAt;simp only [KP,Di,List.flatten_nil,Bq,BJ];exact EF _ (EF _ JW)
  ·have hu:=h.up
   rw [es] at hu;unfold putAt;rw [A3,A3] at hu ⊢
   have e:[c++[(x:Int)]].map (λc:List Int=>c.headD (-1))=[c].map (λc:List Int=>c.headD (-1)):=by
    show [(c++[(x:Int)]).headD (-1)]=[c.headD (-1)];rw [Vk hc.ne]
   rw [e];exact hu
 ·refine ⟨λd hd=>?_,?_,by rw [A2,JY];lia,?_⟩
  ·rcases Aj.mp hd with hd | hd
   ·exact (h.cl d hd).next
   ·rw [AL.mp hd]
    exact ⟨by simp,⟨CB _ _,λa ha=>by rw [AL.mp ha];lia⟩,λy hy z hz hyz=>absurd ((AL.mp hy).trans (AL.mp hz).symm) hyz⟩
  ·rw [NZ,KP]
   simpa using h.all.append_right [(x:Int)]
  ·rw [A3]
   refine BN.mpr ⟨h.up,CB _ _,λa ha b hb=>?_⟩;rw [AL.mp hb];obtain ⟨c,hc,rfl⟩:=BF.mp ha;have:=h.cl c hc;show c.headD (-1) < (x:Int)
   cases c with
   | nil=>exact absurd rfl this.ne
   | cons y c=>exact (this.st.at' y A6).2
theorem Row.lv {ts:List (Int×Int)} {most:Nat}:∀(n x:Nat) {cs ds:List (List Int)},Row ts most x cs->ds∈M.lv ts most n x cs->Row ts most (x+n) ds
 | 0,x,cs,ds,h,hd=>by rw [AL.mp hd];exact h
 | n+1,x,cs,ds,h,hd=>by
  obtain ⟨es,h1,h2⟩:=Bs.mp hd;have:=Row.lv n (x+1) (h.grow h1) h2;rw [show x+1+n=x+(n+1) by lia] at this;exact this
theorem Row.nil (ts:List (Int×Int)) (most:Nat):Row ts most 0 []:=⟨λ_ h=>absurd h D5,.refl _,EK _,O2⟩
end M
namespace M
open PySem L2
open Srt (ltL)
theorem Xb:∀(p:Nat) (l:List Int),l.Nodup->(∀z∈l,0<=z/\z < p)->l.length<=p
 | 0,l,_,h=>by
  cases l with
  | nil=>exact AS _
  | cons a l=>have:=h a (by simp);lia
 | p+1,l,nd,h=>by
  by_cases c:(p:Int)∈l
  ·have h1:=Qq c
   have hpos:0 < l.length:=SD c
   have i1:=Xb p (l.erase (p:Int)) (nd.erase _) λz hz=>by
    obtain ⟨hz1,hz2⟩:=nd.mem_erase_iff.mp hz;have:=h z hz2
    lia
   lia
  ·have i1:=Xb p l nd λz hz=>by
    have:=h z hz
    have:z≠p:=λe=>c (e▸hz)
    lia
   lia
theorem Row.pig {ts:List (Int×Int)} {most p:Nat} {cs:List (List Int)} {s:List Int} (h:Row ts most p cs) (hs:St p s) (ha:apt ts (Ck s)=true):s.length<=cs.length:=by
 have hin:∀y∈s,∃c∈cs,y∈c:=λy hy=>by
  have b:=hs.at' y hy;have:y∈cs.flatten:=h.all.mem_iff.mpr (BF.mpr ⟨y.toNat,CM.mpr (by lia),D7 b.1⟩);obtain ⟨c,hc,hy⟩:=List.mem_flatten.mp this;exact ⟨c,hc,hy⟩
 have hlt:∀y∈s,cs.findIdx (λc=>decide (y∈c)) < cs.length:=λy hy=>by
  obtain ⟨c,hc,hy⟩:=hin y hy;exact List.findIdx_lt_length_of_exists ⟨c,hc,decide_eq_true hy⟩
 have hat:∀y∈s,∃c,cs[cs.findIdx (λc=>decide (y∈c))]?=some c/\y∈c:=λy hy=>⟨_,Aw (hlt y hy),of_decide_eq_true (List.findIdx_getElem (p:=λc=>decide (y∈c)) (w:=hlt y hy))⟩
 have hap:∀y∈s,∀z∈s,z∉nr ts y.toNat:=λy hy z hz hq=>by
  have:=BW.mp (BW.mp ha y.toNat (B5 hy)) z.toNat (B5 hz);rw [D7 (hs.at' z hz).1] at this;simp [hq] at this
 have nd:(s.map λy=>((cs.findIdx λc=>decide (y∈c):Nat):Int)).Nodup:=by
  refine Cg.mpr (hs.up.imp_of_mem λ{y z} hy hz hyz e=>?_);have e':cs.findIdx (λc=>decide (y∈c))=cs.findIdx (λc=>decide (z∈c)):=Int.ofNat.inj e;obtain ⟨c,h1,h2⟩:=hat y hy;obtain ⟨d,h3,h4⟩:=hat z hz;rw [<-e',h1] at h3;cases h3;exact hap y hy z hz ((h.cl c (Ai h1)).near y h2 z h4 (by lia))
 have:=Xb cs.length _ nd λz hz=>by
  obtain ⟨y,hy,rfl⟩:=BF.mp hz;have:=hlt y hy
  lia
 simpa using this
theorem Nc:∀ {xs:List Nat} {p:Nat×Nat},xs.Nodup->p∈pairsOf xs->p.1≠p.2
 | a :: xs,p,nd,h=>by
  obtain ⟨n1,n2⟩:=EV.mp nd
  rcases Aj.mp h with h | h
  ·obtain ⟨y,hy,rfl⟩:=BF.mp h
   exact λe=>n1 (by have e:a=y:=e;rw [e];exact hy)
  ·exact Nc n2 h
theorem Zn {p:Nat} {s:List Int} (h:St p s):(Ck s).Nodup:=by
 unfold Ck;refine Cg.mpr (h.up.imp_of_mem λ{a b} ha hb hab e=>?_);have:=(h.at' a ha).1;have:=(h.at' b hb).1
 lia
theorem JF {p:Nat} {s:List Int} (h:St p s) {a:Nat}:a∈Ck s↔(a:Int)∈s:=by
 constructor
 ·intro ha
  obtain ⟨y,hy,rfl⟩:=BF.mp ha;rw [D7 (h.at' y hy).1];exact hy
 ·intro ha
  exact BF.mpr ⟨(a:Int),ha,Bf a⟩
theorem YF {ts:List (Int×Int)} {c:List Int} {x:Nat} (hc:Cl ts x c):(pairsOf (Ck (c++[(x:Int)]))).find? (nq ts false)=none↔okJ ts c x=true:=by
 have hst:=hc.st.snoc;rw [Cu]
 constructor
 ·intro h
  refine BW.mpr λy hy=>decide_eq_true ?_
  have b:=hc.st.at' y hy
  obtain ⟨n,rfl⟩:∃n:Nat,y=n:=⟨y.toNat,by lia⟩
  have m1:n∈Ck (c++[(x:Int)]):=(JF hst).mpr (CF _ hy);have m2:x∈Ck (c++[(x:Int)]):=(JF hst).mpr (Ay _ (by simp))
  have key:∀a b:Nat,(a,b)∈pairsOf (Ck (c++[(x:Int)]))->(b:Int)∈nr ts a:=λa b hab=>by
   have:=h (a,b) hab;unfold nq at this;simpa using this
  rcases KA m1 m2 with e | e | e
  ·lia
  ·exact QC.mp (key n x e)
  ·exact key x n e
 ·intro ho p hp
  obtain ⟨h1,h2⟩:=JE hp;have hne:=Nc (Zn hst) hp;have:=(hc.snoc ho).near p.1 ((JF hst).mp h1) p.2 ((JF hst).mp h2) (by lia);rw [Bf] at this;unfold nq;simpa using this
theorem Xv (o:Option (Nat×Nat)) (S:Sto):Iu false (XQ o) .non S=.ok (.bl o.isNone) S:=by cases o <;> rfl
theorem aF {W:Wd} {S:Sto} {q p x:Nat} {ts:List (Int×Int)} {c:List Int} (hw:DJ W S q p (Fd ts)) (hu:Cm p 0 ts) (hc:Cl ts x c) (hx:x < p):IC W [.ref q,Az (c++[(x:Int)])] S=.ok (.bl (okJ ts c x)) S:=by
 have hst:=hc.st.snoc
 have hlt:∀y∈Ck (c++[(x:Int)]),y < p:=λy hy=>by have:=QF hst y hy;lia
 have q1:JN W [.ref q,Az (c++[(x:Int)])] S=.ok (XQ ((pairsOf (Ck (c++[(x:Int)]))).find? (nq ts false))) S:=by
  rw [LX hst];refine CP ?_;unfold MP;exact FB ((BL (ds:=[.ref q,.tup ((Ck (c++[(x:Int)])).map B9),.bl false]) (S1:=S) rfl rfl).trans (T9 hw hu hlt false))
 refine CP (n:=2) (mb:=Lq W) ?_;unfold Lq;refine FB (aR (BD (Gg (d:=Az (c++[(x:Int)])) (ds:=(c++[(x:Int)]).map D.int) rfl rfl) rfl (QO (decide_eq_true (by simp)))) ?_);refine (BD ((BL (ds:=[.ref q,Az (c++[(x:Int)])]) (S1:=S) rfl rfl).trans q1) rfl (Xv _ _)).trans ?_
 congr 2
 rw [OJ,OP];exact YF hc
end M
namespace M
open PySem L2
open Srt (ltL)
theorem St.len {p:Nat} {y:List Int} (hy:St p y):y.length<=p:=by
 by_cases c:y=[]
 ·rw [c];simp
 ·have hpos:0 < y.length:=by cases y with | nil=>exact absurd rfl c | cons _ _=>simp
  have h0:y[0]?=some y[0]:=Aw hpos;have hL:y[y.length - 1]?=some y[y.length - 1]:=Aw (by omega);have hg:=hy.gap 0 (y.length - 1) h0 hL (by lia);have b0:=(hy.at' _ (Ai h0)).1;have b1:=(hy.at' _ (Ai hL)).2
  lia
inductive Rws (S:Sto):List Nat->List (List (List Int))->Prop
 | nil:Rws S [] []
 | cons {r:Nat} {ds:List (List Int)} {rs:List Nat} {dss:List (List (List Int))}:S[r]?=some (.lst (ds.map Az))->Rws S rs dss->Rws S (r :: rs) (ds :: dss)
theorem Rws.mono {S S':Sto} {rs:List Nat} {dss:List (List (List Int))} (h:Rws S rs dss) (k:∀r∈rs,∀o,S[r]?=some o->S'[r]?=some o):Rws S' rs dss:=by
 induction h with
 | nil=>exact .nil
 | cons h1 _ ih=>exact .cons (k _ A6 _ h1) (ih λr hr=>k r (Al _ hr))
theorem Rws.snoc {S:Sto} {rs:List Nat} {dss:List (List (List Int))} {r:Nat} {ds:List (List Int)} (h:Rws S rs dss) (hr:S[r]?=some (.lst (ds.map Az))):Rws S (rs++[r]) (dss++[ds]):=by
 induction h with
 | nil=>exact .cons hr .nil
 | cons h1 _ ih=>exact .cons h1 ih
theorem Rws.len {S:Sto} {rs:List Nat} {dss:List (List (List Int))} (h:Rws S rs dss):rs.length=dss.length:=by
 induction h with
 | nil=>rfl
 | cons _ _ ih=>rw [BA,BA,ih]
theorem Rws.get {S:Sto} {rs:List Nat} {dss:List (List (List Int))} (h:Rws S rs dss):∀ {i r:Nat},rs[i]?=some r->∃ds,dss[i]?=some ds/\S[r]?=some (.lst (ds.map Az)):=by
 induction h with
 | nil=>intro i r hr;cases hr
 | cons h1 _ ih=>
  intro i r hr
  cases i with
  | zero=>cases hr;exact ⟨_,rfl,h1⟩
  | succ i=>exact ih hr
abbrev cu:ME:=m2 CQ (m2 CQ (Hg (AC 1) Hv (Gn (AC 5))) (Ce (BX (AE (AC 7) AY)))) (Hg (AC 1) (Gn (m2 CQ (AC 5) (mC (.int 1)))) Hv)
theorem bz {S:Sto} {n k:Nat} {cs:List (List Int)} {c d:List Int} {d0 d2 d3 d4 d6:D} (hn:S[n]?=some (.lst (cs.map Az))) (hk:cs[k]?=some c) (hl:cs.length<=60) :
  ∃r S',cu [some d0,some (.ref n),some d2,some d3,some d4,some (.int k),some d6,some (Az d)] S=.ok (.ref r) S'/\Keeps S S'/\S.length<=r/\S'[r]?=some (.lst ((putAt cs k d).map Az)):=by
 have hlt:=(AG.mp hk).1
 have b1:Hg (AC 1) Hv (Gn (AC 5)) [some d0,some (.ref n),some d2,some d3,some d4,some (.int k),some d6,some (Az d)] S=.ok (.ref S.length) (S++[.lst ((cs.take k).map Az)]):=by
  show okR (IQ (.ref n) none (some (k:Int)) S)=_;rw [O8 hn,N4,dq cs (by lia)];rfl
 have K1:Keeps S (S++[.lst ((cs.take k).map Az)]):=Keeps.app _ _;have a1:=K1.at hn;have n1:=Bx S (.lst ((cs.take k).map Az))
 have l1:S.length<=(S++[Ob.lst ((cs.take k).map Az)]).length:=by simp
 generalize S++[Ob.lst ((cs.take k).map Az)]=S1 at b1 K1 a1 n1 l1;have b2:Ce (BX (AE (AC 7) AY)) [some d0,some (.ref n),some d2,some d3,some d4,some (.int k),some d6,some (Az d)] S1=.ok (.ref S1.length) (S1++[.lst [Az d]]):=FL (Hy (ds:=[Az d]) rfl (by simp));have b3:=OD ((Keeps.app S1 [.lst [Az d]]).at n1) (Bx S1 (.lst [Az d])) (by rw [AK,B4];simp;lia);have K3:Keeps S1 (S1++[.lst [Az d]]++[.lst ((cs.take k).map Az++[Az d])]):=(Keeps.app _ _).trans (Keeps.app _ _);have a3:=K3.at a1;have n3:=Bx (S1++[.lst [Az d]]) (.lst ((cs.take k).map Az++[Az d]))
 have l3:S.length<=(S1++[Ob.lst [Az d]]++[Ob.lst ((cs.take k).map Az++[Az d])]).length:=by simp;lia
 generalize S1++[Ob.lst [Az d]]++[Ob.lst ((cs.take k).map Az++[Az d])]=S3 at b3 K3 a3 n3 l3;generalize (S1++[Ob.lst [Az d]]).length=m at b3 n3
 have b4:Hg (AC 1) (Gn (m2 CQ (AC 5) (mC (.int 1)))) Hv [some d0,some (.ref n),some d2,some d3,some d4,some (.int k),some d6,some (Az d)] S3=.ok (.ref S3.length) (S3++[.lst ((cs.drop (k+1)).map Az)]):=by
  show okR (IQ (.ref n) (some ((k:Int)+1)) none S3)=_;rw [O8 a3,show ((k:Int)+1)=((k+1:Nat):Int) by lia,N4,Rv cs (by lia)];rfl
 have b5:=OD ((Keeps.app S3 [.lst ((cs.drop (k+1)).map Az)]).at n3) (Bx S3 (.lst ((cs.drop (k+1)).map Az))) (by simp;omega)
 have e5:(cs.take k).map Az++[Az d]++(cs.drop (k+1)).map Az=(putAt cs k d).map Az:=by unfold putAt;simp
 rw [e5] at b5;exact ⟨_,_,BD (BD b1 b2 b3) b4 b5,(K1.trans K3).trans ((Keeps.app S3 _).trans (Keeps.app _ _)),by simp;lia,Bx _ _⟩
def Kt (ts:List (Int×Int)) (x:Nat) (cs:List (List Int)) (k:Nat):Option (List (List Int)):=if okJ ts (cs.getD k []) x then some (putAt cs k (cs.getD k []++[(x:Int)])) else none
theorem PR (ts:List (Int×Int)) (x:Nat) (cs:List (List Int)) (i:Nat):(Ac (i+1)).filterMap (Kt ts x cs)=(Ac i).filterMap (Kt ts x cs)++(Kt ts x cs i).toList:=by
 rw [DB,List.filterMap_append]
 congr 1
theorem Yv {W:Wd} {S:Sto} {q p x n:Nat} {most:Int} {ts:List (Int×Int)} {cs:List (List Int)} (hw:DJ W S q p (Fd ts)) (hu:Cm p 0 ts) (hc:∀c∈cs,Cl ts x c) (hx:x < p) (hp:p<=60) (hl:cs.length<=60) (hn:S[n]?=some (.lst (cs.map Az))) {mo:Nat} (hm:most=mo) :
  ∃t S' rs,Fm W [.ref q,.ref n,.int x,.int most] S=.ok (.ref t) S'/\Keeps S S'/\S'[t]?=some (.lst (rs.map D.ref))/\Rws S' rs (grow ts mo x cs)/\∀r∈rs,S.length < r:=by
 subst hm
 have hlen:∀i,((Ac i).filterMap (Kt ts x cs)).length<=i:=λi=>Aq (List.length_filterMap_le _ _) (by simp)
 obtain ⟨f,S1,h1,⟨z5,z6,z7,rs,rfl,K1,t1,r1,w1⟩⟩:=C9 (v:=MA (C2 (.ref n))) (g:=Gm 2 (CZ (tgN 5) (CZ (tgN 6) G1))) (b:=BK (Bp 7 (m2 CQ (AC 6) (EC (AE (AC 2) AY)))) (sIf (Ra (A0 2 (IC W) (AE (AC 0) (AE (AC 7) AY)))) (B7 (FH (AC 4) cu)) sNx)) (xs:=JR (cs.map Az)) (e:=[some (.ref q),some (.ref n),some (.int x),some (.int mo),some (.ref S.length),none,none,none]) (S:=S++[.lst []])
  (λi e S'=>∃z5 z6 z7 rs,e=[some (.ref q),some (.ref n),some (.int x),some (.int mo),some (.ref S.length),z5,z6,z7]/\Keeps S S'/\S'[S.length]?=some (.lst (rs.map D.ref))/\(∀r∈rs,S.length < r)/\Rws S' rs ((Ac i).filterMap (Kt ts x cs)))
  (λf S'=>∃z5 z6 z7 rs,f=.nx [some (.ref q),some (.ref n),some (.int x),some (.int mo),some (.ref S.length),z5,z6,z7]/\Keeps S S'/\S'[S.length]?=some (.lst (rs.map D.ref))/\(∀r∈rs,S.length < r)/\Rws S' rs ((Ac cs.length).filterMap (Kt ts x cs)))
  ⟨none,none,none,[],rfl,Keeps.app _ _,Bx _ _,λ_ h=>absurd h D5,.nil⟩
  (by
   rintro i e S' ⟨_,_,_,_,_,K,_⟩;show (C2 (.ref n) S').map JR=_;rw [C1 (K.at hn)]
   rfl)
  (by
   rintro i d e S' hd ⟨z5,z6,z7,rs,rfl,K,t,hr,w⟩;rw [IZ,AV] at hd
   cases hq:cs[i]? with
   | none=>rw [hq] at hd;cases hd
   | some c=>
    rw [hq] at hd;cases hd;have hcc:=hc c (Ai hq);have hi:=(AG.mp hq).1;have hw':=hw.keeps K;have hcl:=hcc.st.len;refine ⟨[some (.ref q),some (.ref n),some (.int x),some (.int mo),some (.ref S.length),some (.int i),some (Az c),z7],S',rfl,?_⟩
    have s7:Bp 7 (m2 CQ (AC 6) (EC (AE (AC 2) AY))) [some (.ref q),some (.ref n),some (.int x),some (.int mo),some (.ref S.length),some (.int i),some (Az c),z7] S'=.ok (.nx [some (.ref q),some (.ref n),some (.int x),some (.int mo),some (.ref S.length),some (.int i),some (Az c),some (Az (c++[(x:Int)]))]) S':=by
     refine C7 (i:=7) ((BD (S1:=S') (x:=Az c) rfl (IN (ds:=[.int x]) rfl (by simp)) (Tw (S:=S') (xs:=c.map D.int) (ys:=[.int x]) (by rw [AK];exact Aq (show c.length+1<=1000 by lia) (by decide)))).trans ?_);unfold Az;rw [A3];rfl
    have ic:=DP (a:=B7 (FH (AC 4) cu)) (b:=sNx) (bd (m:=A0 2 (IC W) (AE (AC 0) (AE (AC 7) AY))) (e:=[some (.ref q),some (.ref n),some (.int x),some (.int mo),some (.ref S.length),some (.int i),some (Az c),some (Az (c++[(x:Int)]))]) ((BL (ds:=[.ref q,Az (c++[(x:Int)])]) (S1:=S') rfl rfl).trans (aF hw' hu hcc hx)))
    have eF:Kt ts x cs i=if okJ ts c x then some (putAt cs i (c++[(x:Int)])) else none:=by
     unfold Kt;rw [HN,hq];rfl
    cases ho:okJ ts c x with
    | false=>
     rw [ho] at ic eF;refine ⟨_,_,(Av s7).trans (ic.trans rfl),_,_,_,rs,rfl,K,t,hr,?_⟩;rw [PR,eF];simpa using w
    | true=>
     rw [ho] at ic eF;obtain ⟨r,S2,p1,K2,p3,p4⟩:=bz (d0:=.ref q) (d2:=.int x) (d3:=.int mo) (d4:=.ref S.length) (d6:=Az c) (d:=c++[(x:Int)]) (K.at hn) hq hl;have t2:=K2.at t;have hlt:S.length < S'.length:=(AG.mp t).1;have hlt2:S.length < S2.length:=(AG.mp t2).1;have a2:=Hj (mo:=AC 4) (e:=[some (.ref q),some (.ref n),some (.int x),some (.int mo),some (.ref S.length),some (.int i),some (Az c),some (Az (c++[(x:Int)]))]) rfl t p1 t2 (by rw [AK,w.len];exact A7 (Aq (hlen i) (show i<=100 by lia)) (by decide));refine ⟨_,_,(Av s7).trans (ic.trans ((if_pos rfl).trans (ED a2))),_,_,_,rs++[r],rfl,(K.trans K2).set (AS _) _,?_,?_,?_⟩
     ·rw [As hlt2,A3]
      rfl
     ·intro r' hr'
      rcases Aj.mp hr' with h | h
      ·exact hr r' h
      ·rw [AL.mp h];lia
     ·rw [PR,eF]
      refine Rws.snoc (w.mono λr' hr' o ho'=>?_) ?_
      ·rw [A9 (by have:=hr r' hr';lia)]
       exact K2.at ho'
      ·rw [A9 (by lia)]
       exact p4)
  (by
   rintro e S' ⟨z5,z6,z7,rs,rfl,K,t,hr,w⟩;rw [N2,AK] at w
   exact ⟨_,_,_,rs,rfl,K,t,hr,w⟩)
 have hw1:=hw.keeps K1;have n1:=K1.at hn;have hlt:S.length < S1.length:=(AG.mp t1).1
 have hi:Lk (AC 1) [some (.ref q),some (.ref n),some (.int x),some (.int mo),some (.ref S.length),none,none,none] (S++[.lst []])=.ok (MA (C2 (.ref n))) (S++[.lst []]):=by
  unfold Lk;show (match C2 (.ref n) (S++[Ob.lst []]) with | some _=>Res.ok (MA (C2 (.ref n))) (S++[Ob.lst []]) | none=>.bad)=_;rw [C1 ((Keeps.app S [.lst []]).at hn)]
 have eg:grow ts mo x cs=(Ac cs.length).filterMap (Kt ts x cs)++(if cs.length < mo then [cs++[[(x:Int)]]] else []):=rfl
 have tl:mB (m2 ltD (Eb (AC 1)) (AC 3)) [some (.ref q),some (.ref n),some (.int x),some (.int mo),some (.ref S.length),z5,z6,z7] S1=.ok (decide (cs.length < mo)) S1:=by
  refine E5 (BD (Gg (d:=.ref n) rfl (Ep n1)) rfl (JI ?_));rw [AK];exact decide_eq_decide.mpr (by omega)
 have il:=DP (a:=B7 (FH (AC 4) (m2 CQ (AC 1) (Ce (BX (AE (EC (AE (AC 2) AY)) AY)))))) (b:=sNx) tl
 have go:∀(S2:Sto),sIf (mB (m2 ltD (Eb (AC 1)) (AC 3))) (B7 (FH (AC 4) (m2 CQ (AC 1) (Ce (BX (AE (EC (AE (AC 2) AY)) AY)))))) sNx [some (.ref q),some (.ref n),some (.int x),some (.int mo),some (.ref S.length),z5,z6,z7] S1=.ok (.nx [some (.ref q),some (.ref n),some (.int x),some (.int mo),some (.ref S.length),z5,z6,z7]) S2->Fm W [.ref q,.ref n,.int x,.int mo] S=.ok (.ref S.length) S2:=λS2 h=>by
  refine CP (n:=8) (mb:=Ib W) ?_;unfold Ib;exact (Av (e1:=[some (.ref q),some (.ref n),some (.int x),some (.int mo),some (.ref S.length),none,none,none]) (S1:=S++[.lst []]) rfl).trans ((Av ((Cj hi).trans h1)).trans ((Av h).trans rfl))
 by_cases c:cs.length < mo
 ·rw [decide_eq_true c] at il
  have b2:Ce (BX (AE (EC (AE (AC 2) AY)) AY)) [some (.ref q),some (.ref n),some (.int x),some (.int mo),some (.ref S.length),z5,z6,z7] S1=.ok (.ref S1.length) (S1++[.lst [Az [(x:Int)]]]):=FL (Hy (ds:=[Az [(x:Int)]]) (BQ (IN (ds:=[.int x]) rfl (by simp)) rfl) (by simp));have b3:=OD ((Keeps.app S1 [.lst [Az [(x:Int)]]]).at n1) (Bx S1 (.lst [Az [(x:Int)]])) (by rw [AK];simp;lia)
  have e3:cs.map Az++[Az [(x:Int)]]=(cs++[[(x:Int)]]).map Az:=by simp
  rw [e3] at b3;have p1:=BD (f:=CQ) (ma:=AC 1) (x:=.ref n) (e:=[some (.ref q),some (.ref n),some (.int x),some (.int mo),some (.ref S.length),z5,z6,z7]) (S1:=S1) rfl b2 b3;have K2:Keeps S1 (S1++[.lst [Az [(x:Int)]]]++[.lst ((cs++[[(x:Int)]]).map Az)]):=(Keeps.app _ _).trans (Keeps.app _ _);have p4:=Bx (S1++[.lst [Az [(x:Int)]]]) (.lst ((cs++[[(x:Int)]]).map Az))
  have p3:S1.length<=(S1++[Ob.lst [Az [(x:Int)]]]).length:=by simp
  generalize S1++[Ob.lst [Az [(x:Int)]]]++[Ob.lst ((cs++[[(x:Int)]]).map Az)]=S2 at p1 K2 p4;generalize (S1++[Ob.lst [Az [(x:Int)]]]).length=r at p1 p3 p4;have t2:=K2.at t1;have hlt2:S.length < S2.length:=(AG.mp t2).1;have a2:=Hj (mo:=AC 4) (e:=[some (.ref q),some (.ref n),some (.int x),some (.int mo),some (.ref S.length),z5,z6,z7]) rfl t1 p1 t2 (by rw [AK,w1.len];exact A7 (Aq (hlen _) (show cs.length<=100 by lia)) (by decide));refine ⟨_,_,rs++[r],go _ (il.trans ((if_pos rfl).trans (ED a2))),(K1.trans K2).set (AS _) _,?_,?_,λr' hr'=>?_⟩
  ·rw [As hlt2,A3]
   rfl
  ·rw [eg,if_pos c]
   refine Rws.snoc (w1.mono λr' hr' o ho'=>?_) ?_
   ·rw [A9 (by have:=r1 r' hr';lia)]
    exact K2.at ho'
   ·rw [A9 (by lia)]
    exact p4
  ·rcases Aj.mp hr' with h | h
   ·exact r1 r' h
   ·rw [AL.mp h];lia
 ·rw [decide_eq_false c] at il
  refine ⟨_,S1,rs,go _ (il.trans rfl),K1,t1,?_,r1⟩;rw [eg,if_neg c,Bq];exact w1
end M
namespace M
open PySem L2
open Srt (ltL)
abbrev bB (fr:List D->Sto->Res D):MS:=BK (Bp 5 (A0 4 fr (AE (AC 0) (AE (AC 4) (AE (m2 CQ (AC 2) (mC (.int 1))) (AE (AC 3) AY)))))) (sIf (mB (m2 (Iu true) (AC 5) (mC .non))) (Cw (AC 5)) sNx)
theorem T8 (W:Wd) {q p mo:Nat} {ts:List (Int×Int)} (hu:Cm p 0 ts) (hp:p<=60) (hmo:mo<=60) (B:Nat):∀(n fuel x:Nat) {S:Sto} {r:Nat} {cs:List (List Int)},n < fuel->x+n=p->DJ W S q p (Fd ts)->Row ts mo x cs->S[r]?=some (.lst (cs.map Az))->B<=r->B<=S.length ->
  ∃d S',BY W fuel [.ref q,.ref r,.int x,.int mo] S=.ok d S'/\Keeps S S'/\((d=.non/\lv ts mo n x cs=[])∨∃r' ds,d=.ref r'/\ds∈lv ts mo n x cs/\S'[r']?=some (.lst (ds.map Az))/\B<=r')
 | _,0,_,_,_,_,h,_,_,_,_,_,_=>absurd h (OQ _)
 | 0,f+1,x,S,r,cs,_,hx,hw,hr,hs,hb,hbs=>by
  refine ⟨.ref r,S,?_,Keeps.refl _,.inr ⟨r,cs,rfl,AL.mpr rfl,hs,hb⟩⟩;show D4 6 (CK W (BY W f)) [.ref q,.ref r,.int x,.int mo] S=_;refine CP (n:=6) (mb:=CK W (BY W f)) ?_;unfold CK;exact dH (t:=mB (m2 (eqD false) (AC 2) (Er W.Web "places" (AC 0)))) (E5 (BD rfl (hw.places rfl) (Hi (decide_eq_true (by lia))))) rfl
 | n+1,f+1,x,S,r,cs,hf,hx,hw,hr,hs,hb,hbs=>by
  obtain ⟨t,S1,rs,c1,K1,t1,w1,v1⟩:=Yv (most:=mo) hw hu hr.cl (show x < p by lia) hp (Aq hr.few hmo) hs (mo:=mo) rfl;have hw1:=hw.keeps K1
  obtain ⟨fl,S2,h2,K2,R2⟩:=C9 (v:=C2 (.ref t)) (g:=tgN 4) (b:=bB (BY W f)) (xs:=rs.map D.ref) (e:=[some (.ref q),some (.ref r),some (.int x),some (.int mo),none,none]) (S:=S1)
   (λi e S'=>Keeps S1 S'/\(∃z4 z5,e=[some (.ref q),some (.ref r),some (.int x),some (.int mo),z4,z5])/\∀ds∈(grow ts mo x cs).take i,lv ts mo n (x+1) ds=[])
   (λfl S'=>Keeps S1 S'/\(((∃e,fl=.nx e)/\lv ts mo (n+1) x cs=[])∨∃r' ds,fl=.rt (.ref r')/\ds∈lv ts mo (n+1) x cs/\S'[r']?=some (.lst (ds.map Az))/\B<=r'))
   ⟨Keeps.refl _,⟨none,none,rfl⟩,λds h=>by simp at h⟩ (by rintro i e S' ⟨K,_⟩;exact C1 (K.at t1))
   (by
    rintro i d e S' hd ⟨K,⟨z4,z5,rfl⟩,hno⟩;rw [AV] at hd
    cases hq:rs[i]? with
    | none=>rw [hq] at hd;cases hd
    | some r1=>
     rw [hq] at hd;cases hd;obtain ⟨ds,g1,g2⟩:=w1.get hq;have hrow:=hr.grow (Ai g1);obtain ⟨d,S3,c3,K3,h3⟩:=T8 W hu hp hmo B n f (x+1) (show n < f by lia) (by lia) (hw1.keeps K) hrow (K.at g2) (by have:=v1 r1 (Ai hq);lia) (by have:=K.1;have:=K1.1;lia);have s5:Bp 5 (A0 4 (BY W f) (AE (AC 0) (AE (AC 4) (AE (m2 CQ (AC 2) (mC (.int 1))) (AE (AC 3) AY))))) [some (.ref q),some (.ref r),some (.int x),some (.int mo),some (.ref r1),z5] S'=.ok (.nx [some (.ref q),some (.ref r),some (.int x),some (.int mo),some (.ref r1),some d]) S3:=C7 (i:=5) ((BL (ds:=[.ref q,.ref r1,.int ((x+1:Nat):Int),.int mo]) (S1:=S') rfl rfl).trans c3);refine ⟨[some (.ref q),some (.ref r),some (.int x),some (.int mo),some (.ref r1),z5],S',rfl,?_⟩
     rcases h3 with ⟨rfl,he⟩ | ⟨r',es,rfl,he,ha,hb'⟩
     ·refine ⟨.nx [some (.ref q),some (.ref r),some (.int x),some (.int mo),some (.ref r1),some .non],S3,(Av s5).trans rfl,K.trans K3,⟨_,_,rfl⟩,λes hes=>?_⟩
      rw [take_snoc g1] at hes
      rcases Aj.mp hes with hes | hes
      ·exact hno es hes
      ·rw [AL.mp hes];exact he
     ·exact ⟨.rt (.ref r'),S3,(Av s5).trans rfl,K.trans K3,.inr ⟨r',es,rfl,Bs.mpr ⟨ds,Ai g1,he⟩,ha,hb'⟩⟩)
   (by
    rintro e S' ⟨K,⟨z4,z5,rfl⟩,hno⟩;rw [AK,w1.len,Br] at hno
    refine ⟨K,.inl ⟨⟨_,rfl⟩,List.flatMap_eq_nil_iff.mpr hno⟩⟩)
  have i1:∀b:MS,BK (sIf (mB (m2 (eqD false) (AC 2) (Er W.Web "places" (AC 0)))) (Cw (AC 1)) sNx) b [some (.ref q),some (.ref r),some (.int x),some (.int mo),none,none] S=b [some (.ref q),some (.ref r),some (.int x),some (.int mo),none,none] S:=λb=>UP (E5 (BD rfl (hw.places rfl) (Hi (decide_eq_false (by lia)))))
  have hi:=Cj (g:=tgN 4) (b:=bB (BY W f)) (Fi (m:=A0 4 (Fm W) (AE (AC 0) (AE (AC 1) (AE (AC 2) (AE (AC 3) AY))))) (e:=[some (.ref q),some (.ref r),some (.int x),some (.int mo),none,none]) ((BL (ds:=[.ref q,.ref r,.int x,.int mo]) (S1:=S) rfl rfl).trans c1) t1)
  rcases R2 with ⟨⟨e,rfl⟩,he⟩ | ⟨r',ds,rfl,hd,ha⟩
  ·refine ⟨.non,S2,?_,K1.trans K2,.inl ⟨rfl,he⟩⟩
   show D4 6 (CK W (BY W f)) [.ref q,.ref r,.int x,.int mo] S=_;refine CP (n:=6) (mb:=CK W (BY W f)) ?_;unfold CK;exact (i1 _).trans ((Av (hi.trans h2)).trans rfl)
  ·refine ⟨.ref r',S2,?_,K1.trans K2,.inr ⟨r',ds,rfl,hd,ha⟩⟩
   show D4 6 (CK W (BY W f)) [.ref q,.ref r,.int x,.int mo] S=_;refine CP (n:=6) (mb:=CK W (BY W f)) ?_;unfold CK;exact (i1 _).trans (La (hi.trans h2))
theorem X3 {ts:List (Int×Int)} {most x:Nat} {cs ds:List (List Int)} (h:ds∈grow ts most x cs):cs.length<=ds.length:=by
 rcases GY.mp h with ⟨k,c,hk,_,rfl⟩ | ⟨_,rfl⟩
 ·rw [PK hk];exact AS _
 ·rw [A2];lia
theorem Xk {ts:List (Int×Int)} {most:Nat}:∀(n x:Nat) {cs ds:List (List Int)},ds∈lv ts most n x cs->cs.length<=ds.length
 | 0,_,cs,ds,h=>by rw [AL.mp h];exact AS _
 | n+1,x,cs,ds,h=>by
  obtain ⟨es,h1,h2⟩:=Bs.mp h;exact Aq (X3 h1) (Xk n (x+1) h2)
theorem Re {ts:List (Int×Int)} {most:Nat}:∀(n x:Nat) {cs ds:List (List Int)},ds∈lv ts most n x cs->ds∈lv ts ds.length n x cs
 | 0,_,cs,ds,h=>h
 | n+1,x,cs,ds,h=>by
  obtain ⟨es,h1,h2⟩:=Bs.mp h;refine Bs.mpr ⟨es,?_,Re n (x+1) h2⟩;have hl:=Xk n (x+1) h2
  rcases GY.mp h1 with h1 | ⟨_,rfl⟩
  ·exact GY.mpr (.inl h1)
  ·rw [A2,JY] at hl
   exact GY.mpr (.inr ⟨by lia,rfl⟩)
structure aW (ts:List (Int×Int)) (p:Nat) (ds:List (List Int)):Prop where
 mem:ds∈lv ts ds.length p 0 []
 pos:1<=ds.length
 no:lv ts (ds.length - 1) p 0 []=[]
theorem aW.row {ts:List (Int×Int)} {p:Nat} {ds:List (List Int)} (h:aW ts p ds):Row ts ds.length p ds:=by
 have:=Row.lv p 0 (Row.nil ts ds.length) h.mem;rwa [DN] at this
theorem Xj {ts:List (Int×Int)} {p m:Nat} {s:List Int} (hs:St p s) (ha:apt ts (Ck s)=true) (h:m < s.length):lv ts m p 0 []=[]:=by
 cases hq:lv ts m p 0 [] with
 | nil=>rfl
 | cons d l=>
  have hr:=Row.lv p 0 (Row.nil ts m) (show d∈lv ts m p 0 [] by rw [hq];exact A6);rw [DN] at hr;have:=hr.pig hs ha;have:=hr.few
  lia
end M
namespace M
open PySem L2
open Srt (ltL)
def Fe (p:Nat):List (List Int):=(Ac p).map λx:Nat=>[(x:Int)]
theorem NV (ts:List (Int×Int)) (m:Nat):∀(n x:Nat),x+n<=m->Fe (x+n)∈lv ts m n x (Fe x)
 | 0,x,_=>AL.mpr rfl
 | n+1,x,h=>by
  refine Bs.mpr ⟨Fe (x+1),GY.mpr (.inr ⟨?_,?_⟩),?_⟩
  ·unfold Fe;simp;lia
  ·unfold Fe;rw [DB,A3];rfl
  ·have:=NV ts m n (x+1) (by lia)
   rwa [show x+1+n=x+(n+1) by lia] at this
abbrev gq (W:Wd):MS:=BK (Bp 2 (A0 4 (BY W 13) (AE (AC 0) (AE (Ce (BX AY)) (AE (mC (.int 0)) (AE (AC 1) AY)))))) (sIf (mB (m2 (Iu true) (AC 2) (mC .non))) (Cw (AC 2)) sNx)
theorem Z7 (W:Wd) {S:Sto} {q p:Nat} {ts:List (Int×Int)} (hw:DJ W S q p (Fd ts)) (hu:Cm p 0 ts) (hp1:1<=p) (hp:p<=12):∃r ds S',DT W [.ref q] S=.ok (.ref r) S'/\Keeps S S'/\S.length<=r/\S'[r]?=some (.lst (ds.map Az))/\aW ts p ds:=by
 have s1:B7 (A0 1 (Ca W) (AE (AC 0) AY)) (DE 3 [.ref q]) S=.ok (.nx [some (.ref q),none,none]) S:=ED ((BL (ds:=[.ref q]) (S1:=S) rfl rfl).trans (Nl W hw (by lia)));obtain ⟨s,S1,c1,K1,hB⟩:=R3 W hw hu hp1 (show p<=12 by lia);have hsl:=hB.st.len
 have hs1:1<=s.length:=by
  by_cases c:s.length=0
  ·have hir:(0:Int)∉nr ts 0:=λhx=>by
    rcases KD.mp hx with h | h <;> · have:=(hu.1 _ h).2.1;simp at this
   have:=hB.no [0] ⟨CB _ _,λx hx=>by rw [AL.mp hx];lia⟩ (.inl (show s.length < 1 by lia));unfold apt Ck at this;simp [hir] at this
  ·lia
 have w1:=hw.keeps K1;have l1:Eb (A0 1 (Cb W) (AE (AC 0) AY)) [some (.ref q),none,none] S=.ok (.int s.length) S1:=(Gg (d:=Az s) (ds:=s.map D.int) ((BL (ds:=[.ref q]) (S1:=S) rfl rfl).trans c1) rfl).trans (by rw [AK])
 have hr:iR2 (AE (Eb (A0 1 (Cb W) (AE (AC 0) AY))) (AE (Er W.Web "places" (AC 0)) AY)) [some (.ref q),none,none] S=.ok (Bt (Bc s.length (p - s.length))) S1:=by
  have:=Nu (ml:=AE (Eb (A0 1 (Cb W) (AE (AC 0) AY))) (AE (Er W.Web "places" (AC 0)) AY)) (e:=[some (.ref q),none,none]) (S:=S) (S1:=S1) (i:=s.length) (j:=p) (BQ l1 (BQ (w1.places rfl) rfl)) (by lia) (by lia) (by lia) (by lia);rw [this,show ((p:Int) - s.length).toNat=p - s.length by lia]
 obtain ⟨fl,S2,h2,K2,R2⟩:=C9 (v:=Bt (Bc s.length (p - s.length))) (g:=tgN 1) (b:=gq W) (xs:=Bc s.length (p - s.length)) (e:=[some (.ref q),none,none]) (S:=S1)
  (λi e S'=>Keeps S1 S'/\(∃z1 z2,e=[some (.ref q),z1,z2])/\(0 < i->lv ts (s.length+i - 1) p 0 []=[]))
  (λfl S'=>Keeps S1 S'/\(((∃z1 z2,fl=.nx [some (.ref q),z1,z2])/\(0 < p - s.length->lv ts (p - 1) p 0 []=[]))∨∃r ds,fl=.rt (.ref r)/\S1.length<=r/\S'[r]?=some (.lst (ds.map Az))/\aW ts p ds))
  ⟨Keeps.refl _,⟨none,none,rfl⟩,λh=>absurd h (Dl _)⟩ (λ_ _ _ _=>rfl)
  (by
   rintro i d e S' hd ⟨K,⟨z1,z2,rfl⟩,hno⟩;obtain ⟨hi,rfl⟩:=Dw hd
   obtain ⟨m,hm⟩:∃m:Nat,(s.length:Int)+i=m:=⟨s.length+i,by lia⟩
   rw [hm];have hlen:S1.length<=S'.length:=K.1;obtain ⟨d,S3,c3,K3,h3⟩:=T8 W hu (show p<=60 by lia) (show m<=60 by omega) S1.length p 13 0 (by lia) (by lia) ((w1.keeps K).keeps (Keeps.app S' [.lst []])) (Row.nil ts m) (Bx S' (.lst [])) hlen (by rw [A2];lia);have s3:Bp 2 (A0 4 (BY W 13) (AE (AC 0) (AE (Ce (BX AY)) (AE (mC (.int 0)) (AE (AC 1) AY))))) [some (.ref q),some (.int m),z2] S'=.ok (.nx [some (.ref q),some (.int m),some d]) S3:=C7 (i:=2) ((BL (ds:=[.ref q,.ref S'.length,.int 0,.int m]) (S1:=S'++[.lst []]) rfl rfl).trans c3);have KK:=(K.trans (Keeps.app S' [.lst []])).trans K3;refine ⟨[some (.ref q),some (.int m),z2],S',rfl,?_⟩
   rcases h3 with ⟨rfl,he⟩ | ⟨r',ds,rfl,he,ha,hb⟩
   ·refine ⟨.nx [some (.ref q),some (.int m),some .non],S3,(Av s3).trans rfl,KK,⟨_,_,rfl⟩,λ_=>?_⟩
    rw [show s.length+(i+1) - 1=m by lia];exact he
   ·have hrow:=Row.lv p 0 (Row.nil ts m) he
    rw [DN] at hrow;have hpg:=hrow.pig hB.st hB.ap;have hfew:=hrow.few;refine ⟨.rt (.ref r'),S3,(Av s3).trans rfl,KK,.inr ⟨r',ds,rfl,hb,ha,Re p 0 he,by lia,?_⟩⟩
    by_cases c:i=0
    ·exact Xj hB.st hB.ap (by omega)
    ·exact Zp (by lia) (hno (by lia)))
  (by
   rintro e S' ⟨K,⟨z1,z2,rfl⟩,hno⟩;rw [Dv] at hno
   exact ⟨K,.inl ⟨⟨_,_,rfl⟩,λh=>by have:=hno h;rwa [show s.length+(p - s.length) - 1=p - 1 by lia] at this⟩⟩)
 rcases R2 with ⟨⟨z1,z2,rfl⟩,hno⟩ | ⟨r,ds,rfl,hb,ha,hF⟩
 ·have w2:=w1.keeps K2
  have hi:iR1 (AE (Er W.Web "places" (AC 0)) AY) [some (.ref q),z1,z2] S2=.ok (Bt (Bc 0 p)) S2:=by
   have:=IX (ml:=AE (Er W.Web "places" (AC 0)) AY) (e:=[some (.ref q),z1,z2]) (S:=S2) (S1:=S2) (j:=p) (BQ (w2.places rfl) rfl) (by lia) (by lia);simpa using this
  have q3:=RY (f:=B9) (g:=λx:Nat=>Az [(x:Int)]) (l:=Ac p) (v:=Bt (Bc 0 p)) (m:=EC (AE (AC 0) AY)) (e:=[some (.ref q),z1,z2]) (S:=S2) (by rw [PJ];rfl) (by simp;lia) (λx _=>IN (ds:=[.int x]) rfl (by simp));have c3:=FL ((Ia (n:=1) (g:=tgN 0) (c:=E7) (m:=EC (AE (AC 0) AY)) hi).trans q3)
  have e3:((Ac p).map λx:Nat=>Az [(x:Int)])=(Fe p).map Az:=by unfold Fe;rw [BZ];rfl
  rw [e3] at c3
  have hl:(Fe p).length=p:=by unfold Fe;simp
  refine ⟨S2.length,Fe p,S2++[.lst ((Fe p).map Az)],CP (n:=3) (mb:=DV W) ?_,(K1.trans K2).trans (Keeps.app _ _),(K1.trans K2).1,Bx _ _,?_,by lia,?_⟩
  ·unfold DV
   exact (Av s1).trans ((Av ((Cj hr).trans h2)).trans (FB c3))
  ·rw [hl]
   have:=NV ts p p 0 (by lia);rwa [DN] at this
  ·rw [hl]
   by_cases c:0 < p - s.length
   ·exact hno c
   ·exact Xj hB.st hB.ap (by lia)
 ·refine ⟨r,ds,S2,CP (n:=3) (mb:=DV W) ?_,K1.trans K2,by have:=K1.1;lia,ha,hF⟩
  unfold DV;exact (Av s1).trans (La ((Cj hr).trans h2))
end M
namespace M
open PySem L2
open Srt (ltL)
theorem Wv (W:Wd) (ns:List Int) (S:Sto):∃(m t:Nat) (ts:List (Int×Int)) (S':Sto),D0 W [.fro (ns.map D.int),.int 9,.int 10] S=.ok (.tup [.int m,.ref t]) S'/\S'[t]?=some (.lst (ts.map pairD))/\Cm m 0 ts/\ts.length<=3600/\1<=m/\m<=12:=by
 obtain ⟨h,hc⟩:=Qa W ns 0 S;have s3:Bp 3 (A0 2 (Cz W) (AE (AC 0) (AE (mC (.int 0)) AY))) (DE 5 [.fro (ns.map D.int),.int 9,.int 10]) S=.ok (.nx [some (.fro (ns.map D.int)),some (.int 9),some (.int 10),some (.int h),none]) S:=C7 (i:=3) ((BL (ds:=[.fro (ns.map D.int),.int 0]) (S1:=S) rfl rfl).trans hc);have s4:Bp 4 (m2 CQ (mC (.int 1)) (m2 Ea (AC 3) (AC 1))) [some (.fro (ns.map D.int)),some (.int 9),some (.int 10),some (.int h),none] S=.ok (.nx [some (.fro (ns.map D.int)),some (.int 9),some (.int 10),some (.int h),some (.int (1+h % 9))]) S:=C7 (i:=4) (BD rfl (BD rfl rfl (EY (by decide))) rfl)
 have c5:∀x:Option D,m2 Ea (m2 Jv (AC 3) (mC (.int 14))) (mC (.int 8)) [some (.fro (ns.map D.int)),some (.int 9),some (.int 10),some (.int h),x] S=.ok (.int (h / 14 % 8)) S:=λx=>BD (BD rfl rfl (Kz (by decide) (by decide))) rfl (EY (by decide))
 obtain ⟨m,hm1,hm2,s5⟩:∃m:Nat,1<=m/\m<=12/\sIf (mB (m2 (eqD false) (m2 Ea (m2 Jv (AC 3) (mC (.int 14))) (mC (.int 8))) (mC (.int 3)))) (Bp 4 (m2 CQ (AC 2) (m2 Ea (m2 Jv (AC 3) (mC (.int 112))) (m2 Sg (mC (.int 13)) (AC 2))))) sNx [some (.fro (ns.map D.int)),some (.int 9),some (.int 10),some (.int h),some (.int (1+h % 9))] S=.ok (.nx [some (.fro (ns.map D.int)),some (.int 9),some (.int 10),some (.int h),some (.int m)]) S:=by
  by_cases c:h / 14 % 8=3
  ·refine ⟨(10+h / 112 % 3).toNat,by lia,by lia,?_⟩
   rw [show ((10+h / 112 % 3).toNat:Int)=10+h / 112 % 3 by lia];exact (DP (E5 (BD (c5 _) rfl (Hi (decide_eq_true c))))).trans ((if_pos rfl).trans (C7 (i:=4) (BD rfl (BD (BD rfl rfl (Kz (by decide) (by decide))) (y:=.int 3) rfl (EY (by decide))) rfl)))
  ·refine ⟨(1+h % 9).toNat,by lia,by lia,?_⟩
   rw [show ((1+h % 9).toNat:Int)=1+h % 9 by lia];exact (DP (E5 (BD (c5 _) rfl (Hi (decide_eq_false c))))).trans rfl
 obtain ⟨S1,ps,q1,K1,a1,p1,p2⟩:=ZP W ns S;obtain ⟨ts,q2,u2,l2⟩:=Rh W (1+h / 5 % 6) a1 p1 hm1 (by lia);refine ⟨m,S1.length,ts,S1++[.lst (ts.map pairD)],CP ?_,Bx _ _,u2,l2,hm1,hm2⟩;unfold ID;refine (Av s3).trans ((Av s4).trans ((Av s5).trans (FB (IN (BQ (S1:=S) rfl (BQ ?_ rfl)) (by simp)))));refine (BL (ds:=[.ref S.length,.int m,.int (1+h / 5 % 6)]) (S1:=S1) (BQ ((BL (ds:=[.fro (ns.map D.int),.int 1]) (S1:=S) rfl rfl).trans q1) (BQ rfl (BQ ?_ rfl))) rfl).trans q2;exact BD rfl (BD (BD rfl rfl (Kz (by decide) (by decide))) rfl (EY (by decide))) rfl
theorem Sv {ts:List (Int×Int)} {x:Nat} {z:Int}:z∈Bg ts x↔∃t∈ts,(t.1=x/\z=t.2)∨(t.2=x/\z=t.1):=by
 unfold Bg;rw [Bs]
 constructor
 ·rintro ⟨t,ht,hz⟩
  refine ⟨t,ht,?_⟩
  rcases Aj.mp hz with h | h
  ·split at h
   ·rename_i e;exact .inl ⟨e,AL.mp h⟩
   ·cases h
  ·split at h
   ·rename_i e;exact .inr ⟨e,AL.mp h⟩
   ·cases h
 ·rintro ⟨t,ht,⟨h1,h2⟩ | ⟨h1,h2⟩⟩
  ·exact ⟨t,ht,by rw [if_pos h1];simp [h2]⟩
  ·exact ⟨t,ht,by rw [if_pos h1];simp [h2]⟩
theorem Ko {x:Nat}:∀ {ts:List (Int×Int)},ts.Nodup->(∀t∈ts,t.1 < t.2)->(Bg ts x).Nodup
 | [],_,_=>Oz
 | t :: ts,h,hlt=>by
  obtain ⟨h1,h2⟩:=EV.mp h
  have ih:=Ko (x:=x) h2 λu hu=>hlt u (Al _ hu)
  have hl:=hlt t A6;show (((if t.1=(x:Int) then [t.2] else [])++(if t.2=(x:Int) then [t.1] else []))++Bg ts x).Nodup;rw [Ft];refine ⟨?_,ih,λa ha b hb e=>?_⟩
  ·by_cases c1:t.1=(x:Int)
   ·rw [if_pos c1,if_neg (by lia)];simp
   ·rw [if_neg c1];split <;> simp
  ·subst e
   obtain ⟨u,hu,hz⟩:=Sv.mp hb;have hul:=hlt u (Al _ hu)
   have:t=u:=by
    rcases Aj.mp ha with q | q
    ·split at q
     ·rename_i e1
      have:=AL.mp q
      rcases hz with ⟨z1,z2⟩ | ⟨z1,z2⟩
      ·exact Tn (by lia) (by lia)
      ·lia
     ·cases q
    ·split at q
     ·rename_i e1
      have:=AL.mp q
      rcases hz with ⟨z1,z2⟩ | ⟨z1,z2⟩
      ·lia
      ·exact Tn (by lia) (by lia)
     ·cases q
   exact h1 (this▸hu)
theorem Wh {ml:ML} {e:Lo} {S S1:Sto} {j:Nat} (h:ml e S=.ok [.int j] S1) (hj:j<=60):RZ ml e S=.ok (.tup ((Ac j).map B9)) S1:=by
 unfold RZ;rw [h];show (if -1000000<=(j:Int)/\(j:Int)<=1000000 then Res.ok (D.tup (Bc 0 (j:Int).toNat)) S1 else .bad)=_;rw [if_pos (by lia),Bf,PJ]
theorem Sw:∀(p:Nat) (l:List Int),l.Nodup->(∀z∈l,0<=z/\z < p)->l.length<=p/\(l.length=p->∀z:Int,0<=z->z < p->z∈l)
 | 0,l,_,h=>by
  cases l with
  | nil=>exact ⟨AS _,λ_ z h1 h2=>by lia⟩
  | cons a l=>have:=h a (by simp);omega
 | p+1,l,nd,h=>by
  by_cases c:(p:Int)∈l
  ·have h1:=Qq c
   have hpos:0 < l.length:=SD c
   obtain ⟨i1,i2⟩:=Sw p (l.erase (p:Int)) (nd.erase _) λz hz=>by
    obtain ⟨hz1,hz2⟩:=nd.mem_erase_iff.mp hz;have:=h z hz2
    lia
   refine ⟨by lia,λe z z1 z2=>?_⟩
   by_cases e2:z=p
   ·rw [e2];exact c
   ·exact (nd.mem_erase_iff.mp (i2 (by lia) z z1 (by lia))).2
  ·obtain ⟨i1,i2⟩:=Sw p l nd λz hz=>by
    have:=h z hz
    have:z≠p:=λe=>c (e▸hz)
    lia
   exact ⟨by lia,λe=>by lia⟩
def wat (p:Nat) (ts:List (Int×Int)) (xs:List Nat):Bool:=(Ac p).all λz=>xs.any λx=>decide ((z:Int)=x∨(z:Int)∈nr ts x)
theorem Pv {p:Nat} {ts:List (Int×Int)} {xs:List Nat}:wat p ts xs=true↔∀z:Nat,z < p->Wat ts xs z:=by
 unfold wat Wat;rw [BW]
 constructor
 ·intro h z hz
  obtain ⟨x,hx,e⟩:=D6.mp (h z (CM.mpr hz));exact ⟨x,hx,of_decide_eq_true e⟩
 ·intro h z hz
  obtain ⟨x,hx,e⟩:=h z (CM.mp hz);exact D6.mpr ⟨x,hx,decide_eq_true e⟩
theorem cq {o x:Nat} {ts:List (Int×Int)} (hu:Cm o 0 ts):(nr ts x).length<=o:=by
 refine (Sw o (nr ts x) ?_ λz hz=>fv hu hz).1;unfold nr;exact (Eo _).nodup_iff.mpr (Ko hu.2 λt ht=>(hu.1 t ht).2.1)
structure Few (p:Nat) (ts:List (Int×Int)) (s:List Int):Prop where
 st:St p s
 wa:wat p ts (Ck s)=true
 no:∀y:List Int,St p y->(y.length < s.length∨y.length=s.length/\ltL y s=true)->wat p ts (Ck y)=false
abbrev YX (W:Wd):MS:=sIf (mB (m2 (Iu false) (A0 2 (Cc W) (AE (AC 0) (AE (AC 2) AY))) (mC .non))) (Cw (AC 2)) sNx
theorem Xu (o:Option Nat) (S:Sto):Iu false (cV o) .non S=.ok (.bl o.isNone) S:=by cases o <;> rfl
theorem Wf {W:Wd} {S:Sto} {q p:Nat} {ts:List (Int×Int)} (hw:DJ W S q p (Fd ts)) (hu:Cm p 0 ts) (hp:p<=12) (hl:ts.length<=4000) {s:List Int} (hs:St p s) :
  ∃S',mB (m2 (Iu false) (A0 2 (Cc W) (AE (AC 0) (AE (AC 2) AY))) (mC .non))=mB (m2 (Iu false) (A0 2 (Cc W) (AE (AC 0) (AE (AC 2) AY))) (mC .non))/\Keeps S S'/\∀d1,mB (m2 (Iu false) (A0 2 (Cc W) (AE (AC 0) (AE (AC 2) AY))) (mC .non)) [some (.ref q),d1,some (Az s)] S=.ok (wat p ts (Ck s)) S':=by
 have hlen:=hs.len
 have hP:∀x:Nat,(λz:Nat=>!((Ck s).any λx=>decide ((z:Int)=x∨(z:Int)∈nr ts x))) x=true↔¬Wat ts (Ck s) x:=λz=>by
  show (!((Ck s).any λx=>decide ((z:Int)=x∨(z:Int)∈nr ts x)))=true↔_;rw [Hs,<-Bool.not_eq_true,D6];unfold Wat;simp only [decide_eq_true_eq]
 obtain ⟨S',h1,h2⟩:=Pw hw hu (by lia) hl (QF hs) (by unfold Ck;rw [AK];lia) hP;refine ⟨S',rfl,h2,λd1=>?_⟩
 have e:((Ac p).find? λz:Nat=>!((Ck s).any λx=>decide ((z:Int)=x∨(z:Int)∈nr ts x))).isNone=wat p ts (Ck s):=by
  unfold wat;rw [OJ,OP,Cu,BW];simp only [Hs,Bool.not_eq_false]
 rw [<-e,LX hs];exact E5 (BD ((BL (ds:=[.ref q,.tup ((Ck s).map B9)]) (S1:=S) rfl rfl).trans h1) rfl (Xu _ _))
theorem U8 {W:Wd} {S:Sto} {q p n:Nat} {ts:List (Int×Int)} (hw:DJ W S q p (Fd ts)) (hu:Cm p 0 ts) (hp:p<=12) (hlt:ts.length<=4000) {l:List (List Int)} (hl:∀s∈l,St p s) (hn:S[n]?=some (.lst (l.map Az))) {d1:D} {z2:Option D} :
  ∃f S',Iv (C2 (.ref n)) (tgN 2) (YX W) (CY (C2 (.ref n)) S) 0 [some (.ref q),some d1,z2] S=.ok f S'/\Keeps S S'/\((l.find? (λs=>wat p ts (Ck s))=none/\∃z,f=.nx [some (.ref q),some d1,z])∨∃s,l.find? (λs=>wat p ts (Ck s))=some s/\f=.rt (Az s)):=by
 obtain ⟨f,S',h1,K,h2⟩:=C9 (v:=C2 (.ref n)) (g:=tgN 2) (b:=YX W) (xs:=l.map Az) (e:=[some (.ref q),some d1,z2]) (S:=S)
  (λi e S'=>Keeps S S'/\l.find? (λs=>wat p ts (Ck s))=(l.drop i).find? (λs=>wat p ts (Ck s))/\∃z,e=[some (.ref q),some d1,z])
  (λf S'=>Keeps S S'/\((l.find? (λs=>wat p ts (Ck s))=none/\∃z,f=.nx [some (.ref q),some d1,z])∨∃s,l.find? (λs=>wat p ts (Ck s))=some s/\f=.rt (Az s)))
  ⟨Keeps.refl _,rfl,z2,rfl⟩ (by rintro i e S' ⟨K,_⟩;exact C1 (K.at hn))
  (by
   rintro i d e S' hd ⟨K,hf,z,rfl⟩;rw [AV] at hd
   cases hx:l[i]? with
   | none=>rw [hx] at hd;cases hd
   | some s=>
    rw [hx] at hd;cases hd;have hs:=hl s (Ai hx);obtain ⟨hlt',es⟩:=AG.mp hx;rw [By hlt',es,B1] at hf;obtain ⟨S2,_,K2,t1⟩:=Wf (hw.keeps K) hu hp hlt hs;have i1:=DP (a:=Cw (AC 2)) (b:=sNx) (t1 (some d1));refine ⟨[some (.ref q),some d1,some (Az s)],S',rfl,?_⟩
    cases ha:wat p ts (Ck s) with
    | true=>
     rw [ha] at i1 hf;exact ⟨_,_,i1.trans rfl,K.trans K2,.inr ⟨s,hf,rfl⟩⟩
    | false=>
     rw [ha] at i1 hf
     exact ⟨_,_,i1.trans rfl,K.trans K2,hf,_,rfl⟩)
  (by
   rintro e S' ⟨K,hf,z,rfl⟩;rw [AK,Mu] at hf
   exact ⟨K,.inl ⟨hf,z,rfl⟩⟩)
 exact ⟨f,S',h1,K,h2⟩
def upZ (p:Nat):List Int:=(Ac p).map λx:Nat=>(x:Int)
theorem Yz (p:Nat):Az (upZ p)=.tup ((Ac p).map B9):=by
 unfold Az upZ;rw [BZ];rfl
theorem St.full {p:Nat} {y:List Int} (hy:St p y) (hl:y.length=p):y=upZ p:=by
 apply Ch
 intro j;unfold upZ;rw [AV]
 by_cases c:j < p
 ·rw [BC c]
  have hj:y[j]?=some y[j]:=Aw (by omega);have h0:y[0]?=some y[0]:=Aw (by omega);have hL:y[p - 1]?=some y[p - 1]:=Aw (by omega);have g1:=hy.gap 0 j h0 hj (by lia);have g2:=hy.gap j (p - 1) hj hL (by lia);have b0:=(hy.at' _ (Ai h0)).1;have b1:=(hy.at' _ (Ai hL)).2;rw [hj];show some y[j]=some (j:Int)
  congr 1
  omega
 ·rw [CL (by lia),CL (by simp;lia)]
  rfl
theorem di (W:Wd) {S:Sto} {q p:Nat} {ts:List (Int×Int)} (hw:DJ W S q p (Fd ts)) (hu:Cm p 0 ts) (hp1:1<=p) (hp:p<=12) (hlt:ts.length<=4000):∃s S',Cy W [.ref q] S=.ok (Az s) S'/\Keeps S S'/\Few p ts s:=by
 have s1:B7 (A0 1 (Ca W) (AE (AC 0) AY)) (DE 3 [.ref q]) S=.ok (.nx [some (.ref q),none,none]) S:=ED ((BL (ds:=[.ref q]) (S1:=S) rfl rfl).trans (Nl W hw hp))
 have hr:iR2 (AE (mC (.int 1)) (AE (Er W.Web "places" (AC 0)) AY)) [some (.ref q),none,none] S=.ok (Bt (Bc 1 (p - 1))) S:=by
  have:=Nu (ml:=AE (mC (.int 1)) (AE (Er W.Web "places" (AC 0)) AY)) (e:=[some (.ref q),none,none]) (S:=S) (S1:=S) (i:=1) (j:=p) (BQ rfl (BQ (hw.places rfl) rfl)) (by lia) (by lia) (by lia) (by lia);rw [this,show ((p:Int) - 1).toNat=p - 1 by lia]
 obtain ⟨f,S',h1,K,h2⟩:=C9 (v:=Bt (Bc 1 (p - 1))) (g:=tgN 1) (b:=Dg (Ec (A0 2 (Gy W) (AE (Er W.Web "places" (AC 0)) (AE (AC 1) AY)))) (tgN 2) (YX W)) (xs:=Bc 1 (p - 1)) (e:=[some (.ref q),none,none]) (S:=S)
  (λi e S'=>Keeps S S'/\(∀y:List Int,St p y->y.length < 1+i->wat p ts (Ck y)=false)/\∃z1 z2,e=[some (.ref q),z1,z2])
  (λf S'=>Keeps S S'/\(((∃z1 z2,f=.nx [some (.ref q),z1,z2])/\∀y:List Int,St p y->y.length < p->wat p ts (Ck y)=false)∨∃s,f=.rt (Az s)/\Few p ts s))
  ⟨Keeps.refl _,λy hy hl=>by
   have:y=[]:=NF (by lia);subst this
   cases hq:wat p ts (Ck []) with
   | false=>rfl
   | true=>
    obtain ⟨x,hx,_⟩:=Pv.mp hq 0 (by lia)
    exact absurd hx D5,none,none,rfl⟩ (λ_ _ _ _=>rfl)
  (by
   rintro i d e S' hd ⟨K,hno,z1,z2,rfl⟩;obtain ⟨hi,rfl⟩:=Dw hd;have hw':=hw.keeps K
   obtain ⟨g,hg⟩:∃g:Nat,(1:Int)+i=g:=⟨1+i,by lia⟩
   rw [hg]
   obtain ⟨w,hwg⟩:∃w,p=w+g:=⟨p - g,by lia⟩
   obtain ⟨n,S2,q2,K2,_,a2⟩:=T4 W w g (by lia) (gm (w+g) (by lia) g (by lia)) S';rw [<-hwg] at q2
   have hl:∀s∈TT w g,St p s:=λs hs=>by rw [hwg];exact (Um hs).1
   obtain ⟨f,S3,q3,K3,q4⟩:=U8 (hw'.keeps K2) hu hp hlt hl a2 (d1:=.int g) (z2:=z2);refine ⟨[some (.ref q),some (.int g),z2],S',rfl,f,S3,(Cj (Fi (n:=n) (xs:=(TT w g).map Az) ((BL (ds:=[.int p,.int g]) (S1:=S') (BQ (hw'.places rfl) rfl) rfl).trans q2) a2)).trans q3,?_⟩;have KK:=(K.trans K2).trans K3
   rcases q4 with ⟨hf,z,rfl⟩ | ⟨s,hf,rfl⟩
   ·refine ⟨KK,λy hy hlen=>?_,_,_,rfl⟩
    by_cases c:y.length < 1+i
    ·exact hno y hy c
    ·have hm:y∈TT w g:=Qi (by rw [<-hwg];exact hy) (by lia)
     have:=Cu.mp hf y hm;simpa using this
   ·refine ⟨KK,.inr ⟨s,rfl,?_⟩⟩
    have hm:=Po hf;obtain ⟨_,hlen⟩:=Um hm;refine ⟨hl s hm,by simpa using Yp hf,λy hy hc=>?_⟩
    rcases hc with hc | ⟨hc,hlt⟩
    ·exact hno y hy (by lia)
    ·have hmy:y∈TT w g:=Qi (by rw [<-hwg];exact hy) (by lia)
     cases ha:wat p ts (Ck y) with
     | false=>rfl
     | true=>have:=N0 (Qh w g) hf y hmy ha;rw [hlt] at this;cases this)
  (by
   rintro e S' ⟨K,hno,z1,z2,rfl⟩;rw [Dv] at hno
   exact ⟨K,.inl ⟨⟨_,_,rfl⟩,λy hy hl=>hno y hy (by lia)⟩⟩)
 rcases h2 with ⟨⟨z1,z2,rfl⟩,hno⟩ | ⟨s,rfl,hB⟩
 ·have hst:St p (upZ p):=⟨by unfold upZ;rw [Cg];exact SC.imp λ{a b} h=>by lia,λx hx=>by
   obtain ⟨y,hy,rfl⟩:=BF.mp hx;have:=CM.mp hy
   lia⟩
  have hlu:(upZ p).length=p:=by unfold upZ;simp
  refine ⟨upZ p,S',CP (n:=3) (mb:=DU W) ?_,K,hst,Pv.mpr λz hz=>⟨z,?_,.inl rfl⟩,λy hy hc=>?_⟩
  ·unfold DU
   refine (Av s1).trans ((Av ((Cj hr).trans h1)).trans (FB ?_));rw [Yz];exact Wh (BQ ((hw.keeps K).places rfl) rfl) (by lia)
  ·unfold Ck upZ
   rw [BZ];exact BF.mpr ⟨z,CM.mpr hz,by simp⟩
  ·rcases hc with hc | ⟨hc,hlt⟩
   ·exact hno y hy (by lia)
   ·exfalso
    rw [hy.full (by lia)] at hlt;have:=Srt.Hx _ _ hlt;rw [hlt] at this;cases this
 ·refine ⟨s,S',CP (n:=3) (mb:=DU W) ?_,K,hB⟩
  unfold DU;exact (Av s1).trans (La ((Cj hr).trans h1))
end M
namespace M
open PySem L2
open Srt (ltL)
theorem Ws {l:List Int} (h:l.Nodup):(E6 l).Pairwise (· < ·):=by
 have h1:(E6 l).Nodup:=(Eo l).nodup_iff.mpr h
 exact ((Kb l).and h1).imp λ{a b} ⟨q1,q2⟩=>by omega
theorem Qd {p:Nat} {ts:List (Int×Int)} {s:List Int} (hs:St p s):apt ts (Ck s)=true↔∀y∈s,∀z∈s,z∉nr ts y.toNat:=by
 constructor
 ·intro h y hy z hz hq
  have:=BW.mp (BW.mp h y.toNat (B5 hy)) z.toNat (B5 hz);rw [D7 (hs.at' z hz).1] at this;simp [hq] at this
 ·intro h
  refine BW.mpr λx hx=>BW.mpr λy hy=>?_
  obtain ⟨a,ha,rfl⟩:=BF.mp hx;obtain ⟨b,hb,rfl⟩:=BF.mp hy;rw [D7 (hs.at' b hb).1];simp [h a ha b hb]
theorem cp {p:Nat} {ts:List (Int×Int)} (hu:Cm p 0 ts) (z:Nat):(z:Int)∉nr ts z:=λhx=>by
 rcases KD.mp hx with h | h <;> · have:=(hu.1 _ h).2.1;simp at this
theorem V9.watch {p:Nat} {ts:List (Int×Int)} {s:List Int} (hu:Cm p 0 ts) (h:V9 p ts s) {z:Nat} (hz:z < p) (hn:(z:Int)∉s):∃y∈nr ts z,y∈s:=by
 by_cases c:∃y∈nr ts z,y∈s
 ·exact c
 ·exfalso
  have nd:((z:Int) :: s).Nodup:=EV.mpr ⟨hn,h.st.up.imp λh=>Int.ne_of_lt h⟩;have pm:=Eo ((z:Int) :: s)
  have mem:∀x,x∈E6 ((z:Int) :: s)↔x=z∨x∈s:=λx=>by rw [pm.mem_iff,A4]
  have st:St p (E6 ((z:Int) :: s)):=⟨Ws nd,λx hx=>by
   rcases (mem x).mp hx with rfl | hx
   ·omega
   ·exact h.st.at' x hx⟩
  have hl:(E6 ((z:Int) :: s)).length=s.length+1:=by rw [pm.length_eq];rfl
  have:=h.no _ st (.inl (by omega));rw [(Qd st).mpr ?_] at this
  ·cases this
  ·intro a ha b hb q
   rcases (mem a).mp ha with rfl | ha
   ·rw [Bf] at q
    rcases (mem b).mp hb with rfl | hb
    ·exact cp hu z q
    ·exact c ⟨b,q,hb⟩
   ·rcases (mem b).mp hb with rfl | hb
    ·exact c ⟨a,(QD (h.st.at' a ha).1).mpr q,ha⟩
    ·exact (Qd h.st).mp h.ap a ha b hb q
theorem dj {p:Nat} {ts:List (Int×Int)} {s f:List Int} (hu:Cm p 0 ts) (h:V9 p ts s) (hf:Few p ts f):f.length<=s.length:=by
 by_cases c:s.length < f.length
 ·exfalso
  have:=hf.no s h.st (.inl c);rw [Pv.mpr ?_] at this
  ·cases this
  ·intro z hz
   by_cases d:(z:Int)∈s
   ·exact ⟨z,(JF h.st).mpr d,.inl rfl⟩
   ·obtain ⟨y,hy,hys⟩:=h.watch hu hz d
    exact ⟨y.toNat,B5 hys,.inr ((QD (h.st.at' y hys).1).mp hy)⟩
 ·omega
theorem YR {p:Nat} {ts:List (Int×Int)} {s c:List Int} (h:V9 p ts s) (hc:Cl ts p c):(c.filter λx=>decide (x∈s)).length<=1:=by
 have up:(c.filter λx=>decide (x∈s)).Pairwise (· < ·):=hc.st.up.sublist Uz
 have mem:∀x∈c.filter λx=>decide (x∈s),x∈c/\x∈s:=λx hx=>by
  have:=OH.mp hx;exact ⟨this.1,of_decide_eq_true this.2⟩
 match hl:c.filter λx=>decide (x∈s) with
 | []=>simp
 | [_]=>simp
 | a :: b :: r=>
  exfalso
  rw [hl] at up mem;have hab:a < b:=(LM.mp up).1 b (by simp);have ma:=mem a (by simp);have mb:=mem b (by simp);exact (Qd h.st).mp h.ap a ma.2 b mb.2 (hc.near a ma.1 b mb.1 (by omega))
end M
namespace M
open PySem L2
theorem gB (e:Lo) (S:Sto):∃y,PP (Im (mC (.str "the web has more than ")) (Im (Vb (mC (.int 12))) (Im (mC (.str " places")) TJ))) e S=.ok (.str y) S:=
 ⟨_,Zs (Nq rfl (by decide +kernel) (Nq (dg rfl (by decide +kernel)) (by decide +kernel) (Nq rfl (by decide +kernel) (Zt (by decide +kernel)))))⟩
section
variable {W:Wd} {S:Sto} {q p:Nat} {ts:List (Int×Int)}
theorem Li (hw:DJ W S q p ts) (hp:12 < p):Ca W [.ref q] S=.err W.TooLarge S:=by
 obtain ⟨y,hy⟩:=gB [some (.ref q)] S;refine NX (e:=[some (.ref q)]) ?_;unfold HB;have t:mB (m2 gtD (Er W.Web "places" (AC 0)) (mC (.int 12))) [some (.ref q)] S=.ok true S:=E5 (BD (hw.places rfl) rfl (QO (decide_eq_true (by omega))));refine CA (DP t) ?_;rw [if_pos rfl];exact Na (BQ hy rfl) (by simp)
theorem Z8 (hw:DJ W S q p ts) (hp:12 < p):Cy W [.ref q] S=.err W.TooLarge S:=by
 refine NX (n:=3) (mb:=DU W) (e:=[some (.ref q),none,none]) ?_;unfold DU;exact Lb (G0 ((BL (ds:=[.ref q]) (S1:=S) rfl rfl).trans (Li hw hp)))
theorem V5 (hw:DJ W S q p ts) (hp:12 < p):Cb W [.ref q] S=.err W.TooLarge S:=by
 refine NX (n:=3) (mb:=EE W) (e:=[some (.ref q),none,none]) ?_;unfold EE;exact Lb (G0 ((BL (ds:=[.ref q]) (S1:=S) rfl rfl).trans (Li hw hp)))
theorem Vz (hw:DJ W S q p ts) (hp:12 < p):DT W [.ref q] S=.err W.TooLarge S:=by
 refine NX (n:=3) (mb:=DV W) (e:=[some (.ref q),none,none]) ?_;unfold DV;exact Lb (G0 ((BL (ds:=[.ref q]) (S1:=S) rfl rfl).trans (Li hw hp)))
theorem tabs (nd:W.excs.Nodup):GV W W.TooLarge=some true/\FG W W.TooLarge=some true/\BE W W.TooLarge=some false:=by
 refine ⟨by simp [GV],by simp [FG],?_⟩;refine (if_neg λh=>?_).trans (if_pos (by simp [Wd.excs]));have nd':([W.BadPlaces,W.BadTie,W.NoPlace]++[W.TooLarge]).Nodup:=nd;exact (Ft.mp nd').2.2 _ h _ (AL.mpr rfl) rfl
abbrev bAsk (W:Wd):MS:=sIf (mB (m2 (eqD false) (AC 0) (mC (.int 0)))) (B7 (A0 1 (Cy W) (AE (AC 1) AY))) (sIf (mB (m2 (eqD false) (AC 0) (mC (.int 1)))) (B7 (A0 1 (Cb W) (AE (AC 1) AY))) (B7 (A0 1 (DT W) (AE (AC 1) AY))))
theorem aN (hw:DJ W S q p ts) (hp:12 < p) (w:Int) (d:D):bAsk W [some (.int w),some (.ref q),some d,none,none] S=.ok (.ex W.TooLarge [some (.int w),some (.ref q),some d,none,none]) S:=by
 have t0:mB (m2 (eqD false) (AC 0) (mC (.int 0))) [some (.int w),some (.ref q),some d,none,none] S=.ok (decide (w=0)) S:=E5 (BD rfl rfl (Hi rfl));have t1:mB (m2 (eqD false) (AC 0) (mC (.int 1))) [some (.int w),some (.ref q),some d,none,none] S=.ok (decide (w=1)) S:=E5 (BD rfl rfl (Hi rfl));refine (DP t0).trans ?_
 by_cases c:w=0
 ·rw [decide_eq_true c,if_pos rfl]
  exact G0 ((BL (ds:=[.ref q]) (S1:=S) rfl rfl).trans (Z8 hw hp))
 ·rw [decide_eq_false c,if_neg AR]
  refine (DP t1).trans ?_
  by_cases c:w=1
  ·rw [decide_eq_true c,if_pos rfl]
   exact G0 ((BL (ds:=[.ref q]) (S1:=S) rfl rfl).trans (V5 hw hp))
  ·rw [decide_eq_false c,if_neg AR]
   exact G0 ((BL (ds:=[.ref q]) (S1:=S) rfl rfl).trans (Vz hw hp))
theorem VY (nd:W.excs.Nodup) (hw:DJ W S q p ts) (hp:12 < p) (w:Int):E3 W [.int w,.ref q] S=.ok (.ref (S.length+1)) (S++[.lst [],.lst [.bl true,.bl true,.bl false]]):=by
 obtain ⟨t1,t2,t3⟩:=tabs nd;have K1:=Keeps.app S [.lst []];have s1:Bp 2 (Ce (BX AY)) (DE 5 [.int w,.ref q]) S=.ok (.nx [some (.int w),some (.ref q),some (.ref S.length),none,none]) (S++[.lst []]):=C7 (i:=2) (FL (Hy (ds:=[]) rfl (by simp)));have body:=aN (hw.keeps K1) hp w (.ref S.length)
 have el:(S++[Ob.lst []]).length=S.length+1:=by simp
 have h4:Bp 4 (Xg (BE W) (AC 3)) [some (.int w),some (.ref q),some (.ref S.length),some (.exc W.TooLarge),none] (S++[.lst []])=.ok (.nx [some (.int w),some (.ref q),some (.ref S.length),some (.exc W.TooLarge),some (.bl false)]) (S++[.lst []]):=C7 (i:=4) (dE rfl t3)
 have h5:Bp 2 (Ce (BX (AE (mIs isN (GV W) (AC 3)) (AE (mIs isV (FG W) (AC 3)) (AE (AC 4) AY))))) [some (.int w),some (.ref q),some (.ref S.length),some (.exc W.TooLarge),some (.bl false)] (S++[.lst []])=.ok (.nx [some (.int w),some (.ref q),some (.ref (S.length+1)),some (.exc W.TooLarge),some (.bl false)]) (S++[.lst []]++[.lst [.bl true,.bl true,.bl false]]):=by
  rw [<-el];exact C7 (i:=2) (FL (Hy (ds:=[.bl true,.bl true,.bl false]) (BQ (Xt rfl t1) (BQ (Xt rfl t2) (BQ rfl rfl))) (by simp)))
 have hc:W.TooLarge∈W.excs:=by simp [Wd.excs]
 have s2:=bY (i:=3) (e2:=[some (.int w),some (.ref q),some (.ref (S.length+1)),some (.exc W.TooLarge),some (.bl false)]) body hc ((Av h4).trans h5);rw [show S++[Ob.lst [],.lst [.bl true,.bl true,.bl false]]=S++[.lst []]++[.lst [.bl true,.bl true,.bl false]] by simp];refine CP (n:=5) (mb:=Ic W) ?_;unfold Ic;refine (Av s1).trans ?_;refine (Av s2).trans ?_;exact FB rfl
end
abbrev mk3:Ob:=.lst [.bl true,.bl true,.bl false]
theorem cr {W:Wd} {S:Sto} {q p:Nat} {ts:List (Int×Int)} (nd:W.excs.Nodup) (hw:DJ W S q p ts) (hp:12 < p) {e:Lo} (h6:∀z S',AC 6 (z :: e) S'=.ok (.ref q) S') :
  ∃S',Ce (GX 1 (iR1 (AE (mC (.int 3)) AY)) (tgN 0) E7 (A0 2 (E3 W) (AE (AC 0) (AE (AC 6) AY)))) e S=.ok (.ref S'.length) (S'++[.lst [.ref (S.length+1),.ref (S.length+3),.ref (S.length+5)]])/\S'=S++[.lst [],mk3,.lst [],mk3,.lst [],mk3]:=by
 have hi:iR1 (AE (mC (.int 3)) AY) e S=.ok (Bt (Bc 0 3)) S:=by
  have:=IX (ml:=AE (mC (.int 3)) AY) (e:=e) (S:=S) (S1:=S) (j:=3) rfl (by decide) (by decide);simpa using this
 let G:Nat->Sto:=λi=>S++(An i [Ob.lst [],mk3]).flatten
 have Gl:∀i,(G i).length=S.length+2 * i:=λi=>by
  show (S++_).length=_;rw [A2,UM];simp;omega
 have Gs:∀i,G (i+1)=G i++[.lst [],mk3]:=λi=>by
  show S++_=S++_++_;rw [BJ]
  congr 1
  rw [List.replicate_succ',KP];simp
 obtain ⟨r,S1,q1,e',_,rfl,rfl⟩:=Ji (v:=Bt (Bc 0 3)) (g:=tgN 0) (c:=E7) (m:=A0 2 (E3 W) (AE (AC 0) (AE (AC 6) AY))) (xs:=Bc 0 3) (e:=none :: e) (S:=S)
  (λi e' S' acc=>(∃z,e'=z :: e)/\S'=G i/\acc=(Ac i).map λk=>D.ref (S.length+2 * k+1)) ⟨⟨none,rfl⟩,by simp [G],rfl⟩ (λ_ _ _ _ _=>rfl)
  (by
   rintro i d e' S' acc hd ⟨⟨z,rfl⟩,rfl,rfl⟩;obtain ⟨hi,rfl⟩:=Dw hd;refine ⟨by rw [AK,Lx];exact Ad hi (by decide),some (.int (0+i)) :: e,G i,rfl,true,G i,rfl,.inl ⟨rfl,.ref (S.length+2 * i+1),G (i+1),?_,⟨_,rfl⟩,rfl,?_⟩⟩
   ·have hk:Keeps S (G i):=Keeps.app _ _
    have c0:=VY nd (hw.keeps hk) hp (0+(i:Int));rw [Gl] at c0;rw [Gs];exact (BL (ds:=[.int (0+i),.ref q]) (S1:=G i) (BQ rfl (BQ (h6 _ _) rfl)) rfl).trans c0
   ·rw [DB,A3]
    rfl)
 have l3:(Bc 0 3).length=3:=rfl;rw [l3] at q1;have e3:G 3=S++[.lst [],mk3,.lst [],mk3,.lst [],mk3]:=rfl;rw [e3] at q1;refine ⟨S++[.lst [],mk3,.lst [],mk3,.lst [],mk3],?_,rfl⟩;exact FL ((Ia (n:=1) (g:=tgN 0) (c:=E7) (m:=A0 2 (E3 W) (AE (AC 0) (AE (AC 6) AY))) hi).trans q1)
end M
namespace M
open PySem L2
theorem Cm.put {k:Nat} {us:List (Int×Int)} {x:Int} (h:Cm k 0 us) (h0:0<=x) (h1:x < k):Cm (k+1) 0 (us++[(x,(k:Int))]):=by
 refine ⟨λy hy=>?_,?_⟩
 ·rcases Aj.mp hy with hy | hy
  ·obtain ⟨a,b,c⟩:=h.1 y hy
   refine ⟨a,b,?_⟩;omega
  ·rw [AL.mp hy]
   dsimp only;omega
 ·rw [Ft]
  refine ⟨h.2,by simp,λy hy z hz e=>?_⟩;rw [AL.mp hz] at e;subst e;have:=(h.1 _ hy).2.2;dsimp only at this;omega
theorem Cm.up {k:Nat} {us:List (Int×Int)} (h:Cm k 0 us):Cm (k+1) 0 us:=⟨λy hy=>by
 obtain ⟨a,b,c⟩:=h.1 y hy;refine ⟨a,b,?_⟩
 omega,h.2⟩
theorem dv (S T:Sto) (k:Nat):(S++T)[S.length+k]?=T[k]?:=by
 rw [BI (by omega)]
 congr 1
 omega
theorem dh (S:Sto) (r:Nat) (h:r=S.length):YI false (.ref (r+6)) (.ref (r+9)) (S++[.lst [],mk3,.lst [],mk3,.lst [],mk3,.lst [.ref (r+1),.ref (r+3),.ref (r+5)],mk3,.lst [.ref (r+7)],.lst [.ref (r+7),.ref (r+7),.ref (r+7)]])=.ok (.bl true) (S++[.lst [],mk3,.lst [],mk3,.lst [],mk3,.lst [.ref (r+1),.ref (r+3),.ref (r+5)],mk3,.lst [.ref (r+7)],.lst [.ref (r+7),.ref (r+7),.ref (r+7)]]):=by
 subst h;have g:=dv S [.lst [],mk3,.lst [],mk3,.lst [],mk3,.lst [.ref (S.length+1),.ref (S.length+3),.ref (S.length+5)],mk3,.lst [.ref (S.length+7)],.lst [.ref (S.length+7),.ref (S.length+7),.ref (S.length+7)]];generalize S++[.lst [],mk3,.lst [],mk3,.lst [],mk3,.lst [.ref (S.length+1),.ref (S.length+3),.ref (S.length+5)],mk3,.lst [.ref (S.length+7)],.lst [.ref (S.length+7),.ref (S.length+7),.ref (S.length+7)]]=F at g
 have i:∀k,k=1∨k=3∨k=5->eqI F (.ref (S.length+k)) (.ref (S.length+7))=some true:=λk hk=>by
  unfold eqI;dsimp only;rw [if_neg (by omega),g k,g 7]
  rcases hk with rfl | rfl | rfl <;> rfl
 unfold YI aB;dsimp only;rw [g 6,g 9];show (match (if 3=3 then eqL (eqI F) [.ref (S.length+1),.ref (S.length+3),.ref (S.length+5)] [.ref (S.length+7),.ref (S.length+7),.ref (S.length+7)] else some false) with | some b=>Res.ok (D.bl b) F | none=>.bad)=_;rw [if_pos rfl];unfold eqL;rw [i 1 (by omega)];unfold eqL;rw [i 3 (by omega)];unfold eqL;rw [i 5 (by omega)];rfl
theorem Sn (W:Wd) (nd:W.excs.Nodup) (ns:List Int) (S:Sto):∃S',G8 W [.fro (ns.map D.int)] S=.ok (.bl true) S':=by
 obtain ⟨h,hc⟩:=Qa W ns 0 S;have s1:Bp 1 (A0 2 (Cz W) (AE (AC 0) (AE (mC (.int 0)) AY))) (DE 6 [.fro (ns.map D.int)]) S=.ok (.nx [some (.fro (ns.map D.int)),some (.int h),none,none,none,none]) S:=C7 (i:=1) ((BL (ds:=[.fro (ns.map D.int),.int 0]) (S1:=S) rfl rfl).trans hc);have s2:Bp 2 (m2 CQ (mC (.int 13)) (m2 Ea (m2 Jv (AC 1) (mC (.int 3))) (mC (.int 48)))) [some (.fro (ns.map D.int)),some (.int h),none,none,none,none] S=.ok (.nx [some (.fro (ns.map D.int)),some (.int h),some (.int (13+h / 3 % 48)),none,none,none]) S:=C7 (i:=2) (BD rfl (BD (BD rfl rfl (Kz (by decide) (by decide))) rfl (EY (by decide))) rfl)
 obtain ⟨m,hm,hm1,hm2⟩:∃m:Nat,13+h / 3 % 48=(m:Int)/\13<=m/\m<=60:=⟨(13+h / 3 % 48).toNat,by omega,by omega,by omega⟩
 rw [hm] at s2;have s3:Bp 3 (Ce (BX AY)) [some (.fro (ns.map D.int)),some (.int h),some (.int m),none,none,none] S=.ok (.nx [some (.fro (ns.map D.int)),some (.int h),some (.int m),some (.ref S.length),none,none]) (S++[.lst []]):=rfl
 have hr:iR2 (AE (mC (.int 1)) (AE (AC 2) AY)) [some (.fro (ns.map D.int)),some (.int h),some (.int m),some (.ref S.length),none,none] (S++[.lst []])=.ok (Bt (Bc 1 (m - 1))) (S++[.lst []]):=by
  have:=Nu (ml:=AE (mC (.int 1)) (AE (AC 2) AY)) (e:=[some (.fro (ns.map D.int)),some (.int h),some (.int m),some (.ref S.length),none,none]) (S:=S++[.lst []]) (S1:=S++[.lst []]) (i:=1) (j:=m) rfl (by omega) (by omega) (by omega) (by omega);rw [this,show ((m:Int) - 1).toNat=m - 1 by omega]
 obtain ⟨f,S3,h3,⟨z4,rfl⟩,K3,us,u3,l3,a3⟩:=C9 (v:=Bt (Bc 1 (m - 1))) (g:=tgN 4) (b:=sIf (mB (m2 (eqD false) (m2 Ea (A0 2 (Bl W) (AE (AC 1) (AE (AC 4) AY))) (mC (.int 3))) (mC (.int 0)))) (B7 (FH (AC 3) (EC (AE (m2 Ea (A0 2 (Bl W) (AE (AC 1) (AE (m2 CQ (mC (.int 97)) (AC 4)) AY))) (AC 4)) (AE (AC 4) AY))))) sNx) (xs:=Bc 1 (m - 1)) (e:=[some (.fro (ns.map D.int)),some (.int h),some (.int m),some (.ref S.length),none,none]) (S:=S++[.lst []])
  (λi e S'=>(∃z4,e=[some (.fro (ns.map D.int)),some (.int h),some (.int m),some (.ref S.length),z4,none])/\Keeps S S'/\∃us:List (Int×Int),Cm (i+1) 0 us/\us.length<=i/\S'[S.length]?=some (.lst (us.map pairD)))
  (λf S'=>(∃z4,f=.nx [some (.fro (ns.map D.int)),some (.int h),some (.int m),some (.ref S.length),z4,none])/\Keeps S S'/\∃us:List (Int×Int),Cm m 0 us/\us.length<=m/\S'[S.length]?=some (.lst (us.map pairD)))
  ⟨⟨none,rfl⟩,Keeps.app _ _,[],Cm.nil _ _,AS _,Bx _ _⟩ (λ_ _ _ _=>rfl)
  (by
   rintro i d e S' hd ⟨⟨z4,rfl⟩,K,us,hu,hl,ha⟩;obtain ⟨hi,rfl⟩:=Dw hd;refine ⟨[some (.fro (ns.map D.int)),some (.int h),some (.int m),some (.ref S.length),some (.int (1+i)),none],S',rfl,?_⟩;obtain ⟨v,_,_,m1⟩:=Kp W h (1+i);obtain ⟨w,w0,_,m2'⟩:=Kp W h (97+(1+i))
   have tt:mB (m2 (eqD false) (m2 Ea (A0 2 (Bl W) (AE (AC 1) (AE (AC 4) AY))) (mC (.int 3))) (mC (.int 0))) [some (.fro (ns.map D.int)),some (.int h),some (.int m),some (.ref S.length),some (.int (1+i)),none] S'=.ok (decide (v % 3=0)) S':=
    E5 (BD (BD ((BL (ds:=[.int h,.int (1+i)]) (S1:=S') rfl rfl).trans (m1 S')) rfl (EY (by decide))) rfl (Hi rfl))
   have ic:=DP (a:=B7 (FH (AC 3) (EC (AE (m2 Ea (A0 2 (Bl W) (AE (AC 1) (AE (m2 CQ (mC (.int 97)) (AC 4)) AY))) (AC 4)) (AE (AC 4) AY))))) (b:=sNx) tt
   by_cases c:v % 3=0
   ·rw [decide_eq_true c] at ic
    have e1:EC (AE (m2 Ea (A0 2 (Bl W) (AE (AC 1) (AE (m2 CQ (mC (.int 97)) (AC 4)) AY))) (AC 4)) (AE (AC 4) AY)) [some (.fro (ns.map D.int)),some (.int h),some (.int m),some (.ref S.length),some (.int (1+i)),none] S'=.ok (pairD (w % (1+i),1+(i:Int))) S':=
     IN (ds:=[.int (w % (1+i)),.int (1+i)]) (BQ (BD ((BL (ds:=[.int h,.int (97+(1+i))]) (S1:=S') rfl rfl).trans (m2' S')) rfl (EY (by omega))) (BQ rfl rfl)) (by simp)
    have ap:=Hj (mo:=AC 3) (ma:=EC (AE (m2 Ea (A0 2 (Bl W) (AE (AC 1) (AE (m2 CQ (mC (.int 97)) (AC 4)) AY))) (AC 4)) (AE (AC 4) AY))) (e:=[some (.fro (ns.map D.int)),some (.int h),some (.int m),some (.ref S.length),some (.int (1+i)),none]) (S:=S') (y:=pairD (w % (1+i),1+(i:Int))) (S2:=S') rfl ha e1 ha (by rw [AK];exact A7 (show us.length<=3600 by omega) (by decide));refine ⟨_,_,ic.trans ((if_pos rfl).trans (ED ap)),⟨_,rfl⟩,K.set (AS _) _,us++[(w % (1+i),((i+1:Nat):Int))],hu.put (Ja _ (by omega)) (by have:=Hc w (show (0:Int) < 1+i by omega);omega),by rw [A2];simp;omega,?_⟩;rw [As (AG.mp ha).1,A3,show ((i+1:Nat):Int)=1+i by omega];rfl
   ·rw [decide_eq_false c] at ic
    exact ⟨_,_,ic.trans rfl,⟨_,rfl⟩,K,us,hu.up,by omega,ha⟩)
  (by
   rintro e S' ⟨⟨z4,rfl⟩,K,us,hu,hl,ha⟩;rw [Dv] at hu hl;rw [show m - 1+1=m by omega] at hu
   exact ⟨⟨z4,rfl⟩,K,us,hu,by omega,ha⟩)
 obtain ⟨S4,c4,K4,w4⟩:=Q6 W (p:=m) (by omega) hm2 (d:=.ref S.length) (S:=S3) (ps:=us) (λS' k=>C1 (k.at a3)) (by omega) u3.fit (ml:=AE (AC 2) (AE (AC 3) AY)) (e:=[some (.fro (ns.map D.int)),some (.int h),some (.int m),some (.ref S.length),z4,none]) (S0:=S3) rfl;have s5:Bp 5 (MF W.Web 3 (GD W) (AE (AC 2) (AE (AC 3) AY))) [some (.fro (ns.map D.int)),some (.int h),some (.int m),some (.ref S.length),z4,none] S3=.ok (.nx [some (.fro (ns.map D.int)),some (.int h),some (.int m),some (.ref S.length),z4,some (.ref S3.length)]) S4:=C7 (i:=5) c4;obtain ⟨S5,c5,rfl⟩:=cr nd w4 (show 12 < m by omega) (e:=[some (.fro (ns.map D.int)),some (.int h),some (.int m),some (.ref S.length),z4,some (.ref S3.length)]) (λ_ _=>rfl)
 have el:(S4++[Ob.lst [],mk3,.lst [],mk3,.lst [],mk3]).length=S4.length+6:=by simp
 have ea:S4++[Ob.lst [],mk3,.lst [],mk3,.lst [],mk3]++[.lst [.ref (S4.length+1),.ref (S4.length+3),.ref (S4.length+5)]]=S4++[.lst [],mk3,.lst [],mk3,.lst [],mk3,.lst [.ref (S4.length+1),.ref (S4.length+3),.ref (S4.length+5)]]:=by simp
 rw [el,ea] at c5;generalize hF:S4++[Ob.lst [],mk3,.lst [],mk3,.lst [],mk3,.lst [.ref (S4.length+1),.ref (S4.length+3),.ref (S4.length+5)]]=S6 at c5
 have l6:S6.length=S4.length+7:=by rw [<-hF];simp
 have c6:m2 VH (Ce (BX (AE (Ce (BX (AE (mC (.bl true)) (AE (mC (.bl true)) (AE (mC (.bl false)) AY))))) AY))) (mC (.int 3)) [some (.fro (ns.map D.int)),some (.int h),some (.int m),some (.ref S.length),z4,some (.ref S3.length)] S6=.ok (.ref (S4.length+9)) (S6++[mk3,.lst [.ref (S4.length+7)],.lst [.ref (S4.length+7),.ref (S4.length+7),.ref (S4.length+7)]]):=by
  have i1:Ce (BX (AE (mC (.bl true)) (AE (mC (.bl true)) (AE (mC (.bl false)) AY)))) [some (.fro (ns.map D.int)),some (.int h),some (.int m),some (.ref S.length),z4,some (.ref S3.length)] S6=.ok (.ref S6.length) (S6++[mk3]):=FL (Hy (ds:=[.bl true,.bl true,.bl false]) rfl (by simp));have i2:Ce (BX (AE (Ce (BX (AE (mC (.bl true)) (AE (mC (.bl true)) (AE (mC (.bl false)) AY))))) AY)) [some (.fro (ns.map D.int)),some (.int h),some (.int m),some (.ref S.length),z4,some (.ref S3.length)] S6=.ok (.ref (S6++[mk3]).length) (S6++[mk3]++[.lst [.ref S6.length]]):=FL (Hy (ds:=[.ref S6.length]) (BQ i1 rfl) (by simp))
  have i3:VH (.ref (S6++[mk3]).length) (.int 3) (S6++[mk3]++[.lst [.ref S6.length]])=.ok (.ref (S6++[mk3]++[Ob.lst [.ref S6.length]]).length) (S6++[mk3]++[.lst [.ref S6.length]]++[.lst [.ref S6.length,.ref S6.length,.ref S6.length]]):=by
   unfold VH;dsimp only;rw [Bx];rfl
  have:=BD i2 (show mC (.int 3) _ _=.ok (.int 3) _ from rfl) i3;rw [this];simp [l6]
 have c7:=dh S4 S4.length rfl
 have ef:S6++[mk3,.lst [.ref (S4.length+7)],.lst [.ref (S4.length+7),.ref (S4.length+7),.ref (S4.length+7)]]=S4++[.lst [],mk3,.lst [],mk3,.lst [],mk3,.lst [.ref (S4.length+1),.ref (S4.length+3),.ref (S4.length+5)],mk3,.lst [.ref (S4.length+7)],.lst [.ref (S4.length+7),.ref (S4.length+7),.ref (S4.length+7)]]:=by rw [<-hF];simp
 rw [ef] at c6;refine ⟨S4++[.lst [],mk3,.lst [],mk3,.lst [],mk3,.lst [.ref (S4.length+1),.ref (S4.length+3),.ref (S4.length+5)],mk3,.lst [.ref (S4.length+7)],.lst [.ref (S4.length+7),.ref (S4.length+7),.ref (S4.length+7)]],CP (n:=6) (mb:=HC W) ?_⟩;unfold HC;refine (Av s1).trans ?_;refine (Av s2).trans ?_;refine (Av s3).trans ?_;refine (Av ((Cj hr).trans h3)).trans ?_;refine (Av s5).trans ?_;exact FB (BD c5 c6 c7)
end M
namespace M
open PySem L2
theorem Xa {B S:Sto} {n o:Nat} {ts:List (Int×Int)} (h:LJ B n o ts) (K:Keeps B S) {x:Nat} (hx:x < o):∃r,ixA (.ref n) (.int x) S=.ok (.ref r) S/\S[r]?=some (.lst ((nr ts x).map D.int)):=by
 obtain ⟨rs,h1,h2,h3⟩:=h;obtain ⟨r,q1,q2⟩:=h3 x hx;exact ⟨r,TK (K.at h1) (by omega) (by rw [AV,Bf,q1];rfl),K.at q2⟩
theorem Vr {α:Type} {f:α->D} {P:α->Bool} {l:List α} {v:Hk} {c:MT} {e:Lo} {S:Sto} (hv:v S=some (l.map f)) (hl:l.length<=1000000) (hc:∀x∈l,c (some (f x) :: e) S=.ok (P x) S) :
  GZ v (tgN 0) c (AC 0) (CY v S) 0 (none :: e) S []=.ok ((l.filter P).map f) S:=by
 obtain ⟨r,S1,q1,e',_,rfl,rfl⟩:=Ji (v:=v) (g:=tgN 0) (c:=c) (m:=AC 0) (xs:=l.map f) (e:=none :: e) (S:=S)
  (λi e' S' acc=>(∃z,e'=z :: e)/\S'=S/\acc=((l.take i).filter P).map f) ⟨⟨none,rfl⟩,rfl,rfl⟩ (by rintro i e' S' acc ⟨_,rfl,_⟩;exact hv)
  (by
   rintro i d e' S' acc hd ⟨⟨z,rfl⟩,rfl,rfl⟩;rw [AV] at hd
   cases hx:l[i]? with
   | none=>rw [hx] at hd;cases hd
   | some x=>
    rw [hx] at hd;cases hd;refine ⟨?_,some (f x) :: e,S',rfl,P x,S',hc x (Ai hx),?_⟩
    ·rw [AK]
     have:=(Uz (p:=P) (l:=l.take i)).length_le;rw [B4] at this;exact A7 (show _<=1000000 by omega) (by decide)
    ·cases hp:P x with
     | true=>
      refine .inl ⟨rfl,f x,S',rfl,⟨_,rfl⟩,rfl,?_⟩;rw [take_snoc hx,WN,A3];simp [hp]
     | false=>
      refine .inr ⟨rfl,⟨_,rfl⟩,rfl,?_⟩;rw [take_snoc hx,WN]
      simp [hp])
 rw [AK,Br] at q1;exact q1
abbrev E9 (ns:List Int) (p t q n:Nat) (s:List Int) (r:Nat) (z7 z8:Option D):Lo:=[some (.fro (ns.map D.int)),some (.int p),some (.ref t),some (.ref q),some (.ref n),some (Az s),some (.ref r),z7,z8]
theorem good (W:Wd) (nd:W.excs.Nodup) (ns:List Int) (hns:ns.length<=63):∃S',YG W [.fro (ns.map D.int)] []=.ok (.bl true) S':=by
 obtain ⟨p,t,ts,S1,q1,t1,u1,l1,hp1,hp⟩:=Wv W ns []
 have s1:VF (A0 3 (D0 W) (AE (AC 0) (AE (mC (.int 9)) (AE (mC (.int 10)) AY)))) (Gm 2 (CZ (tgN 1) (CZ (tgN 2) G1))) (DE 9 [.fro (ns.map D.int)]) []=.ok (.nx [some (.fro (ns.map D.int)),some (.int p),some (.ref t),none,none,none,none,none,none]) S1:=by
  have c1:A0 3 (D0 W) (AE (AC 0) (AE (mC (.int 9)) (AE (mC (.int 10)) AY))) (DE 9 [.fro (ns.map D.int)]) []=.ok (.tup [.int p,.ref t]) S1:=(BL (ds:=[.fro (ns.map D.int),.int 9,.int 10]) (S1:=[]) rfl rfl).trans q1;unfold VF;rw [c1];rfl
 obtain ⟨h,hc⟩:=Qa W ns 0 S1;obtain ⟨q,S2,c2,K2,w2⟩:=TU W (c:=h) t1 hp1 (show p<=60 by omega) u1.fit (by omega) (e:=[some (.fro (ns.map D.int)),some (.int p),some (.ref t),none,none,none,none,none,none]) (mp:=AC 1) (mt:=AC 2) (mc:=AE (A0 2 (Cz W) (AE (AC 0) (AE (mC (.int 0)) AY))) AY) rfl (BQ rfl (BQ ((BL (ds:=[.fro (ns.map D.int),.int 0]) (S1:=S1) rfl rfl).trans hc) rfl));have s2:=C7 (i:=3) c2;obtain ⟨n,S3,c3,K3,n3⟩:=XZ W (K2.at t1) u1 (show p<=60 by omega) (by omega);have s3:Bp 4 (A0 2 (Gq W) (AE (AC 2) (AE (AC 1) AY))) [some (.fro (ns.map D.int)),some (.int p),some (.ref t),some (.ref q),none,none,none,none,none] S2=.ok (.nx [some (.fro (ns.map D.int)),some (.int p),some (.ref t),some (.ref q),some (.ref n),none,none,none,none]) S3:=C7 (i:=4) ((BL (ds:=[.ref t,.int p]) (S1:=S2) rfl rfl).trans c3);have w3:=w2.keeps K3;obtain ⟨s,S4,c4,K4,hB⟩:=R3 W w3 u1 hp1 hp;have s4:Bp 5 (A0 1 (Cb W) (AE (AC 3) AY)) [some (.fro (ns.map D.int)),some (.int p),some (.ref t),some (.ref q),some (.ref n),none,none,none,none] S3=.ok (.nx [some (.fro (ns.map D.int)),some (.int p),some (.ref t),some (.ref q),some (.ref n),some (Az s),none,none,none]) S4:=C7 (i:=5) ((BL (ds:=[.ref q]) (S1:=S3) rfl rfl).trans c4);have w4:=w3.keeps K4;obtain ⟨r,ds,S5,c5,K5,hr,r5,hF⟩:=Z7 W w4 u1 hp1 hp;have s5:Bp 6 (A0 1 (DT W) (AE (AC 3) AY)) [some (.fro (ns.map D.int)),some (.int p),some (.ref t),some (.ref q),some (.ref n),some (Az s),none,none,none] S4=.ok (.nx (E9 ns p t q n s r none none)) S5:=C7 (i:=6) ((BL (ds:=[.ref q]) (S1:=S4) rfl rfl).trans c5);have w5:=w4.keeps K5;obtain ⟨f,S6,c6,K6,hW⟩:=di W w5 u1 hp1 hp (by omega);have hrow:=hF.row;have le1:=dj u1 hB hW;have le2:=hrow.pig hB.st hB.ap;have hsl:=hB.st.len
 have i6:Nk (mB (m3 leD leD (Eb (A0 1 (Cy W) (AE (AC 3) AY))) (Eb (AC 5)) (Eb (AC 6)))) (E9 ns p t q n s r none none) S5=.ok false S6:=by
  have a1:Eb (A0 1 (Cy W) (AE (AC 3) AY)) (E9 ns p t q n s r none none) S5=.ok (.int f.length) S6:=(Gg (d:=Az f) (ds:=f.map D.int) ((BL (ds:=[.ref q]) (S1:=S5) rfl rfl).trans c6) rfl).trans (by rw [AK]);have a2:Eb (AC 5) (E9 ns p t q n s r none none) S6=.ok (.int s.length) S6:=(Gg (d:=Az s) (ds:=s.map D.int) rfl rfl).trans (by rw [AK]);have a3:Eb (AC 6) (E9 ns p t q n s r none none) S6=.ok (.int ds.length) S6:=(Gg (d:=.ref r) (ds:=ds.map Az) rfl (Ep (K6.at r5))).trans (by rw [AK]);exact Lg (b:=true) (E5 (UH a1 a2 (KG (decide_eq_true (by omega))) a3 (KG (decide_eq_true (by omega)))))
 have n6:=((n3.keeps K4).keeps K5).keeps K6
 have hi:iR1 (AE (AC 1) AY) (E9 ns p t q n s r none none) S6=.ok (Bt (Bc 0 p)) S6:=by
  have:=IX (ml:=AE (AC 1) AY) (e:=E9 ns p t q n s r none none) (S:=S6) (S1:=S6) (j:=p) rfl (by omega) (by omega);simpa using this
 obtain ⟨f7,S7,c7,⟨z7,rfl⟩,K7⟩:=C9 (v:=Bt (Bc 0 p)) (g:=tgN 7) (b:=sIf (Rc (mB (m2 (inA true) (AC 7) (AC 5))) (Nk (mB (mQ V6 (Rb (Ce (GX 1 (Ec (m2 ixA (AC 4) (AC 7))) (tgN 0) E7 (m2 (inA false) (AC 0) (AC 6))))))))) (Cw (mC (.bl false))) sNx) (xs:=Bc 0 p) (e:=E9 ns p t q n s r none none) (S:=S6)
  (λ_ e S'=>(∃z7,e=E9 ns p t q n s r z7 none)/\Keeps S6 S') (λf S'=>(∃z7,f=.nx (E9 ns p t q n s r z7 none))/\Keeps S6 S') ⟨⟨none,rfl⟩,Keeps.refl _⟩ (λ_ _ _ _=>rfl)
  (by
   rintro i d e S' hd ⟨⟨z7,rfl⟩,K⟩;obtain ⟨hi,rfl⟩:=Dw hd;rw [HK];refine ⟨E9 ns p t q n s r (some (.int i)) none,S',rfl,?_⟩;have t0:mB (m2 (inA true) (AC 7) (AC 5)) (E9 ns p t q n s r (some (.int i)) none) S'=.ok (!decide ((i:Int)∈s)) S':=E5 (BD rfl rfl (M2 (d:=Az s) (zs:=s) rfl true i))
   by_cases c:(i:Int)∈s
   ·rw [decide_eq_true c] at t0
    exact ⟨_,S',(DP (aP t0)).trans rfl,⟨_,rfl⟩,K⟩
   ·rw [decide_eq_false c] at t0
    obtain ⟨a,g1,g2⟩:=Xa n6 K hi
    have hlen:(nr ts i).length<=1000000:=by
     have:=cq (x:=i) u1;omega
    have q3:=RY (f:=D.int) (g:=λy:Int=>D.bl (decide (y∈s))) (l:=nr ts i) (v:=C2 (.ref a)) (m:=m2 (inA false) (AC 0) (AC 6)) (e:=E9 ns p t q n s r (some (.int i)) none) (S:=S') (C1 g2) hlen (λy _=>BD rfl rfl (M2 (d:=Az s) (zs:=s) rfl false y));have c3:=FL ((Ia (n:=1) (g:=tgN 0) (c:=E7) (m:=m2 (inA false) (AC 0) (AC 6)) (Fi (m:=m2 ixA (AC 4) (AC 7)) (e:=E9 ns p t q n s r (some (.int i)) none) (S:=S') (S1:=S') (BD rfl rfl g1) g2)).trans q3)
    have e3:((nr ts i).map λy:Int=>D.bl (decide (y∈s)))=((nr ts i).map λy:Int=>decide (y∈s)).map D.bl:=by rw [BZ];rfl
    have av:(((nr ts i).map λy:Int=>decide (y∈s)).any id)=true:=by
     obtain ⟨y,hy,hys⟩:=hB.watch u1 hi c;exact D6.mpr ⟨true,BF.mpr ⟨y,hy,decide_eq_true hys⟩,rfl⟩
    rw [e3] at c3;have a3:=bv (f:=V6) (fN c3 (Ep (Bx _ _))) aO;rw [av] at a3
    exact ⟨_,_,(DP ((aQ t0).trans (Lg (b:=true) (E5 a3)))).trans rfl,⟨_,rfl⟩,K.trans (Keeps.app _ _)⟩)
  (by rintro e S' ⟨⟨z7,rfl⟩,K⟩;exact ⟨⟨z7,rfl⟩,K⟩)
 have r7:=K7.at (K6.at r5)
 obtain ⟨e',S8,c8,⟨z8,rfl⟩,K8⟩:=aC (f:=Az) (l:=ds) (v:=C2 (.ref r)) (g:=tgN 8) (b:=sIf (mB (m2 gtD (Eb (Ce (GX 1 (Ec (AC 8)) (tgN 0) (mB (m2 (inA false) (AC 0) (AC 6))) (AC 0)))) (mC (.int 1)))) (Cw (mC (.bl false))) sNx) (e:=E9 ns p t q n s r z7 none) (S:=S7)
  (λ_ e S'=>(∃z8,e=E9 ns p t q n s r z7 z8)/\Keeps S7 S') ⟨⟨none,rfl⟩,Keeps.refl _⟩ (λ_ e S' hI=>C1 (hI.2.at r7))
  (by
   rintro _ c e S' hcm _ ⟨⟨z8,rfl⟩,K⟩;have hcl:=hrow.cl c hcm;have hcn:=hcl.st.len;refine ⟨E9 ns p t q n s r z7 (some (Az c)),S',rfl,E9 ns p t q n s r z7 (some (Az c)),?_⟩;have q3:=Vr (f:=D.int) (P:=λy:Int=>decide (y∈s)) (l:=c) (v:=Bt (c.map D.int)) (c:=mB (m2 (inA false) (AC 0) (AC 6))) (e:=E9 ns p t q n s r z7 (some (Az c))) (S:=S') rfl (by omega) (λy _=>E5 (BD rfl rfl (M2 (d:=Az s) (zs:=s) rfl false y)));have hv:Ec (AC 8) (E9 ns p t q n s r z7 (some (Az c))) S'=.ok (Bt (c.map D.int)) S':=rfl;have c3:=FL ((Ia (n:=1) (g:=tgN 0) (c:=mB (m2 (inA false) (AC 0) (AC 6))) (m:=AC 0) hv).trans q3);have l3:=Gg c3 (Ep (Bx _ _));have hone:=YR hB hcl;refine ⟨_,(DP (E5 (BD l3 rfl (QO (decide_eq_false ?_))))).trans rfl,⟨_,rfl⟩,K.trans (Keeps.app _ _)⟩;rw [AK]
   omega)
 obtain ⟨S9,c9⟩:=Sn W nd ns S8;refine ⟨S9,CP (n:=9) (mb:=YV W) ?_⟩;unfold YV;refine (Av s1).trans ?_;refine (Av s2).trans ?_;refine (Av s3).trans ?_;refine (Av s4).trans ?_;refine (Av s5).trans ?_;refine (UP i6).trans ?_;refine (Av ((Cj hi).trans c7)).trans ?_;refine (Av ((Cj (Fi (m:=AC 6) (e:=E9 ns p t q n s r z7 none) (S:=S7) (S1:=S7) rfl r7)).trans c8)).trans ?_;exact FB ((BL (ds:=[.fro (ns.map D.int)]) (S1:=S8) rfl rfl).trans c9)
end M
def PySem.W.Fast.tw10380977814524568288:Nat:=0
def PySem.W.Fast.tw6740821340609307034:Nat:=0
def PySem.W.Fast.tw16098488390481268733:Nat:=0
def PySem.W.Fast.tw134160504163701575:Nat:=0
def PySem.W.Fast.tw9818231977412080191:Nat:=0
def PySem.W.Fast.tw17585916588815876879:Nat:=0
def PySem.W.Fast.tw11123632212735089:Nat:=0
def PySem.W.Fast.tw10524930963058357290:Nat:=0
def PySem.W.Fast.tw10707843674709936880:Nat:=0
def PySem.W.Fast.tw11677842581513240919:Nat:=0
def PySem.W.Fast.tw924300604245433700:Nat:=0
def PySem.W.Fast.tw3807036434427656713:Nat:=0
def PySem.W.Fast.tw920066135728644372:Nat:=0
def PySem.W.Fast.tw9473172599457810794:Nat:=0
def PySem.W.Fast.tw12908891256104740134:Nat:=0
def PySem.W.Fast.tw11089729785654781599:Nat:=0
def PySem.W.Fast.tw9449438238331396924:Nat:=0
def PySem.W.Fast.tw2696003543936908624:Nat:=0
def PySem.W.Fast.tw13662875389237781618:Nat:=0
def PySem.W.Fast.tw2269083685710384561:Nat:=0
def PySem.W.Fast.tw16128298893762906838:Nat:=0
def PySem.W.Fast.tw8884813453317170391:Nat:=0
def PySem.W.Fast.tw12870540141291951081:Nat:=0
def PySem.W.Fast.tw14540571701838724829:Nat:=0
def PySem.W.Fast.tw7000412734848016113:Nat:=0
def PySem.W.Fast.tw1860105262107360126:Nat:=0
def PySem.W.Fast.tw12945434573884092830:Nat:=0
def PySem.W.Fast.tw5707805238273139976:Nat:=0
def PySem.W.Fast.tw16281393736938495317:Nat:=0
def PySem.W.Fast.tw6899799743673979321:Nat:=0
def PySem.W.Fast.tw4552557539350092227:Nat:=0
def PySem.W.Fast.tw12893485826684365468:Nat:=0
def PySem.W.Fast.tw16617532181000543141:Nat:=0
def PySem.W.Fast.tw5025164055733506473:Nat:=0
def PySem.W.Fast.tw1370560637595262147:Nat:=0
def PySem.W.Fast.tw9446437319910251143:Nat:=0
namespace M
open PySem PySem.Spec PyProof.Rows L2 PySem.W
theorem dz {l:OpenLaw} {w:BG} {K:Frag} {h:Bk} {mg:Str->Option AD} {fa:AI} (X:K.In h) (G:h.Ns AZ mg) (hfa:mg "law" = some (.ref fa))
  {f1 f2 f3 f4 f5 f6 f7 f8 f9 f10 f11 f12 f13 f14 f15 f16 f17 f18 f19 f20 f21 f22 f23 f24 f25 f26 f27 cGuardError cBadPlaces cBadTie cNoPlace cTooLarge cBadGuards cNotTwo cNotWood cWeb:AI} {tk_MOST_PLACES tk_MOST_PLACES_TRIED:Tok}
  {od1 an1 od2 an2 od3 an3 od4 an4 od5 an5 od6 an6 od7 an7 od8 an8 od9 an9 od10 an10 od11 an11 od12 an12 od13 an13 od14 an14 od15 an15 od16 an16 od17 an17 od18 an18 od19 an19 od20 an20 od21 an21 od22 an22 od23 an23 od24 an24 od25 an25 od26 an26 od27 an27:Option AI} {sl1 sl2 sl3 sl4 sl5 sl6 sl7 sl8 sl9 sl10 sl11 sl12 sl13 sl14 sl15 sl16 sl17 sl18 sl19 sl20 sl21 sl22 sl23 sl24 sl25 sl26 sl27:Array (Option AD)} {oc1 kV1 dc1 pm1 cd1 ct1 oc2 kV2 dc2 pm2 cd2 ct2 oc3 kV3 dc3 pm3 cd3 ct3 oc4 kV4 dc4 pm4 cd4 ct4 oc5 kV5 dc5 pm5 cd5 ct5 oc6 kV6 dc6 pm6 cd6 ct6 oc7 kV7 dc7 pm7 cd7 ct7 oc8 kV8 dc8 pm8 cd8 ct8 oc9 kV9 dc9 pm9 cd9 ct9 oc10 kV10 dc10 pm10 cd10 ct10 oc11 kV11 dc11 pm11 cd11 ct11 oc12 kV12 dc12 pm12 cd12 ct12 oc13 kV13 dc13 pm13 cd13 ct13 oc14 kV14 dc14 pm14 cd14 ct14 oc15 kV15 dc15 pm15 cd15 ct15 oc16 kV16 dc16 pm16 cd16 ct16 oc17 kV17 dc17 pm17 cd17 ct17 oc18 kV18 dc18 pm18 cd18 ct18 oc19 kV19 dc19 pm19 cd19 ct19 oc20 kV20 dc20 pm20 cd20 ct20 oc21 kV21 dc21 pm21 cd21 ct21 oc22 kV22 dc22 pm22 cd22 ct22 oc23 kV23 dc23 pm23 cd23 ct23 oc24 kV24 dc24 pm24 cd24 ct24 oc25 kV25 dc25 pm25 cd25 ct25 oc26 kV26 dc26 pm26 cd26 ct26 oc27 kV27 dc27 pm27 cd27 ct27:AD}
  (a_Web:nsIn K AZ "Web" = some (some (.ref cWeb)))
  (a_GuardError:nsIn K AZ "GuardError" = some (some (.ref cGuardError)))
  (a_BadPlaces:nsIn K AZ "BadPlaces" = some (some (.ref cBadPlaces)))
  (a_BadTie:nsIn K AZ "BadTie" = some (some (.ref cBadTie)))
  (a_NoPlace:nsIn K AZ "NoPlace" = some (some (.ref cNoPlace)))
  (a_TooLarge:nsIn K AZ "TooLarge" = some (some (.ref cTooLarge)))
  (a_BadGuards:nsIn K AZ "BadGuards" = some (some (.ref cBadGuards)))
  (a_NotTwo:nsIn K AZ "NotTwo" = some (some (.ref cNotTwo)))
  (a_NotWood:nsIn K AZ "NotWood" = some (some (.ref cNotWood)))
  (a1:nsIn K AZ "checked_ties" = some (some (.ref f1)))
  (l1:K.lookup f1=some ⟨oc1,od1,.func (fnOf "checked_ties" "checked_ties" (Bw Ds) (Bm Ds) (Am Ds) .none kV1 dc1 pm1 an1 cd1 ct1),sl1⟩)
  (k1c:codeIn K cd1 "checked_ties" = true)
  (k1:keepIn K (.ref f1)=true)
  (a2:nsIn K AZ "near_sets_of" = some (some (.ref f2)))
  (l2:K.lookup f2=some ⟨oc2,od2,.func (fnOf "near_sets_of" "near_sets_of" (Bw Dp) (Bm Dp) (Am Dp) .none kV2 dc2 pm2 an2 cd2 ct2),sl2⟩)
  (k2c:codeIn K cd2 "near_sets_of" = true)
  (k2:keepIn K (.ref f2)=true)
  (a3:findIn K (.ref cWeb) "__init__" = some (some (.ref f3)))
  (i3:isFn K (.ref f3)=true)
  (l3:K.lookup f3=some ⟨oc3,od3,.func (fnOf "__init__" "Web.__init__" (Bw Fy) (Bm Fy) (Am Fy) .none kV3 dc3 pm3 an3 cd3 ct3),sl3⟩)
  (k3c:codeIn K cd3 "Web.__init__" = true)
  (k3:keepIn K (.ref f3)=true)
  (a4:nsIn K AZ "refuse_no_place" = some (some (.ref f4)))
  (l4:K.lookup f4=some ⟨oc4,od4,.func (fnOf "refuse_no_place" "refuse_no_place" (Bw C3) (Bm C3) (Am C3) .none kV4 dc4 pm4 an4 cd4 ct4),sl4⟩)
  (k4c:codeIn K cd4 "refuse_no_place" = true)
  (k4:keepIn K (.ref f4)=true)
  (a5:nsIn K AZ "near" = some (some (.ref f5)))
  (l5:K.lookup f5=some ⟨oc5,od5,.func (fnOf "near" "near" (Bw Lc) (Bm Lc) (Am Lc) .none kV5 dc5 pm5 an5 cd5 ct5),sl5⟩)
  (k5c:codeIn K cd5 "near" = true)
  (k5:keepIn K (.ref f5)=true)
  (a6:nsIn K AZ "sets_of" = some (some (.ref f6)))
  (l6:K.lookup f6=some ⟨oc6,od6,.func (fnOf "sets_of" "sets_of" (Bw Gw) (Bm Gw) (Am Gw) .none kV6 dc6 pm6 an6 cd6 ct6),sl6⟩)
  (k6c:codeIn K cd6 "sets_of" = true)
  (k6:keepIn K (.ref f6)=true)
  (a7:nsIn K AZ "first_unwatched" = some (some (.ref f7)))
  (l7:K.lookup f7=some ⟨oc7,od7,.func (fnOf "first_unwatched" "first_unwatched" (Bw C4) (Bm C4) (Am C4) .none kV7 dc7 pm7 an7 cd7 ct7),sl7⟩)
  (k7c:codeIn K cd7 "first_unwatched" = true)
  (k7:keepIn K (.ref f7)=true)
  (a8:nsIn K AZ "first_pair" = some (some (.ref f8)))
  (l8:K.lookup f8=some ⟨oc8,od8,.func (fnOf "first_pair" "first_pair" (Bw Ex) (Bm Ex) (Am Ex) .none kV8 dc8 pm8 an8 cd8 ct8),sl8⟩)
  (k8c:codeIn K cd8 "first_pair" = true)
  (k8:keepIn K (.ref f8)=true)
  (a9:nsIn K AZ "first_near" = some (some (.ref f9)))
  (l9:K.lookup f9=some ⟨oc9,od9,.func (fnOf "first_near" "first_near" (Bw Ey) (Bm Ey) (Am Ey) .none kV9 dc9 pm9 an9 cd9 ct9),sl9⟩)
  (k9c:codeIn K cd9 "first_near" = true)
  (k9:keepIn K (.ref f9)=true)
  (a10:nsIn K AZ "first_far" = some (some (.ref f10)))
  (l10:K.lookup f10=some ⟨oc10,od10,.func (fnOf "first_far" "first_far" (Bw FQ) (Bm FQ) (Am FQ) .none kV10 dc10 pm10 an10 cd10 ct10),sl10⟩)
  (k10c:codeIn K cd10 "first_far" = true)
  (k10:keepIn K (.ref f10)=true)
  (a11:nsIn K AZ "is_club" = some (some (.ref f11)))
  (l11:K.lookup f11=some ⟨oc11,od11,.func (fnOf "is_club" "is_club" (Bw Gx) (Bm Gx) (Am Gx) .none kV11 dc11 pm11 an11 cd11 ct11),sl11⟩)
  (k11c:codeIn K cd11 "is_club" = true)
  (k11:keepIn K (.ref f11)=true)
  (a12:nsIn K AZ "refuse_large" = some (some (.ref f12)))
  (l12:K.lookup f12=some ⟨oc12,od12,.func (fnOf "refuse_large" "refuse_large" (Bw Dm) (Bm Dm) (Am Dm) .none kV12 dc12 pm12 an12 cd12 ct12),sl12⟩)
  (k12c:codeIn K cd12 "refuse_large" = true)
  (k12:keepIn K (.ref f12)=true)
  (a13:nsIn K AZ "fewest_watch" = some (some (.ref f13)))
  (l13:K.lookup f13=some ⟨oc13,od13,.func (fnOf "fewest_watch" "fewest_watch" (Bw Dq) (Bm Dq) (Am Dq) .none kV13 dc13 pm13 an13 cd13 ct13),sl13⟩)
  (k13c:codeIn K cd13 "fewest_watch" = true)
  (k13:keepIn K (.ref f13)=true)
  (a14:nsIn K AZ "most_apart" = some (some (.ref f14)))
  (l14:K.lookup f14=some ⟨oc14,od14,.func (fnOf "most_apart" "most_apart" (Bw Ew) (Bm Ew) (Am Ew) .none kV14 dc14 pm14 an14 cd14 ct14),sl14⟩)
  (k14c:codeIn K cd14 "most_apart" = true)
  (k14:keepIn K (.ref f14)=true)
  (a15:nsIn K AZ "clubs_with" = some (some (.ref f15)))
  (l15:K.lookup f15=some ⟨oc15,od15,.func (fnOf "clubs_with" "clubs_with" (Bw Ez) (Bm Ez) (Am Ez) .none kV15 dc15 pm15 an15 cd15 ct15),sl15⟩)
  (k15c:codeIn K cd15 "clubs_with" = true)
  (k15:keepIn K (.ref f15)=true)
  (a16:nsIn K AZ "parting_from" = some (some (.ref f16)))
  (l16:K.lookup f16=some ⟨oc16,od16,.func (fnOf "parting_from" "parting_from" (Bw Do) (Bm Do) (Am Do) .none kV16 dc16 pm16 an16 cd16 ct16),sl16⟩)
  (k16c:codeIn K cd16 "parting_from" = true)
  (k16:keepIn K (.ref f16)=true)
  (a17:nsIn K AZ "fewest_clubs" = some (some (.ref f17)))
  (l17:K.lookup f17=some ⟨oc17,od17,.func (fnOf "fewest_clubs" "fewest_clubs" (Bw Dr) (Bm Dr) (Am Dr) .none kV17 dc17 pm17 an17 cd17 ct17),sl17⟩)
  (k17c:codeIn K cd17 "fewest_clubs" = true)
  (k17:keepIn K (.ref f17)=true)
  (a18:nsIn K AZ "_law_cell_at" = some (some (.ref f18)))
  (l18:K.lookup f18=some ⟨oc18,od18,.func (fnOf "_law_cell_at" "_law_cell_at" (Bw Du) (Bm Du) (Am Du) .none kV18 dc18 pm18 an18 cd18 ct18),sl18⟩)
  (k18c:codeIn K cd18 "_law_cell_at" = true)
  (k18:keepIn K (.ref f18)=true)
  (a19:nsIn K AZ "_law_mixed" = some (some (.ref f19)))
  (l19:K.lookup f19=some ⟨oc19,od19,.func (fnOf "_law_mixed" "_law_mixed" (Bw E1) (Bm E1) (Am E1) .none kV19 dc19 pm19 an19 cd19 ct19),sl19⟩)
  (k19c:codeIn K cd19 "_law_mixed" = true)
  (k19:keepIn K (.ref f19)=true)
  (a20:nsIn K AZ "_law_pool" = some (some (.ref f20)))
  (l20:K.lookup f20=some ⟨oc20,od20,.func (fnOf "_law_pool" "_law_pool" (Bw FS) (Bm FS) (Am FS) .none kV20 dc20 pm20 an20 cd20 ct20),sl20⟩)
  (k20c:codeIn K cd20 "_law_pool" = true)
  (k20:keepIn K (.ref f20)=true)
  (a21:nsIn K AZ "_law_ties" = some (some (.ref f21)))
  (l21:K.lookup f21=some ⟨oc21,od21,.func (fnOf "_law_ties" "_law_ties" (Bw FR) (Bm FR) (Am FR) .none kV21 dc21 pm21 an21 cd21 ct21),sl21⟩)
  (k21c:codeIn K cd21 "_law_ties" = true)
  (k21:keepIn K (.ref f21)=true)
  (a22:nsIn K AZ "_law_turned" = some (some (.ref f22)))
  (l22:K.lookup f22=some ⟨oc22,od22,.func (fnOf "_law_turned" "_law_turned" (Bw EN) (Bm EN) (Am EN) .none kV22 dc22 pm22 an22 cd22 ct22),sl22⟩)
  (k22c:codeIn K cd22 "_law_turned" = true)
  (k22:keepIn K (.ref f22)=true)
  (a23:nsIn K AZ "_law_nears" = some (some (.ref f23)))
  (l23:K.lookup f23=some ⟨oc23,od23,.func (fnOf "_law_nears" "_law_nears" (Bw E0) (Bm E0) (Am E0) .none kV23 dc23 pm23 an23 cd23 ct23),sl23⟩)
  (k23c:codeIn K cd23 "_law_nears" = true)
  (k23:keepIn K (.ref f23)=true)
  (a24:nsIn K AZ "_law_small_web" = some (some (.ref f24)))
  (l24:K.lookup f24=some ⟨oc24,od24,.func (fnOf "_law_small_web" "_law_small_web" (Bw DK) (Bm DK) (Am DK) .none kV24 dc24 pm24 an24 cd24 ct24),sl24⟩)
  (k24c:codeIn K cd24 "_law_small_web" = true)
  (k24:keepIn K (.ref f24)=true)
  (a25:nsIn K AZ "_law_marks" = some (some (.ref f25)))
  (l25:K.lookup f25=some ⟨oc25,od25,.func (fnOf "_law_marks" "_law_marks" (Bw E2) (Bm E2) (Am E2) .none kV25 dc25 pm25 an25 cd25 ct25),sl25⟩)
  (k25c:codeIn K cd25 "_law_marks" = true)
  (k25:keepIn K (.ref f25)=true)
  (a26:nsIn K AZ "_law_refused" = some (some (.ref f26)))
  (l26:K.lookup f26=some ⟨oc26,od26,.func (fnOf "_law_refused" "_law_refused" (Bw Dt) (Bm Dt) (Am Dt) .none kV26 dc26 pm26 an26 cd26 ct26),sl26⟩)
  (k26c:codeIn K cd26 "_law_refused" = true)
  (k26:keepIn K (.ref f26)=true)
  (a27:nsIn K AZ "law" = some (some (.ref f27)))
  (l27:K.lookup f27=some ⟨oc27,od27,.func (fnOf "law" "law" (Bw O9) (Bm O9) (Am O9) .none kV27 dc27 pm27 an27 cd27 ct27),sl27⟩)
  (k27c:codeIn K cd27 "law" = true)
  (k27:keepIn K (.ref f27)=true)
  (pg_Web:plainGet K cWeb M7=true)
  (hd_Web:hasDictIn K cWeb=true)
  (po_Web:plainOver K cWeb=true)
  (sa_Web:findIn K (.ref cWeb) "__setattr__" = some (some (.builtin "object.__setattr__")))
  (mk_Web:makesIn K cWeb=true)
  (kc_Web:keepIn K (.ref cWeb)=true)
  (n_Web_places:findIn K (.ref cWeb) "places" = some none)
  (n_Web_ties:findIn K (.ref cWeb) "ties" = some none)
  (n_Web_near_sets:findIn K (.ref cWeb) "near_sets" = some none)
  (sp:specialIn K (.builtin "object.__class__") "__get__" = some (some (.builtin "getset_descriptor.__get__")))
  (tk:takesIn K (.builtin "object.__class__")=some true)
  (xnd:([cBadPlaces,cBadTie,cNoPlace,cTooLarge]:List AI).Nodup)
  (xo_GuardError:mroIn K cGuardError (.type "object")=some true)
  (xb_GuardError:mroIn K cGuardError (.type "BaseException")=some true)
  (xt_GuardError:typeIn K (.ref cGuardError)=some (.type "type"))
  (xo_BadPlaces:mroIn K cBadPlaces (.type "object")=some true)
  (xb_BadPlaces:mroIn K cBadPlaces (.type "BaseException")=some true)
  (xo_BadTie:mroIn K cBadTie (.type "object")=some true)
  (xb_BadTie:mroIn K cBadTie (.type "BaseException")=some true)
  (xo_NoPlace:mroIn K cNoPlace (.type "object")=some true)
  (xb_NoPlace:mroIn K cNoPlace (.type "BaseException")=some true)
  (xo_TooLarge:mroIn K cTooLarge (.type "object")=some true)
  (xb_TooLarge:mroIn K cTooLarge (.type "BaseException")=some true)
  (xt_TooLarge:typeIn K (.ref cTooLarge)=some (.type "type"))
  (xe_BadPlaces:excIn K cBadPlaces N9 "ValueError.__new__" = true)
  (xg_BadPlaces:findIn K (.ref cBadPlaces) "__getattribute__" = some (some (.builtin "BaseException.__getattribute__")))
  (xn_BadPlaces:findIn K (.ref cBadPlaces) "__getattr__" = some none)
  (xa_BadPlaces:findIn K (.ref cBadPlaces) "__class__" = some (some (.builtin "object.__class__")))
  (xs_BadPlaces_GuardError:subIn K (.ref cBadPlaces) (.ref cGuardError)=some true)
  (xi_BadPlaces_TooLarge:kitOne K (.ref cBadPlaces) (.ref cTooLarge)=some false)
  (xi_BadPlaces_ValueError:kitOne K (.ref cBadPlaces) (.type "ValueError")=some true)
  (xi_BadPlaces_BadGuards:kitOne K (.ref cBadPlaces) (.ref cBadGuards)=some false)
  (xi_BadPlaces_BadPlaces:kitOne K (.ref cBadPlaces) (.ref cBadPlaces)=some true)
  (xi_BadPlaces_BadTie:kitOne K (.ref cBadPlaces) (.ref cBadTie)=some false)
  (xi_BadPlaces_NoPlace:kitOne K (.ref cBadPlaces) (.ref cNoPlace)=some false)
  (xi_BadPlaces_NotTwo:kitOne K (.ref cBadPlaces) (.ref cNotTwo)=some false)
  (xi_BadPlaces_NotWood:kitOne K (.ref cBadPlaces) (.ref cNotWood)=some false)
  (xe_BadTie:excIn K cBadTie N9 "ValueError.__new__" = true)
  (xg_BadTie:findIn K (.ref cBadTie) "__getattribute__" = some (some (.builtin "BaseException.__getattribute__")))
  (xn_BadTie:findIn K (.ref cBadTie) "__getattr__" = some none)
  (xa_BadTie:findIn K (.ref cBadTie) "__class__" = some (some (.builtin "object.__class__")))
  (xs_BadTie_GuardError:subIn K (.ref cBadTie) (.ref cGuardError)=some true)
  (xi_BadTie_TooLarge:kitOne K (.ref cBadTie) (.ref cTooLarge)=some false)
  (xi_BadTie_ValueError:kitOne K (.ref cBadTie) (.type "ValueError")=some true)
  (xi_BadTie_BadGuards:kitOne K (.ref cBadTie) (.ref cBadGuards)=some false)
  (xi_BadTie_BadPlaces:kitOne K (.ref cBadTie) (.ref cBadPlaces)=some false)
  (xi_BadTie_BadTie:kitOne K (.ref cBadTie) (.ref cBadTie)=some true)
  (xi_BadTie_NoPlace:kitOne K (.ref cBadTie) (.ref cNoPlace)=some false)
  (xi_BadTie_NotTwo:kitOne K (.ref cBadTie) (.ref cNotTwo)=some false)
  (xi_BadTie_NotWood:kitOne K (.ref cBadTie) (.ref cNotWood)=some false)
  (xe_NoPlace:excIn K cNoPlace N9 "ValueError.__new__" = true)
  (xg_NoPlace:findIn K (.ref cNoPlace) "__getattribute__" = some (some (.builtin "BaseException.__getattribute__")))
  (xn_NoPlace:findIn K (.ref cNoPlace) "__getattr__" = some none)
  (xa_NoPlace:findIn K (.ref cNoPlace) "__class__" = some (some (.builtin "object.__class__")))
  (xs_NoPlace_GuardError:subIn K (.ref cNoPlace) (.ref cGuardError)=some true)
  (xi_NoPlace_TooLarge:kitOne K (.ref cNoPlace) (.ref cTooLarge)=some false)
  (xi_NoPlace_ValueError:kitOne K (.ref cNoPlace) (.type "ValueError")=some true)
  (xi_NoPlace_BadGuards:kitOne K (.ref cNoPlace) (.ref cBadGuards)=some false)
  (xi_NoPlace_BadPlaces:kitOne K (.ref cNoPlace) (.ref cBadPlaces)=some false)
  (xi_NoPlace_BadTie:kitOne K (.ref cNoPlace) (.ref cBadTie)=some false)
  (xi_NoPlace_NoPlace:kitOne K (.ref cNoPlace) (.ref cNoPlace)=some true)
  (xi_NoPlace_NotTwo:kitOne K (.ref cNoPlace) (.ref cNotTwo)=some false)
  (xi_NoPlace_NotWood:kitOne K (.ref cNoPlace) (.ref cNotWood)=some false)
  (xe_TooLarge:excIn K cTooLarge N9 "ValueError.__new__" = true)
  (xg_TooLarge:findIn K (.ref cTooLarge) "__getattribute__" = some (some (.builtin "BaseException.__getattribute__")))
  (xn_TooLarge:findIn K (.ref cTooLarge) "__getattr__" = some none)
  (xa_TooLarge:findIn K (.ref cTooLarge) "__class__" = some (some (.builtin "object.__class__")))
  (xs_TooLarge_GuardError:subIn K (.ref cTooLarge) (.ref cGuardError)=some true)
  (xi_TooLarge_TooLarge:kitOne K (.ref cTooLarge) (.ref cTooLarge)=some true)
  (xi_TooLarge_ValueError:kitOne K (.ref cTooLarge) (.type "ValueError")=some true)
  (xi_TooLarge_BadGuards:kitOne K (.ref cTooLarge) (.ref cBadGuards)=some false)
  (xi_TooLarge_BadPlaces:kitOne K (.ref cTooLarge) (.ref cBadPlaces)=some false)
  (xi_TooLarge_BadTie:kitOne K (.ref cTooLarge) (.ref cBadTie)=some false)
  (xi_TooLarge_NoPlace:kitOne K (.ref cTooLarge) (.ref cNoPlace)=some false)
  (xi_TooLarge_NotTwo:kitOne K (.ref cTooLarge) (.ref cNotTwo)=some false)
  (xi_TooLarge_NotWood:kitOne K (.ref cTooLarge) (.ref cNotWood)=some false)
  (z_ValueError:nsIn K AZ "ValueError" = some none)
  (z_any:nsIn K AZ "any" = some none)
  (z_enumerate:nsIn K AZ "enumerate" = some none)
  (z_isinstance:nsIn K AZ "isinstance" = some none)
  (z_len:nsIn K AZ "len" = some none)
  (z_max:nsIn K AZ "max" = some none)
  (z_min:nsIn K AZ "min" = some none)
  (z_range:nsIn K AZ "range" = some none)
  (z_sorted:nsIn K AZ "sorted" = some none)
  (z_sum:nsIn K AZ "sum" = some none)
  (z_tuple:nsIn K AZ "tuple" = some none)
  (g_MOST_PLACES:nsIn K AZ "MOST_PLACES" = some (some (.int 60 tk_MOST_PLACES)))
  (g_MOST_PLACES_TRIED:nsIn K AZ "MOST_PLACES_TRIED" = some (some (.int 12 tk_MOST_PLACES_TRIED)))
  : ∃(W:Wd) (T:Txt K mg W),fa=T.d_law.f/\W.excs.Nodup/\∀(s:AF) (v:AD),SF s T.d_law.fd ⟨[v],[]⟩ [("script",v)]:=by
 have F1:=Cr (st:=Ds) l1 k1c k1
 have b1:=F1.binds (ps:=["places", "ties"]) λ_ _ _ _ _ _ us hl=>by obtain ⟨a,b,rfl⟩:=Jn hl;rfl
 have F2:=Cr (st:=Dp) l2 k2c k2
 have b2:=F2.binds (ps:=["places", "ties"]) λ_ _ _ _ _ _ us hl=>by obtain ⟨a,b,rfl⟩:=Jn hl;rfl
 have F3:=Cr (st:=Fy) l3 k3c k3
 have b3:=F3.binds (ps:=["self", "places", "ties"]) λ_ _ _ _ _ _ us hl=>by obtain ⟨a,b,c,rfl⟩:=Xm hl;rfl
 have F4:=Cr (st:=C3) l4 k4c k4
 have b4:=F4.binds (ps:=["web", "place"]) λ_ _ _ _ _ _ us hl=>by obtain ⟨a,b,rfl⟩:=Jn hl;rfl
 have F5:=Cr (st:=Lc) l5 k5c k5
 have b5:=F5.binds (ps:=["web", "place"]) λ_ _ _ _ _ _ us hl=>by obtain ⟨a,b,rfl⟩:=Jn hl;rfl
 have F6:=Cr (st:=Gw) l6 k6c k6
 have b6:=F6.binds (ps:=["places", "size"]) λ_ _ _ _ _ _ us hl=>by obtain ⟨a,b,rfl⟩:=Jn hl;rfl
 have F7:=Cr (st:=C4) l7 k7c k7
 have b7:=F7.binds (ps:=["web", "some"]) λ_ _ _ _ _ _ us hl=>by obtain ⟨a,b,rfl⟩:=Jn hl;rfl
 have F8:=Cr (st:=Ex) l8 k8c k8
 have b8:=F8.binds (ps:=["web", "some", "wanted"]) λ_ _ _ _ _ _ us hl=>by obtain ⟨a,b,c,rfl⟩:=Xm hl;rfl
 have F9:=Cr (st:=Ey) l9 k9c k9
 have b9:=F9.binds (ps:=["web", "some"]) λ_ _ _ _ _ _ us hl=>by obtain ⟨a,b,rfl⟩:=Jn hl;rfl
 have F10:=Cr (st:=FQ) l10 k10c k10
 have b10:=F10.binds (ps:=["web", "some"]) λ_ _ _ _ _ _ us hl=>by obtain ⟨a,b,rfl⟩:=Jn hl;rfl
 have F11:=Cr (st:=Gx) l11 k11c k11
 have b11:=F11.binds (ps:=["web", "some"]) λ_ _ _ _ _ _ us hl=>by obtain ⟨a,b,rfl⟩:=Jn hl;rfl
 have F12:=Cr (st:=Dm) l12 k12c k12
 have b12:=F12.binds (ps:=["web"]) λ_ _ _ _ _ _ us hl=>by obtain ⟨a,rfl⟩:=TF hl;rfl
 have F13:=Cr (st:=Dq) l13 k13c k13
 have b13:=F13.binds (ps:=["web"]) λ_ _ _ _ _ _ us hl=>by obtain ⟨a,rfl⟩:=TF hl;rfl
 have F14:=Cr (st:=Ew) l14 k14c k14
 have b14:=F14.binds (ps:=["web"]) λ_ _ _ _ _ _ us hl=>by obtain ⟨a,rfl⟩:=TF hl;rfl
 have F15:=Cr (st:=Ez) l15 k15c k15
 have b15:=F15.binds (ps:=["web", "clubs", "place", "most"]) λ_ _ _ _ _ _ us hl=>by obtain ⟨a,b,c,d,rfl⟩:=gM hl;rfl
 have F16:=Cr (st:=Do) l16 k16c k16
 have b16:=F16.binds (ps:=["web", "clubs", "place", "most"]) λ_ _ _ _ _ _ us hl=>by obtain ⟨a,b,c,d,rfl⟩:=gM hl;rfl
 have F17:=Cr (st:=Dr) l17 k17c k17
 have b17:=F17.binds (ps:=["web"]) λ_ _ _ _ _ _ us hl=>by obtain ⟨a,rfl⟩:=TF hl;rfl
 have F18:=Cr (st:=Du) l18 k18c k18
 have b18:=F18.binds (ps:=["script", "k"]) λ_ _ _ _ _ _ us hl=>by obtain ⟨a,b,rfl⟩:=Jn hl;rfl
 have F19:=Cr (st:=E1) l19 k19c k19
 have b19:=F19.binds (ps:=["cell", "salt"]) λ_ _ _ _ _ _ us hl=>by obtain ⟨a,b,rfl⟩:=Jn hl;rfl
 have F20:=Cr (st:=FS) l20 k20c k20
 have b20:=F20.binds (ps:=["script", "start"]) λ_ _ _ _ _ _ us hl=>by obtain ⟨a,b,rfl⟩:=Jn hl;rfl
 have F21:=Cr (st:=FR) l21 k21c k21
 have b21:=F21.binds (ps:=["pool", "many", "thick"]) λ_ _ _ _ _ _ us hl=>by obtain ⟨a,b,c,rfl⟩:=Xm hl;rfl
 have F22:=Cr (st:=EN) l22 k22c k22
 have b22:=F22.binds (ps:=["ties", "cell"]) λ_ _ _ _ _ _ us hl=>by obtain ⟨a,b,rfl⟩:=Jn hl;rfl
 have F23:=Cr (st:=E0) l23 k23c k23
 have b23:=F23.binds (ps:=["ties", "many"]) λ_ _ _ _ _ _ us hl=>by obtain ⟨a,b,rfl⟩:=Jn hl;rfl
 have F24:=Cr (st:=DK) l24 k24c k24
 have b24:=F24.binds (ps:=["script", "most", "often"]) λ_ _ _ _ _ _ us hl=>by obtain ⟨a,b,c,rfl⟩:=Xm hl;rfl
 have F25:=Cr (st:=E2) l25 k25c k25
 have b25:=F25.binds (ps:=["way", "web"]) λ_ _ _ _ _ _ us hl=>by obtain ⟨a,b,rfl⟩:=Jn hl;rfl
 have F26:=Cr (st:=Dt) l26 k26c k26
 have b26:=F26.binds (ps:=["script"]) λ_ _ _ _ _ _ us hl=>by obtain ⟨a,rfl⟩:=TF hl;rfl
 have F27:=Cr (st:=O9) l27 k27c k27
 have b27:=F27.binds (ps:=["script"]) λ_ _ _ _ _ _ us hl=>by obtain ⟨a,rfl⟩:=TF hl;rfl
 let W:Wd:=⟨cGuardError,cBadPlaces,cBadTie,cNoPlace,cTooLarge,cBadGuards,cNotTwo,cNotWood,cWeb⟩
 have xc_GuardError:(clsIn K cGuardError).isSome=true:=HA xo_GuardError;have xc_BadPlaces:(clsIn K cBadPlaces).isSome=true:=HA xo_BadPlaces;have xc_BadTie:(clsIn K cBadTie).isSome=true:=HA xo_BadTie;have xc_NoPlace:(clsIn K cNoPlace).isSome=true:=HA xo_NoPlace;have xc_TooLarge:(clsIn K cTooLarge).isSome=true:=HA xo_TooLarge;have X_BadPlaces:XIs K cBadPlaces:=⟨xc_BadPlaces,xg_BadPlaces,xn_BadPlaces,xa_BadPlaces,sp,tk,xo_BadPlaces,xb_BadPlaces⟩;have X_BadTie:XIs K cBadTie:=⟨xc_BadTie,xg_BadTie,xn_BadTie,xa_BadTie,sp,tk,xo_BadTie,xb_BadTie⟩;have X_NoPlace:XIs K cNoPlace:=⟨xc_NoPlace,xg_NoPlace,xn_NoPlace,xa_NoPlace,sp,tk,xo_NoPlace,xb_NoPlace⟩;have X_TooLarge:XIs K cTooLarge:=⟨xc_TooLarge,xg_TooLarge,xn_TooLarge,xa_TooLarge,sp,tk,xo_TooLarge,xb_TooLarge⟩
 let T:Txt K mg W:={
  d_checked_ties:=⟨f1,_,F1,b1,DA X G a1⟩
  d_near_sets_of:=⟨f2,_,F2,b2,DA X G a2⟩
  d_Web_init:=⟨f3,_,F3,b3⟩
  d_refuse_no_place:=⟨f4,_,F4,b4,DA X G a4⟩
  d_near:=⟨f5,_,F5,b5,DA X G a5⟩
  d_sets_of:=⟨f6,_,F6,b6,DA X G a6⟩
  d_first_unwatched:=⟨f7,_,F7,b7,DA X G a7⟩
  d_first_pair:=⟨f8,_,F8,b8,DA X G a8⟩
  d_first_near:=⟨f9,_,F9,b9,DA X G a9⟩
  d_first_far:=⟨f10,_,F10,b10,DA X G a10⟩
  d_is_club:=⟨f11,_,F11,b11,DA X G a11⟩
  d_refuse_large:=⟨f12,_,F12,b12,DA X G a12⟩
  d_fewest_watch:=⟨f13,_,F13,b13,DA X G a13⟩
  d_most_apart:=⟨f14,_,F14,b14,DA X G a14⟩
  d_clubs_with:=⟨f15,_,F15,b15,DA X G a15⟩
  d_parting_from:=⟨f16,_,F16,b16,DA X G a16⟩
  d_fewest_clubs:=⟨f17,_,F17,b17,DA X G a17⟩
  d__law_cell_at:=⟨f18,_,F18,b18,DA X G a18⟩
  d__law_mixed:=⟨f19,_,F19,b19,DA X G a19⟩
  d__law_pool:=⟨f20,_,F20,b20,DA X G a20⟩
  d__law_ties:=⟨f21,_,F21,b21,DA X G a21⟩
  d__law_turned:=⟨f22,_,F22,b22,DA X G a22⟩
  d__law_nears:=⟨f23,_,F23,b23,DA X G a23⟩
  d__law_small_web:=⟨f24,_,F24,b24,DA X G a24⟩
  d__law_marks:=⟨f25,_,F25,b25,DA X G a25⟩
  d__law_refused:=⟨f26,_,F26,b26,DA X G a26⟩
  d_law:=⟨f27,_,F27,b27,DA X G a27⟩
  c_Web:=⟨⟨pg_Web,hd_Web,po_Web,sa_Web⟩,⟨mk_Web,a3,i3,kc_Web⟩,DA X G a_Web⟩
  n_Web_places:=n_Web_places
  n_Web_ties:=n_Web_ties
  n_Web_near_sets:=n_Web_near_sets
  xm_GuardError:=DA X G a_GuardError
  x_BadPlaces:=⟨⟨xe_BadPlaces⟩,DA X G a_BadPlaces⟩
  x_BadTie:=⟨⟨xe_BadTie⟩,DA X G a_BadTie⟩
  x_NoPlace:=⟨⟨xe_NoPlace⟩,DA X G a_NoPlace⟩
  x_TooLarge:=⟨⟨xe_TooLarge⟩,DA X G a_TooLarge⟩
  xm_BadGuards:=DA X G a_BadGuards
  xm_NotTwo:=DA X G a_NotTwo
  xm_NotWood:=DA X G a_NotWood
  nd:=xnd
  caught_GuardError:=(all_cons ⟨xt_GuardError,xc_GuardError,xb_GuardError,xs_BadPlaces_GuardError⟩ (all_cons ⟨xt_GuardError,xc_GuardError,xb_GuardError,xs_BadTie_GuardError⟩ (all_cons ⟨xt_GuardError,xc_GuardError,xb_GuardError,xs_NoPlace_GuardError⟩ (all_cons ⟨xt_GuardError,xc_GuardError,xb_GuardError,xs_TooLarge_GuardError⟩ Ie))))
  is_TooLarge:=Se (al:=[cTooLarge]) (ex:=[cBadPlaces,cBadTie,cNoPlace,cTooLarge]) (all_cons ⟨X_TooLarge,xi_TooLarge_TooLarge⟩ Ie) (all_cons (λ_=>⟨X_BadPlaces,xi_BadPlaces_TooLarge⟩) (all_cons (λ_=>⟨X_BadTie,xi_BadTie_TooLarge⟩) (all_cons (λ_=>⟨X_NoPlace,xi_NoPlace_TooLarge⟩) (all_cons (λn=>absurd (by simp) n) Ie))))
  i_TooLarge:=⟨xc_TooLarge,xt_TooLarge⟩
  is_ValueError:=Se (al:=[cBadPlaces,cBadTie,cNoPlace,cTooLarge]) (ex:=[cBadPlaces,cBadTie,cNoPlace,cTooLarge]) (all_cons ⟨X_BadPlaces,xi_BadPlaces_ValueError⟩ (all_cons ⟨X_BadTie,xi_BadTie_ValueError⟩ (all_cons ⟨X_NoPlace,xi_NoPlace_ValueError⟩ (all_cons ⟨X_TooLarge,xi_TooLarge_ValueError⟩ Ie)))) (all_cons (λn=>absurd (by simp) n) (all_cons (λn=>absurd (by simp) n) (all_cons (λn=>absurd (by simp) n) (all_cons (λn=>absurd (by simp) n) Ie))))
  isT_BadGuards_BadPlaces_BadTie_NoPlace_NotTwo_NotWood:=Se (al:=[cBadPlaces,cBadTie,cNoPlace]) (ex:=[cBadPlaces,cBadTie,cNoPlace,cTooLarge]) (all_cons ⟨X_BadPlaces,((Gi xi_BadPlaces_BadGuards).trans (Qe xi_BadPlaces_BadPlaces))⟩ (all_cons ⟨X_BadTie,((Gi xi_BadTie_BadGuards).trans ((Gi xi_BadTie_BadPlaces).trans (Qe xi_BadTie_BadTie)))⟩ (all_cons ⟨X_NoPlace,((Gi xi_NoPlace_BadGuards).trans ((Gi xi_NoPlace_BadPlaces).trans ((Gi xi_NoPlace_BadTie).trans (Qe xi_NoPlace_NoPlace))))⟩ Ie))) (all_cons (λn=>absurd (by simp) n) (all_cons (λn=>absurd (by simp) n) (all_cons (λn=>absurd (by simp) n) (all_cons (λ_=>⟨X_TooLarge,((Gi xi_TooLarge_BadGuards).trans ((Gi xi_TooLarge_BadPlaces).trans ((Gi xi_TooLarge_BadTie).trans ((Gi xi_TooLarge_NoPlace).trans ((Gi xi_TooLarge_NotTwo).trans ((Gi xi_TooLarge_NotWood).trans YZ))))))⟩) Ie))))
  b_ValueError:=Ei X G z_ValueError
  b_any:=Ei X G z_any
  b_enumerate:=Ei X G z_enumerate
  b_isinstance:=Ei X G z_isinstance
  b_len:=Ei X G z_len
  b_max:=Ei X G z_max
  b_min:=Ei X G z_min
  b_range:=Ei X G z_range
  b_sorted:=Ei X G z_sorted
  b_sum:=Ei X G z_sum
  b_tuple:=Ei X G z_tuple
  g_MOST_PLACES:=⟨tk_MOST_PLACES,DA X G g_MOST_PLACES⟩
  g_MOST_PLACES_TRIED:=⟨tk_MOST_PLACES_TRIED,DA X G g_MOST_PLACES_TRIED⟩ }
 refine ⟨W,T,?_,xnd,λs v=>.of_eq rfl⟩;have e:=hfa.symm.trans (DA X G a27);cases e;rfl
theorem walk {l:OpenLaw} {q:Ar} {loose:List Str} {XP:(Str->Option AD)->Bk->Prop} {YP:BG->Bk->Prop} {d:DefRec} {K:Params->Frag} (hn:l.most=some 63) (hdf:d.params.defaults=[])
  (hY:∀(w:BG) (h:Bk),YP w h->(K w.params).In h)
  (F:∀(w:BG) (mg:Str->Option AD) (fa:AI) (h:Bk),(K w.params).In h->h.Ns AZ mg->mg d.name=some (.ref fa) ->
   ∃(W:Wd) (T:Txt (K w.params) mg W),fa=T.d_law.f/\W.excs.Nodup/\∀(s:AF) (v:AD),SF s T.d_law.fd ⟨[v],[]⟩ [("script",v)])
  (good:∀(W:Wd),W.excs.Nodup->∀ns:List Int,ns.length<=63->∃S',YG W [.fro (ns.map D.int)] []=.ok (.bl true) S') :
  WalkO q loose XP YP l.row.toRowW d [] (λf vs=>Uu f vs):=
 L2.Yw (n:=63) (k:=24) (x:="script") (CX:=λw=>CXG l.prog w) (sp:=λw=>Wq (K w.params)) hn (by decide) hdf ⟨rfl,by decide,by decide⟩ hY
  (λw mg fa h KX G hmg=>by
   obtain ⟨W,T,e,nd,hb⟩:=F w mg fa h KX G hmg;subst e
   exact ⟨T.d_law.fd,hb,λbase _ _=>Xn (cg T) (good W nd)⟩)
  (λ_ _ a ns hl hO hS=>⟨a,ns,rfl,dc hO hS,hl,λ_=>rfl⟩) (λw H s e s' z=>dn z)
end M
open PySem PySem.W PyProof.Rows
set_option maxRecDepth 100000 in
set_option maxHeartbeats 0 in
theorem PySem.Challenge.cw_guardround_k11_whole_watch_apart_clubs_holds : PySem.Challenge.rw_guardround_k11_whole_watch_apart_clubs.Holds := by
 w_on;o_law;k_head;(case hw=>w_witness2)
 k_fill
 refine M.walk (l:=Cd) rfl rfl (λw h Y=>kIn_of Y) ?F M.good
 case F=>
  intro w mg fa h KX G hmg;refine' M.dz (l:=Cd) (w:=w) KX G hmg ?a_Web ?a_GuardError ?a_BadPlaces ?a_BadTie ?a_NoPlace ?a_TooLarge ?a_BadGuards ?a_NotTwo ?a_NotWood ?a1 ?l1 ?k1c ?k1 ?a2 ?l2 ?k2c ?k2 ?a3 ?i3 ?l3 ?k3c ?k3 ?a4 ?l4 ?k4c ?k4 ?a5 ?l5 ?k5c ?k5 ?a6 ?l6 ?k6c ?k6 ?a7 ?l7 ?k7c ?k7 ?a8 ?l8 ?k8c ?k8 ?a9 ?l9 ?k9c ?k9 ?a10 ?l10 ?k10c ?k10 ?a11 ?l11 ?k11c ?k11 ?a12 ?l12 ?k12c ?k12 ?a13 ?l13 ?k13c ?k13 ?a14 ?l14 ?k14c ?k14 ?a15 ?l15 ?k15c ?k15 ?a16 ?l16 ?k16c ?k16 ?a17 ?l17 ?k17c ?k17 ?a18 ?l18 ?k18c ?k18 ?a19 ?l19 ?k19c ?k19 ?a20 ?l20 ?k20c ?k20 ?a21 ?l21 ?k21c ?k21 ?a22 ?l22 ?k22c ?k22 ?a23 ?l23 ?k23c ?k23 ?a24 ?l24 ?k24c ?k24 ?a25 ?l25 ?k25c ?k25 ?a26 ?l26 ?k26c ?k26 ?a27 ?l27 ?k27c ?k27 ?pg_Web ?hd_Web ?po_Web ?sa_Web ?mk_Web ?kc_Web ?n_Web_places ?n_Web_ties ?n_Web_near_sets ?sp ?tk ?xnd ?xo_GuardError ?xb_GuardError ?xt_GuardError ?xo_BadPlaces ?xb_BadPlaces ?xo_BadTie ?xb_BadTie ?xo_NoPlace ?xb_NoPlace ?xo_TooLarge ?xb_TooLarge ?xt_TooLarge ?xe_BadPlaces ?xg_BadPlaces ?xn_BadPlaces ?xa_BadPlaces ?xs_BadPlaces_GuardError ?xi_BadPlaces_TooLarge ?xi_BadPlaces_ValueError ?xi_BadPlaces_BadGuards ?xi_BadPlaces_BadPlaces ?xi_BadPlaces_BadTie ?xi_BadPlaces_NoPlace ?xi_BadPlaces_NotTwo ?xi_BadPlaces_NotWood ?xe_BadTie ?xg_BadTie ?xn_BadTie ?xa_BadTie ?xs_BadTie_GuardError ?xi_BadTie_TooLarge ?xi_BadTie_ValueError ?xi_BadTie_BadGuards ?xi_BadTie_BadPlaces ?xi_BadTie_BadTie ?xi_BadTie_NoPlace ?xi_BadTie_NotTwo ?xi_BadTie_NotWood ?xe_NoPlace ?xg_NoPlace ?xn_NoPlace ?xa_NoPlace ?xs_NoPlace_GuardError ?xi_NoPlace_TooLarge ?xi_NoPlace_ValueError ?xi_NoPlace_BadGuards ?xi_NoPlace_BadPlaces ?xi_NoPlace_BadTie ?xi_NoPlace_NoPlace ?xi_NoPlace_NotTwo ?xi_NoPlace_NotWood ?xe_TooLarge ?xg_TooLarge ?xn_TooLarge ?xa_TooLarge ?xs_TooLarge_GuardError ?xi_TooLarge_TooLarge ?xi_TooLarge_ValueError ?xi_TooLarge_BadGuards ?xi_TooLarge_BadPlaces ?xi_TooLarge_BadTie ?xi_TooLarge_NoPlace ?xi_TooLarge_NotTwo ?xi_TooLarge_NotWood ?z_ValueError ?z_any ?z_enumerate ?z_isinstance ?z_len ?z_max ?z_min ?z_range ?z_sorted ?z_sum ?z_tuple ?g_MOST_PLACES ?g_MOST_PLACES_TRIED
  (case a_Web | a_GuardError | a_BadPlaces | a_BadTie | a_NoPlace | a_TooLarge | a_BadGuards | a_NotTwo | a_NotWood | a1 | l1 | k1c | k1 | a2 | l2 | k2c | k2 | a3 | i3 | l3 | k3c | k3 | a4 | l4 | k4c | k4 | a5 | l5 | k5c | k5 | a6 | l6 | k6c | k6 | a7 | l7 | k7c | k7 | a8 | l8 | k8c | k8 | a9 | l9 | k9c | k9 | a10 | l10 | k10c | k10 | a11 | l11 | k11c | k11 | a12 | l12 | k12c | k12 | a13 | l13 | k13c | k13 | a14 | l14 | k14c | k14 | a15 | l15 | k15c | k15 | a16 | l16 | k16c | k16 | a17 | l17 | k17c | k17 | a18 | l18 | k18c | k18 | a19 | l19 | k19c | k19 | a20 | l20 | k20c | k20 | a21 | l21 | k21c | k21 | a22 | l22 | k22c | k22 | a23 | l23 | k23c | k23 | a24 | l24 | k24c | k24 | a25 | l25 | k25c | k25 | a26 | l26 | k26c | k26 | a27 | l27 | k27c | k27 | pg_Web | hd_Web | po_Web | sa_Web | mk_Web | kc_Web | n_Web_places | n_Web_ties | n_Web_near_sets | sp | tk=>k_is)
  (case xnd=>decide)
  (case xo_GuardError | xb_GuardError | xt_GuardError | xo_BadPlaces | xb_BadPlaces | xo_BadTie | xb_BadTie | xo_NoPlace | xb_NoPlace | xo_TooLarge | xb_TooLarge | xt_TooLarge=>k_is)
  (case xe_BadPlaces=>k_exc)
  (case xg_BadPlaces | xn_BadPlaces | xa_BadPlaces | xs_BadPlaces_GuardError=>k_is)
  (case xi_BadPlaces_TooLarge | xi_BadPlaces_ValueError | xi_BadPlaces_BadGuards | xi_BadPlaces_BadPlaces | xi_BadPlaces_BadTie | xi_BadPlaces_NoPlace | xi_BadPlaces_NotTwo | xi_BadPlaces_NotWood=>kit_is)
  (case xe_BadTie=>k_exc)
  (case xg_BadTie | xn_BadTie | xa_BadTie | xs_BadTie_GuardError=>k_is)
  (case xi_BadTie_TooLarge | xi_BadTie_ValueError | xi_BadTie_BadGuards | xi_BadTie_BadPlaces | xi_BadTie_BadTie | xi_BadTie_NoPlace | xi_BadTie_NotTwo | xi_BadTie_NotWood=>kit_is)
  (case xe_NoPlace=>k_exc)
  (case xg_NoPlace | xn_NoPlace | xa_NoPlace | xs_NoPlace_GuardError=>k_is)
  (case xi_NoPlace_TooLarge | xi_NoPlace_ValueError | xi_NoPlace_BadGuards | xi_NoPlace_BadPlaces | xi_NoPlace_BadTie | xi_NoPlace_NoPlace | xi_NoPlace_NotTwo | xi_NoPlace_NotWood=>kit_is)
  (case xe_TooLarge=>k_exc)
  (case xg_TooLarge | xn_TooLarge | xa_TooLarge | xs_TooLarge_GuardError=>k_is)
  (case xi_TooLarge_TooLarge | xi_TooLarge_ValueError | xi_TooLarge_BadGuards | xi_TooLarge_BadPlaces | xi_TooLarge_BadTie | xi_TooLarge_NoPlace | xi_TooLarge_NotTwo | xi_TooLarge_NotWood=>kit_is)
  (case z_ValueError | z_any | z_enumerate | z_isinstance | z_len | z_max | z_min | z_range | z_sorted | z_sum | z_tuple | g_MOST_PLACES | g_MOST_PLACES_TRIED=>k_is)
#print axioms PySem.Challenge.cw_guardround_k11_whole_watch_apart_clubs_holds
