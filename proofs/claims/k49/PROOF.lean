import PyProof.Rows.All
import Wide.All
import OpenK.AllK
import Wide.FinOn
import Lean
import PyProof.EqAt
import PyProof.EqKinds
import PyProof.TupleCall
import PyProof.ExcBaseAll.ValueError
import PyProof.NsDelKeeps
import PyProof.NeKinds
import PyProof.Rows.SortShell
import PyProof.Rows.FStr
import PyProof.FString
import PyProof.ExcAttrAll.ValueError
import PyProof.ExcArgsOwn
import PyProof.Rows.SortRuns
import PyProof.TupleIter
import PyProof.Dict
import KE.KDictSum
import PyProof.TupleOfSeq
import PyProof.EnumMake
import PyProof.SliceList
import PyProof.MinMaxWalk
import PyProof.Rows.EnumRows
import PyProof.WalkInts
import PyProof.WalksMore
import PyProof.Rows.SeqCalls
import KE.KRevIter
import PyProof.CollectIter
import PyProof.TupleOfGen
import PyProof.Rows.FactsT2
import PyProof.ListRange
import PyProof.Rows.CallKwBuiltin
import PyProof.Rows.SetFrom
import PyProof.SetRoads
import PyProof.Rows.Range3
import PyProof.ZipIter
import PyProof.Rows.ZipGen
import PyProof.Rows.RuleM_int
import PyProof.Rows.AssignMoreSeq
import PySem.Challenge.RW_guardround_k49_what_is_a_wood
set_option Elab.async false
set_option linter.all false
set_option maxRecDepth 100000
set_option maxHeartbeats 8000000
noncomputable section
open Array renaming append_assoc->TZ,ext'->dA,getD_eq_getD_getElem?->DX,getElem?_eq_some_iff->Dp,getElem?_setIfInBounds_ne->LB,length_toList->BN,mem_extract_iff_getElem->Lh,mem_of_getElem?->B9,mem_toList_iff->BD,perm_iff_toList_perm->Do,toList->Zw,toList_append->A4,toList_map->HM,toList_modify->SO,toList_push->Gz,toList_reverse->Dm,toList_setIfInBounds->NV
open Array.Perm renaming refl->KO
open Bool renaming and_eq_true->Cg,false_eq_true->CI,false_ne_true->AS,false_or->Zv,not_eq_true'->Uz,not_true->Pd,true_and->Zu
open Eq renaming trans->Jm
open False renaming elim->Cw
open ForInStep renaming yield->E3
open Int renaming emod_lt_of_pos->DL,emod_nonneg->DR,le_refl->TX,lt_of_le_of_lt->Go,lt_of_lt_of_le->KU,toNat_natCast->B1,toNat_of_nonneg->DA,zero_add->c5
open List renaming all_cons->Zt,all_eq_true->Hn,all_map->cc,any_cons->FB,any_eq_true->XI,any_toArray->Hm,append_assoc->At,append_nil->Ax,drop_drop->Nt,drop_eq_getElem_cons->Gy,drop_eq_nil_of_le->Qz,drop_nil->Zs,ext_getElem?->K8,extract->K7,filterMap_cons->Jl,find?_cons->Ba,flatMap_cons->Ux,forIn_cons->IE,forIn_nil->Nr,getD_eq_getElem?_getD->Bj,getElem?_append_left->AV,getElem?_append_right->Aw,getElem?_drop->EL,getElem?_eq_getElem->BB,getElem?_eq_none->CB,getElem?_eq_none_iff->D4,getElem?_eq_some_iff->AD,getElem?_map->Aj,getElem?_range->C8,getElem?_replicate->CS,getElem?_set->G3,getElem?_set_ne->Al,getElem?_set_self->A3,getElem?_set_self'->Pk,getElem?_take_of_lt->Pc,getElem_inj->Hl,getElem_of_mem->Jk,length->FQ,length_append->AR,length_cons->Am,length_drop->Bs,length_erase_of_mem->Pb,length_map->AG,length_nil->Fb,length_pos_of_mem->Qy,length_range->Uw,length_replicate->Il,length_set->Fa,length_singleton->A6,length_take->CH,lookup->FP,lookup_cons->Bd,map->Nq,mapM_toArray->Uv,map_append->B6,map_congr_left->B0,map_cons->A9,map_id->JF,map_map->Be,map_nil->Hy,map_take->Zr,mem_append->Au,mem_append_left->A1,mem_append_right->As,mem_cons->Ap,mem_cons_of_mem->AZ,mem_cons_self->A0,mem_filter->CU,mem_filterMap->Uo,mem_flatten->XH,mem_iff_getElem->SL,mem_map->BG,mem_of_getElem?->BF,mem_range->Np,mem_reverse->XG,mem_singleton->Ab,mergeSort_perm->TW,nodup_append->Ei,nodup_cons->Bq,nodup_nil->Eh,not_mem_nil->C9,of_mem_zip->NH,pairwise_append->BI,pairwise_iff_getElem->OV,pairwise_map->Bz,pairwise_mergeSort->Pj,pairwise_reverse->Ik,pairwise_singleton->Hk,perm_append_comm->RF,range->CT,range_succ->NG,range_succ_eq_map->Qx,replicate->BE,singleton_append->Cj,size_toArray->Aa,take_add_one->K6,take_append_drop->DW,take_length->Lg,take_of_length_le->By,take_sublist->Uu,zipIdx_nil->XR
open List.Pairwise renaming imp_of_mem->cz,nil->Nu
open List.Perm renaming append_left->HK,append_right->NS,of_eq->SM
open Nat renaming add_le_add_left->Um,add_zero->RE,le_of_eq->RD,le_of_lt->LS,le_of_not_lt->L8,le_refl->AQ,le_succ->NF,le_trans->Ao,lt_irrefl->DV,lt_of_le_of_lt->Bk,lt_of_lt_of_le->AX,lt_succ_of_lt->XF,lt_succ_self->DC,lt_trans->cw,min_le_right->XQ,ne_of_gt->RC,ne_of_lt->Ay,not_lt->KS,not_lt_zero->NP,sub_self->cu,zero_add->Em,zero_le->Cv
open Nat.succ renaming inj->No
open Ne renaming symm->Bv
open Option renaming bind_eq_some_iff->OU,bind_some->AU,getD_none->Ul,getD_some->Uk,isSome_iff_exists->Nn,isSome_map->KN,map->cb
open Option.some renaming inj->Cf
open Or renaming inl->XD,inr->SK
open PyProof.Rows renaming AllBare->GM,IntsAre->EK,IsTup->cf,Keyed->Af,SortKind->EA,SortSt->A8,Subscript_->Zo,arrOf->AN,boot_bool->fF,boot_int->fE,boot_isinstance->Jj,boot_list->Lf,boot_max->fD,boot_min->fC,boot_range->Zn,boot_sorted->fB,boot_tuple->fA,bubble->Zm,callWith_builtin1->e8,callWith_type1->CM,elem'_eq->XO,envOfC->JR,failedOf->GP,firstOfTuple'->TR,general'->Q5,listUpdate_at->TQ,ltAt'->cU,mirror->HI,mirror_perm->Pa,pairsOf->Hx,pendingOf->AT,reverseSlice'->Ld,reverseSlice'_eq->Iw,seqEpoch_at->XN,seqObj->Gk,slot_tuple_getitem->EB,sortedHeap->Zj,subscriptTail->TM,subscriptTail_builtinR->Uq,tuples'->cR,wpS_bind->AJ,wpS_forRange->Bb,wpS_get->FA,wpS_modify->CZ,wpS_mono->CV,wpS_pure->AK
open PyProof.Rows.IsTup renaming new->Uy
open PyProof.Rows.SortSt renaming mk'->Ex
open PySem renaming Addr->AF,Around->A2,BindsTo->Q1,CmpOp->RH,DictEntry->K9,FuncData->Cr,GenState->RG,Heap->BY,IsPart->OW,Keyword->G4,Model->NR,NameKind->NQ,Paired->El,PassesOwn->K5,Program->Ai,Result->Zp,Scope->GR,Shared->AE,Stmt->Cd,Value->AC,Within->Pi,World->A7,again->cW,assign->Lw,assignEach->Db,atKey->Q7,attributeBase->Dw,backTo->Cb,backToKw->Q6,behindInMarks->CQ,binaryOp->Ci,bindC->Ug,bindL->Uf,bootBuiltins->Da,builtinsNs->Zl,cLine->D0,call->TU,call_meets->Zk,callerA->NM,cellsFrom->cn,checkBuiltinCall->cm,codeAny->JS,codeAny_mono->NK,compareOp->Bg,concat_meets->Us,eval->Bh,foldedSetIterable->Dz,getItem->Kz,holding->cV,isTrue->Q4,keywordEach->KQ,letOwnedTupleGo->Pg,mainGlobals->Ac,mem_of_lookup->C7,model->AW,noFill_tuple_add->OR,noteFrame->Ue,pyNext->Ur,rawInt->EM,relabel->G0,seq_tuple_add->TN,setField->XM,sizeLine_eq->PZ,sliceBounds->GN,slot_list_getitem->cT,standAt->cS,starEach->AO,subscripted->PY,swapsWith->EJ,sysModules->Ca,truthy->Zi,tupleKind->OQ,tupleKind_room_in1->HH,valueAt->NJ,wpAny->Ah,wpAny_Call_Name_kw->Ek,wpAny_Dict_empty->ck,wpAny_Name->Zh,wpAny_assign_Name->cQ,wpAny_attempt->IA,wpAny_bind->AB,wpAny_call->Q3,wpAny_callSpecial?_slot->Iv,wpAny_call_entry->Fi,wpAny_comprehension_free->TL,wpAny_dictEntries->NI,wpAny_dictEpoch->Pf,wpAny_eqBool_int->cj,wpAny_execs_cons->ci,wpAny_execs_nil->Gj,wpAny_field->Ew,wpAny_fieldsOf->KP,wpAny_holding->Eg,wpAny_isOneOf_keyiter->Jn,wpAny_isTrue_Compare1->XB,wpAny_loadPart->Q2,wpAny_mono->DY,wpAny_newObj_type->B8,wpAny_passesOwn->Dk,wpAny_pure->AH,wpAny_setField->HG,wpAny_truthy_bool->B7,wpAny_typeNameOfWhole_keyiter->DU,wpAny_typeNameOf_keyiter->Ef
open PySem.Around renaming under->Pe
open PySem.Builtin.Dict renaming dictSlotNone->fH,showsAll->L9
open PySem.Builtin.Dict_items renaming ownsTuple->Hz
open PySem.Builtin.List renaming listItems->GX,listTooLong->Fc
open PySem.Builtin.ObjectAttr renaming bindTo->XJ
open PySem.Builtin.Range renaming rangeSize->LA
open PySem.Builtin.Slice renaming sliceAdjust->FC,sliceApplied->Jr,sliceFields->c9,slicePartIndex->c8,slicePlaces->DN
open PySem.Builtin.Tuple renaming tupleExact->Dc,tupleItemsOf->c7
open PySem.Calls renaming Name_function_global->NU,callWith_builtin->Pl,evalArgs_plain->Iy,spliced_cons->Jq,spliced_nil->KW
open PySem.Challenge renaming pw_guardround_k49_what_is_a_wood->Zq,rw_guardround_k49_what_is_a_wood->E1
open PySem.Code renaming frames->c6,isFrame->Q0
open PySem.EntryCells renaming newEntry->OX
open PySem.F renaming args_dict_keyiterator_next_1->Ix,args_tuple_add_2->Gm,entry_dict_keyiterator_next->JE,entry_tuple_add->G2,excAttr_ValueError->L6,plainAttrs_list->G1,slot_dict_iter->OT,slot_dict_keyiterator_next->Bp,slot_dict_update->NO,slot_tuple_add->HJ
open PySem.Heap renaming SameBut->GK,get?_none_of_le->SN,get?_push_of_some->AM,get?_push_size->A5,get?_update_ne->TY,get?_update_other->DJ,get?_update_self->E2,lt_size->Ae,size_push->JG
open PySem.Heap.IsSliceOf renaming new->cg
open PySem.Heap.SameBut renaming refl->fG,update->NT
open PySem.IsRange renaming new->ZQ
open PySem.NameKind renaming free->GV
open PySem.Obj renaming cls_mapFields->LR,data_mapFields->CJ,isFreed_of_fields->E9,mapFields->CL,mapSeq->Gn
open PySem.Paired renaming length->DK,snoc->Qw
open PySem.SeqAt.RcAt renaming tuples->cp
open PySem.Str renaming empty->Qs,ofString->Q9
open PySem.Value renaming bool->NN,builtin->ZP,bytes->cZ,float->Q8,int->LO,isInt->cY,isStrOf->ZO,none->BP,ref->Ak,str->LN,type->E0
open PySem.W renaming Frag->AA,InstAt->Ut,Looks->Ey,callWith_K->RB,cellsFrom_some->OS,clsIn->DI,codeIn->Lz,emptyDict->Bu,excIn->XC,findIn->Bt,findObj->Uj,fnOf->FS,handedIn->TV,hasDictIn->Jp,hideAll->Hj,hideAll_get->Qv,hideAll_none->ID,instObj->Ck,kdu_collect->Qu,keepIn->EN,kia_one->Bi,kitAny->Cz,kitOne->BJ,kitx_dict->SJ,kitx_list->SI,lookIn->Ly,looks_findIn->IC,looks_subIn->Qt,makesIn->Ui,methodObj->Jo,mg_none_of->DZ,mg_of->Dl,mroIn->JD,nsOkIn->Lx,of_hideAll->JT,plainGet->KR,plainOver->SH,specialIn->SG,subIn->JC,tail_of_in->RA,takerIn->LQ,takesIn->Uh,typeIn->IB
open PySem.W.Looks renaming here->cr,ld->cq
open PySem.W.WData renaming int->ez
open PySem.W.WShape renaming has->cX
open PySem.Within renaming cons->e7
open Sum renaming inl->Cc,inr->LP
open Sum.inl renaming inj->Ph
open True renaming intro->CG
namespace L2
open PySem PySem.Spec PyProof.Rows
abbrev Key:=Sum Int Str
def OC:Key->AC->Bool
 | .inl k,v=>cY k v
 | .inr x,v=>ZO x v
def keyH (w:A7):Key->Int
 | .inl k=>hashInt k
 | .inr x=>hashStr w x
theorem CY:∀ {k:Key} {v:AC},OC k v=true->(∃i t,k=Cc i/\v=LO i t)∨(∃x t,k=LP x/\v=LN x t)
 | .inl i,v,h=>by
  obtain ⟨t,e⟩:=AC.isInt_shape (k:=i) (v:=v) h;exact .inl ⟨i,t,rfl,e⟩
 | .inr x,v,h=>by
  obtain ⟨t,e⟩:=AC.isStrOf_shape (x:=x) (v:=v) h;exact .inr ⟨x,t,rfl,e⟩
theorem UC (i:Int) (t:Tok):OC (.inl i) (.int i t)=true:=by simp [OC,cY]
theorem UB (x:Str) (t:Tok):OC (.inr x) (.str x t)=true:=by simp [OC,ZO]
theorem bN (a b:Int):decide ((Cc a:Key)=Cc b)=(a==b):=by
 by_cases e:a=b
 ·subst e;simp
 ·have h:¬(Cc a:Key)=Cc b:=λq=>e (Ph q)
  rw [decide_eq_false h];exact (beq_eq_false_iff_ne.mpr e).symm
theorem bK (a b:Str):decide ((LP a:Key)=LP b)=decide (a=b):=by
 by_cases e:a=b
 ·subst e;simp
 ·have h:¬(LP a:Key)=LP b:=λq=>e (LP.inj q)
  rw [decide_eq_false h,decide_eq_false e]
theorem bM (a:Int) (b:Str):decide ((Cc a:Key)=LP b)=false:=decide_eq_false (λq=>nomatch q)
theorem bL (a:Str) (b:Int):decide ((LP a:Key)=Cc b)=false:=decide_eq_false (λq=>nomatch q)
def Ch (prog:Ai) (w:A7):PySem.KeyKind prog w Key where
 is:=OC
 hash:=keyH w
 inj:=λv a b ha hb=>by
  rcases CY ha with ⟨i,t,rfl,rfl⟩ | ⟨x,t,rfl,rfl⟩
  ·rcases CY hb with ⟨j,u,rfl,e⟩ | ⟨y,u,rfl,e⟩
   ·injection e with e1 _;rw [e1]
   ·exact nomatch e
  ·rcases CY hb with ⟨j,u,rfl,e⟩ | ⟨y,u,rfl,e⟩
   ·exact nomatch e
   ·injection e with e1 _;rw [e1]
 byValue:=λk v h=>by
  rcases CY h with ⟨i,t,rfl,rfl⟩ | ⟨x,t,rfl,rfl⟩ <;> rfl
 pyHash:=λhv h=>by
  rcases CY hv with ⟨i,t,rfl,rfl⟩ | ⟨x,t,rfl,rfl⟩
  ·exact wpAny_pyHash_int h
  ·exact wpAny_pyHash_str h
 eqBool:=λhu hv h=>by
  rcases CY hu with ⟨i,t,rfl,rfl⟩ | ⟨x,t,rfl,rfl⟩
  ·rcases CY hv with ⟨j,u,rfl,rfl⟩ | ⟨y,u,rfl,rfl⟩
   ·rw [bN] at h;exact cj h
   ·rw [bM] at h;exact SeqAt.EqAt.int_str i t y u _ _ _ _ h
  ·rcases CY hv with ⟨j,u,rfl,rfl⟩ | ⟨y,u,rfl,rfl⟩
   ·rw [bL] at h;exact SeqAt.EqAt.str_int x t j u _ _ _ _ h
   ·rw [bK] at h;exact wpAny_eqBool_str h
 «strs»:=λk x t v h=>by
  rcases CY h with ⟨i,u,rfl,e⟩ | ⟨y,u,rfl,e⟩
  ·exact nomatch e
  ·injection e with e1 _
   subst e1
   cases v <;> rfl
theorem QO (prog:Ai) (w:A7) (i:Int) (t:Tok):(Ch prog w).is (.inl i) (.int i t)=true:=UC i t
theorem QN (prog:Ai) (w:A7) (x:Str) (t:Tok):(Ch prog w).is (.inr x) (.str x t)=true:=UB x t
end L2
namespace L2
open PySem PySem.Spec PyProof.Rows
inductive V where
 | non | bl (b:Bool) | int (i:Int) | str (x:Str) | byt (b:Array UInt8) | flt (b:UInt64) | ref (a:AF) | ty (n:String)
 deriving DecidableEq
def RelV:V->AC->Prop
 | .non,u=>u=BP
 | .bl b,u=>u=NN b
 | .int i,u=>∃t,u=LO i t
 | .str x,u=>∃t,u=LN x t
 | .byt b,u=>∃t,u=cZ b t
 | .flt b,u=>∃t,u=Q8 b t
 | .ref a,u=>u=Ak a
 | .ty n,u=>u=E0 n
abbrev BZ:List V->List AC->Prop:=El RelV
theorem BZ.length {xs:List V} {us:List AC} (r:BZ xs us):xs.length=us.length:=DK r
theorem BZ.get:∀ {xs:List V} {us:List AC} {i:Nat} {x:V},BZ xs us->xs[i]?=some x->∃u,us[i]?=some u/\RelV x u
 | _,_,_,_,.nil,e=>by simp at e
 | _,_,0,_,.cons r _,e=>by simp at e;subst e;exact ⟨_,rfl,r⟩
 | _,_,i+1,x,.cons _ t,e=>by
  obtain ⟨u,h1,h2⟩:=BZ.get (i:=i) (x:=x) t (by simpa using e);exact ⟨u,by simpa using h1,h2⟩
theorem BZ.append:∀ {xs ys:List V} {us ws:List AC},BZ xs us->BZ ys ws->BZ (xs++ys) (us++ws)
 | _,_,_,_,.nil,s=>s
 | _,_,_,_,.cons r t,s=>.cons r (BZ.append t s)
theorem BZ.take:∀ {xs:List V} {us:List AC} (n:Nat),BZ xs us->BZ (xs.take n) (us.take n)
 | _,_,0,_=>.nil
 | _,_,_+1,.nil=>.nil
 | _,_,n+1,.cons r t=>.cons r (BZ.take n t)
theorem BZ.drop:∀ {xs:List V} {us:List AC} (n:Nat),BZ xs us->BZ (xs.drop n) (us.drop n)
 | _,_,0,r=>r
 | _,_,_+1,.nil=>.nil
 | _,_,n+1,.cons _ t=>BZ.drop n t
def Ky:Option V->Option AC->Prop
 | some v,some u=>RelV v u
 | none,none=>True
 | _,_=>False
def KV {κ:Type}:List (κ×V)->List (κ×AC)->Prop:=El λ(p:κ×V) (q:κ×AC)=>p.1=q.1/\RelV p.2 q.2
def kV:Key->V
 | .inl i=>.int i
 | .inr x=>.str x
inductive HO where
 /-- a list -/
 | lst (xs:List V)
 /-- a tuple (never changes) -/
 | tup (xs:List V)
 /-- a dict whose keys are ints and texts;one whose keys are tuples of ints and texts (the empty one is both) -/
 | dK (kvs:List (Key×V)) | dT (kvs:List (List Key×V))
 /-- a set of ints: its members,its size -/
 | set (S:Int->Bool) (n:Nat)
 /-- an instance of the class at C,its dict at dx,its attributes -/
 | ins (C dx:AF) (fs:List (Str×V))
 /-- the dict of the instance at x -/
 | own (x:AF)
 /-- the dict of an exception -/
 | xd (fs:List (Str×V))
 /-- a bound method,f of x -/
 | met (f x:AF)
 /-- a range object lo,lo+1,.. below hi -/
 | rng (lo hi:Int)
 /-- a thing that is known to the object (the script;a dict while a loop walks it): read,never written while it is so -/
 | frz (o:Obj) (u:HO)
 /-- a code object's table -/
 | tbl (ps:Array AC)
 /-- any other thing,by what is true of its one object (a def of one's own: SetO a S n:=HO.ext λh=>..) -/
 | ext (φ:BY->Prop)
abbrev Hp:=AF->Option HO
def upd (H:Hp) (a:AF) (o:HO):Hp:=λb=>if b=a then some o else H b
theorem BM {H:Hp} {a:AF} {o:HO}:upd H a o a=some o:=by unfold upd;rw [if_pos rfl]
theorem BU {H:Hp} {a b:AF} {o:HO} (h:b≠a):upd H a o b=H b:=by unfold upd;rw [if_neg h]
theorem eC {H:Hp} {a b:AF} {o u:HO} (h:H a=some o) (h':H b=some u) (d:o≠u):a≠b:=by
 intro e;subst e;rw [h] at h';exact d (Cf h')
theorem Bl {H:Hp} {a b:AF} {o:HO} (h:H a=some o) (h':H b=none):a≠b:=by
 intro e;subst e;rw [h] at h';cases h'
section
variable (P:Ai) (w:A7)
def CD (H:Hp) (h:BY) (a:AF):HO->Prop
 | .lst xs=>xs.length<=sizeLine/\∃(its:List AC) (n:Nat),BZ xs its/\h.get? a=some { cls:=.type "list",data:=.seq its.toArray n }
 | .tup xs=>xs.length<=sizeLine/\∃its:List AC,BZ xs its/\cf h a its.toArray
 | .dK kvs=>kvs.length<=sizeLine/\(a==Ca)=false/\∃vs,KV kvs vs/\h.DictOf (Ch P w) a vs
 | .dT kvs=>kvs.length<=sizeLine/\(a==Ca)=false/\∃xs:List (List Key×AF×AC),
   El (λ(p:List Key×V) (q:List Key×AF×AC)=>p.1=q.1/\H q.2.1=some (.tup (p.1.map kV))/\RelV p.2 q.2.2) kvs xs /\
   ∃o es ep,h.get? a=some o/\o.ExactDict/\o.data=.dict es ep/\es.toList=xs.map (entryOfKey (OQ (Ch P w)))/\(xs.map (·.1)).Nodup
 | .set S n=>h.SetOf (intKind P w) a S n
 | .ins C dx fs=>H dx=some (.own a)/\fs.length<=1000/\dx≠a/\h.get? a=some (Ck C dx) /\
   ∃mA,h.Ns1 dx mA/\(∀f,Ky (fs.lookup f) (mA f))/\Pi mA (fs.map (·.1))
 | .own _=>∃o,h.get? a=some o
 | .xd fs=>∃mA,h.Ns1 a mA/\∀f,Ky (fs.lookup f) (mA f)
 | .rng lo hi=>∃t u v,h.get? a=some { cls:=.type "range",data:=.fields #[.int lo t,.int hi u,.int 1 v] }
 | .frz o u=>h.get? a=some o/\CD H h a u
 | .tbl ps=>h.get? a=some { cls:=.none,data:=.fields ps }
 | .met f x=>h.get? a=some (Jo (.ref f) (.ref x))
 | .ext φ=>φ h/\(∃o,h.get? a=some o)/\∀h1 h2:BY,φ h1->(∀o,h1.get? a=some o->h2.get? a=some o)->φ h2
def HOk (H:Hp) (h:BY):Prop:=∀a o,H a=some o->CD P w H h a o
end
section
variable {P:Ai} {w:A7} {H H':Hp} {h h':BY} {a:AF} {o:HO}
theorem CD.lt (x:CD P w H h a o):a < h.objs.size:=by
 cases o with
 | lst xs=>obtain ⟨_,_,_,_,e⟩:=x;exact Ae e
 | tup xs=>obtain ⟨_,_,_,p⟩:=x;exact p.lt
 | dK kvs=>obtain ⟨_,_,_,_,o,_,_,e,_⟩:=x;exact Ae e
 | dT kvs=>obtain ⟨_,_,_,_,o,_,_,e,_⟩:=x;exact Ae e
 | set S n=>obtain ⟨o,_,_,_,e,_⟩:=x;exact Ae e
 | ins C dx fs=>obtain ⟨_,_,_,e,_⟩:=x;exact Ae e
 | own y=>obtain ⟨_,e⟩:=x;exact Ae e
 | xd fs=>obtain ⟨_,⟨_,_,_,e,_⟩,_⟩:=x;exact Ae e
 | rng lo hi=>obtain ⟨_,_,_,e⟩:=x;exact Ae e
 | frz ob u=>obtain ⟨e,_⟩:=x;exact Ae e
 | tbl ps=>exact Ae (show h.get? a=some _ from x)
 | met f y=>exact Ae (show h.get? a=some _ from x)
 | ext φ=>obtain ⟨_,⟨_,e⟩,_⟩:=x;exact Ae e
theorem El.mapP {α β:Type} {F G:α->β->Prop}:∀ {l₁:List α} {l₂:List β},El F l₁ l₂->(∀a b,F a b->G a b)->El G l₁ l₂
 | _,_,.nil,_=>.nil
 | _,_,.cons r t,f=>.cons (f _ _ r) (El.mapP t f)
theorem CD.stay (x:CD P w H h a o) (k:∀b u,(b=a∨H b=some (.own a))->h.get? b=some u->h'.get? b=some u)
  (ho:∀b,H b=some (.own a)->H' b=some (.own a)) (ht:∀b xs,H b=some (.tup xs)->H' b=some (.tup xs)):CD P w H' h' a o:=by
 induction o with
 | lst xs=>obtain ⟨z,its,n,r,e⟩:=x;exact ⟨z,its,n,r,k _ _ (.inl rfl) e⟩
 | tup xs=>obtain ⟨z,its,r,ob,e,c⟩:=x;exact ⟨z,its,r,ob,k _ _ (.inl rfl) e,c⟩
 | dK kvs=>obtain ⟨z,y,vs,r,ob,es,ep,e,c⟩:=x;exact ⟨z,y,vs,r,ob,es,ep,k _ _ (.inl rfl) e,c⟩
 | dT kvs=>
  obtain ⟨z,y,xs,r,ob,es,ep,e,c⟩:=x;exact ⟨z,y,xs,El.mapP r λp q z=>⟨z.1,ht _ _ z.2.1,z.2.2⟩,ob,es,ep,k _ _ (.inl rfl) e,c⟩
 | set S n=>obtain ⟨ob,es,ep,t,e,c⟩:=x;exact ⟨ob,es,ep,t,k _ _ (.inl rfl) e,c⟩
 | ins C dx fs=>
  obtain ⟨d,z,ne,e,mA,⟨od,es,ep,e2,c⟩,r⟩:=x;exact ⟨ho _ d,z,ne,k _ _ (.inl rfl) e,mA,⟨od,es,ep,k _ _ (.inr d) e2,c⟩,r⟩
 | own y=>obtain ⟨ob,e⟩:=x;exact ⟨ob,k _ _ (.inl rfl) e⟩
 | xd fs=>obtain ⟨mA,⟨od,es,ep,e,c⟩,r⟩:=x;exact ⟨mA,⟨od,es,ep,k _ _ (.inl rfl) e,c⟩,r⟩
 | rng lo hi=>obtain ⟨t,u,v,e⟩:=x;exact ⟨t,u,v,k _ _ (.inl rfl) e⟩
 | frz ob u ih=>obtain ⟨e,q⟩:=x;exact ⟨k _ _ (.inl rfl) e,ih q⟩
 | tbl ps=>
  have e:h.get? a=some { cls:=.none,data:=.fields ps }:=x;show h'.get? a=some { cls:=.none,data:=.fields ps };exact k a _ (.inl rfl) e
 | met f y=>
  have e:h.get? a=some (Jo (.ref f) (.ref y)):=x;show h'.get? a=some (Jo (.ref f) (.ref y));exact k a _ (.inl rfl) e
 | ext φ=>obtain ⟨p,⟨o,e⟩,st⟩:=x;exact ⟨st _ _ p λo q=>k _ _ (.inl rfl) q,⟨o,k _ _ (.inl rfl) e⟩,st⟩
theorem HOk.lt (x:HOk P w H h) (e:H a=some o):a < h.objs.size:=(x a o e).lt
theorem HOk.fresh (x:HOk P w H h) (e:h.objs.size<=a):H a=none:=by
 cases q:H a with
 | none=>rfl
 | some u=>exact absurd (AX (x.lt q) e) (DV _)
theorem HOk.kept (x:HOk P w H h) (k:∀b u,h.get? b=some u->h'.get? b=some u):HOk P w H h':=λa o e=>
 (x a o e).stay (λb u _ q=>k b u q) (λ_ q=>q) λ_ _ q=>q
theorem HOk.laid (x:HOk P w H h) (k:∀b u,h.get? b=some u->h'.get? b=some u) (hp:h.objs.size<=a) (new:CD P w (upd H a o) h' a o):HOk P w (upd H a o) h':=λb u e=>by
 have hn:=x.fresh hp
 by_cases hb:b=a
 ·subst hb;rw [BM] at e;cases e;exact new
 ·rw [BU hb] at e
  exact (x b u e).stay (λc v _ q=>k c v q) (λc q=>by rw [BU (Bl q hn)];exact q) λc xs q=>by rw [BU (Bl q hn)];exact q
end
def Rd (H:Hp) (a:AF) (u:HO):Prop:=H a=some u∨∃o,H a=some (.frz o u)
theorem Rd.ok {P:Ai} {w:A7} {H:Hp} {h:BY} {a:AF} {u:HO} (r:Rd H a u) (x:HOk P w H h):CD P w H h a u:=by
 rcases r with r | ⟨o,r⟩
 ·exact x a u r
 ·obtain ⟨_,q⟩:=x a _ r
  exact q
def Mut:Option HO->Prop
 | some (.lst _)=>True
 | some (.dK _)=>True
 | some (.dT _)=>True
 | some (.set _ _)=>True
 | some (.ins _ _ _)=>True
 | some (.ext _)=>True
 | _=>False
section
variable {P:Ai} {w:A7} {H:Hp} {h h':BY} {x e:AF} {o':HO}
theorem HOk.write (ok:HOk P w H h) (mu:Mut (H x)) (he:e=x∨H e=some (.own x)) (k:∀b u,b≠e->h.get? b=some u->h'.get? b=some u) (heo:∃u,h'.get? e=some u)
  (new:CD P w (upd H x o') h' x o'):HOk P w (upd H x o') h':=λb u q=>by
 have nown:∀c y,H c=some (.own y)->c≠x:=λc y r z=>by subst z;rw [r] at mu;exact mu
 have ntup:∀c xs,H c=some (.tup xs)->c≠x:=λc xs r z=>by subst z;rw [r] at mu;exact mu
 by_cases hb:b=x
 ·subst hb;rw [BM] at q;cases q;exact new
 ·rw [BU hb] at q
  by_cases hbe:b=e
  ·have q':H b=some (.own x):=by
    rcases he with z | z
    ·exact absurd (hbe.trans z) hb
    ·rw [hbe];exact z
   rw [q] at q';cases q';obtain ⟨v,hv⟩:=heo;exact ⟨v,by rw [hbe];exact hv⟩
  ·refine (ok b u q).stay (λc v hc r=>k c v ?_ r) (λc r=>by rw [BU (nown c b r)];exact r) λc xs r=>by rw [BU (ntup c xs r)];exact r
   rcases hc with rfl | hc
   ·exact hbe
   ·rintro rfl
    rcases he with z | z
    ·exact nown c b hc z
    ·rw [hc] at z;cases z;exact hb rfl
end
structure Un (fs ex:List AF) (H H':Hp) (h h':BY):Prop where
 keep:∀b o,h.get? b=some o->H b=none->b∉fs->b∉ex->h'.get? b=some o
 slot:∀b o,h.get? b=some o->H b=none->b∈fs->b∉ex->∃sl,h'.get? b=some { o with slots:=sl }
 free:∀b o,h.get? b=some o->H b=none->b∉ex->H' b=none
 there:∀b o,h.get? b=some o->b∉ex->∃o',h'.get? b=some o'
 tups:∀b xs,H b=some (.tup xs)->H' b=some (.tup xs)
 frzs:∀b o u,H b=some (.frz o u)->H' b=some (.frz o u)
 tbls:∀b ps,H b=some (.tbl ps)->∃more,H' b=some (.tbl (ps++more))
section
variable {fs fs' ex ex':List AF} {H H1 H2:Hp} {h h1 h2 h':BY} {a x e:AF} {o:HO}
theorem Un.any (u:Un fs ex H H1 h h1) {b:AF} {ob:Obj} (q:h.get? b=some ob) (n:H b=none) (hx:b∉ex):∃sl,h1.get? b=some { ob with slots:=sl }:=by
 by_cases hb:b∈fs
 ·exact u.slot b ob q n hb hx
 ·exact ⟨ob.slots,u.keep b ob q n hb hx⟩
theorem Un.kept (k:∀b u,h.get? b=some u->h'.get? b=some u):Un fs ex H H h h':=
 ⟨λb ob q _ _ _=>k b ob q,λb ob q _ _ _=>⟨ob.slots,k b ob q⟩,λ_ _ _ n _=>n,λb ob q _=>⟨ob,k b ob q⟩,λ_ _ q=>q,λ_ _ _ q=>q,λ_ ps q=>⟨#[],by rw [q];simp⟩⟩
theorem Un.refl:Un fs ex H H h h:=Un.kept λ_ _ q=>q
theorem Un.laid (k:∀b u,h.get? b=some u->h'.get? b=some u) (hp:h.objs.size<=a) (hn:H a=none):Un fs ex H (upd H a o) h h' where
 keep:=λb u q _ _ _=>k b u q
 slot:=λb u q _ _ _=>⟨u.slots,k b u q⟩
 free:=λb u q n _=>by rw [BU (Ay (AX (Ae q) hp))];exact n
 there:=λb u q _=>⟨u,k b u q⟩
 tups:=λb xs q=>by rw [BU (Bl q hn)];exact q
 frzs:=λb u xs q=>by rw [BU (Bl q hn)];exact q
 tbls:=λb ps q=>⟨#[],by rw [BU (Bl q hn),q];simp⟩
theorem Un.write (mu:Mut (H x)) (he:e=x∨H e=some (.own x)) (k:∀b u,b≠e->h.get? b=some u->h'.get? b=some u) (heo:∃u,h'.get? e=some u):Un fs ex H (upd H x o) h h':=by
 have hx:∀b,H b=none->b≠x:=λb n z=>by subst z;rw [n] at mu;exact mu
 have hb:∀b,H b=none->b≠e:=λb n z=>by
  subst z
  rcases he with r | r
  ·exact hx b n r
  ·rw [n] at r;cases r
 have hm:∀b u,H b=some u->¬Mut (some u)->b≠x:=λb u q nm z=>by subst z;rw [q] at mu;exact nm mu
 refine ⟨λb u q n _ _=>k b u (hb b n) q,λb u q n _ _=>⟨u.slots,k b u (hb b n) q⟩,λb u q n _=>by rw [BU (hx b n)];exact n,λb u q _=>?_,
  λb xs q=>by rw [BU (hm b _ q λz=>z)];exact q,λb u xs q=>by rw [BU (hm b _ q λz=>z)];exact q,λb ps q=>⟨#[],by rw [BU (hm b _ q λz=>z),q];simp⟩⟩
 by_cases hbe:b=e
 ·subst hbe;exact heo
 ·exact ⟨u,k b u hbe q⟩
end
def trk (h:BY) (H:Hp):List AF:=(CT h.objs.size).filter λa=>(H a).isSome
def O5 (h:BY) (H:Hp):BY:=Hj h (trk h H)
theorem UI (h:BY) (H:Hp):(O5 h H).objs.size=h.objs.size:=PySem.W.hideAll_size _ _
theorem WX {h:BY} {H:Hp} {b:AF} {o:Obj} (e:h.get? b=some o) (n:H b=none):(O5 h H).get? b=some o:=
 Qv _ e λhm=>by
  have q:(H b).isSome=true:=(CU.mp hm).2;rw [n] at q;simp at q
theorem Ye {h:BY} {H:Hp} {b:AF} {o:Obj} (e:(O5 h H).get? b=some o):h.get? b=some o/\H b=none:=by
 have e':h.get? b=some o:=JT (trk h H) e;refine ⟨e',?_⟩
 cases q:H b with
 | none=>rfl
 | some x=>
  have hm:b∈trk h H:=CU.mpr ⟨Np.mpr (Ae e'),by simp [q]⟩;have z:(O5 h H).get? b=none:=ID (trk h H) hm;rw [z] at e;cases e
end L2
namespace L2
open PySem PySem.Spec PyProof.Rows
structure Mod (K:AA) (mg:Str->Option AC) (base:BY):Prop where
 kin:K.In base
 glob:base.Ns Ac mg
 blt:∃mb,base.Ns Zl mb/\∀x:Str,x≠"__name__"->mb x=Da x
 nolimit:base.NoLimit
structure Cx where
 prog:Ai
 w:A7
 K:AA
 mg:Str->Option AC
 base:BY
 A:A2
 N:List Str
 s₀:AE
 H₀:Hp
 env:Env
 outer:List Env
 stack:List Env
 ex:List AF
 fn:Str->Bool
 calm:Bool
 pn:List (AF×Obj)
 xe:AC->AE->Prop
def frs (l:List Env):List AF:=l.filterMap (·.frame)
abbrev Cx.fs (X:Cx):List AF:=frs X.outer
def Vis (sc:GR) (x:Str):Prop:=sc.names.lookup x=some .local∨sc.names.lookup x=some .cell∨sc.names.lookup x=some .free
def Loc (sc:GR) (x:Str):Prop:=sc.names.lookup x=some .local∨sc.names.lookup x=some .cell
def Look (env:Env) (h:BY) (m:Str->Option AC) (x:Str) (u:AC):Prop:=
 (env.kindOf x=some .local/\m x=some u)∨((env.kindOf x=some .cell∨env.kindOf x=some .free)/\∃c,env.cells.lookup x=some c/\h.IsCell c (some u))
structure Cx.Ok (X:Cx):Prop where
 mod:Mod X.K X.mg X.base
 kind:X.env.scope.kind=.function
 glob:X.env.globals=Ac
 blt:X.env.builtins=Zl
 above:X.s₀.heap.objs.size<=X.env.locals
 inj:∀x y c,X.env.cells.lookup x=some c->X.env.cells.lookup y=some c->x=y
 has:∀x,(X.env.kindOf x=some .cell∨X.env.kindOf x=some .free)->∃c,X.env.cells.lookup x=some c
 cab:∀x c,X.fn x=true->X.env.cells.lookup x=some c->X.s₀.heap.objs.size<=c
 hd:X.calm=true->X.A.handled=none
 frames:X.A.frames=some X.stack
 stk:X.stack=X.outer∨(X.stack=X.env :: X.outer/\X.env.frame=some X.env.locals)
 exf:∀b∈X.ex,b≠X.env.locals/\∀x c,X.env.cells.lookup x=some c->c≠b
 bs:∀b o,X.base.get? b=some o->X.s₀.heap.get? b=some o/\X.H₀ b=none
 bsz:X.base.objs.size<=X.s₀.heap.objs.size
 noex:∀b o,X.base.get? b=some o->b∉X.ex
 exfs:∀b∈X.ex,b∉X.fs
 funs:X.s₀.heap.FunFrames X.base X.outer
 frf:∀b∈X.fs,X.H₀ b=none
structure Inv (X:Cx) (pins:List (AF×Obj)) (σ:List (Option V)) (H:Hp) (s:AE):Prop where
 ok:X.Ok
 os:s.os=X.s₀.os
 bare:GM s.gens
 base:Un X.fs X.ex X.H₀ H X.s₀.heap s.heap
 loc:∃m,s.heap.Ns X.env.locals m/\∀(i:Nat) (x:Str) (v:V),X.N[i]?=some x->σ[i]?=some (some v)->Vis X.env.scope x->∃u,RelV v u/\Look X.env s.heap m x u
 cell:∀x c,X.env.cells.lookup x=some c->∃v,s.heap.IsCell c v
 free:H X.env.locals=none
 freeC:∀x c,X.env.cells.lookup x=some c->H c=none
 pin:∀p∈X.pn++pins,s.heap.get? p.1=some p.2/\H p.1=none/\p.1≠X.env.locals/\p.1∉X.fs/\∀v,p.2.data≠.cell v
 hok:HOk X.prog X.w H s.heap
 len:σ.length=X.N.length
section
variable {X:Cx} {pins:List (AF×Obj)} {σ:List (Option V)} {H H':Hp} {s:AE} {h':BY}
theorem Cx.Ok.nofr (ok:X.Ok) {b:AF} {o:Obj} (e:X.base.get? b=some o):b∉X.fs:=λhb=>by
 have:=(ok.funs.mem hb).1;rw [e] at this;cases this
theorem Inv.bs (I:Inv X pins σ H s):∀b o,X.base.get? b=some o->s.heap.get? b=some o/\H b=none:=λb o e=>
 ⟨I.base.keep b o (I.ok.bs b o e).1 (I.ok.bs b o e).2 (I.ok.nofr e) (I.ok.noex b o e),I.base.free b o (I.ok.bs b o e).1 (I.ok.bs b o e).2 (I.ok.noex b o e)⟩
theorem Inv.bk (I:Inv X pins σ H s):∀b o,X.base.get? b=some o->s.heap.get? b=some o:=λb o e=>(I.bs b o e).1
theorem Inv.mod (I:Inv X pins σ H s):Mod X.K X.mg X.base:=I.ok.mod
theorem Inv.kIn (I:Inv X pins σ H s):X.K.In s.heap:=I.ok.mod.kin.keeps I.bk
theorem Inv.lt (I:Inv X pins σ H s):X.env.locals < s.heap.objs.size:=let ⟨_,hn,_⟩:=I.loc;hn.lt
theorem Inv.sz (I:Inv X pins σ H s):X.s₀.heap.objs.size<=s.heap.objs.size:=Ao I.ok.above (LS I.lt)
theorem Inv.nofs (I:Inv X pins σ H s) {a:AF} (h:s.heap.objs.size<=a):a∉X.fs:=λhb=>by
 obtain ⟨_,o,ho,_⟩:=I.ok.funs.mem hb;exact absurd (AX (Ae ho) (Ao I.sz h)) (DV _)
theorem Inv.cne (I:Inv X pins σ H s):∀x c,X.env.cells.lookup x=some c->c≠X.env.locals:=λx c e z=>by
 obtain ⟨v,o,ho,hd⟩:=I.cell x c e;obtain ⟨m,⟨o',es,ep,ho',hd',_⟩,_⟩:=I.loc;rw [z,ho'] at ho;cases ho;rw [hd'] at hd;cases hd
theorem Inv.funs (I:Inv X pins σ H s):s.heap.FunFrames X.base X.outer:=by
 have all:∀(l:List Env),(∀b∈frs l,b∈X.fs)->X.s₀.heap.FunFrames X.base l->s.heap.FunFrames X.base l:=by
  intro l
  induction l with
  | nil=>intro _ _;trivial
  | cons env r ih=>
   intro hs hl;obtain ⟨hk,⟨L,o,hf,hn,ho,hd⟩,hr⟩:=hl;have hL:L∈X.fs:=hs L (by unfold frs;rw [Jl,hf];exact A0)
   obtain ⟨sl,e⟩:=I.base.slot L o ho (I.ok.frf L hL) hL λz=>I.ok.exfs L z hL
   exact ⟨hk,⟨L,_,hf,hn,e,hd⟩,ih (λb hb=>hs b (by unfold frs;rw [Jl,hf];exact AZ _ hb)) hr⟩
 exact all X.outer (λ_ hb=>hb) I.ok.funs
theorem Inv.stack (I:Inv X pins σ H s):s.heap.FunFrames X.base X.stack:=by
 rcases I.ok.stk with e | ⟨e,hf⟩
 ·rw [e];exact I.funs
 ·rw [e]
  obtain ⟨m,hn,_⟩:=I.loc;refine .cons (by rw [I.ok.kind];decide) hf hn ?_ I.funs;exact SN (Ao I.ok.bsz I.ok.above)
theorem Inv.stkSub (I:Inv X pins σ H s):∀b∈frs X.stack,b∈X.env.locals :: X.fs:=λb hb=>by
 rcases I.ok.stk with e | ⟨e,hf⟩
 ·rw [e] at hb;exact AZ _ hb
 ·rw [e] at hb
  unfold frs at hb;rw [Jl,hf] at hb;exact hb
theorem Inv.stkFree (I:Inv X pins σ H s):∀b∈frs X.stack,H b=none:=λb hb=>by
 rcases Ap.mp (I.stkSub b hb) with e | hb
 ·rw [e];exact I.free
 ·obtain ⟨_,o,ho,_⟩:=I.ok.funs.mem hb
  exact I.base.free b o ho (I.ok.frf b hb) λz=>I.ok.exfs b z hb
theorem Inv.step {g':Array RG} {t':Nat} {d':Drawn} {ch:List AF} (I:Inv X pins σ H s)
  (hch:∀b∈ch,(b∈X.ex∨X.s₀.heap.objs.size<=b)/\b≠X.env.locals/\(∀x c,X.env.cells.lookup x=some c->c≠b)/\∀p∈X.pn++pins,p.1≠b)
  (keep:∀b o,b≠X.env.locals->b∉X.fs->b∉ch->s.heap.get? b=some o->H b=none->h'.get? b=some o)
  (slot:∀b o,b≠X.env.locals->b∈X.fs->b∉ch->s.heap.get? b=some o->H b=none->∃sl,h'.get? b=some { o with slots:=sl }) (free:∀b o,b∉ch->s.heap.get? b=some o->H b=none->H' b=none)
  (there:∀b o,b∉ch->s.heap.get? b=some o->∃o',h'.get? b=some o')
  (tups:∀b xs,H b=some (.tup xs)->H' b=some (.tup xs)) (frzs:∀b o u,H b=some (.frz o u)->H' b=some (.frz o u)) (tbls:∀b ps,H b=some (.tbl ps)->∃more,H' b=some (.tbl (ps++more)))
  (ns:∀m,s.heap.Ns X.env.locals m->h'.Ns X.env.locals m) (hok:HOk X.prog X.w H' h') (hg:GM g') :
  Inv X pins σ H' { s with heap:=h',gens:=g',drawn:=d',toks:=t' }:=by
 have neL:∀b o,X.s₀.heap.get? b=some o->b≠X.env.locals:=λb o e=>Ay (AX (Ae e) I.ok.above)
 have neC:∀b o,X.s₀.heap.get? b=some o->b∉X.ex->b∉ch:=λb o e hx hb=>by
  rcases (hch b hb).1 with z | z
  ·exact hx z
  ·exact absurd (AX (Ae e) z) (DV _)
 have cellK:∀x c,X.env.cells.lookup x=some c->∀v,s.heap.IsCell c v->h'.IsCell c v:=λx c e v ⟨o,ho,hd⟩=>by
  have nch:c∉ch:=λz=>(hch c z).2.2.1 x c e rfl
  by_cases hc:c∈X.fs
  ·obtain ⟨sl,q⟩:=slot c o (I.cne x c e) hc nch ho (I.freeC x c e)
   exact ⟨_,q,hd⟩
  ·exact ⟨o,keep c o (I.cne x c e) hc nch ho (I.freeC x c e),hd⟩
 refine ⟨I.ok,I.os,hg,⟨λb o e n hb hx=>?_,λb o e n hb hx=>?_,λb o e n hx=>?_,λb o e hx=>?_,λb xs e=>tups b xs (I.base.tups b xs e),λb o xs e=>frzs b o xs (I.base.frzs b o xs e),λb ps e=>?_⟩,?_,λx c e=>?_,?_,λx c e=>?_,λp hp=>?_,hok,I.len⟩
 ·exact keep b o (neL b o e) hb (neC b o e hx) (I.base.keep b o e n hb hx) (I.base.free b o e n hx)
 ·obtain ⟨sl,e1⟩:=I.base.slot b o e n hb hx
  obtain ⟨sl',e2⟩:=slot b _ (neL b o e) hb (neC b o e hx) e1 (I.base.free b o e n hx);exact ⟨sl',e2⟩
 ·obtain ⟨o',e1⟩:=I.base.there b o e hx
  exact free b o' (neC b o e hx) e1 (I.base.free b o e n hx)
 ·obtain ⟨o',e1⟩:=I.base.there b o e hx
  exact there b o' (neC b o e hx) e1
 ·obtain ⟨m1,e1⟩:=I.base.tbls b ps e
  obtain ⟨m2,e2⟩:=tbls b _ e1;exact ⟨m1++m2,by rw [e2,TZ]⟩
 ·obtain ⟨m,hn,hl⟩:=I.loc
  refine ⟨m,ns m hn,λi x v e1 e2 e3=>?_⟩;obtain ⟨u,r,l⟩:=hl i x v e1 e2 e3;refine ⟨u,r,?_⟩
  rcases l with l | ⟨k,c,e,z⟩
  ·exact .inl l
  ·exact .inr ⟨k,c,e,cellK x c e _ z⟩
 ·obtain ⟨v,z⟩:=I.cell x c e
  exact ⟨v,cellK x c e v z⟩
 ·obtain ⟨m,⟨o,_,_,ho,_⟩,_⟩:=I.loc
  exact free _ o (λz=>(hch _ z).2.1 rfl) ho I.free
 ·obtain ⟨v,o,ho,hd⟩:=I.cell x c e
  exact free c o (λz=>(hch c z).2.2.1 x c e rfl) ho (I.freeC x c e)
 ·obtain ⟨e,n,ne,nf,d⟩:=I.pin p hp
  have nch:p.1∉ch:=λz=>(hch p.1 z).2.2.2 p hp rfl
  exact ⟨keep p.1 p.2 ne nf nch e n,free p.1 p.2 nch e n,ne,nf,d⟩
theorem Inv.stepN {g':Array RG} {t':Nat} {d':Drawn} {ch:List AF} (I:Inv X pins σ H s)
  (hch:∀b∈ch,(b∈X.ex∨X.s₀.heap.get? b=none)/\b≠X.env.locals/\(∀x c,X.env.cells.lookup x=some c->c≠b)/\∀p∈X.pn++pins,p.1≠b)
  (keep:∀b o,b≠X.env.locals->b∉X.fs->b∉ch->s.heap.get? b=some o->H b=none->h'.get? b=some o)
  (slot:∀b o,b≠X.env.locals->b∈X.fs->b∉ch->s.heap.get? b=some o->H b=none->∃sl,h'.get? b=some { o with slots:=sl }) (free:∀b o,b∉ch->s.heap.get? b=some o->H b=none->H' b=none)
  (there:∀b o,b∉ch->s.heap.get? b=some o->∃o',h'.get? b=some o')
  (tups:∀b xs,H b=some (.tup xs)->H' b=some (.tup xs)) (frzs:∀b o u,H b=some (.frz o u)->H' b=some (.frz o u)) (tbls:∀b ps,H b=some (.tbl ps)->∃more,H' b=some (.tbl (ps++more)))
  (ns:∀m,s.heap.Ns X.env.locals m->h'.Ns X.env.locals m) (hok:HOk X.prog X.w H' h') (hg:GM g') :
  Inv X pins σ H' { s with heap:=h',gens:=g',drawn:=d',toks:=t' }:=by
 have neL:∀b o,X.s₀.heap.get? b=some o->b≠X.env.locals:=λb o e=>Ay (AX (Ae e) I.ok.above)
 have neC:∀b o,X.s₀.heap.get? b=some o->b∉X.ex->b∉ch:=λb o e hx hb=>by
  rcases (hch b hb).1 with z | z
  ·exact hx z
  ·rw [z] at e;cases e
 have cellK:∀x c,X.env.cells.lookup x=some c->∀v,s.heap.IsCell c v->h'.IsCell c v:=λx c e v ⟨o,ho,hd⟩=>by
  have nch:c∉ch:=λz=>(hch c z).2.2.1 x c e rfl
  by_cases hc:c∈X.fs
  ·obtain ⟨sl,q⟩:=slot c o (I.cne x c e) hc nch ho (I.freeC x c e)
   exact ⟨_,q,hd⟩
  ·exact ⟨o,keep c o (I.cne x c e) hc nch ho (I.freeC x c e),hd⟩
 refine ⟨I.ok,I.os,hg,⟨λb o e n hb hx=>?_,λb o e n hb hx=>?_,λb o e n hx=>?_,λb o e hx=>?_,λb xs e=>tups b xs (I.base.tups b xs e),λb o xs e=>frzs b o xs (I.base.frzs b o xs e),λb ps e=>?_⟩,?_,λx c e=>?_,?_,λx c e=>?_,λp hp=>?_,hok,I.len⟩
 ·exact keep b o (neL b o e) hb (neC b o e hx) (I.base.keep b o e n hb hx) (I.base.free b o e n hx)
 ·obtain ⟨sl,e1⟩:=I.base.slot b o e n hb hx
  obtain ⟨sl',e2⟩:=slot b _ (neL b o e) hb (neC b o e hx) e1 (I.base.free b o e n hx);exact ⟨sl',e2⟩
 ·obtain ⟨o',e1⟩:=I.base.there b o e hx
  exact free b o' (neC b o e hx) e1 (I.base.free b o e n hx)
 ·obtain ⟨o',e1⟩:=I.base.there b o e hx
  exact there b o' (neC b o e hx) e1
 ·obtain ⟨m1,e1⟩:=I.base.tbls b ps e
  obtain ⟨m2,e2⟩:=tbls b _ e1;exact ⟨m1++m2,by rw [e2,TZ]⟩
 ·obtain ⟨m,hn,hl⟩:=I.loc
  refine ⟨m,ns m hn,λi x v e1 e2 e3=>?_⟩;obtain ⟨u,r,l⟩:=hl i x v e1 e2 e3;refine ⟨u,r,?_⟩
  rcases l with l | ⟨k,c,e,z⟩
  ·exact .inl l
  ·exact .inr ⟨k,c,e,cellK x c e _ z⟩
 ·obtain ⟨v,z⟩:=I.cell x c e
  exact ⟨v,cellK x c e v z⟩
 ·obtain ⟨m,⟨o,_,_,ho,_⟩,_⟩:=I.loc
  exact free _ o (λz=>(hch _ z).2.1 rfl) ho I.free
 ·obtain ⟨v,o,ho,hd⟩:=I.cell x c e
  exact free c o (λz=>(hch c z).2.2.1 x c e rfl) ho (I.freeC x c e)
 ·obtain ⟨e,n,ne,nf,d⟩:=I.pin p hp
  have nch:p.1∉ch:=λz=>(hch p.1 z).2.2.2 p hp rfl
  exact ⟨keep p.1 p.2 ne nf nch e n,free p.1 p.2 nch e n,ne,nf,d⟩
theorem Inv.un {t':Nat} (I:Inv X pins σ H s) (u:Un X.fs [] H H' s.heap h') (hok:HOk X.prog X.w H' h'):Inv X pins σ H' { s with heap:=h',toks:=t' }:=by
 obtain ⟨m,⟨o,es,ep,ho,r⟩,_⟩:=id I.loc;obtain ⟨sl,hL⟩:=u.any ho I.free (by simp)
 exact I.step (g':=s.gens) (d':=s.drawn) (ch:=[]) (λ_ z=>nomatch z) (λb o _ hb _ e n=>u.keep b o e n hb (by simp)) (λb o _ hb _ e n=>u.slot b o e n hb (by simp)) (λb o _ e n=>u.free b o e n (by simp)) (λb o _ e=>u.there b o e (by simp)) u.tups u.frzs u.tbls (λm' hm=>by
  obtain ⟨o',es',ep',ho',r'⟩:=hm;rw [ho] at ho';cases ho'
  exact ⟨_,es',ep',hL,r'⟩) hok I.bare
theorem Inv.call {g':Array RG} {t':Nat} {d':Drawn} {ch:List AF} (I:Inv X pins σ H s) (u:Un (frs X.stack) ch H H' s.heap h') (hok:HOk X.prog X.w H' h') (hg:GM g')
  (hch:∀b∈ch,(b∈X.ex∨X.s₀.heap.objs.size<=b)/\b≠X.env.locals/\(∀x c,X.env.cells.lookup x=some c->c≠b)/\∀p∈X.pn++pins,p.1≠b) :
  Inv X pins σ H' { s with heap:=h',gens:=g',drawn:=d',toks:=t' }:=by
 obtain ⟨m,⟨o,es,ep,ho,r⟩,_⟩:=id I.loc
 obtain ⟨sl,hL⟩:=u.any ho I.free λz=>(hch _ z).2.1 rfl
 exact I.step (ch:=ch) hch (λb o hL hb hc e n=>u.keep b o e n (λz=>(Ap.mp (I.stkSub b z)).elim hL hb) hc) (λb o _ _ hc e n=>u.any e n hc) (λb o hc e n=>u.free b o e n hc) (λb o hc e=>u.there b o e hc) u.tups u.frzs u.tbls (λm' hm=>by
  obtain ⟨o',es',ep',ho',r'⟩:=hm;rw [ho] at ho';cases ho'
  exact ⟨_,es',ep',hL,r'⟩) hok hg
theorem Inv.turned {t':Nat} {it:AF} (I:Inv X pins σ H s) (k:∀b o,b≠it->s.heap.get? b=some o->h'.get? b=some o) (hn:H it=none) (hL:it≠X.env.locals)
  (h1:it∈X.ex∨X.s₀.heap.objs.size<=it) (h2:∀x c,X.env.cells.lookup x=some c->c≠it) (h3:∀p∈X.pn++pins,p.1≠it):Inv X pins σ H { s with heap:=h',toks:=t' }:=by
 have nit:∀b u,H b=some u->b≠it:=λb u e z=>by rw [z,hn] at e;cases e
 refine I.step (g':=s.gens) (d':=s.drawn) (ch:=[it]) (λb hb=>?_) (λb o _ _ hc e _=>k b o (λz=>hc (by simp [z])) e) (λb o _ _ hc e _=>⟨o.slots,k b o (λz=>hc (by simp [z])) e⟩) (λ_ _ _ _ n=>n)
  (λb o hc e=>⟨o,k b o (λz=>hc (by simp [z])) e⟩) (λ_ _ e=>e) (λ_ _ _ e=>e) (λb ps e=>⟨#[],by rw [e];simp⟩) (λm hm=>?_) (λb u e=>?_) I.bare
 ·have e:b=it:=by simpa using hb
  subst e;exact ⟨h1,hL,h2,h3⟩
 ·obtain ⟨o,es,ep,ho,r⟩:=hm
  exact ⟨o,es,ep,k _ o (Bv hL) ho,r⟩
 ·refine (I.hok b u e).stay (λc v hc q=>k c v ?_ q) (λ_ q=>q) λ_ _ q=>q
  rcases hc with z | z
  ·rw [z];exact nit b u e
  ·exact nit c _ z
theorem Inv.tok (I:Inv X pins σ H s) (t:Nat):Inv X pins σ H { s with toks:=t }:=I.un (h':=s.heap) (t':=t) Un.refl I.hok
theorem Inv.kept {t':Nat} (I:Inv X pins σ H s) (k:∀b u,s.heap.get? b=some u->h'.get? b=some u):Inv X pins σ H { s with heap:=h',toks:=t' }:=I.un (Un.kept k) (I.hok.kept k)
theorem Inv.laid {a:AF} {o:HO} {t':Nat} (I:Inv X pins σ H s) (k:∀b u,s.heap.get? b=some u->h'.get? b=some u) (hp:s.heap.objs.size<=a) (new:CD X.prog X.w (upd H a o) h' a o) :
  Inv X pins σ (upd H a o) { s with heap:=h',toks:=t' }:=I.un (Un.laid k hp (I.hok.fresh hp)) (I.hok.laid k hp new)
theorem Inv.write {x e:AF} {o:HO} {t':Nat} (I:Inv X pins σ H s) (mu:Mut (H x)) (he:e=x∨H e=some (.own x)) (k:∀b u,b≠e->s.heap.get? b=some u->h'.get? b=some u) (heo:∃u,h'.get? e=some u)
  (new:CD X.prog X.w (upd H x o) h' x o):Inv X pins σ (upd H x o) { s with heap:=h',toks:=t' }:=I.un (Un.write mu he k heo) (I.hok.write mu he k heo new)
theorem Inv.pins_of {pins':List (AF×Obj)} (I:Inv X pins σ H s) (h:∀p∈pins',s.heap.get? p.1=some p.2/\H p.1=none/\p.1≠X.env.locals/\p.1∉X.fs/\∀v,p.2.data≠.cell v):Inv X pins' σ H s:=
 ⟨I.ok,I.os,I.bare,I.base,I.loc,I.cell,I.free,I.freeC,λp hp=>(Au.mp hp).elim (λz=>I.pin p (A1 _ z)) (h p),I.hok,I.len⟩
theorem Md {N:List Str} (hN:N.Nodup) {i j:Nat} {x:Str} (a:N[i]?=some x) (b:N[j]?=some x):i=j:=by
 obtain ⟨h1,e1⟩:=AD.mp a;obtain ⟨h2,e2⟩:=AD.mp b;exact (Hl hN).mp (e1.trans e2.symm)
theorem N1 {M:NR} {A:A2} {E:AC->AE->Prop} {i:Nat} {x:Str} {v:V} {u:AC} {Q:Unit->AE->Prop} (I:Inv X pins σ H s) (hN:X.N.Nodup) (hi:X.N[i]?=some x) (hx:Loc X.env.scope x) (r:RelV v u)
  (h:∀s',Inv X pins (σ.set i (some v)) H s'->(∃a,GK a s.heap s'.heap/\(a=X.env.locals∨X.env.cells.lookup x=some a))->Q () s') (hf:X.fn x=true∨X.env.scope.names.lookup x=some .local:=by first | exact .inl rfl | exact .inr rfl | assumption):Ah M A (storeName X.env x u) Q E s:=by
 obtain ⟨m,hn,hl⟩:=id I.loc
 have hcls:(X.env.scope.kind==.class||(X.env.scope.kind==.module&&X.env.locals != X.env.globals))=false:=by rw [I.ok.kind];rfl
 have hiσ:i < σ.length:=by rw [I.len];exact (AD.mp hi).1
 have cne:=I.cne
 have tracked:∀ {a:AF} {h':BY},(∃o,s.heap.get? a=some o/\H a=none)->GK a s.heap h'->HOk X.prog X.w H h':=λ{a h'} ha hs b ob e=>by
  obtain ⟨_,_,hfree⟩:=ha
  refine (I.hok b ob e).stay (λc w' hc q=>(hs.2 c ?_).trans q) (λ_ q=>q) λ_ _ q=>q
  rintro rfl
  rcases hc with rfl | hc
  ·rw [hfree] at e;cases e
  ·rw [hfree] at hc;cases hc
 rcases hx with hk | hk
 ·refine wpAny_storeName_local hk hn (λh' hn' hs=>?_) hcls
  obtain ⟨oL,_,_,hoL,_⟩:=id hn;refine h _ ⟨I.ok,I.os,I.bare,⟨λb o e n hb hx=>?_,λb o e n hb hx=>?_,I.base.free,λb o e hx=>?_,I.base.tups,I.base.frzs,I.base.tbls⟩,⟨_,hn',λj y v' e1 e2 e3=>?_⟩,λy c e=>?_,I.free,I.freeC,λp hp=>?_,tracked ⟨oL,hoL,I.free⟩ hs,by simpa using I.len⟩ ⟨_,hs,.inl rfl⟩
  ·exact (hs.2 b (Ay (AX (Ae e) I.ok.above))).trans (I.base.keep b o e n hb hx)
  ·obtain ⟨sl,e1⟩:=I.base.slot b o e n hb hx
   exact ⟨sl,(hs.2 b (Ay (AX (Ae e) I.ok.above))).trans e1⟩
  ·obtain ⟨o',e1⟩:=I.base.there b o e hx
   exact ⟨o',(hs.2 b (Ay (AX (Ae e) I.ok.above))).trans e1⟩
  ·by_cases hj:j=i
   ·subst hj
    rw [hi] at e1;cases e1;rw [A3 hiσ] at e2;cases e2;exact ⟨u,r,.inl ⟨hk,by simp⟩⟩
   ·rw [Al (Bv hj)] at e2
    obtain ⟨u',r',q⟩:=hl j y v' e1 e2 e3;refine ⟨u',r',?_⟩
    rcases q with ⟨k,e⟩ | ⟨k,c,e,z⟩
    ·refine .inl ⟨k,?_⟩
     have:y≠x:=λe=>hj (Md hN e1 (e▸hi))
     simp [this,e]
    ·exact .inr ⟨k,c,e,z.sameBut hs (cne y c e)⟩
  ·obtain ⟨w',z⟩:=I.cell y c e
   exact ⟨w',z.sameBut hs (cne y c e)⟩
  ·obtain ⟨e,n,ne,nf,d⟩:=I.pin p hp
   exact ⟨(hs.2 p.1 ne).trans e,n,ne,nf,d⟩
 ·have hfn:X.fn x=true:=by
   rcases hf with z | z
   ·exact z
   ·rw [z] at hk;cases hk
  obtain ⟨c,hc⟩:=I.ok.has x (.inl hk);obtain ⟨w',z⟩:=I.cell x c hc;refine wpAny_storeName_cell I.ok.kind hk hc z (λh' hc' hs=>?_);obtain ⟨oc,hoc,hocd⟩:=id z;refine h { s with heap:=h' } ⟨I.ok,I.os,I.bare,⟨λb o e n hb hx=>?_,λb o e n hb hx=>?_,I.base.free,λb o e hx=>?_,I.base.tups,I.base.frzs,I.base.tbls⟩,⟨m,hn.sameBut hs (Bv (cne x c hc)),λj y v' e1 e2 e3=>?_⟩,λy c' e=>?_,I.free,I.freeC,λp hp=>?_,tracked ⟨oc,hoc,I.freeC x c hc⟩ hs,by simpa using I.len⟩ ⟨c,hs,.inr hc⟩
  ·exact (hs.2 b (Ay (AX (Ae e) (I.ok.cab x c hfn hc)))).trans (I.base.keep b o e n hb hx)
  ·obtain ⟨sl,e1⟩:=I.base.slot b o e n hb hx
   exact ⟨sl,(hs.2 b (Ay (AX (Ae e) (I.ok.cab x c hfn hc)))).trans e1⟩
  ·obtain ⟨o',e1⟩:=I.base.there b o e hx
   exact ⟨o',(hs.2 b (Ay (AX (Ae e) (I.ok.cab x c hfn hc)))).trans e1⟩
  ·by_cases hj:j=i
   ·subst hj
    rw [hi] at e1;cases e1;rw [A3 hiσ] at e2;cases e2;exact ⟨u,r,.inr ⟨.inl hk,c,hc,hc'⟩⟩
   ·rw [Al (Bv hj)] at e2
    obtain ⟨u',r',q⟩:=hl j y v' e1 e2 e3;refine ⟨u',r',?_⟩
    rcases q with q | ⟨k,c',e,z'⟩
    ·exact .inl q
    ·refine .inr ⟨k,c',e,z'.sameBut hs ?_⟩
     rintro rfl;exact hj (Md hN e1 (I.ok.inj _ _ _ e hc▸hi))
  ·by_cases hcc:c'=c
   ·subst hcc;exact ⟨_,hc'⟩
   ·obtain ⟨w2,z2⟩:=I.cell y c' e
    exact ⟨w2,z2.sameBut hs hcc⟩
  ·obtain ⟨e,n,ne,nf,d⟩:=I.pin p hp
   refine ⟨(hs.2 p.1 ?_).trans e,n,ne,nf,d⟩;intro q;rw [q,hoc] at e;have q':oc=p.2:=Cf e;exact d w' (by rw [<-q'];exact hocd)
theorem MN {M:NR} {A:A2} {E:AC->AE->Prop} {i:Nat} {x:Str} {v:V} {u:AC} {Q:Unit->AE->Prop} (I:Inv X pins σ H s) (hN:X.N.Nodup) (hi:X.N[i]?=some x) (hx:Loc X.env.scope x) (r:RelV v u)
  (h:∀s',Inv X pins (σ.set i (some v)) H s'->Q () s') (hf:X.fn x=true∨X.env.scope.names.lookup x=some .local:=by first | exact .inl rfl | exact .inr rfl | assumption):Ah M A (storeName X.env x u) Q E s:=
 N1 I hN hi hx r (λs' I' _=>h s' I') hf
theorem Inv.call' {s':AE} {ch:List AF} (I:Inv X pins σ H s) (ho:s'.os=s.os) (u:Un (frs X.stack) ch H H' s.heap s'.heap) (hok:HOk X.prog X.w H' s'.heap) (hg:GM s'.gens)
  (hch:∀b∈ch,(b∈X.ex∨X.s₀.heap.objs.size<=b)/\b≠X.env.locals/\(∀x c,X.env.cells.lookup x=some c->c≠b)/\∀p∈X.pn++pins,p.1≠b):Inv X pins σ H' s':=by
 obtain ⟨h',g',d',t',o'⟩:=s';have e:o'=s.os:=ho;subst e;exact I.call (g':=g') (t':=t') (d':=d') u hok hg hch
end
abbrev XK:=AC->Option AF->Hp->Prop
abbrev St:=List (Option V)
abbrev VK:=V->Hp->Prop
abbrev TE:=St->Hp->VK->Prop
abbrev TT:=St->Hp->(Bool->Hp->Prop)->Prop
abbrev TA:=St->Hp->(List V->Hp->Prop)->Prop
structure Qp where
 nx:St->Hp->Prop
 rt:VK
 bk:St->Hp->Prop:=λ_ _=>False
 ct:St->Hp->Prop:=λ_ _=>False
abbrev TS:=Qp->St->Hp->Prop
def EP (X:Cx) (pins:List (AF×Obj)) (σ:St) (Q:VK) (u:AC) (s':AE):Prop:=∃v H',Inv X pins σ H' s'/\RelV v u/\Q v H'
def TP (X:Cx) (pins:List (AF×Obj)) (σ:St) (Q:Bool->Hp->Prop) (b:Bool) (s':AE):Prop:=∃H',Inv X pins σ H' s'/\Q b H'
def AP (X:Cx) (pins:List (AF×Obj)) (σ:St) (Q:List V->Hp->Prop) (us:List AC) (s':AE):Prop:=∃vs H',Inv X pins σ H' s'/\BZ vs us/\Q vs H'
def SP (X:Cx) (pins:List (AF×Obj)) (D:Qp) (f:Flow) (s':AE):Prop:=
 match f with
 | .next=>∃σ' H',Inv X pins σ' H' s'/\D.nx σ' H'
 | .brk=>∃σ' H',Inv X pins σ' H' s'/\D.bk σ' H'
 | .cont=>∃σ' H',Inv X pins σ' H' s'/\D.ct σ' H'
 | .ret u=>∃v σ' H',Inv X pins σ' H' s'/\RelV v u/\D.rt v H'
def PE (X:Cx) (e:Expr) (t:TE):Prop:=
 ∀(pins:List (AF×Obj)) (s:AE) (σ:St) (H:Hp) (Q:VK),Inv X pins σ H s->t σ H Q->Ah (AW X.prog X.w) X.A (Bh e X.env) (EP X pins σ Q) X.xe s
def PT (X:Cx) (e:Expr) (t:TT):Prop:=
 ∀(pins:List (AF×Obj)) (s:AE) (σ:St) (H:Hp) (Q:Bool->Hp->Prop),Inv X pins σ H s->t σ H Q->Ah (AW X.prog X.w) X.A (Q4 e X.env (Bh e X.env)) (TP X pins σ Q) X.xe s
def PW (X:Cx) (e:Expr) (t:TT):Prop:=
 ∀(whole:Sem AC) (pins:List (AF×Obj)) (s:AE) (σ:St) (H:Hp) (Q:Bool->Hp->Prop),Inv X pins σ H s->t σ H Q->Ah (AW X.prog X.w) X.A (Q4 e X.env whole) (TP X pins σ Q) X.xe s
theorem PW.pt {X:Cx} {e:Expr} {t:TT} (h:PW X e t):PT X e t:=h _
def PA (X:Cx) (es:List Expr) (t:TA):Prop:=
 ∀(pos:Pos) (pins:List (AF×Obj)) (s:AE) (σ:St) (H:Hp) (Q:List V->Hp->Prop),Inv X pins σ H s->t σ H Q->Ah (AW X.prog X.w) X.A (spliced (Cb pos (AO es X.env))) (AP X pins σ Q) X.xe s
def PS (X:Cx) (st:Cd) (t:TS):Prop:=
 ∀(pins:List (AF×Obj)) (s:AE) (σ:St) (H:Hp) (D:Qp),Inv X pins σ H s->t D σ H->Ah (AW X.prog X.w) X.A (exec st X.env) (SP X pins D) X.xe s
def PSs (X:Cx) (st:List Cd) (t:TS):Prop:=
 ∀(pins:List (AF×Obj)) (s:AE) (σ:St) (H:Hp) (D:Qp),Inv X pins σ H s->t D σ H->Ah (AW X.prog X.w) X.A (execs st X.env) (SP X pins D) X.xe s
theorem thn {α:Type} {t:Sem α} {Q Q':α->AE->Prop} {M:NR} {A:A2} {E:AC->AE->Prop} {s:AE} (h:Ah M A t Q E s) (hQ:∀a s,Q a s->Q' a s):Ah M A t Q' E s:=DY h hQ λ_ _ x=>x
end L2
namespace L2
open PySem PySem.Spec PyProof.Rows
section
variable {X:Cx}
def aH (i:Nat):TE:=λσ H Q=>∃v,σ[i]?=some (some v)/\Q v H
def tC (v:V):TE:=λ_ H Q=>Q v H
theorem ah {i:Nat} {x:Str} {pos:Pos} (hN:X.N[i]?=some x) (hv:Vis X.env.scope x) (hd:(x==("__debug__" : Str))=false:=by decide) (hcd:(x==("__classdict__" : Str))=false:=by decide):PE X (.Name x pos) (aH i):=by
 intro pins s σ H Q I h;obtain ⟨v,e,h⟩:=h;obtain ⟨m,hn,hl⟩:=I.loc;obtain ⟨u,r,l⟩:=hl i x v hN e hv;have fin:EP X pins σ Q u s:=⟨v,H,I,r,h⟩
 rcases l with ⟨hk,hm⟩ | ⟨hk,c,hc,hcell⟩
 ·exact Zh (wpAny_loadName_local I.ok.kind hk hn hm fin) hd
 ·rcases hk with hk | hk
  ·exact Zh (wpAny_loadName_cell I.ok.kind hk hc hcell fin) hd
  ·exact Zh (wpAny_loadName_free I.ok.kind hk hc hcell fin hcd) hd
theorem ap {i j pos}:PE X (.Constant (.int i) j pos) (tC (.int i)):=λ_ _ _ H _ I h=>wpAny_Constant_int ⟨.int i,H,I.tok _,⟨_,rfl⟩,h⟩
theorem di {b j pos}:PE X (.Constant (.bool b) j pos) (tC (.bl b)):=λ_ _ _ H _ I h=>Constant_bool ⟨.bl b,H,I,rfl,h⟩
theorem am {j pos}:PE X (.Constant .none j pos) (tC .non):=λ_ _ _ H _ I h=>Constant_none ⟨.non,H,I,rfl,h⟩
theorem ai {x j pos}:PE X (.Constant (.str x) j pos) (tC (.str x)):=λ_ _ _ H _ I h=>Calls.Constant_str ⟨.str x,H,I.tok _,⟨_,rfl⟩,h⟩
def Gl (X:Cx) (x:Str):Prop:=X.env.kindOf x=some .globalImplicit
theorem KB {E:AC->AE->Prop} {pins:List (AF×Obj)} {s:AE} {σ:St} {H:Hp} {x:Str} {u:AC} {pos:Pos} {Q:AC->AE->Prop} (I:Inv X pins σ H s) (hg:Gl X x) (hm:X.mg x=some u) (h:Q u s)
  (hd:(x==("__debug__" : Str))=false:=by decide):Ah (AW X.prog X.w) X.A (Bh (.Name x pos) X.env) Q E s:=
 NU I.ok.kind hg (Calls.loadGlobal_global (by rw [I.ok.glob];exact I.mod.glob.keeps I.bk) hm h) hd
theorem Jb {E:AC->AE->Prop} {pins:List (AF×Obj)} {s:AE} {σ:St} {H:Hp} {x:Str} {u:AC} {pos:Pos} {Q:AC->AE->Prop} (I:Inv X pins σ H s) (hg:Gl X x) (hm:X.mg x=none) (hv:Da x=some u) (h:Q u s)
  (hn:x≠"__name__":=by decide) (hd:(x==("__debug__" : Str))=false:=by decide):Ah (AW X.prog X.w) X.A (Bh (.Name x pos) X.env) Q E s:=by
 obtain ⟨mb,h1,h2⟩:=I.mod.blt;exact NU I.ok.kind hg (Calls.loadGlobal_builtin (by rw [I.ok.glob];exact I.mod.glob.keeps I.bk) hm (by rw [I.ok.blt];exact h1.keeps I.bk) ((h2 x hn).trans hv) h) hd
theorem Jy {x:Str} {v:V} {u:AC} {pos:Pos} (hg:Gl X x) (hm:X.mg x=some u) (r:RelV v u) (hd:(x==("__debug__" : Str))=false:=by decide):PE X (.Name x pos) (tC v):=
 λ_ _ _ H _ I h=>KB I hg hm ⟨v,H,I,r,h⟩ hd
theorem Sh {x:Str} {v:V} {u:AC} {pos:Pos} (hg:Gl X x) (hm:X.mg x=none) (hv:Da x=some u) (r:RelV v u) (hn:x≠"__name__":=by decide) (hd:(x==("__debug__" : Str))=false:=by decide):PE X (.Name x pos) (tC v):=
 λ_ _ _ H _ I h=>Jb I hg hm hv ⟨v,H,I,r,h⟩ hn hd
variable {a b:Expr} {ta tb:TE} {pos:Pos}
def PC (X:Cx) (op:RH) (a b:Expr) (t:TE):Prop:=
 ∀(pins:List (AF×Obj)) (s:AE) (σ:St) (H:Hp) (Q:VK),Inv X pins σ H s->t σ H Q ->
  Ah (AW X.prog X.w) X.A (Bh a X.env) (λv s₁=>Ah (AW X.prog X.w) X.A (Bh b X.env) (λu s₂=>Ah (AW X.prog X.w) X.A (Bg op v u) (EP X pins σ Q) X.xe s₂) X.xe s₁) X.xe s
def tB (t:TE):TT:=λσ H Q=>t σ H λx H1=>∃c,x=.bl c/\Q c H1
theorem Vi {op:RH} {t:TE} (h:PC X op a b t) (h1:CQ op b=false:=by first | exact nobehind _ (by decide) (by decide) | rfl):PT X (.Compare a [op] [b] pos) (tB t):=by
 intro pins s σ H Q I hw;refine XB (thn (h pins s σ H _ I hw) λv s1 h1=>thn h1 λu s2 h2=>thn h2 λc s3 ⟨x,H1,I1,r1,q1⟩=>?_) h1;obtain ⟨d,rfl,q⟩:=q1;cases r1;exact B7 ⟨H1,I1,q⟩
theorem aT {e:Expr} {t:TE} (h:PE X e t) (he:∀whole,Q4 e X.env whole=(do let v <-whole;cS e.pos;cV [v] (Zi v)):=by intro _;rfl):PT X e (tB t):=by
 intro pins s σ H Q I hw;refine isTrue_plain (thn (h pins s σ H _ I hw) λv s1 ⟨x,H1,I1,r1,q1⟩=>?_) (he _);obtain ⟨d,rfl,q⟩:=q1;cases r1;exact B7 ⟨H1,I1,q⟩
variable {tA tB':TT} {rest:List Expr}
def dS (t u:TT):TT:=λσ H Q=>t σ H λc H1=>if c=true then u σ H1 Q else Q false H1
def tOr (t u:TT):TT:=λσ H Q=>t σ H λc H1=>if c=true then Q true H1 else u σ H1 Q
def tNot (t:TT):TT:=λσ H Q=>t σ H λc H1=>Q (!c) H1
theorem YB (ha:PT X a tA):PW X (.BoolOp .And [a] pos) tA:=by
 intro wh pins s σ H Q I h;refine isTrue_and (thn (ha pins s σ H Q I h) λc s1 e=>?_)
 cases c with
 | true=>exact isTrue_and_nil e
 | false=>exact e
theorem aR (ha:PT X a tA):PW X (.BoolOp .Or [a] pos) tA:=by
 intro wh pins s σ H Q I h;refine isTrue_or (thn (ha pins s σ H Q I h) λc s1 e=>?_)
 cases c with
 | false=>exact isTrue_or_nil e
 | true=>exact e
theorem aS (ha:PT X a tA) (hb:PW X (.BoolOp .And (b :: rest) pos) tB'):PW X (.BoolOp .And (a :: b :: rest) pos) (dS tA tB'):=by
 intro wh pins s σ H Q I h;refine isTrue_and (thn (ha pins s σ H _ I h) λc s1 ⟨H1,I1,q1⟩=>?_)
 cases c with
 | true=>exact hb wh pins s1 σ H1 Q I1 q1
 | false=>exact ⟨H1,I1,q1⟩
theorem dc (ha:PT X a tA) (hb:PW X (.BoolOp .Or (b :: rest) pos) tB'):PW X (.BoolOp .Or (a :: b :: rest) pos) (tOr tA tB'):=by
 intro wh pins s σ H Q I h;refine isTrue_or (thn (ha pins s σ H _ I h) λc s1 ⟨H1,I1,q1⟩=>?_)
 cases c with
 | true=>exact ⟨H1,I1,q1⟩
 | false=>exact hb wh pins s1 σ H1 Q I1 q1
theorem aU (ha:PT X a tA):PT X (.UnaryOp .Not a pos) (tNot tA):=by
 intro pins s σ H Q I h;exact isTrue_not (ha pins s σ H (λc H1=>Q (!c) H1) I h)
def tOrV (ta tb:TE):TE:=λσ H Q=>ta σ H λx H1=>∃c,x=.bl c/\if c=true then Q (.bl true) H1 else tb σ H1 Q
def dG (ta:TE):TE:=λσ H Q=>ta σ H λx H1=>∃c,x=.bl c/\Q (.bl (!c)) H1
theorem aj {op} {t:TE} (h:PE X a t):PE X (.BoolOp op [a] pos) t:=λpins s σ H Q I hw=>BoolOp_one (h pins s σ H Q I hw)
theorem df (ha:PE X a ta) (hb:PE X (.BoolOp .Or (b :: rest) pos) tb):PE X (.BoolOp .Or (a :: b :: rest) pos) (tOrV ta tb):=by
 intro pins s σ H Q I h;refine BoolOp_or (thn (ha pins s σ H _ I h) λv s1 ⟨x,H1,I1,r1,q1⟩=>?_);obtain ⟨c,rfl,q1⟩:=q1;cases r1;refine B7 ?_
 cases c with
 | false=>exact hb pins s1 σ H1 Q I1 q1
 | true=>exact ⟨.bl true,H1,I1,rfl,q1⟩
theorem ak (ha:PE X a ta):PE X (.UnaryOp .Not a pos) (dG ta):=by
 intro pins s σ H Q I h;refine UnaryOp_ (thn (ha pins s σ H _ I h) λv s1 ⟨x,H1,I1,r1,q1⟩=>?_);obtain ⟨c,rfl,q1⟩:=q1;cases r1;exact not_of (B7 ⟨.bl (!c),H1,I1,rfl,q1⟩)
end
end L2
namespace L2
open PySem PySem.Spec PyProof.Rows
def SqL (K:AA) (H:Hp) (a:AF) (xs:List V):Prop:=
 Rd H a (.lst xs) ∨
  ∃(o:Obj) (its:Array AC) (n:Nat),K.lookup a=some o/\o.cls=.type "list"/\o.dict=none/\o.data=.seq its n/\its.size<=sizeLine/\BZ xs its.toList
def SqT (K:AA) (H:Hp) (a:AF) (xs:List V):Prop:=
 Rd H a (.tup xs) ∨
  ∃(o:Obj) (its:Array AC) (n:Nat),K.lookup a=some o/\o.cls=.type "tuple"/\o.data=.seq its n/\its.size<=sizeLine/\BZ xs its.toList
def absV:AC->Option V
 | .none=>some .non
 | .bool b=>some (.bl b)
 | .int i _=>some (.int i)
 | .str x _=>some (.str x)
 | .bytes b _=>some (.byt b)
 | .float b _=>some (.flt b)
 | .ref a=>some (.ref a)
 | .type n=>some (.ty n)
 | _=>none
theorem RelV.abs {x:V} {u:AC} (r:RelV x u):absV u=some x:=by
 cases x with
 | non=>cases r;rfl
 | bl _=>cases r;rfl
 | int _=>obtain ⟨t,rfl⟩:=r;rfl
 | str _=>obtain ⟨t,rfl⟩:=r;rfl
 | byt _=>obtain ⟨t,rfl⟩:=r;rfl
 | flt _=>obtain ⟨t,rfl⟩:=r;rfl
 | ref _=>cases r;rfl
 | ty _=>cases r;rfl
theorem RelV.inj {x y:V} {u:AC} (r:RelV x u) (q:RelV y u):x=y:=Cf (r.abs.symm.trans q.abs)
theorem BZ.inj:∀ {xs ys:List V} {us:List AC},BZ xs us->BZ ys us->xs=ys
 | _,_,_,.nil,.nil=>rfl
 | _,_,_,.cons r t,.cons r' t'=>by rw [r.inj r',BZ.inj t t']
section
variable {X:Cx} {pins:List (AF×Obj)} {σ:St} {H:Hp} {s:AE} {a:AF} {xs ys:List V}
theorem Inv.list (I:Inv X pins σ H s) (h:SqL X.K H a xs):∃its:List AC,BZ xs its/\PlainL s.heap a its.toArray/\xs.length<=sizeLine:=by
 rcases h with h | ⟨o,its,n,hk,hc,hd,hs,hz,r⟩
 ·obtain ⟨z,its,n,r,e⟩:=h.ok I.hok
  exact ⟨its,r,⟨_,n,e,rfl,rfl,rfl⟩,z⟩
 ·refine ⟨its.toList,r,⟨o,n,I.kIn a o hk,hc,hd,by simpa using hs⟩,?_⟩
  have e:=r.length;simp only [BN] at e;omega
theorem Inv.tuple (I:Inv X pins σ H s) (h:SqT X.K H a xs):∃its:List AC,BZ xs its/\cf s.heap a its.toArray/\xs.length<=sizeLine:=by
 rcases h with h | ⟨o,its,n,hk,hc,hs,hz,r⟩
 ·obtain ⟨z,its,r,p⟩:=h.ok I.hok
  exact ⟨its,r,p,z⟩
 ·refine ⟨its.toList,r,⟨o,I.kIn a o hk,hc,n,by simpa using hs⟩,?_⟩
  have e:=r.length;simp only [BN] at e;omega
theorem Inv.list_inj (I:Inv X pins σ H s) (h:SqL X.K H a xs) (h':SqL X.K H a ys):xs=ys:=by
 obtain ⟨its,r,⟨o,n,e,_,_,d⟩,_⟩:=I.list h;obtain ⟨its',r',⟨o',n',e',_,_,d'⟩,_⟩:=I.list h';rw [e] at e';cases e';rw [d] at d'
 injection d' with d1 _
 have:its=its':=by simpa using congrArg Zw d1
 subst this;exact r.inj r'
theorem Inv.tuple_inj (I:Inv X pins σ H s) (h:SqT X.K H a xs) (h':SqT X.K H a ys):xs=ys:=by
 obtain ⟨its,r,⟨o,e,_,n,d⟩,_⟩:=I.tuple h;obtain ⟨its',r',⟨o',e',_,n',d'⟩,_⟩:=I.tuple h';rw [e] at e';cases e';rw [d] at d'
 injection d' with d1 _
 have:its=its':=by simpa using congrArg Zw d1
 subst this;exact r.inj r'
end
section
variable {X:Cx} {pins:List (AF×Obj)} {σ:St} {H:Hp} {s:AE} {E:AC->AE->Prop}
end
section
variable {X:Cx} {st:Cd} {rest:List Cd} {t u:TS} {e:Expr} {te:TE} {pos:Pos}
def dH:TS:=λD σ H=>D.nx σ H
def tSeq (t u:TS):TS:=λD σ H=>t { D with nx:=u D } σ H
theorem YF:PSs X [] dH:=λ_ _ σ H _ I h=>Gj ⟨σ,H,I,h⟩
theorem Vk (h1:PS X st t) (h2:PSs X rest u):PSs X (st :: rest) (tSeq t u):=by
 intro pins s σ H D I h;refine ci (thn (h1 pins s σ H { D with nx:=u D } I h) λf s1 q=>?_)
 cases f with
 | next=>
  obtain ⟨σ',H',I',q⟩:=q;exact h2 pins s1 σ' H' D I' q
 | ret v=>exact q
 | brk=>exact q
 | cont=>exact q
theorem YE (h1:PS X st t):PSs X [st] t:=by
 intro pins s σ H D I h;refine ci (thn (h1 pins s σ H D I h) λf s1 q=>?_)
 cases f with
 | next=>exact Gj q
 | ret v=>exact q
 | brk=>exact q
 | cont=>exact q
theorem Inv.quiet {pins:List (AF×Obj)} {σ:St} {H:Hp} {s:AE} (I:Inv X pins σ H s):interactive X.env=false:=by simp [interactive,I.ok.kind]
def dL (te:TE):TS:=λD σ H=>te σ H λ_ H1=>D.nx σ H1
theorem YG (he:PE X e te) (hs:EJ e none pos.line X.env=pure false:=by rfl):PS X (.Expr e pos) (dL te):=by
 intro pins s σ H D I h;exact wpAny_Expr_any (thn (he pins s σ H _ I h) λv s1 ⟨x,H1,I1,r1,q1⟩=>⟨σ,H1,I1,q1⟩) I.quiet hs
def tRet (te:TE):TS:=λD σ H=>te σ H D.rt
theorem aW (he:PE X e te):PS X (.Return (some e) pos) (tRet te):=by
 intro pins s σ H D I h;exact wpAny_Return_some (thn (he pins s σ H _ I h) λv s1 ⟨x,H1,I1,r1,q1⟩=>⟨x,σ,H1,I1,r1,q1⟩)
def tIfS (c:TT) (t u:TS):TS:=λD σ H=>c σ H λb H1=>if b=true then t D σ H1 else u D σ H1
theorem de {c:Expr} {a b:List Cd} {tc:TT} (hc:PT X c tc) (ha:PSs X a t) (hb:PSs X b u):PS X (.If c a b pos) (tIfS tc t u):=by
 intro pins s σ H D I h;refine wpAny_If (thn (hc pins s σ H _ I h) λd s1 ⟨H1,I1,q1⟩=>?_)
 cases d with
 | true=>exact ha pins s1 σ H1 D I1 q1
 | false=>exact hb pins s1 σ H1 D I1 q1
end
abbrev TG:=V->St->Hp->(St->Hp->Prop)->Prop
abbrev TGs:=List V->St->Hp->(St->Hp->Prop)->Prop
def PG (X:Cx) (target:Expr) (t:TG):Prop:=
 ∀(pins:List (AF×Obj)) (s:AE) (σ:St) (H:Hp) (v:V) (u:AC) (Q:St->Hp->Prop),Inv X pins σ H s->RelV v u->t v σ H Q ->
  Ah (AW X.prog X.w) X.A (Lw target X.env u) (λ_ s'=>∃σ' H',Inv X pins σ' H' s'/\Q σ' H') X.xe s
def PGs (X:Cx) (ts:List Expr) (t:TGs):Prop:=
 ∀(pins:List (AF×Obj)) (s:AE) (σ:St) (H:Hp) (vs:List V) (us:List AC) (Q:St->Hp->Prop),Inv X pins σ H s->BZ vs us->t vs σ H Q ->
  Ah (AW X.prog X.w) X.A (assignInOrder ((Db ts X.env).map (·.2)) us) (λ_ s'=>∃σ' H',Inv X pins σ' H' s'/\Q σ' H') X.xe s
section
variable {X:Cx} {pos:Pos}
def Sx (i:Nat):TG:=λv σ H Q=>Q (σ.set i (some v)) H
theorem YN {i:Nat} {x:Str} (hN:X.N.Nodup) (hi:X.N[i]?=some x) (hx:Loc X.env.scope x) (hf:X.fn x=true∨X.env.scope.names.lookup x=some .local:=by first | exact .inl rfl | exact .inr rfl | assumption):PG X (.Name x pos) (Sx i):=by
 intro pins s σ H v u Q I r h;exact cQ (MN I hN hi hx r (λs' I'=>⟨_,H,I',h⟩) hf)
def gNil:TGs:=λvs σ H Q=>vs=[]/\Q σ H
def ed (t:TG) (u:TGs):TGs:=λvs σ H Q=>∃v r,vs=v :: r/\t v σ H λσ' H'=>u r σ' H' Q
theorem YM:PGs X [] gNil:=by
 intro pins s σ H vs us Q I r h;obtain ⟨e,h⟩:=h;subst e;cases r;exact assignInOrder_nil ⟨σ,H,I,h⟩
theorem Vq {e:Expr} {es:List Expr} {t:TG} {u:TGs} (h1:PG X e t) (h2:PGs X es u)
  (hs:(Db (e :: es) X.env).map (·.2)=Lw e X.env :: (Db es X.env).map (·.2):=by rfl):PGs X (e :: es) (ed t u):=by
 intro pins s σ H vs us Q I r h;obtain ⟨v,vr,e1,h⟩:=h;subst e1
 cases r with
 | cons r rr=>
  rw [hs];refine assignInOrder_cons (thn (h1 pins s σ H _ _ _ I r h) λ_ s1 ⟨σ1,H1,I1,q1⟩=>?_);exact h2 pins s1 σ1 H1 _ _ Q I1 rr q1
def gTup (K:AA) (n:Nat) (t:TGs):TG:=λv σ H Q=>∃a xs,v=.ref a/\SqT K H a xs/\xs.length=n/\t xs σ H Q
theorem ag {es:List Expr} {k:Nat} {t:TGs} {n:Nat} (hc:X.calm=true) (h:PGs X es t)
  (hn:(Db es X.env).length=n:=by rfl) (hst:(Db es X.env).findIdx? (·.1)=none:=by rfl):PG X (.Tuple es k pos) (gTup X.K n t):=by
 intro pins s σ H v u Q I r hw;obtain ⟨a,xs,e1,hq,hl,hw⟩:=hw;subst e1;cases r;obtain ⟨its,rv,ht,hz⟩:=I.tuple hq
 refine assign_Tuple_tuple (I.ok.hd hc) ht (by simp [hn,<-hl,rv.length]) hst λh' hx=>?_
 have I1:Inv X pins σ H { s with heap:=h' }:=I.kept (t':=s.toks) λb o e=>hx b o (Ay (Ae e)) e
 exact h pins _ σ H xs _ Q I1 (by simpa using rv) hw
def aL (te:TE) (g:TG):TS:=λD σ H=>te σ H λx H1=>g x σ H1 D.nx
theorem aZ {tg e:Expr} {te:TE} {g:TG} (he:PE X e te) (hg:PG X tg g) (hs:swapsWithSole [tg] e pos.line X.env=pure false:=by rfl) (hw:swappedStores [tg] e X.env=pure none:=by rfl)
  (h1:(Db [tg] X.env).map (·.2)=[Lw tg X.env]:=by rfl):PS X (.Assign [tg] e pos) (aL te g):=by
 intro pins s σ H D I h;refine wpAny_Assign_stores (thn (he pins s σ H _ I h) λv s1 ⟨x,H1,I1,r1,q1⟩=>?_) hs hw;rw [h1]
 exact thn (hg pins s1 σ H1 x v _ I1 r1 q1) λ_ s2 q=>q
theorem aV {i:Nat} {x:Str} {e:Expr} {te:TE} {pos':Pos} (hN:X.N.Nodup) (hi:X.N[i]?=some x) (hx:Loc X.env.scope x) (he:PE X e te) (hs:EJ e (some (.Name x pos')) pos.line X.env=pure false:=by rfl) (hf:X.fn x=true∨X.env.scope.names.lookup x=some .local:=by first | exact .inl rfl | exact .inr rfl | assumption) :
  PS X (.Assign [.Name x pos'] e pos) (aL te (Sx i)):=by
 intro pins s σ H D I h;refine wpAny_Assign_Name (thn (he pins s σ H _ I h) λv s1 ⟨y,H1,I1,r1,q1⟩=>?_) hs;exact MN I1 hN hi hx r1 (λs2 I2=>⟨_,H1,I2,q1⟩) hf
end
section
variable {X:Cx} {pos:Pos}
def aG (c:TT) (tb:TS):TS:=λD σ H=>∃W:Nat->St->Hp->Prop,(∃m,W m σ H)/\∀m σ H,W m σ H ->
 c σ H λb H1=>if b=true then ∃N:St->Hp->Prop,(∀σ' H',N σ' H'->∃m',m' < m/\W m' σ' H')/\tb { D with nx:=N,ct:=N,bk:=D.nx } σ H1 else D.nx σ H1
theorem Vl {c:Expr} {body:List Cd} {tc:TT} {tb:TS} (hp:K5 (AW X.prog X.w) X.A X.env X.xe) (hc:PT X c tc) (hb:PSs X body tb):PS X (.While c body [] pos) (aG tc tb):=by
 intro pins s σ H D I h;obtain ⟨W,⟨m0,w0⟩,turn⟩:=h;refine wpAny_While (codeAny_whileLoop (λn s'=>∃σ' H',Inv X pins σ' H' s'/\W n σ' H') ?_ m0 ⟨σ,H,I,w0⟩);rintro n s1 ⟨σ1,H1,I1,w1⟩;refine Dk hp (thn (hc pins s1 σ1 H1 _ I1 (turn n σ1 H1 w1)) λb s2 ⟨H2,I2,q2⟩=>?_)
 cases b with
 | true=>
  obtain ⟨N,hN,q2⟩:=q2;rw [if_pos rfl];refine Dk hp (thn (hb pins s2 σ1 H2 _ I2 q2) λf s3 q3=>?_)
  cases f with
  | next=>
   obtain ⟨σ3,H3,I3,n3⟩:=q3;obtain ⟨m',hm,w3⟩:=hN σ3 H3 n3;exact ⟨m',hm,σ3,H3,I3,w3⟩
  | cont=>
   obtain ⟨σ3,H3,I3,n3⟩:=q3;obtain ⟨m',hm,w3⟩:=hN σ3 H3 n3;exact ⟨m',hm,σ3,H3,I3,w3⟩
  | brk=>exact q3
  | ret v=>exact q3
 | false=>
  rw [if_neg AS];exact Gj ⟨σ1,H2,I2,q2⟩
end
structure It where
 go:Nat->Hp->Prop
 yld:Nat->Hp->V->Hp->Prop
 stop:Nat->Hp->Prop
def NE (X:Cx) (pins:List (AF×Obj)) (H:Hp) (b:AF):Prop:=
 H b=none/\b≠X.env.locals/\b∉X.fs/\(b∈X.ex∨X.s₀.heap.objs.size<=b)/\(∀x c,X.env.cells.lookup x=some c->c≠b)/\∀p∈X.pn++pins,p.1≠b
theorem Inv.fpOk {X:Cx} {pins:List (AF×Obj)} {σ:St} {H H':Hp} {s:AE} {b:AF} (I:Inv X pins σ H s) (hb:s.heap.objs.size<=b) (hn:H' b=none):NE X pins H' b:=by
 refine ⟨hn,RC (AX I.lt hb),I.nofs hb,.inr (Ao I.sz hb),λx c e z=>?_,λp hp z=>?_⟩
 ·obtain ⟨v,q⟩:=I.cell x c e
  exact absurd (AX q.lt (by rw [z];exact hb)) (DV _)
 ·exact absurd (AX (Ae (I.pin p hp).1) (by rw [z];exact hb)) (DV _)
structure Ub (P:Ai) (w:A7) (K:AA) (tg:Expr) (J:It) (fp:List AF) (it:AF) (tn:Nat->BY->Prop):Prop where
 mem:it∈fp
 obj:∀i h,tn i h->∀b∈fp,∃o,h.get? b=some o/\∀v,o.data≠.cell v
 keep:∀i h h',tn i h->(∀b∈fp,∀o,h.get? b=some o->h'.get? b=some o)->tn i h'
 item:∀(X:Cx),X.prog=P->X.w=w->X.K=K->X.calm=true->∀(i:Nat) (pins:List (AF×Obj)) (s:AE) (σ:St) (H:Hp) (E:AC->AE->Prop),Inv X pins σ H s->(∀b∈fp,NE X pins H b)->tn i s.heap->J.go i H ->
  Ah (AW P w) X.A (Ur (.ref it)) (λr s1=>∃u,r=some u /\
   Ah (AW P w) X.A (Pg tg (.ref it) u) (λ_ s2=>∃x H',Inv X pins σ H' s2/\RelV x u/\J.yld i H x H'/\tn (i+1) s2.heap/\∀b∈fp,H' b=none) E s1) E s
 done:∀(X:Cx),X.prog=P->X.w=w->X.K=K->X.calm=true->∀(i:Nat) (pins:List (AF×Obj)) (s:AE) (σ:St) (H:Hp) (E:AC->AE->Prop),Inv X pins σ H s->(∀b∈fp,NE X pins H b)->tn i s.heap->J.stop i H ->
  Ah (AW P w) X.A (Ur (.ref it)) (λr s1=>r=none/\Inv X pins σ H s1) E s
 self:∀(A:A2) (i:Nat) (s:AE) (Q:AC->AE->Prop) (E:AC->AE->Prop),tn i s.heap->Q (.ref it) s->Ah (AW P w) A (pyIter (.ref it)) Q E s
abbrev TI:=St->Hp->(It->Hp->Prop)->Prop
def PIE (X:Cx) (pins:List (AF×Obj)) (σ:St) (tg:Expr) (R:It->Hp->Prop) (itv:AC) (s2:AE):Prop:=
 ∃(it:AF) (fp:List AF) (tn:Nat->BY->Prop) (J:It) (H':Hp),itv=.ref it/\Inv X pins σ H' s2/\Ub X.prog X.w X.K tg J fp it tn/\tn 0 s2.heap/\(∀b∈fp,NE X pins H' b)/\R J H'
def PI (X:Cx) (tg iter:Expr) (wi:TI):Prop:=
 ∀(pins:List (AF×Obj)) (s:AE) (σ:St) (H:Hp) (R:It->Hp->Prop),Inv X pins σ H s->wi σ H R ->
  Ah (AW X.prog X.w) X.A (Bh iter X.env) (λv s1=>Ah (AW X.prog X.w) X.A (pyIter v) (PIE X pins σ tg R) X.xe s1) X.xe s
theorem We {M:NR} {A:A2} {E:AC->AE->Prop} {s:AE} {tg:Expr} {it:AF} {u:AC} {o:Obj} {n:String} {vs:Array AC} {Q:Unit->AE->Prop} (ho:s.heap.get? it=some o) (hc:o.cls=.type n) (hd:o.data=.fields vs)
  (hn:["enumerate", "zip", "dict_itemiterator", "dict_reverseitemiterator", "odict_iterator", "itertools.zip_longest", "itertools.pairwise"].contains n=false) (hQ:Q () s):Ah M A (Pg tg (.ref it) u) Q E s:=by
 unfold Pg
 cases tg <;> first
  | exact AH hQ
  | (cases u <;> first
    | exact AH hQ
    | (refine AB (wpAny_load ho ?_)
       rw [hc,hd];show Ah M A (if (["enumerate", "zip", "dict_itemiterator", "dict_reverseitemiterator", "odict_iterator", "itertools.zip_longest", "itertools.pairwise"].contains n&&vs[0]?==some (EM _))=true then _ else _) Q E s;rw [if_neg (by intro h;rw [hn,Bool.false_and] at h;cases h)]
       exact AH hQ))
def Itl (K:AA) (a:AF):It:=
 ⟨λi H=>∃xs x,SqL K H a xs/\xs[i]?=some x,λi H x H'=>H'=H/\∀xs,SqL K H a xs->xs[i]?=some x,λi H=>∃xs,SqL K H a xs/\xs.length<=i⟩
def Itt (K:AA) (a:AF):It:=
 ⟨λi H=>∃xs x,SqT K H a xs/\xs[i]?=some x,λi H x H'=>H'=H/\∀xs,SqT K H a xs->xs[i]?=some x,λi H=>∃xs,SqT K H a xs/\xs.length<=i⟩
def Itr (lo:Int) (n:Nat):It:=⟨λi _=>i < n,λi H x H'=>H'=H/\x=.int (lo+i),λi _=>n<=i⟩
theorem Tg {P:Ai} {w:A7} {K:AA} {tg:Expr} (a it:AF):Ub P w K tg (Itl K a) [it] it (λi h=>h.IsListIter it a i) where
 mem:=by simp
 obj:=λi h st b hb=>by
  have e:b=it:=by simpa using hb
  subst e;obtain ⟨o,e,c,d⟩:=st;exact ⟨o,e,λv z=>by rw [d] at z;cases z⟩
 keep:=λi h h' st k=>st.at λo e=>k it (by simp) o e
 item:=by
  intro X hP hw hK hc i pins s σ H E I hf st hg;subst hP hw hK;obtain ⟨xs,x,hq,hx⟩:=hg;obtain ⟨its,rv,p,hz⟩:=I.list hq;obtain ⟨u,hu,ru⟩:=rv.get hx;obtain ⟨f0,f1,f2,f3,f4,f5⟩:=hf it (by simp)
  refine wpAny_pyNext_list_item st p.isList (x:=u) (by simpa using hu) λh' st' sb=>?_
  have I1:Inv X pins σ H { s with heap:=h' }:=I.turned (t':=s.toks) (λb o hb e=>(sb.2 b hb).trans e) f0 f1 f3 f4 f5;obtain ⟨o,e,c,d⟩:=id st';exact ⟨u,rfl,We (s:={ s with heap:=h' }) e c d (by decide) ⟨x,H,I1,ru,⟨rfl,λys hy=>by rw [I.list_inj hy hq];exact hx⟩,st',λb hb=>(hf b hb).1⟩⟩
 done:=by
  intro X hP hw hK hc i pins s σ H E I hf st hg;subst hP hw hK;obtain ⟨xs,hq,hx⟩:=hg;obtain ⟨its,rv,p,hz⟩:=I.list hq;obtain ⟨f0,f1,f2,f3,f4,f5⟩:=hf it (by simp);have hl:=rv.length
  exact wpAny_pyNext_list_end (I.ok.hd hc) st p.isList (by simp;omega) λh' eb=>⟨rfl,I.turned (t':=s.toks) (λb o hb e=>eb b o hb e) f0 f1 f3 f4 f5⟩
 self:=λ_ _ _ _ _ st h=>wpAny_pyIter_listiter st h
theorem RO {P:Ai} {w:A7} {K:AA} {tg:Expr} (a it:AF):Ub P w K tg (Itt K a) [it] it (λi h=>h.IsTupleIter it a i) where
 mem:=by simp
 obj:=λi h st b hb=>by
  have e:b=it:=by simpa using hb
  subst e;obtain ⟨o,e,c,d⟩:=st;exact ⟨o,e,λv z=>by rw [d] at z;cases z⟩
 keep:=λi h h' st k=>st.at λo e=>k it (by simp) o e
 item:=by
  intro X hP hw hK hc i pins s σ H E I hf st hg;subst hP hw hK;obtain ⟨xs,x,hq,hx⟩:=hg;obtain ⟨its,rv,p,hz⟩:=I.tuple hq;obtain ⟨u,hu,ru⟩:=rv.get hx;obtain ⟨f0,f1,f2,f3,f4,f5⟩:=hf it (by simp)
  refine wpAny_pyNext_tuple_item st (show s.heap.IsTuple a its.toArray from p) (x:=u) (by simpa using hu) λh' st' sb=>?_
  have I1:Inv X pins σ H { s with heap:=h' }:=I.turned (t':=s.toks) (λb o hb e=>(sb.2 b hb).trans e) f0 f1 f3 f4 f5;obtain ⟨o,e,c,d⟩:=id st';exact ⟨u,rfl,We (s:={ s with heap:=h' }) e c d (by decide) ⟨x,H,I1,ru,⟨rfl,λys hy=>by rw [I.tuple_inj hy hq];exact hx⟩,st',λb hb=>(hf b hb).1⟩⟩
 done:=by
  intro X hP hw hK hc i pins s σ H E I hf st hg;subst hP hw hK;obtain ⟨xs,hq,hx⟩:=hg;obtain ⟨its,rv,p,hz⟩:=I.tuple hq;obtain ⟨f0,f1,f2,f3,f4,f5⟩:=hf it (by simp);have hl:=rv.length
  exact wpAny_pyNext_tuple_end (I.ok.hd hc) st (show s.heap.IsTuple a its.toArray from p) (by simp;omega) λh' eb=>⟨rfl,I.turned (t':=s.toks) (λb o hb e=>eb b o hb e) f0 f1 f3 f4 f5⟩
 self:=λ_ _ _ _ _ st h=>wpAny_pyIter_tupleiter st h
theorem RP {P:Ai} {w:A7} {K:AA} {tg:Expr} (it:AF) (lo:Int) (n:Nat):Ub P w K tg (Itr lo n) [it] it (λi h=>IsRangeIter h it (lo+(i:Nat) * 1) ((n:Int) - (i:Nat)) 1) where
 mem:=by simp
 obj:=λi h st b hb=>by
  have e:b=it:=by simpa using hb
  subst e
  exact ⟨_,st,λv z=>by
   have z':Data.fields _=Data.cell v:=z
   cases z'⟩
 keep:=λi h h' st k=>k it (by simp) _ st
 item:=by
  intro X hP hw hK hc i pins s σ H E I hf st hg;subst hP hw hK;obtain ⟨f0,f1,f2,f3,f4,f5⟩:=hf it (by simp);have W:=Walks.range (prog:=X.prog) (w:=X.w) (I.ok.hd hc) it lo 1 n
  refine W.item i s _ _ hg st λv h' tk hv st' kk=>?_
  obtain ⟨t,rfl⟩:=hv;have I1:Inv X pins σ H { s with heap:=h',toks:=tk }:=I.turned (λb o hb e=>kk b o (by simpa using hb) e) f0 f1 f3 f4 f5;refine ⟨_,rfl,We (s:={ s with heap:=h',toks:=tk }) (n:="range_iterator") st' rfl rfl (by decide) ⟨.int (lo+i),H,I1,⟨t,?_⟩,⟨rfl,rfl⟩,st',λb hb=>(hf b hb).1⟩⟩;rw [Int.mul_one]
 done:=by
  intro X hP hw hK hc i pins s σ H E I hf st hg;subst hP hw hK;obtain ⟨f0,f1,f2,f3,f4,f5⟩:=hf it (by simp)
  exact wpAny_pyNext_range_end (I.ok.hd hc) st (by have:n<=i:=hg;omega) λh' eb=>⟨rfl,I.turned (t':=s.toks) (λb o hb e=>eb b o hb e) f0 f1 f3 f4 f5⟩
 self:=λ_ _ _ _ _ st h=>wpAny_pyIter_rangeiter st h
end L2
namespace L2
open PySem PySem.Spec PyProof.Rows
section
variable {X:Cx} {tg:Expr}
def eV (K:AA) (tl:TE):TI:=λσ H R=>tl σ H λx H1=>∃a,x=.ref a/\(∃xs,SqL K H1 a xs)/\R (Itl K a) H1
def iTup (K:AA) (tl:TE):TI:=λσ H R=>tl σ H λx H1=>∃a,x=.ref a/\(∃xs,SqT K H1 a xs)/\R (Itt K a) H1
theorem YL {l:Expr} {tl:TE} (hl:PE X l tl):PI X tg l (eV X.K tl):=by
 intro pins s σ H R I h
 refine thn (hl pins s σ H _ I h) λv s1 ⟨x,H1,I1,r1,q1⟩=>?_
 obtain ⟨a,e,⟨xs,hq⟩,q⟩:=q1;subst e;cases r1;obtain ⟨its,rv,p,hz⟩:=I1.list hq;refine wpAny_pyIter_list p.isList ?_;refine ⟨s1.heap.objs.size,[s1.heap.objs.size],_,_,H1,rfl,I1.kept (t':=s1.toks) λb o e=>AM _ e,Tg a _,⟨_,A5 _ rfl,rfl,rfl⟩,λb hb=>?_,q⟩
 have e:b=s1.heap.objs.size:=by simpa using hb
 subst e;exact I1.fpOk (AQ _) (I1.hok.fresh (AQ _))
theorem ae {l:Expr} {tl:TE} (hl:PE X l tl):PI X tg l (iTup X.K tl):=by
 intro pins s σ H R I h
 refine thn (hl pins s σ H _ I h) λv s1 ⟨x,H1,I1,r1,q1⟩=>?_
 obtain ⟨a,e,⟨xs,hq⟩,q⟩:=q1;subst e;cases r1;obtain ⟨its,rv,p,hz⟩:=I1.tuple hq;refine wpAny_pyIter_tuple (show s1.heap.IsTuple a its.toArray from p) ?_;refine ⟨s1.heap.objs.size,[s1.heap.objs.size],_,_,H1,rfl,I1.kept (t':=s1.toks) λb o e=>AM _ e,RO a _,⟨_,A5 _ rfl,rfl,rfl⟩,λb hb=>?_,q⟩
 have e:b=s1.heap.objs.size:=by simpa using hb
 subst e;exact I1.fpOk (AQ _) (I1.hok.fresh (AQ _))
theorem QE {pins:List (AF×Obj)} {σ:St} {H:Hp} {s:AE} {R:It->Hp->Prop} {E:AC->AE->Prop} {lo hi:Int} {t u v:Tok} {tk:Nat} (I:Inv X pins σ H s) (h1:-(2 ^ 62)<=lo) (h2:lo < 2 ^ 62) (h3:-(2 ^ 62)<=hi) (h4:hi < 2 ^ 62)
  (q:R (Itr lo (hi - lo).toNat) H):Ah (AW X.prog X.w) X.A (pyIter (.ref s.heap.objs.size)) (PIE X pins σ tg R) E { s with heap:=s.heap.push { cls:=.type "range",data:=.fields #[.int lo t,.int hi u,.int 1 v] },toks:=tk }:=by
 refine wpAny_pyIter_range (ZQ ..) (small_one h1 h2 h3 h4) ?_
 have I1:Inv X pins σ H { s with heap:=s.heap.push { cls:=.type "range",data:=.fields #[.int lo t,.int hi u,.int 1 v] },toks:=tk }:=I.kept λb o e=>AM _ e
 refine ⟨(s.heap.push { cls:=.type "range",data:=.fields #[.int lo t,.int hi u,.int 1 v] }).objs.size,[(s.heap.push { cls:=.type "range",data:=.fields #[.int lo t,.int hi u,.int 1 v] }).objs.size],_,_,H,rfl,
  I1.kept (t':=tk) λb o e=>AM _ e,RP _ lo (hi - lo).toNat,?_,λb hb=>?_,q⟩
 ·have e1:lo+((0:Nat):Int) * 1=lo:=by simp
  have e2:(((hi - lo).toNat:Nat):Int) - ((0:Nat):Int)=LA lo hi 1:=by rw [rangeSize_one];split <;> omega
  show IsRangeIter _ _ (lo+((0:Nat):Int) * 1) ((((hi - lo).toNat:Nat):Int) - ((0:Nat):Int)) 1;rw [e1,e2];exact A5 _ rfl
 ·have e:b=(s.heap.push { cls:=.type "range",data:=.fields #[.int lo t,.int hi u,.int 1 v] }).objs.size:=by simpa using hb
  subst e;exact I1.fpOk (AQ _) (I1.hok.fresh (AQ _))
def eS (ta:TA):TI:=λσ H R=>ta σ H λvs H1=>∃j:Int,vs=[.int j]/\-(2 ^ 62)<=j/\j < 2 ^ 62/\R (Itr 0 j.toNat) H1
def eR (ta:TA):TI:=λσ H R=>ta σ H λvs H1=>∃i j:Int,vs=[.int i,.int j]/\(-(2 ^ 62)<=i/\i < 2 ^ 62/\-(2 ^ 62)<=j/\j < 2 ^ 62)/\R (Itr i (j - i).toNat) H1
theorem Tz {a:Expr} {ta:TA} {p pos:Pos} (hg:Gl X "range") (hm:X.mg "range" = none) (ha:PA X [a] ta) (hs:AO [a] X.env=[(false,Bh a X.env)]:=by rfl):PI X tg (.Call (.Name "range" p) [a] [] pos) (eS ta):=by
 intro pins s σ H R I h;refine Call_ (Jb I hg hm Zn (CM (thn (ha pos pins s σ H _ I h) λus s1 ⟨vs,H1,I1,r1,q1⟩=>?_) hs rfl));obtain ⟨j,e,q1,q2,q⟩:=q1;subst e
 cases r1 with
 | cons r rr=>
  cases rr;obtain ⟨t,rfl⟩:=r;exact call_range_1 (QE I1 (by omega) (by omega) q1 q2 (by simpa using q))
theorem Tx {a b:Expr} {ta:TA} {p pos:Pos} (hg:Gl X "range") (hm:X.mg "range" = none) (ha:PA X [a,b] ta) (hs:AO [a,b] X.env=[(false,Bh a X.env),(false,Bh b X.env)]:=by rfl) (hs2:AO [b] X.env=[(false,Bh b X.env)]:=by rfl) :
  PI X tg (.Call (.Name "range" p) [a,b] [] pos) (eR ta):=by
 intro pins s σ H R I h;refine Call_ (Jb I hg hm Zn (CM (thn (ha pos pins s σ H _ I h) λus s1 ⟨vs,H1,I1,r1,q1⟩=>?_) (by rw [hs,hs2]) (by rw [hs2];rfl)));obtain ⟨i,j,e,⟨q1,q2,q3,q4⟩,q⟩:=q1;subst e
 cases r1 with
 | cons r rr=>
  cases rr with
  | cons r' rr=>
   cases rr;obtain ⟨t,rfl⟩:=r;obtain ⟨t',rfl⟩:=r';exact call_range_2 (QE I1 q1 q2 q3 q4 q)
def tFor (wi:TI) (g:TG) (tb:TS):TS:=λD σ H=>wi σ H λJ H1=>∃W:Nat->Nat->St->Hp->Prop,(∃m,W 0 m σ H1)/\∀i m σ H,W i m σ H ->
 (J.stop i H/\D.nx σ H)∨(J.go i H/\∃N:St->Hp->Prop,(∀σ' H',N σ' H'->∃m',m' < m/\W (i+1) m' σ' H')/\∀x H',J.yld i H x H'->g x σ H' λσ2 H2=>tb { D with nx:=N,ct:=N,bk:=D.nx } σ2 H2)
def MX (fp:List AF) (h:BY):List (AF×Obj):=fp.filterMap λb=>(h.get? b).map λo=>(b,o)
theorem HZ {fp:List AF} {h:BY} {b:AF} {o:Obj} (hb:b∈fp) (e:h.get? b=some o):(b,o)∈MX fp h:=Uo.mpr ⟨b,hb,by rw [e];rfl⟩
theorem T5 {fp:List AF} {h:BY} {p:AF×Obj} (hp:p∈MX fp h):p.1∈fp/\h.get? p.1=some p.2:=by
 obtain ⟨b,hb,e⟩:=Uo.mp hp
 cases q:h.get? b with
 | none=>rw [q] at e;cases e
 | some o=>
  rw [q] at e;have e':(b,o)=p:=Cf e;subst e';exact ⟨hb,q⟩
theorem Inv.pinned {pins:List (AF×Obj)} {σ:St} {H:Hp} {s:AE} {fp:List AF} (I:Inv X pins σ H s) (hf:∀b∈fp,NE X pins H b) (ho:∀b∈fp,∃o,s.heap.get? b=some o/\∀v,o.data≠.cell v):Inv X (pins++MX fp s.heap) σ H s:=
 I.pins_of λp hp=>(Au.mp hp).elim (λz=>I.pin p (As _ z)) λz=>by
  obtain ⟨hb,e⟩:=T5 z;obtain ⟨f0,f1,f2,_⟩:=hf p.1 hb;obtain ⟨o,e',d⟩:=ho p.1 hb;rw [e] at e';cases e';exact ⟨e,f0,f1,f2,d⟩
theorem Inv.unpinned {pins pl:List (AF×Obj)} {σ:St} {H:Hp} {s:AE} (I:Inv X (pins++pl) σ H s):Inv X pins σ H s:=I.pins_of λp hp=>I.pin p (As _ (A1 _ hp))
theorem aX {iter:Expr} {body:List Cd} {wi:TI} {g:TG} {tb:TS} {pos:Pos} (hp:K5 (AW X.prog X.w) X.A X.env X.xe) (hc:X.calm=true) (hi:PI X tg iter wi) (hg:PG X tg g) (hb:PSs X body tb)
  (hs:∀x,Dz iter X.env x=pure x:=by intro _;rfl):PS X (.For tg iter body [] pos) (tFor wi g tb):=by
 intro pins s σ H D I h;refine wpAny_For (thn (hi pins s σ H _ I h) λv s1 h1=>thn h1 λitv s2 h2=>?_) hs;obtain ⟨it,fp,tn,J,H2,e,I2,T,st2,f2,W,⟨m0,w0⟩,turn⟩:=h2;subst e
 have stat:∀ {H':Hp},(∀b∈fp,H' b=none)->∀b∈fp,NE X pins H' b:=λhn b hb=>⟨hn b hb,(f2 b hb).2⟩
 refine codeAny_forLoop_any (λn s'=>∃i σ' H',Inv X pins σ' H' s'/\tn i s'.heap/\(∀b∈fp,H' b=none)/\W i n σ' H') ?_ m0 ⟨0,σ,H2,I2,st2,λb hb=>(f2 b hb).1,w0⟩;rintro n s3 ⟨i,σ3,H3,I3,st3,fr3,w3⟩
 rcases turn i n σ3 H3 w3 with ⟨stop,qn⟩ | ⟨go,N,hN,step⟩
 ·refine Dk hp (thn (T.done X rfl rfl rfl hc i pins s3 σ3 H3 X.xe I3 (stat fr3) st3 stop) λr s4 ⟨hr,I4⟩=>?_)
  subst hr;exact Gj ⟨σ3,H3,I4,qn⟩
 ·refine Dk hp (thn (T.item X rfl rfl rfl hc i pins s3 σ3 H3 X.xe I3 (stat fr3) st3 go) λr s4 ⟨u,hr,h4⟩=>?_)
  subst hr;refine Dk hp (thn h4 λ_ s5 ⟨x,H5,I5,r5,y5,st5,fr5⟩=>?_);have I5':=I5.pinned (stat fr5) (T.obj _ _ st5);refine Dk hp (thn (hg _ s5 σ3 H5 x u _ I5' r5 (step x H5 y5)) λ_ s6 ⟨σ6,H6,I6,q6⟩=>?_);refine Dk hp (thn (hb _ s6 σ6 H6 _ I6 q6) λf s7 q7=>?_)
  have cW:∀ {σ7:St} {H7:Hp},Inv X (pins++MX fp s5.heap) σ7 H7 s7->N σ7 H7->∃m,m < n/\∃i σ' H',Inv X pins σ' H' s7/\tn i s7.heap/\(∀b∈fp,H' b=none)/\W i m σ' H':=λ{σ7 H7} I7 n7=>by
   obtain ⟨m',hm,w7⟩:=hN σ7 H7 n7;refine ⟨m',hm,i+1,σ7,H7,I7.unpinned,T.keep _ _ _ st5 λb hb o e=>(I7.pin (b,o) (As _ (As _ (HZ hb e)))).1,λb hb=>?_,w7⟩;obtain ⟨o,e,d⟩:=T.obj _ _ st5 b hb;exact (I7.pin (b,o) (As _ (As _ (HZ hb e)))).2.1
  cases f with
  | next=>obtain ⟨σ7,H7,I7,n7⟩:=q7;exact cW I7 n7
  | cont=>obtain ⟨σ7,H7,I7,n7⟩:=q7;exact cW I7 n7
  | brk=>obtain ⟨σ7,H7,I7,q7⟩:=q7;exact ⟨σ7,H7,I7.unpinned,q7⟩
  | ret v=>obtain ⟨x7,σ7,H7,I7,r7,q7⟩:=q7;exact ⟨x7,σ7,H7,I7.unpinned,r7,q7⟩
end
end L2
namespace L2
open PySem PySem.Spec PyProof.Rows
abbrev R2:=V->V->Hp->VK->Prop
def OpR (X:Cx) (f:AC->AC->Sem AC) (r:R2):Prop:=
 ∀(pins:List (AF×Obj)) (s:AE) (σ:St) (H:Hp) (x y:V) (v u:AC) (Q:VK),Inv X pins σ H s->RelV x v->RelV y u->r x y H Q ->
  Ah (AW X.prog X.w) X.A (f v u) (EP X pins σ Q) X.xe s
def Gi (X:Cx) (f:AC) (r:List V->Hp->VK->Prop):Prop:=
 ∀(pins:List (AF×Obj)) (s:AE) (σ:St) (H:Hp) (xs:List V) (us:List AC) (Q:VK),Inv X pins σ H s->BZ xs us->r xs H Q ->
  Ah (AW X.prog X.w) X.A (call f us) (EP X pins σ Q) X.xe s
def TruR (X:Cx) (r:V->Hp->(Bool->Hp->Prop)->Prop):Prop:=
 ∀(pins:List (AF×Obj)) (s:AE) (σ:St) (H:Hp) (x:V) (v:AC) (Q:Bool->Hp->Prop),Inv X pins σ H s->RelV x v->r x H Q ->
  Ah (AW X.prog X.w) X.A (Zi v) (TP X pins σ Q) X.xe s
def tOp (r:R2) (ta tb:TE):TE:=λσ H Q=>ta σ H λx H1=>tb σ H1 λy H2=>r x y H2 Q
def rI (C:Int->Int->Prop) (g:Int->Int->V):R2:=λx y H Q=>∃i j,x=.int i/\y=.int j/\C i j/\Q (g i j) H
def rI0 (g:Int->Int->V):R2:=λx y H Q=>∃i j,x=.int i/\y=.int j/\Q (g i j) H
section
variable {X:Cx} {a b c:Expr} {ta tb tc:TE} {pos:Pos}
theorem cH (ha:PE X a ta) (hb:PE X b tb) {pins:List (AF×Obj)} {s:AE} {σ:St} {H:Hp} {R:V->V->Hp->Prop} (I:Inv X pins σ H s)
  (h:ta σ H λx H1=>tb σ H1 λy H2=>R x y H2) {Q:AC->AE->Prop} {f:AC->AC->Sem AC}
  (hf:∀v u s2 x y H2,Inv X pins σ H2 s2->RelV x v->RelV y u->R x y H2->Ah (AW X.prog X.w) X.A (f v u) Q X.xe s2) :
  Ah (AW X.prog X.w) X.A (Bh a X.env) (λv s₁=>Ah (AW X.prog X.w) X.A (Bh b X.env) (λu s₂=>Ah (AW X.prog X.w) X.A (f v u) Q X.xe s₂) X.xe s₁) X.xe s:=by
 refine thn (ha pins s σ H _ I h) λv s1 ⟨x,H1,I1,r1,q1⟩=>?_
 refine thn (hb pins s1 σ H1 _ I1 q1) λu s2 ⟨y,H2,I2,r2,q2⟩=>?_
 exact hf v u s2 x y H2 I2 r1 r2 q2
theorem dg {op:Operator} {r:R2} (ho:OpR X (Ci op) r) (ha:PE X a ta) (hb:PE X b tb):PE X (.BinOp a op b pos) (tOp r ta tb):=by
 intro pins s σ H Q I h;exact wpAny_BinOp (cH ha hb I h λv u s2 x y H2 I2 rx ry q=>ho pins s2 σ H2 x y v u Q I2 rx ry q)
theorem opI {f:AC->AC->Sem AC} {C:Int->Int->Prop} {g:Int->Int->Int}
  (rule:∀(i j:Int) (t u:Tok) (s:AE) (Q:AC->AE->Prop) (E:AC->AE->Prop),C i j->Q (.int (g i j) s.toks) { s with toks:=s.toks+1 }->Ah (AW X.prog X.w) X.A (f (.int i t) (.int j u)) Q E s) :
  OpR X f (rI C λi j=>.int (g i j)):=by
 intro pins s σ H x y v u Q I rx ry h;obtain ⟨i,j,rfl,rfl,hc,q⟩:=h;obtain ⟨t,rfl⟩:=rx;obtain ⟨t',rfl⟩:=ry;exact rule i j t t' s _ _ hc ⟨.int (g i j),H,I.tok _,⟨_,rfl⟩,q⟩
theorem du {f:AC->AC->Sem AC} {g:Int->Int->Int}
  (rule:∀(i j:Int) (t u:Tok) (s:AE) (Q:AC->AE->Prop) (E:AC->AE->Prop),Q (.int (g i j) s.toks) { s with toks:=s.toks+1 }->Ah (AW X.prog X.w) X.A (f (.int i t) (.int j u)) Q E s) :
  OpR X f (rI0 λi j=>.int (g i j)):=by
 intro pins s σ H x y v u Q I rx ry h;obtain ⟨i,j,rfl,rfl,q⟩:=h;obtain ⟨t,rfl⟩:=rx;obtain ⟨t',rfl⟩:=ry;exact rule i j t t' s _ _ ⟨.int (g i j),H,I.tok _,⟨_,rfl⟩,q⟩
theorem Yc {f:AC->AC->Sem AC} {g:Int->Int->Bool}
  (rule:∀(i j:Int) (t u:Tok) (s:AE) (Q:AC->AE->Prop) (E:AC->AE->Prop),Q (.bool (g i j)) s->Ah (AW X.prog X.w) X.A (f (.int i t) (.int j u)) Q E s) :
  OpR X f (rI0 λi j=>.bl (g i j)):=by
 intro pins s σ H x y v u Q I rx ry h;obtain ⟨i,j,rfl,rfl,q⟩:=h;obtain ⟨t,rfl⟩:=rx;obtain ⟨t',rfl⟩:=ry;exact rule i j t t' s _ _ ⟨.bl (g i j),H,I,rfl,q⟩
def XA (i j:Int):Prop:=0 < j/\j < 1073741824
def cO (i j:Int):Prop:=0<=j/\j<=1000000/\i.natAbs < 2 ^ 64
def Qr (i j:Int):Prop:=(-(2 ^ 64) < i/\i < 2 ^ 64)∨(-(2 ^ 64) < j/\j < 2 ^ 64)
theorem Qr.ok {i j:Int} (h:Qr i j):IntMulOk i j:=by
 rcases h with ⟨h1,h2⟩ | ⟨h1,h2⟩
 ·exact .of_left (intBits_le_64 h1 h2)
 ·exact .of_right (intBits_le_64 h1 h2)
theorem bC:OpR X (Ci .Add) (rI0 λi j=>.int (i+j)):=du λ_ _ _ _ _ _ _ q=>add_int q
theorem ax:OpR X (Ci .Sub) (rI0 λi j=>.int (i - j)):=du λ_ _ _ _ _ _ _ q=>sub_int q
theorem az:OpR X (Ci .Mult) (rI Qr λi j=>.int (i * j)):=opI λ_ _ _ _ _ _ _ hc q=>mul_int q hc.ok
theorem YZ:OpR X (Ci .FloorDiv) (rI XA λi j=>.int (i / j)):=opI λi j _ _ _ _ _ hc q=>by
 have h1:(0:Int) < j:=hc.1;have h2:j < 1073741824:=hc.2;exact floordiv_int (by omega) (by rw [Int.fdiv_eq_ediv_of_nonneg i (by omega)];exact q) (.inl (PyProof.noPylong_small (by omega)))
theorem bA:OpR X (Ci .Mod) (rI (λ_ j=>0 < j) λi j=>.int (i % j)):=opI λi j _ _ _ _ _ hc q=>by
 have h1:(0:Int) < j:=hc;exact mod_int' (by omega) (by rw [Int.fmod_eq_emod_of_nonneg i (by omega)];exact q)
theorem ay:OpR X (Ci .Pow) (rI cO λi j=>.int (i ^ j.toNat)):=opI λ_ _ _ _ _ _ _ hc q=>pow_int_small hc.1 hc.2.1 hc.2.2 q
end
section
variable {X:Cx} {a b c:Expr} {ta tb tc:TE} {pos:Pos}
theorem dk:OpR X (Bg .Lt) (rI0 λi j=>.bl (decide (i < j))):=Yc λ_ _ _ _ _ _ _ q=>lt_int q
theorem dm:OpR X (Bg .LtE) (rI0 λi j=>.bl (decide (i<=j))):=Yc λ_ _ _ _ _ _ _ q=>le_int q
theorem dq:OpR X (Bg .Gt) (rI0 λi j=>.bl (decide (j < i))):=Yc λ_ _ _ _ _ _ _ q=>gt_int q
theorem dr:OpR X (Bg .GtE) (rI0 λi j=>.bl (decide (j<=i))):=Yc λ_ _ _ _ _ _ _ q=>ge_int q
theorem OpR.or {f:AC->AC->Sem AC} {r r':R2} (h:OpR X f r) (h':OpR X f r'):OpR X f (λx y H Q=>r x y H Q∨r' x y H Q):=by
 intro pins s σ H x y v u Q I rx ry q
 rcases q with q | q
 ·exact h pins s σ H x y v u Q I rx ry q
 ·exact h' pins s σ H x y v u Q I rx ry q
theorem FH (b:Expr) {op:RH} (h:op≠.In:=by decide) (h2:op≠.NotIn:=by decide):CQ op b=false:=by
 have e1:(op==RH.In)=false:=by cases op <;> first | rfl | exact absurd rfl h
 have e2:(op==RH.NotIn)=false:=by cases op <;> first | rfl | exact absurd rfl h2
 cases b <;> simp [CQ,e1,e2]
theorem YV {op:RH} {r:R2} (ho:OpR X (Bg op) r) (ha:PE X a ta) (hb:PE X b tb) (hm:CQ op b=false):PE X (.Compare a [op] [b] pos) (tOp r ta tb):=by
 intro pins s σ H Q I h;exact wpAny_Compare1 (cH ha hb I h λv u s2 x y H2 I2 rx ry q=>ho pins s2 σ H2 x y v u Q I2 rx ry q) hm
def ZS (t:TE):TT:=λσ H Q=>t σ H λx H'=>∃k,x=.bl k/\Q k H'
theorem YD {op:RH} {r:R2} (ho:OpR X (Bg op) r) (ha:PE X a ta) (hb:PE X b tb) (hm:CQ op b=false):PT X (.Compare a [op] [b] pos) (ZS (tOp r ta tb)):=by
 intro pins s σ H Q I h
 refine XB (thn (ha pins s σ H _ I h) λv s1 ⟨x,H1,I1,r1,q1⟩=>thn (hb pins s1 σ H1 _ I1 q1) λu s2 ⟨y,H2,I2,r2,q2⟩=>
  thn (ho pins s2 σ H2 x y v u _ I2 r1 r2 q2) λc s3 ⟨z,H3,I3,r3,k,e,q3⟩=>?_) hm
 subst e;cases r3;exact B7 ⟨H3,I3,q3⟩
def VJ (r r':R2) (ta tb tc:TE):TE:=λσ H Q=>ta σ H λx H1=>tb σ H1 λy H2=>r x y H2 λz H3=>∃k,z=.bl k /\
 (if k=true then tc σ H3 λw' H4=>r' y w' H4 Q else Q (.bl false) H3)
theorem Vj {op op':RH} {r r':R2} (ho:OpR X (Bg op) r) (ho':OpR X (Bg op') r') (ha:PE X a ta) (hb:PE X b tb) (hc:PE X c tc)
  (hm:lastMarks [op,op'] [b,c]=false:=by with_unfolding_all rfl):PT X (.Compare a [op,op'] [b,c] pos) (ZS (VJ r r' ta tb tc)):=by
 intro pins s σ H Q I h
 refine isTrue_chain (thn (ha pins s σ H _ I h) λv s1 ⟨x,H1,I1,r1,q1⟩=>test_link (thn (hb pins s1 σ H1 _ I1 q1) λu s2 ⟨y,H2,I2,r2,q2⟩=>
  thn (ho pins s2 σ H2 x y v u _ I2 r1 r2 q2) λd s3 ⟨z,H3,I3,r3,k,e,q3⟩=>?_)) hm
 subst e;cases r3;refine B7 ?_
 cases k with
 | false=>
  obtain ⟨k',e',q'⟩:=q3;cases e';exact ite_ff ⟨H3,I3,q'⟩
 | true=>
  refine ite_tt (test_last (thn (hc pins s3 σ H3 _ I3 q3) λw' s4 ⟨z',H4,I4,r4,q4⟩=>thn (ho' pins s4 σ H4 y z' u w' _ I4 r2 r4 q4) λd' s5 ⟨z2,H5,I5,r5,k2,e2,q5⟩=>?_));subst e2;cases r5;exact B7 ⟨H5,I5,q5⟩
def cJ (K:AA) (x:V) (H:Hp) (k:Bool):Prop:=
 match x with
 | .non=>k=false
 | .bl b=>k=b
 | .int i=>k=(i != 0)
 | .str y=>y.length<=sizeLine/\k=((y.length:Int) != 0)
 | .byt y=>y.size<=sizeLine/\k=((y.size:Int) != 0)
 | .ref p=>(∃xs,SqL K H p xs/\k = !xs.isEmpty)∨(∃xs,SqT K H p xs/\k = !xs.isEmpty)∨∃kvs,H p=some (.dK kvs)/\k = !kvs.isEmpty
 | _=>False
theorem Ry {κ:Type} {kvs:List (κ×V)} {vs:List (κ×AC)} (r:KV kvs vs):(!vs.isEmpty) = !kvs.isEmpty:=by
 cases r <;> rfl
theorem Mr {xs:List V} {its:List AC} (r:BZ xs its):(!its.toArray.isEmpty) = !xs.isEmpty:=by
 cases r <;> simp
theorem O2:(sizeLine:Nat) < 2 ^ 63:=by rw [PZ];decide
theorem aD:TruR X (λx H Q=>∃k,cJ X.K x H k/\Q k H):=by
 intro pins s σ H x v Q I rx h;obtain ⟨k,e,q⟩:=h;have hl:=O2;have hs:sizeLine=16777216:=PZ
 cases x with
 | non=>
  cases rx;have e':k=false:=e;subst e';exact truthy_none ⟨H,I,q⟩
 | bl b=>
  cases rx;have e':k=b:=e;subst e';exact B7 ⟨H,I,q⟩
 | int i=>
  obtain ⟨t,rfl⟩:=rx;have e':k=(i != 0):=e;subst e';exact PySem.P.truthy_int ⟨H,I,q⟩
 | str y=>
  obtain ⟨t,rfl⟩:=rx;obtain ⟨hy,e'⟩:y.length<=sizeLine/\k=((y.length:Int) != 0):=e;subst e';exact PySem.P.truthy_str (by omega) ⟨H,I.tok _,q⟩
 | byt y=>
  obtain ⟨t,rfl⟩:=rx;obtain ⟨hy,e'⟩:y.size<=sizeLine/\k=((y.size:Int) != 0):=e;subst e';exact PySem.W.truthy_bytes (by omega) ⟨H,I.tok _,q⟩
 | ref p=>
  cases rx
  have e':(∃xs,SqL X.K H p xs/\k = !xs.isEmpty)∨(∃xs,SqT X.K H p xs/\k = !xs.isEmpty)∨∃kvs,H p=some (.dK kvs)/\k = !kvs.isEmpty:=e
  rcases e' with ⟨xs,hx,e'⟩ | ⟨xs,hx,e'⟩ | ⟨kvs,hx,e'⟩
  ·subst e'
   obtain ⟨its,r,pl,hz⟩:=I.list hx;have hlen:=r.length;exact wpAny_truthy_list pl.isList (by simp only [Aa];omega) ⟨H,I.tok _,by rw [Mr r];exact q⟩
  ·subst e'
   obtain ⟨its,r,pl,hz⟩:=I.tuple hx;have hlen:=r.length;exact truthy_tuple pl (by simp only [Aa];omega) ⟨H,I.tok _,by rw [Mr r];exact q⟩
  ·subst e'
   obtain ⟨hz,hS,vs,r,m⟩:kvs.length<=sizeLine/\(p==Ca)=false/\∃vs,KV kvs vs/\s.heap.DictOf (Ch X.prog X.w) p vs:=I.hok p _ hx
   have hlen:kvs.length=vs.length:=DK r;exact wpAny_truthy_dict hS m (by omega) ⟨H,I.tok _,by rw [Ry r];exact q⟩
 | _=>exact (show False from e).elim
theorem Vh (ha:PE X a ta) (he:∀whole,Q4 a X.env whole=(do let v <-whole;cS a.pos;cV [v] (Zi v))) :
  PT X a (λσ H Q=>ta σ H λx H'=>∃k,cJ X.K x H' k/\Q k H'):=by
 intro pins s σ H Q I h;exact isTrue_plain (thn (ha pins s σ H _ I h) λv s1 ⟨x,H1,I1,r1,q1⟩=>aD pins s1 σ H1 x v Q I1 r1 q1) (he _)
theorem vals1 {x:V} {us:List AC} (r:BZ [x] us):∃u,us=[u]/\RelV x u:=by
 cases r with
 | cons r1 r2=>cases r2;exact ⟨_,rfl,r1⟩
theorem vals2 {x y:V} {us:List AC} (r:BZ [x,y] us):∃u w',us=[u,w']/\RelV x u/\RelV y w':=by
 cases r with
 | cons r1 r2=>
  cases r2 with
  | cons r3 r4=>cases r4;exact ⟨_,_,rfl,r1,r3⟩
theorem UZ (hc:X.calm=true):Gi X (.builtin "max") (λxs H Q=>∃i j,xs=[.int i,.int j]/\Q (.int (if j > i then j else i)) H):=by
 intro pins s σ H xs us Q I r h;obtain ⟨i,j,rfl,q⟩:=h;obtain ⟨u,w',rfl,⟨t,rfl⟩,⟨t',rfl⟩⟩:=vals2 r
 refine max_two_ints (I.ok.hd hc) λh' tk k=>⟨_,H,I.kept k,?_,q⟩
 by_cases hj:j > i
 ·rw [if_pos hj,if_pos hj];exact ⟨_,rfl⟩
 ·rw [if_neg hj,if_neg hj];exact ⟨_,rfl⟩
theorem UY (hc:X.calm=true):Gi X (.builtin "min") (λxs H Q=>∃i j,xs=[.int i,.int j]/\Q (.int (if j < i then j else i)) H):=by
 intro pins s σ H xs us Q I r h;obtain ⟨i,j,rfl,q⟩:=h;obtain ⟨u,w',rfl,⟨t,rfl⟩,⟨t',rfl⟩⟩:=vals2 r
 refine min_two_ints (I.ok.hd hc) λh' tk k=>⟨_,H,I.kept k,?_,q⟩
 by_cases hj:j < i
 ·rw [if_pos hj,if_pos hj];exact ⟨_,rfl⟩
 ·rw [if_neg hj,if_neg hj];exact ⟨_,rfl⟩
theorem Ua:Gi X (.type "int") (λxs H Q=>(∃i,xs=[.int i]/\Q (.int i) H)∨∃k,xs=[.bl k]/\Q (.int (if k then 1 else 0)) H):=by
 intro pins s σ H xs us Q I r h
 rcases h with ⟨i,rfl,q⟩ | ⟨k,rfl,q⟩
 ·obtain ⟨u,rfl,t,rfl⟩:=vals1 r
  exact call_int_int ⟨.int i,H,I,⟨_,rfl⟩,q⟩
 ·obtain ⟨u,rfl,r1⟩:=vals1 r
  cases r1;exact call_int_bool ⟨.int (if k then 1 else 0),H,I.tok _,⟨_,rfl⟩,q⟩
end
end L2
namespace L2
open PySem PySem.Spec PyProof.Rows
structure Ud (h:BY) (x dx C:AF) (mA:Str->Option AC):Prop where
 obj:h.get? x=some (Ck C dx)
 ns:h.Ns1 dx mA
 ne:dx≠x
theorem T9 {h:BY} {dx:AF} {mA:Str->Option AC} (n:h.Ns1 dx mA):∃od,h.get? dx=some od/\∀name,Ly name od=some (mA name):=by
 obtain ⟨o,es,ep,ho,hd,hk,_,hm⟩:=n;refine ⟨o,ho,λname=>?_⟩;have e:=hm name;unfold nsFind findBy at e;rw [<-Array.find?_toList] at e;unfold Ly;rw [hd];dsimp only;split
 ·rename_i y q
  rw [q] at e;exact congrArg some e
 ·rename_i q
  rw [q] at e
  have a:es.toList.any (·.refKey)=false:=by
   rw [List.any_eq_false];intro y hy;obtain ⟨z,t,hkey⟩:=hk y (BD.mp hy);simp [K9.refKey,hkey]
  have a':¬es.toList.any (·.refKey)=true:=by rw [a];exact AS
  rw [if_neg a'];exact congrArg some e
theorem Ud.look {h:BY} {x dx C:AF} {mA:Str->Option AC} (I:Ud h x dx C mA):∃od,Ut h x (Ck C dx) C (some od)/\∀name,Ly name od=some (mA name):=
 let ⟨od,ho,hl⟩:=T9 I.ns
 ⟨od,⟨I.obj,rfl,rfl,ho⟩,hl⟩
section
variable {prog:Ai} {w:A7} {A:A2} {E:AC->AE->Prop} {s:AE} {K:AA} {x dx C f:AF} {mA:Str->Option AC} {name:Str} {v:AC}
theorem Yy {expr:Bool} {Q:AC->AE->Prop} (X:K.In s.heap) (I:Ud s.heap x dx C mA) (hg:KR K C name=true) (hh:Jp K C=true)
  (ha:Bt K (.ref C) name=some none) (hv:mA name=some v) (hv':TV v=true) (h:Q v { s with toks:=s.toks+1 }) :
  Ah (AW prog w) A (getAttr (.ref x) name expr) Q E s:=by
 obtain ⟨od,J,hl⟩:=I.look;exact PySem.W.get_value X J (PySem.W.plainGet_of hg).1 (PySem.W.findObj_own hh ha rfl (by rw [hl,hv])) hv' h
theorem Xz {ns:List Str} {Q:Unit->AE->Prop} (X:K.In s.heap) (I:Ud s.heap x dx C mA)
  (hs:Bt K (.ref C) "__setattr__" = some (some (.builtin "object.__setattr__"))) (hp:SH K C=true) (ht:LQ K C name=some none) (hh:Jp K C=true)
  (hw:Pi mA ns) (hsz:ns.length<=sizeLine)
  (h:∀h',Ud h' x dx C (λy=>if y=name then some v else mA y)->GK dx s.heap h'->Q () { s with heap:=h',toks:=s.toks+2 }) :
  Ah (AW prog w) A (setAttr (.ref x) name v) Q E s:=by
 obtain ⟨od,J,hl⟩:=I.look;refine PySem.W.set_plain X J hs (PySem.W.osa_open (s:={ s with toks:=s.toks+1 }) (r:=none) X J hp ht λb=>?_);obtain ⟨cd,hc,hd'⟩:=PySem.W.any_some hh;have hx:s.heap.get? x=some ⟨.ref C,some dx,.plain,#[]⟩:=I.obj;refine AB (AH (AB (AB (Q2 hx (AB (cr (s:={ s with toks:=s.toks+1 }) (PySem.W.looks_clsIn X hc) ?_))))));rw [hd'];refine AH (a:=some dx) (AB (AH (AB ?_)))
 refine wpAny_nsSet1 (s:={ s with toks:=s.toks+1 }) I.ns λh' hn2 hs2=>?_
 obtain ⟨oD,esD,epD,hoD,hdD,hcD⟩:=hn2.count (e7 name v hw);refine AB (wpAny_lookBehind hoD (by rw [hdD];exact pastItsLine_dict (Ao hcD (by rw [Am];omega))) ?_);exact AH (h _ ⟨(hs2.2 _ (Bv I.ne)).trans I.obj,hn2,I.ne⟩ hs2)
theorem V9 {R:Zp->AE->Prop} {vs:List AC} {kw:List (Str×AC)} (X:K.In s.heap) (hm:Ui K C=true)
  (hi:Bt K (.ref C) "__init__" = some (some (.ref f))) (hf:IB K (.ref f)=some (.type "function"))
  (h:JS (AW prog w) (A.under (.builtin "type.__call__" ⟨.ref C :: vs,kw⟩)) (.call (.ref f) ⟨.ref (s.heap.objs.size+1) :: vs,kw⟩) (PySem.W.InitBack (s.heap.objs.size+1) R)
   { s with heap:=(s.heap.push Bu).push (Ck C s.heap.objs.size) }) :
  JS (AW prog w) A (.call (.ref C) ⟨vs,kw⟩) R s:=by
 obtain ⟨hh,g,d,t,os⟩:=s;exact PySem.W.make_core (PySem.W.makes_of X hm) (IC X hi) (λself=>PySem.W.bind_fn X self hf) (.inl rfl) h
end
def putF (f:Str) (v:V):List (Str×V)->List (Str×V)
 | []=>[(f,v)]
 | (g,x) :: r=>if g=f then (g,v) :: r else (g,x) :: putF f v r
theorem LH (f g:Str) (v:V):∀fs:List (Str×V),(putF f v fs).lookup g=if g=f then some v else fs.lookup g
 | []=>by
  show FP g [(f,v)]=_
  by_cases h:g=f
  ·have hb:(g==f)=true:=beq_iff_eq.mpr h
   simp only [FP,hb,if_pos h]
  ·have hb:(g==f)=false:=beq_eq_false_iff_ne.mpr h
   simp only [FP,hb,if_neg h]
 | (k,x) :: r=>by
  have ih:=LH f g v r;rw [show putF f v ((k,x) :: r)=(if k=f then (k,v) :: r else (k,x) :: putF f v r) from rfl]
  by_cases hk:k=f
  ·rw [if_pos hk]
   by_cases h:g=k
   ·have hb:(g==k)=true:=beq_iff_eq.mpr h
    simp only [FP,hb,if_pos (h.trans hk)]
   ·have hb:(g==k)=false:=beq_eq_false_iff_ne.mpr h
    simp only [FP,hb,if_neg (λe:g=f=>h (e.trans hk.symm))]
  ·rw [if_neg hk]
   by_cases h:g=k
   ·have hb:(g==k)=true:=beq_iff_eq.mpr h
    simp only [FP,hb,if_neg (λe:g=f=>hk (h.symm.trans e))]
   ·have hb:(g==k)=false:=beq_eq_false_iff_ne.mpr h
    simp only [FP,hb];exact ih
theorem Kq (f:Str) (v:V):∀fs:List (Str×V),f∈(putF f v fs).map (·.1)/\∀g,g∈fs.map (·.1)->g∈(putF f v fs).map (·.1)
 | []=>⟨by simp [putF],λg h=>by simp at h⟩
 | (k,x) :: r=>by
  obtain ⟨i1,i2⟩:=Kq f v r;rw [show putF f v ((k,x) :: r)=(if k=f then (k,v) :: r else (k,x) :: putF f v r) from rfl]
  by_cases hk:k=f
  ·rw [if_pos hk]
   subst hk;exact ⟨by simp,λg h=>by simpa using h⟩
  ·rw [if_neg hk]
   refine ⟨?_,λg h=>?_⟩
   ·rw [A9]
    exact AZ _ i1
   ·rw [A9] at h ⊢
    rcases Ap.mp h with e | e
    ·exact Ap.mpr (.inl e)
    ·exact AZ _ (i2 g e)
theorem LJ (f:Str) (v:V):∀fs:List (Str×V),(putF f v fs).length<=fs.length+1
 | []=>by simp [putF]
 | (k,x) :: r=>by
  have ih:=LJ f v r;rw [show putF f v ((k,x) :: r)=(if k=f then (k,v) :: r else (k,x) :: putF f v r) from rfl]
  by_cases hk:k=f
  ·rw [if_pos hk,Am,Am];omega
  ·rw [if_neg hk,Am,Am];omega
theorem Ky.some_of {v:V} {o:Option AC} (r:Ky (some v) o):∃u,o=some u/\RelV v u:=by
 cases o with
 | none=>exact (show False from r).elim
 | some u=>exact ⟨u,rfl,r⟩
theorem UJ {v:V} {u:AC} (r:RelV v u):TV u=true:=by
 cases v with
 | non=>cases (show u=BP from r);rfl
 | bl b=>cases (show u=NN b from r);rfl
 | int i=>obtain ⟨t,e⟩:=(show ∃t,u=LO i t from r);cases e;rfl
 | str x=>obtain ⟨t,e⟩:=(show ∃t,u=LN x t from r);cases e;rfl
 | byt b=>obtain ⟨t,e⟩:=(show ∃t,u=cZ b t from r);cases e;rfl
 | flt b=>obtain ⟨t,e⟩:=(show ∃t,u=Q8 b t from r);cases e;rfl
 | ref a=>cases (show u=Ak a from r);rfl
 | ty n=>cases (show u=E0 n from r);rfl
section
variable {P:Ai} {w:A7} {H H':Hp} {h h':BY} {a C dx:AF} {fs fs':List (Str×V)}
theorem O4 (hok:HOk P w H h) (e:H a=some (.ins C dx fs)):∃mA,Ud h a dx C mA/\(∀f,Ky (fs.lookup f) (mA f))/\Pi mA (fs.map (·.1))/\fs.length<=1000/\H dx=some (.own a):=by
 obtain ⟨d,z,ne,ob,mA,n,r,q⟩:=(show CD P w H h a (.ins C dx fs) from hok a _ e);exact ⟨mA,⟨ob,n,ne⟩,r,q,z,d⟩
end
structure Cls (K:AA) (C:AF):Prop where
 pg:KR K C Qs=true
 hd:Jp K C=true
 po:SH K C=true
 sa:Bt K (.ref C) "__setattr__" = some (some (.builtin "object.__setattr__"))
theorem Cls.get {K:AA} {C:AF} (c:Cls K C) (f:Str):KR K C f=true:=c.pg
def GH (K:AA) (C:AF) (f:Str):Prop:=Bt K (.ref C) f=some none
theorem GH.taker {K:AA} {C:AF} {f:Str} (n:GH K C f):LQ K C f=some none:=by
 unfold LQ;rw [show Bt K (.ref C) f=some none from n];rfl
section
variable {X:Cx} {pins:List (AF×Obj)} {σ:St} {H:Hp} {s:AE} {a C dx:AF} {fs:List (Str×V)} {f:Str} {v:V} {A:A2} {E:AC->AE->Prop}
theorem R4 {b:Bool} {Q:AC->AE->Prop} (I:Inv X pins σ H s) (e:H a=some (.ins C dx fs)) (c:Cls X.K C) (n:GH X.K C f) (l:fs.lookup f=some v)
  (h:∀u s',Inv X pins σ H s'->RelV v u->Q u s'):Ah (AW X.prog X.w) A (getAttr (.ref a) f b) Q E s:=by
 obtain ⟨mA,O,r,_,_,_⟩:=O4 I.hok e;obtain ⟨u,hu,ru⟩:=Ky.some_of (v:=v) (o:=mA f) (by rw [<-l];exact r f);exact Yy I.kIn O (c.get f) c.hd n hu (UJ ru) (h u _ (I.tok _) ru)
theorem RZ {y:V} {u:AC} {Q:Unit->AE->Prop} (I:Inv X pins σ H s) (e:H a=some (.ins C dx fs)) (c:Cls X.K C) (n:GH X.K C f) (hl:fs.length < 1000) (ry:RelV y u)
  (h:∀s',Inv X pins σ (upd H a (.ins C dx (putF f y fs))) s'->Q () s'):Ah (AW X.prog X.w) A (setAttr (.ref a) f u) Q E s:=by
 obtain ⟨mA,O,r,wi,_,ho⟩:=O4 I.hok e
 have hz:(fs.map (·.1)).length<=sizeLine:=by rw [AG,PZ];omega
 refine Xz I.kIn O c.sa c.po n.taker c.hd wi hz λh' O' sb=>h _ ?_
 have hd:∃o,h'.get? dx=some o:=let ⟨o,_,_,e',_⟩:=O'.ns;⟨o,e'⟩
 refine I.write (x:=a) (e:=dx) (by rw [e];exact CG) (.inr ho) (λb q hb z=>(sb.2 b hb).trans z) hd ?_;refine ⟨by rw [BU O.ne];exact ho,?_,O.ne,O'.obj,_,O'.ns,λg=>?_,λg hg=>?_⟩
 ·have:=LJ f y fs;omega
 ·show Ky ((putF f y fs).lookup g) (if g=f then some u else mA g)
  rw [LH]
  by_cases q:g=f
  ·rw [if_pos q,if_pos q];exact ry
  ·rw [if_neg q,if_neg q];exact r g
 ·by_cases q:g=f
  ·rw [q];exact (Kq f y fs).1
  ·refine (Kq f y fs).2 g (wi g λz=>hg ?_)
   show (if g=f then some u else mA g)=none;rw [if_neg q];exact z
theorem Inv.made (I:Inv X pins σ H s):Inv X pins σ (upd (upd H s.heap.objs.size (.own (s.heap.objs.size+1))) (s.heap.objs.size+1) (.ins C s.heap.objs.size []))
  { s with heap:=(s.heap.push Bu).push (Ck C s.heap.objs.size) }:=by
 have e1:(s.heap.push Bu).get? s.heap.objs.size=some Bu:=A5 s.heap rfl
 have e2:((s.heap.push Bu).push (Ck C s.heap.objs.size)).get? (s.heap.objs.size+1)=some (Ck C s.heap.objs.size):=by
  have:=A5 (s.heap.push Bu) (o:=Ck C s.heap.objs.size) rfl;rwa [JG] at this
 have e3:(s.heap.push Bu).Ns s.heap.objs.size (λ_=>none):=⟨Bu,#[],_,e1,rfl,(λe he=>absurd he (by simp)),λ_=>rfl⟩;have I1:=I.laid (a:=s.heap.objs.size) (o:=.own (s.heap.objs.size+1)) (h':=s.heap.push Bu) (t':=s.toks) (λb u q=>AM _ q) (AQ _) ⟨_,e1⟩;refine I1.laid (a:=s.heap.objs.size+1) (o:=.ins C s.heap.objs.size []) (t':=s.toks) (λb u q=>AM _ q) (RD (JG _ _)) ?_;have ne:s.heap.objs.size≠s.heap.objs.size+1:=Ay (DC _);refine ⟨by rw [BU ne,BM],Cv _,ne,e2,λ_=>none,(BY.Ns1.of_empty e3).at λo q=>AM _ q,λ_=>CG,λy hy=>absurd rfl hy⟩
theorem ZG {prog:Ai} {w:A7} {env:Env} {e:Expr} {f:Str} {pos:Pos} {s:AE} {Q:AC->AE->Prop} (hb:Dw e f env (Bh e env)=Bh e env)
  (h:Ah (AW prog w) A (Bh e env) (λo s₁=>Ah (AW prog w) A (getAttr o f true) Q E s₁) E s):Ah (AW prog w) A (Bh (.Attribute e f pos) env) Q E s:=
 Attribute_any_ h (by rw [arm_eval_Attribute,hb])
end
def tFld (K:AA) (ta:TE) (f:Str):TE:=λσ H Q=>ta σ H λx H1=>∃a C dx fs v,x=.ref a/\H1 a=some (.ins C dx fs)/\Cls K C/\GH K C f/\fs.lookup f=some v/\Q v H1
def sFld (K:AA) (ta tv:TE) (f:Str):TS:=λD σ H=>tv σ H λy H1=>ta σ H1 λx H2=>∃a C dx fs,x=.ref a/\H2 a=some (.ins C dx fs)/\Cls K C/\GH K C f/\fs.length < 1000 /\
 D.nx σ (upd H2 a (.ins C dx (putF f y fs)))
section
variable {X:Cx} {o e value:Expr} {f:Str} {pos pos' tpos:Pos} {ta tv:TE}
theorem aq (he:PE X e ta) (hb:Dw e f X.env (Bh e X.env)=Bh e X.env):PE X (.Attribute e f pos) (tFld X.K ta f):=by
 intro pins s σ H Q I h;refine ZG hb (thn (he pins s σ H _ I h) λu s1 ⟨x,H1,I1,rx,a,C,dx,fs,v,ex,ea,c,n,l,q⟩=>?_);subst ex;obtain rfl:u=Ak a:=rx
 exact R4 I1 ea c n l λu' s2 I2 ru=>⟨v,H1,I2,ru,q⟩
theorem aY (ha:PE X o ta) (hv:PE X value tv) (hs:EJ value (some (.Attribute o f pos')) pos.line X.env=pure false):PS X (.Assign [.Attribute o f pos'] value pos) (sFld X.K ta tv f):=by
 intro pins s σ H D I h;refine plainObj_wpAny_Assign_Attribute (thn (hv pins s σ H _ I h) λu s1 ⟨y,H1,I1,ry,q⟩=>thn (ha pins s1 σ H1 _ I1 q) λov s2 ⟨x,H2,I2,rx,a,C,dx,fs,ex,ea,c,n,l,q2⟩=>?_) hs;subst ex;obtain rfl:ov=Ak a:=rx
 exact RZ I2 ea c n l ry λs3 I3=>⟨σ,_,I3,q2⟩
end
section
variable {X:Cx} {pins:List (AF×Obj)} {σ:St} {H:Hp} {s:AE} {A:A2} {E:AC->AE->Prop} {Q:AC->AE->Prop} {c:AC} {b:Bool}
inductive KL (K:AA) (H:Hp):V->AC->Prop where
 | non:KL K H .non (.type "NoneType")
 | bl (x:Bool):KL K H (.bl x) (.type "bool")
 | int (i:Int):KL K H (.int i) (.type "int")
 | str (x:Str):KL K H (.str x) (.type "str")
 | flt (x:UInt64):KL K H (.flt x) (.type "float")
 | lst {a:AF} {xs:List V} (e:H a=some (.lst xs)):KL K H (.ref a) (.type "list")
 | frz {a:AF} {o:Obj} {xs:List V} (e:H a=some (.frz o (.lst xs))):KL K H (.ref a) (.type "list")
 | tup {a:AF} {xs:List V} (e:H a=some (.tup xs)):KL K H (.ref a) (.type "tuple")
 | dK {a:AF} {kvs:List (Key×V)} (e:H a=some (.dK kvs)):KL K H (.ref a) (.type "dict")
 | dT {a:AF} {kvs:List (List Key×V)} (e:H a=some (.dT kvs)):KL K H (.ref a) (.type "dict")
 | ins {a C dx:AF} {fs:List (Str×V)} (e:H a=some (.ins C dx fs)) (cl:Cls K C) (ha:Bt K (.ref C) "__class__" = some (some (.builtin "object.__class__")))
   (hn:SG K (.builtin "object.__class__") "__get__" = some (some (.builtin "getset_descriptor.__get__"))) (htk:Uh K (.builtin "object.__class__")=some true)
   (hm:JD K C (.type "object")=some true):KL K H (.ref a) (.ref C)
theorem UF {x:V} {u t:AC} (I:Inv X pins σ H s) (rx:RelV x u) (ty:KL X.K H x t) (e:BJ X.K t c=some b) (h:∀tk,Q (.bool b) { s with toks:=tk }) :
  Ah (AW X.prog X.w) A (call (.builtin "isinstance") [u,c]) Q E s:=by
 cases ty with
 | non=>cases (show u=BP from rx);exact Bi PySem.W.kitx_none I.kIn CG e (λz=>nomatch z) h
 | bl y=>cases (show u=NN y from rx);exact Bi PySem.W.kitx_bool I.kIn CG e (λz=>nomatch z) h
 | int i=>obtain ⟨t,q⟩:=(show ∃t,u=LO i t from rx);cases q;exact Bi PySem.W.kitx_int I.kIn CG e (λz=>nomatch z) h
 | str y=>obtain ⟨t,q⟩:=(show ∃t,u=LN y t from rx);cases q;exact Bi PySem.W.kitx_str I.kIn CG e (λz=>nomatch z) h
 | flt y=>obtain ⟨t,q⟩:=(show ∃t,u=Q8 y t from rx);cases q;exact Bi PySem.W.kitx_float I.kIn CG e (λz=>nomatch z) h
 | @lst a xs ea=>
  cases (show u=Ak a from rx);obtain ⟨_,_,n,_,h1⟩:=(show CD X.prog X.w H s.heap a (.lst xs) from I.hok a _ ea);exact Bi SI I.kIn ⟨_,h1,rfl⟩ e (λz=>nomatch z) h
 | @frz a ob xs ea=>
  cases (show u=Ak a from rx);obtain ⟨_,_,_,n,_,h1⟩:=(show CD X.prog X.w H s.heap a (.frz ob (.lst xs)) from I.hok a _ ea);exact Bi SI I.kIn ⟨_,h1,rfl⟩ e (λz=>nomatch z) h
 | @tup a xs ea=>
  cases (show u=Ak a from rx);obtain ⟨_,_,_,p⟩:=(show CD X.prog X.w H s.heap a (.tup xs) from I.hok a _ ea);obtain ⟨o,h1,h2,_⟩:=p;exact Bi PySem.W.kitx_tuple I.kIn ⟨o,h1,h2⟩ e (λz=>nomatch z) h
 | @dK a kvs ea=>
  cases (show u=Ak a from rx);obtain ⟨_,_,vs,_,p⟩:=(show CD X.prog X.w H s.heap a (.dK kvs) from I.hok a _ ea);obtain ⟨o,es,ep,h1,h2,_⟩:=p;exact Bi SJ I.kIn ⟨o,h1,h2.1⟩ e (λz=>nomatch z) h
 | @dT a kvs ea=>
  cases (show u=Ak a from rx);obtain ⟨_,_,xs,_,o,es,ep,h1,h2,_⟩:=(show CD X.prog X.w H s.heap a (.dT kvs) from I.hok a _ ea);exact Bi SJ I.kIn ⟨o,h1,h2.1⟩ e (λz=>nomatch z) h
 | @ins a C dx fs ea cl ha hn htk hm=>
  cases (show u=Ak a from rx);obtain ⟨mA,O,_⟩:=O4 I.hok ea;obtain ⟨od,J,_⟩:=O.look;exact Bi (PySem.W.kitx_own (cl.get _) cl.hd ha hn htk hm) I.kIn J e (λz=>nomatch z) h
end
end L2
namespace L2
open PySem PySem.Spec PyProof.Rows
structure FO (k:Nat) (A:A2):Prop where
 hd:A.handled=none
 dp:A.depth+3 * k+5 < recursionLimit
 un:A.units+16 * k+200 < D0
theorem FO.mono {j k:Nat} {A:A2} (r:FO k A) (h:j<=k):FO j A:=⟨r.hd,by have:=r.dp;omega,by have:=r.un;omega⟩
theorem FO.deeper {k:Nat} {A:A2} (r:FO (k+1) A) (env:Env):FO k (A.deeper env):=
 ⟨r.hd,by have:=r.dp;show A.depth+1+3 * k+5 < _;omega,by have:=r.un;show A.units+3+16 * k+200 < _;omega⟩
theorem Rt {A:A2} {C:AF} {us:List AC} {kw:List (Str×AC)}:(A.under (.builtin "type.__call__" ⟨.ref C :: us,kw⟩)).depth=A.depth+1:=by
 first | rfl | simp [Pe,Code.weight,Code.isCreation,Code.isGuard,Code.isCaller,c6,Q0,guardIds]
theorem Rs {A:A2} {C:AF} {us:List AC} {kw:List (Str×AC)}:(A.under (.builtin "type.__call__" ⟨.ref C :: us,kw⟩)).units=A.units+1:=by
 first | rfl | simp [Pe,Code.cUnits,c6,Q0]
theorem FO.make {k:Nat} {A:A2} (r:FO (k+1) A) (C:AF) (us:List AC) (kw:List (Str×AC)):FO k (A.under (.builtin "type.__call__" ⟨.ref C :: us,kw⟩)):=
 ⟨r.hd,by have:=r.dp;rw [Rt];omega,by have:=r.un;rw [Rs];omega⟩
theorem FO.depth {k:Nat} {A:A2} (r:FO k A):A.depth < recursionLimit:=by have:=r.dp;omega
theorem FO.units {k:Nat} {A:A2} (r:FO k A):A.units+64 < D0:=by have:=r.un;omega
def tNil:TA:=λ_ H Q=>Q [] H
def dQ (ta:TE) (tr:TA):TA:=λσ H Q=>ta σ H λx H1=>tr σ H1 λxs H2=>Q (x :: xs) H2
section
variable {X:Cx} {e:Expr} {es:List Expr} {te:TE} {t:TA} {pos:Pos}
theorem FF:PA X [] tNil:=λ_ _ _ _ H Q I h=>KW ⟨[],H,I,.nil,h⟩
theorem DF (ha:PE X e te) (hr:PA X es t) (hs:AO (e :: es) X.env=(false,Bh e X.env) :: AO es X.env:=by rfl):PA X (e :: es) (dQ te t):=by
 intro pos pins s σ H Q I h;rw [hs];show Ah _ _ (spliced ((false,Bh e X.env) :: Cb pos (AO es X.env))) _ _ s;refine Jq (thn (ha pins s σ H _ I h) λu s1 ⟨x,H1,I1,r1,q1⟩=>?_)
 exact thn (hr pos pins s1 σ H1 _ I1 q1) λus s2 ⟨xs,H2,I2,r2,q2⟩=>⟨x :: xs,H2,I2,.cons r1 r2,q2⟩
def tTup (t:TA):TE:=λσ H Q=>t σ H λxs H1=>xs.length<=sizeLine/\∀p,H1 p=none->Q (.ref p) (upd H1 p (.tup xs))
def tLst (t:TA):TE:=λσ H Q=>t σ H λxs H1=>xs.length<=sizeLine/\∀p,H1 p=none->Q (.ref p) (upd H1 p (.lst xs))
theorem Vr {x1} (h:PA X es t):PE X (.Tuple es x1 pos) (tTup t):=by
 intro pins s σ H Q I hq;refine wpAny_Tuple_spliced (thn (h pos pins s σ H _ I hq) λus s1 ⟨xs,H1,I1,r,z,q⟩=>⟨by rw [<-r.length];exact z,?_⟩);have hf:H1 s1.heap.objs.size=none:=I1.hok.fresh (AQ _);refine ⟨.ref s1.heap.objs.size,upd H1 s1.heap.objs.size (.tup xs),I1.laid (t':=s1.toks) (λb u e=>AM _ e) (AQ _) ?_,rfl,q _ hf⟩;exact ⟨z,us,r,⟨_,A5 _ rfl,rfl,_,rfl⟩⟩
theorem ao (h:PA X es t):PE X (.List es pos) (tLst t):=by
 intro pins s σ H Q I hq;refine wpAny_List_spliced (thn (h pos pins s σ H _ I hq) λus s1 ⟨xs,H1,I1,r,z,q⟩=>⟨by rw [<-r.length];exact z,?_⟩);have hf:H1 s1.heap.objs.size=none:=I1.hok.fresh (AQ _);refine ⟨.ref s1.heap.objs.size,upd H1 s1.heap.objs.size (.lst xs),I1.laid (t':=s1.toks) (λb u e=>AM _ e) (AQ _) ?_,rfl,q _ hf⟩;exact ⟨z,us,0,r,A5 _ rfl⟩
end
abbrev Sp:=List V->Hp->VK->XK->Prop
abbrev CXT:=List Env->Hp->AE->XK->AC->AE->Prop
structure SE (P:Ai) (w:A7) (K:AA) (mg:Str->Option AC) (base:BY) (A:A2) (outer:List Env) (s:AE) (H:Hp):Prop where
 frames:A.frames=some outer
 mod:Mod K mg base
 bs:∀b o,base.get? b=some o->s.heap.get? b=some o/\H b=none
 bsz:base.objs.size<=s.heap.objs.size
 funs:s.heap.FunFrames base outer
 frf:∀b∈frs outer,H b=none
 hok:HOk P w H s.heap
 bare:GM s.gens
def CE (outer:List Env) (P:Ai) (w:A7) (H:Hp) (s:AE) (Q:VK) (u:AC) (s':AE):Prop:=
 ∃v H',s'.os=s.os/\GM s'.gens/\Un (frs outer) [] H H' s.heap s'.heap/\HOk P w H' s'.heap/\RelV v u/\Q v H'
def CR (CX:CXT) (outer:List Env) (P:Ai) (w:A7) (H:Hp) (s:AE) (Q:VK) (E:XK) (r:Zp) (s':AE):Prop:=
 match r with
 | .ok (.ret u)=>CE outer P w H s Q u s'
 | .ok _=>False
 | .error e=>CX outer H s E e s'
structure Dy (P:Ai) (w:A7) (K:AA) (mg:Str->Option AC) (base:BY) (CX:CXT) (k:Nat) (f:AF) (fd:Cr) (ps:List Str) (sp:Sp):Prop where
 len:∀vs H Q E,sp vs H Q E->vs.length=ps.length
 run:∀(A:A2) (outer:List Env) (s:AE) (H:Hp) (args:Args) (us:List AC) (vs:List V) (Q:VK) (E:XK),FO k A->SE P w K mg base A outer s H->Q1 s fd args (ps.zip us)->BZ vs us->sp vs H Q E ->
  JS (AW P w) A (.call (.ref f) args) (CR CX outer P w H s Q E) s
theorem Dy.imp {P:Ai} {w:A7} {K:AA} {mg:Str->Option AC} {base:BY} {CX:CXT} {k:Nat} {f:AF} {fd:Cr} {ps:List Str} {sp sp':Sp} (F:Dy P w K mg base CX k f fd ps sp)
  (h:∀vs H Q E,sp' vs H Q E->sp vs H Q E):Dy P w K mg base CX k f fd ps sp':=
 ⟨λvs H Q E q=>F.len vs H Q E (h _ _ _ _ q),λA outer s H args us vs Q E hr he hb hv hs=>F.run A outer s H args us vs Q E hr he hb hv (h _ _ _ _ hs)⟩
theorem SE.make {P:Ai} {w:A7} {K:AA} {mg:Str->Option AC} {base:BY} {A:A2} {outer:List Env} {s:AE} {H:Hp} (e:SE P w K mg base A outer s H) (C:AF) (us:List AC) (kw:List (Str×AC)) :
  SE P w K mg base (A.under (.builtin "type.__call__" ⟨.ref C :: us,kw⟩)) outer s H:=⟨by first | exact e.frames | (simpa [Pe,Code.envs,Q0,pushEnvs] using e.frames),e.mod,e.bs,e.bsz,e.funs,e.frf,e.hok,e.bare⟩
section
variable {X:Cx} {pins:List (AF×Obj)} {σ:St} {H:Hp} {s s':AE}
theorem Inv.env0 (I:Inv X pins σ H s):SE X.prog X.w X.K X.mg X.base X.A X.stack s H:=
 ⟨I.ok.frames,I.ok.mod,I.bs,Ao I.ok.bsz I.sz,I.stack,I.stkFree,I.hok,I.bare⟩
theorem Inv.after {Q:VK} {u:AC} (I:Inv X pins σ H s) (h:CE X.stack X.prog X.w H s Q u s'):EP X pins σ Q u s':=by
 obtain ⟨v,H',os,bare,un,hok,r,q⟩:=h;obtain ⟨hh,g,d,t,os'⟩:=s';obtain rfl:os'=s.os:=os;exact ⟨v,H',I.call (h':=hh) (g':=g) (d':=d) (t':=t) (ch:=[]) un hok bare (λb z=>absurd z (by simp)),r,q⟩
end
def dR (sp:Sp) (dvs:List V) (E:St->XK) (t:TA):TE:=λσ H Q=>t σ H λvs H1=>sp (vs++dvs) H1 Q (E σ)
def dJ (C:AF) (sp:Sp) (dvs:List V) (E:St->XK) (t:TA):TE:=λσ H Q=>t σ H λvs H1=>∀x dx,H1 x=none->H1 dx=none->dx≠x ->
 sp (.ref x :: (vs++dvs)) (upd (upd H1 dx (.own x)) x (.ins C dx [])) (λv H2=>v=.non/\Q (.ref x) H2) (E σ)
def Binds (K:AA) (fd:Cr) (ps:List Str) (ds:List AC):Prop:=
 ∀(s:AE) (us:List AC),K.In s.heap->(us++ds).length=ps.length->Q1 s fd ⟨us,[]⟩ (ps.zip (us++ds))
theorem Binds.all {K:AA} {fd:Cr} {ps:List Str} (h:∀us:List AC,us.length=ps.length->bindArgs fd ⟨us,[]⟩=pure (ps.zip us)):Binds K fd ps []:=λs us _ hl=>by
 rw [Ax] at hl ⊢;exact .of_eq (h us hl)
def Jg (CX:CXT) (X:Cx) (E:St->XK):Prop:=∀(pins:List (AF×Obj)) (σ:St) (H:Hp) (s:AE) (e:AC) (s':AE),Inv X pins σ H s->CX X.stack H s (E σ) e s'->X.xe e s'
section
variable {X:Cx} {CX:CXT} {k:Nat} {f C:AF} {fd:Cr} {ps:List Str} {sp:Sp} {dvs:List V} {ds:List AC} {E:St->XK} {x m:Str} {p pos apos:Pos} {e o:Expr} {es:List Expr} {ta:TE} {t:TA}
theorem aQ {pins:List (AF×Obj)} {σ:St} {H:Hp} {s:AE} {Q:VK} {us:List AC} {vs:List V} (F:Dy X.prog X.w X.K X.mg X.base CX k f fd ps sp) (hr:FO k X.A) (hb:Binds X.K fd ps ds) (hd:BZ dvs ds) (hx:Jg CX X E)
  (I:Inv X pins σ H s) (r:BZ vs us) (h:sp (vs++dvs) H Q (E σ)):Ah (AW X.prog X.w) X.A (call (.ref f) us) (EP X pins σ Q) X.xe s:=by
 have r2:BZ (vs++dvs) (us++ds):=r.append hd
 have hl:(us++ds).length=ps.length:=by rw [<-r2.length];exact F.len _ _ _ _ h
 refine Q3 (NK (F.run X.A X.stack s H ⟨us,[]⟩ (us++ds) (vs++dvs) Q (E σ) hr I.env0 (hb s us I.kIn hl) r2 h) λr s' hq=>?_)
 cases r with
 | error e=>exact hx pins σ H s e s' I hq
 | ok fl=>
  cases fl with
  | ret u=>exact I.after hq
  | next=>exact Cw hq
  | brk=>exact Cw hq
  | cont=>exact Cw hq
theorem YW (F:Dy X.prog X.w X.K X.mg X.base CX k f fd ps sp) (hr:FO k X.A) (hg:Gl X x) (hm:X.mg x=some (.ref f)) (hk:EN X.K (.ref f)=true) (hb:Binds X.K fd ps ds) (hd:BZ dvs ds) (hx:Jg CX X E)
  (ha:PA X (e :: es) t) (hdb:(x==("__debug__" : Str))=false:=by decide) (he:AO (e :: es) X.env=(false,Bh e X.env) :: AO es X.env:=by rfl) (hpl:(Cb pos (AO es X.env)).any (·.1)=false:=by rfl) :
  PE X (.Call (.Name x p) (e :: es) [] pos) (dR sp dvs E t):=by
 intro pins s σ H Q I h;refine Ek (KB I hg hm ?_ hdb);refine RB (h₀:=X.base) I.ok.mod.kin hk (thn (ha pos pins s σ H _ I h) λus s1 ⟨vs,H1,I1,r,q⟩=>⟨I1.kIn,?_⟩) he hpl;exact aQ F hr hb hd hx I1 r q
structure Mk (K:AA) (C f:AF):Prop where
 makes:Ui K C=true
 init:Bt K (.ref C) "__init__" = some (some (.ref f))
 fn:PySem.W.isFn K (.ref f)=true
 kp:EN K (.ref C)=true
theorem Vb {pins:List (AF×Obj)} {σ:St} {H:Hp} {s:AE} {Q:VK} {us:List AC} {vs:List V} (M:Mk X.K C f) (F:Dy X.prog X.w X.K X.mg X.base CX k f fd ps sp) (hr:FO (k+1) X.A) (hb:Binds X.K fd ps ds) (hd:BZ dvs ds)
  (hx:Jg CX X E) (I:Inv X pins σ H s) (r:BZ vs us)
  (h:∀x dx,H x=none->H dx=none->dx≠x->sp (.ref x :: (vs++dvs)) (upd (upd H dx (.own x)) x (.ins C dx [])) (λv H2=>v=.non/\Q (.ref x) H2) (E σ)) :
  Ah (AW X.prog X.w) X.A (call (.ref C) us) (EP X pins σ Q) X.xe s:=by
 have hq:=h (s.heap.objs.size+1) s.heap.objs.size (I.hok.fresh (NF _)) (I.hok.fresh (AQ _)) (Ay (DC _));have I2:=Inv.made (C:=C) I;have r2:BZ (V.ref (s.heap.objs.size+1) :: (vs++dvs)) (Ak (s.heap.objs.size+1) :: (us++ds)):=.cons rfl (r.append hd)
 have hl:(Ak (s.heap.objs.size+1) :: us++ds).length=ps.length:=by
  have e:=r2.length;rw [F.len _ _ _ _ hq] at e;exact e.symm
 refine Q3 (V9 (f:=f) I.kIn M.makes M.init (beq_iff_eq.mp M.fn) (NK (F.run _ X.stack _ _ ⟨Ak (s.heap.objs.size+1) :: us,[]⟩ (Ak (s.heap.objs.size+1) :: (us++ds)) _ _ (E σ) (hr.make C us [])
  (I2.env0.make C us []) (hb _ (Ak (s.heap.objs.size+1) :: us) I2.kIn hl) r2 hq) λr s' hq'=>?_))
 cases r with
 | error e=>exact hx pins σ _ _ e s' I2 hq'
 | ok fl=>
  cases fl with
  | ret u=>
   obtain ⟨v,H',I3,rv,ev,q3⟩:=I2.after hq';subst ev;exact ⟨rv,⟨V.ref (s.heap.objs.size+1),H',I3,rfl,q3⟩⟩
  | next=>exact Cw hq'
  | brk=>exact Cw hq'
  | cont=>exact Cw hq'
theorem YQ (M:Mk X.K C f) (F:Dy X.prog X.w X.K X.mg X.base CX k f fd ps sp) (hr:FO (k+1) X.A) (hg:Gl X x) (hm:X.mg x=some (.ref C)) (hb:Binds X.K fd ps ds) (hd:BZ dvs ds) (hx:Jg CX X E)
  (ha:PA X (e :: es) t) (hdb:(x==("__debug__" : Str))=false:=by decide) (he:AO (e :: es) X.env=(false,Bh e X.env) :: AO es X.env:=by rfl) (hpl:(Cb pos (AO es X.env)).any (·.1)=false:=by rfl) :
  PE X (.Call (.Name x p) (e :: es) [] pos) (dJ C sp dvs E t):=by
 intro pins s σ H Q I h;refine Ek (KB I hg hm ?_ hdb);refine RB (h₀:=X.base) I.ok.mod.kin M.kp (thn (ha pos pins s σ H _ I h) λus s1 ⟨vs,H1,I1,r,q⟩=>⟨I1.kIn,?_⟩) he hpl;exact Vb M F hr hb hd hx I1 r q
end
section
variable {X:Cx} {CX:CXT} {k:Nat} {f C:AF} {fd:Cr} {ps ks:List Str} {sp:Sp} {E:St->XK} {x m:Str} {p pos apos kpos:Pos} {e o:Expr} {es:List Expr} {kws:List G4} {te ta:TE} {t tk:TA} {nm:Option Str}
variable {g:List AC->List AC->List AC} {gV:List V->List V->List V}
end
structure B5 (N P:List Str) (sc:GR):Prop where
 kind:sc.kind=.function
 co:sc.isCoroutine=false
 gen:sc.isGenerator=false
 nd:N.Nodup
 pre:N.take P.length=P
 par:∀x∈P,sc.names.lookup x=some .local∨sc.names.lookup x=some .cell
 nofree:∀y∈sc.names,y.2≠.free
theorem OK {kindOf:Str->Option NQ} {x:Str}:∀ {binds:List (Str×AC)} {m:Str->Option AC},(∀v,(x,v)∉binds)->Uf kindOf binds m x=m x
 | [],_,_=>rfl
 | (n,v) :: r,m,h=>by
  unfold Uf;rw [OK λw hw=>h w (AZ _ hw)];split
  ·have:x≠n:=by rintro rfl;exact h v A0
   simp [this]
  ·rfl
theorem OM {kindOf:Str->Option NQ} {x:Str}:∀ {binds:List (Str×AC)} {m:Str->Option AC},(∀v,(x,v)∉binds)->Ug kindOf binds m x=m x
 | [],_,_=>rfl
 | (n,v) :: r,m,h=>by
  unfold Ug;rw [OM λw hw=>h w (AZ _ hw)];split
  ·rfl
  ·have:x≠n:=by rintro rfl;exact h v A0
   simp [this]
theorem OL {kindOf:Str->Option NQ} {x:Str} {v:AC}:∀ {P:List Str} {vs:List AC} {i:Nat} {m:Str->Option AC},P.Nodup->P[i]?=some x->vs[i]?=some v->kindOf x=some .local ->
  Uf kindOf (P.zip vs) m x=some v
 | [],_,_,_,_,h,_,_=>by simp at h
 | _ :: _,[],_,_,_,_,h,_=>by simp at h
 | p :: P,w :: vs,0,m,nd,h1,h2,hk=>by
  simp at h1 h2;subst h1;subst h2;show Uf kindOf ((p,w) :: P.zip vs) m p=_;unfold Uf;rw [OK λv hv=>(Bq.mp nd).1 (NH hv).1,if_pos hk];simp
 | p :: P,w :: vs,i+1,m,nd,h1,h2,hk=>by
  show Uf kindOf ((p,w) :: P.zip vs) m x=_;unfold Uf;exact OL (i:=i) (Bq.mp nd).2 (by simpa using h1) (by simpa using h2) hk
theorem ON {kindOf:Str->Option NQ} {x:Str} {v:AC}:∀ {P:List Str} {vs:List AC} {i:Nat} {m:Str->Option AC},P.Nodup->P[i]?=some x->vs[i]?=some v->kindOf x≠some .local ->
  Ug kindOf (P.zip vs) m x=some v
 | [],_,_,_,_,h,_,_=>by simp at h
 | _ :: _,[],_,_,_,_,h,_=>by simp at h
 | p :: P,w :: vs,0,m,nd,h1,h2,hk=>by
  simp at h1 h2;subst h1;subst h2;show Ug kindOf ((p,w) :: P.zip vs) m p=_;unfold Ug;rw [OM λv hv=>(Bq.mp nd).1 (NH hv).1,if_neg hk];simp
 | p :: P,w :: vs,i+1,m,nd,h1,h2,hk=>by
  show Ug kindOf ((p,w) :: P.zip vs) m x=_;unfold Ug;exact ON (i:=i) (Bq.mp nd).2 (by simpa using h1) (by simpa using h2) hk
def start (N:List Str) (vs:List V):St:=vs.map some++BE (N.length - vs.length) none
def PH (CX:CXT) (P:Ai) (w:A7) (K:AA) (mg:Str->Option AC) (base:BY) (N:List Str) (qual:Str) (scope:GR) (f:AF) (cd:AC) (A:A2) (outer:List Env) (s:AE) (H:Hp) (E:XK):Cx where
 prog:=P
 w:=w
 K:=K
 mg:=mg
 base:=base
 A:=A.deeper (JR qual scope s.heap.objs.size f cd)
 N:=N
 s₀:=s
 H₀:=H
 env:=JR qual scope s.heap.objs.size f cd
 outer:=outer
 stack:=JR qual scope s.heap.objs.size f cd :: outer
 ex:=[]
 calm:=true
 fn:=λ_=>true
 pn:=[]
 xe:=λe s'=>Ah (AW P w) (A.deeper (JR qual scope s.heap.objs.size f cd)) (leaving (JR qual scope s.heap.objs.size f cd) e) (λ_ s''=>CX outer H s E e s'') (λe' s''=>CX outer H s E e' s'') s'
theorem Ql {sc:GR} {n:Nat} {x:Str} (h:sc.names.lookup x=some .cell):∃c,(cn n sc.names []).lookup x=some c:=by
 have q:=OS sc.names n [] (.inl h);exact Nn.mp q
theorem UG {CX:CXT} {P:Ai} {w:A7} {K:AA} {mg:Str->Option AC} {base:BY} {N ps:List Str} {qual:Str} {scope:GR} {f:AF} {cd:AC} {A:A2} {outer:List Env} {s s1:AE} {H:Hp} {E:XK} {us:List AC} {vs:List V}
  (S:B5 N ps scope) (hd:A.handled=none) (e0:SE P w K mg base A outer s H) (hl:vs.length=ps.length) (r:BZ vs us)
  (x:InCallC s s.heap.objs.size (Uf (JR qual scope s.heap.objs.size f cd).kindOf (ps.zip us) λ_=>none) (cn (s.heap.objs.size+1) scope.names []) (Ug (JR qual scope s.heap.objs.size f cd).kindOf (ps.zip us) λ_=>none) s1) :
  Inv (PH CX P w K mg base N qual scope f cd A outer s H E) [] (start N vs) H s1:=by
 have hpl:ps.length<=N.length:=by have:=congrArg FQ S.pre;rw [CH] at this;omega
 obtain ⟨h1,tk,rfl,hk⟩:=x.done
 have noA:∀b:AF,b∉(PH CX P w K mg base N qual scope f cd A outer s H E).ex:=λb z=>absurd (show b∈([]:List AF) from z) (by simp)
 refine ⟨⟨e0.mod,S.kind,rfl,rfl,AQ _,λy z c h1 h2=>?_,λy hy=>?_,λy c _ h=>?_,λ_=>hd,A2.frames_deeper e0.frames,.inr ⟨rfl,rfl⟩,λb z=>absurd z (noA b),e0.bs,e0.bsz,λb _ _=>noA b,λb z=>absurd z (noA b),e0.funs,e0.frf⟩,
  rfl,e0.bare,Un.kept hk,⟨_,x.toInCall.ns,λi y v h1 h2 h3=>?_⟩,λy c h=>⟨_,x.cell y c h⟩,e0.hok.fresh (AQ _),λy c h=>?_,λp hp=>absurd (show p∈([]:List (AF×Obj)) from hp) (by simp),e0.hok.kept hk,?_⟩
 ·exact name_of_addr x.apart (C7 h1) (C7 h2)
 ·have hy:scope.names.lookup y=some .cell∨scope.names.lookup y=some .free:=hy
  rcases hy with hy | hy
  ·exact Ql hy
  ·exact absurd rfl (S.nofree _ (C7 hy))
 ·exact LS (x.above y c (C7 h))
 ·have hi:i < vs.length:=by
   unfold start at h2
   by_cases hi:i < vs.length
   ·exact hi
   ·rw [Aw (by simpa using hi)] at h2
    rw [CS] at h2
    split at h2 <;> cases h2
  have ha:vs[i]?=some v:=by
   unfold start at h2;rw [AV (by simpa using hi),Aj] at h2
   cases e:vs[i]? with
   | none=>rw [e] at h2;cases h2
   | some a=>rw [e] at h2;cases h2;rfl
  obtain ⟨u,hu,rv⟩:=r.get ha
  have hp:ps[i]?=some y:=by
   rw [<-S.pre,Pc (by omega)];exact h1
  have ndP:ps.Nodup:=by rw [<-S.pre];exact S.nd.sublist (Uu _ _)
  refine ⟨u,rv,?_⟩
  rcases S.par y (BF hp) with k | k
  ·exact .inl ⟨k,OL ndP hp hu k⟩
  ·obtain ⟨c,e⟩:=Ql (n:=s.heap.objs.size+1) k
   refine .inr ⟨.inl k,c,e,?_⟩;have q:=x.cell y c e;rw [ON ndP hp hu (by show scope.names.lookup y≠_;rw [k];decide)] at q;exact q
 ·exact e0.hok.fresh (LS (x.above y c (C7 h)))
 ·unfold start
  show _=N.length;rw [AR,AG,Il];omega
theorem ee {CX:CXT} {P:Ai} {w:A7} {K:AA} {mg:Str->Option AC} {base:BY} {k:Nat} {f:AF} {name qual:Str} {params:Arguments} {body:List Cd} {scope:GR} {dV kV doc pm cdv ct oc:AC} {an od:Option AF}
  {osl:Array (Option AC)} {N ps:List Str} {sp:Sp} (lk:K.lookup f=some ⟨oc,od,.func (FS name qual params body scope dV kV doc pm an cdv ct),osl⟩) (hcd:Lz K cdv qual=true) (S:B5 N ps scope)
  (len:∀vs H Q E,sp vs H Q E->vs.length=ps.length)
  (hbody:∀(A:A2) (outer:List Env) (s:AE) (H:Hp) (vs:List V) (Q:VK) (E:XK),FO k (A.deeper (JR qual scope s.heap.objs.size f cdv))->sp vs H Q E ->
   ∃t,PSs (PH CX P w K mg base N qual scope f cdv A outer s H E) body t/\t { nx:=λ_ H'=>Q .non H',rt:=Q } (start N vs) H) :
  Dy P w K mg base CX (k+1) f (FS name qual params body scope dV kV doc pm an cdv ct) ps sp:=by
 refine ⟨len,λA outer s H args us vs Q E hr e0 hb r hsp=>?_⟩;have hl:=len _ _ _ _ hsp
 have KX:K.In s.heap:=e0.mod.kin.keeps λb o e=>(e0.bs b o e).1
 have lim:s.heap.NoLimit:=e0.mod.nolimit.keeps λb o e=>(e0.bs b o e).1
 have hkind:∀y∈ps.zip us,scope.names.lookup y.1=some .local∨(scope.names.lookup y.1=some .cell/\((cn (s.heap.objs.size+1) scope.names []).lookup y.1).isSome=true):=λ⟨n,v⟩ hy=>by
  rcases S.par n (NH hy).1 with q | q
  ·exact .inl q
  ·exact .inr ⟨q,OS _ _ _ (.inl q)⟩
 refine codeAny_call_function hr.depth (KX _ _ lk) rfl S.co S.gen rfl (PySem.W.codeRec_of KX hcd) (hb _ _ _ _ ?_)
 refine wpAny_newFunctionEnv_cells S.kind hkind λenv he s1 x=>?_
 subst he;refine ⟨lim.keeps x.toInCall.keep,codeAny_func ?_⟩;obtain ⟨t,ht,hq⟩:=hbody A outer s H vs Q E (hr.deeper _) hsp;have I:Inv (PH CX P w K mg base N qual scope f cdv A outer s H E) [] (start N vs) H s1:=UG S hr.hd e0 hl r x
 refine DY (ht [] s1 (start N vs) H _ I hq) (λfl s' hs=>?_) λe s' hs=>hs
 have fin:∀ {σ':St} {H':Hp} {v:V} {u:AC},Inv (PH CX P w K mg base N qual scope f cdv A outer s H E) [] σ' H' s'->RelV v u->Q v H'->CE outer P w H s Q u s':=
  λ{σ' H' v u} J rv q=>⟨v,H',J.os,J.bare,J.base,J.hok,rv,q⟩
 cases fl with
 | ret u=>
  obtain ⟨v,σ',H',J,rv,q⟩:=hs;exact fin J rv q
 | next=>
  obtain ⟨σ',H',J,q⟩:=hs;exact fin (v:=V.non) (u:=BP) J rfl q
 | brk=>
  obtain ⟨_,_,_,q⟩:=hs;exact Cw q
 | cont=>
  obtain ⟨_,_,_,q⟩:=hs;exact Cw q
end L2
namespace L2
open PySem PySem.Spec PyProof.Rows
section
variable {X:Cx} {x:Str} {p pos:Pos} {e:Expr} {es:List Expr} {t:TA} {id T:String} {r:List V->Hp->VK->Prop}
def tCB (r:List V->Hp->VK->Prop) (t:TA):TE:=λσ H Q=>t σ H λvs H1=>r vs H1 Q
theorem IQ (hc:Gi X (.builtin id) r) (hg:Gl X x) (hm:X.mg x=none) (hv:Da x=some (.builtin id)) (ha:PA X (e :: es) t) (hn:x≠"__name__":=by decide) (hdb:(x==("__debug__" : Str))=false:=by decide)
  (he:AO (e :: es) X.env=(false,Bh e X.env) :: AO es X.env:=by rfl) (hpl:(Cb pos (AO es X.env)).any (·.1)=false:=by rfl):PE X (.Call (.Name x p) (e :: es) [] pos) (tCB r t):=by
 intro pins s σ H Q I h;refine Ek (Jb I hg hm hv ?_ hn hdb);exact e8 (thn (ha pos pins s σ H _ I h) λus s1 ⟨vs,H1,I1,r1,q1⟩=>hc pins s1 σ H1 vs us Q I1 r1 q1) he hpl
theorem Kj (hc:Gi X (.type T) r) (hg:Gl X x) (hm:X.mg x=none) (hv:Da x=some (.type T)) (ha:PA X (e :: es) t) (hn:x≠"__name__":=by decide) (hdb:(x==("__debug__" : Str))=false:=by decide)
  (he:AO (e :: es) X.env=(false,Bh e X.env) :: AO es X.env:=by rfl) (hpl:(Cb pos (AO es X.env)).any (·.1)=false:=by rfl):PE X (.Call (.Name x p) (e :: es) [] pos) (tCB r t):=by
 intro pins s σ H Q I h;refine Ek (Jb I hg hm hv ?_ hn hdb);exact CM (thn (ha pos pins s σ H _ I h) λus s1 ⟨vs,H1,I1,r1,q1⟩=>hc pins s1 σ H1 vs us Q I1 r1 q1) he hpl
end
end L2
namespace HT
open PySem PyProof.Rows
section
open PySem.SeqAt
open PySem.AutoSeq1 (wpAny_loadPart')
open PySem.MeetsSeq PySem.MeetsSeq2 PySem.MeetsSeq3
end
section
variable {prog:Ai} {w:A7} {A:A2} {E:AC->AE->Prop} {s:AE}
theorem ZD {t b:AF} {vs ws:List AC} {Q:AC->AE->Prop} (ht:cf s.heap t vs.toArray) (hb:cf s.heap b ws.toArray) (hv:vs≠[])
  (h1:ws=[]->Q (.ref t) s) (h2:ws≠[]->Q (.ref s.heap.objs.size) { s with heap:=s.heap.push { cls:=.type "tuple",data:=.seq (vs++ws).toArray } })
  (hsz:vs.length+ws.length<=sizeLine):Ah (AW prog w) A (Ci .Add (.ref t) (.ref b)) Q E s:=by
 obtain ⟨⟨cls,dd,data,sl⟩,ho,hc,n,hd⟩:=id ht;obtain ⟨⟨cls2,dd2,data2,sl2⟩,ho2,hc2,n2,hd2⟩:=id hb;simp only at hc hd hc2 hd2;subst hc hd hc2 hd2
 have e:vs.toArray++ws.toArray=(vs++ws).toArray:=by simp
 by_cases hw:ws=[]
 ·exact Us ⟨_,ho,rfl⟩ ⟨_,ho2,rfl⟩ OR TN HJ G2 (Gm _ _)
   (tuple_addW1 t b vs.toArray ws.toArray n n2 dd dd2 sl sl2 (by simpa using hv) (by simp [hw])) ⟨ho,ho2,h1 hw⟩
 ·refine Us ⟨_,ho,rfl⟩ ⟨_,ho2,rfl⟩ OR TN HJ G2 (Gm _ _)
   (tuple_addW2 t b vs.toArray ws.toArray n n2 dd dd2 sl sl2 (by simpa using hv) (by simpa using hw) (by rw [Aa,Aa];exact hsz)) ⟨ho,ho2,?_⟩
  rw [e];exact h2 hw
def sIx (n d:Nat):Option Int->Nat
 | none=>d
 | some v=>if v < 0 then (v+(n:Int)).toNat else min v.toNat n
theorem aP (n d:Nat) (hd:d<=n) (o:Option Int):sIx n d o<=n:=by
 cases o with
 | none=>exact hd
 | some v=>
  show (if v < 0 then (v+(n:Int)).toNat else min v.toNat n)<=n
  by_cases hv:v < 0
  ·rw [if_pos hv];omega
  ·rw [if_neg hv];exact XQ _ _
theorem TF (v:Int) (n d:Nat):(if v < 0 then max (v+(n:Int)) 0 else min v (n:Int))=((sIx n d (some v):Nat):Int):=by
 show (if v < 0 then max (v+(n:Int)) 0 else min v (n:Int))=(((if v < 0 then (v+(n:Int)).toNat else min v.toNat n):Nat):Int)
 by_cases hv:v < 0
 ·simp only [if_pos hv];omega
 ·simp only [if_neg hv];omega
theorem SC (lo hi:Option Int) (n:Nat):FC lo hi 1 (n:Int)=(((sIx n 0 lo:Nat):Int),((sIx n n hi:Nat):Int)):=by
 have h1:¬((1:Int) < 0):=by omega
 unfold FC;simp only [h1,if_false];refine Prod.ext ?_ ?_
 ·cases lo with
  | none=>rfl
  | some v=>exact TF v n 0
 ·cases hi with
  | none=>rfl
  | some v=>exact TF v n n
theorem Rf (i j:Nat):DN (i:Int) (j:Int) 1=j - i:=by
 unfold DN
 have h1:(1:Int) > 0:=by omega
 simp only [h1,if_true,Int.ediv_one]
 split <;> omega
theorem MU {v:AC} {o:Option Int} {Q:Option Int->AE->Prop} (p:OW v o) (h:Q o s):Ah (AW prog w) A (c8 v) Q E s:=by
 cases p with
 | none=>exact slicePart_none h
 | int i t=>exact slicePart_int h
theorem Kd {sl:AF} {vl vu:AC} {lo hi:Option Int} {n:Nat} {Q:Int×Int×Nat->AE->Prop} (hs:s.heap.IsSliceOf sl vl vu .none) (pl:OW vl lo) (pu:OW vu hi)
  (h:Q (((sIx n 0 lo:Nat):Int),1,sIx n n hi - sIx n 0 lo) s):Ah (AW prog w) A (Jr (.ref sl) (pure (n:Int))) Q E s:=by
 obtain ⟨os,hos,hcs,hds⟩:=id hs;unfold Jr c9;refine AB (AB (Ew hos hds (x:=vl) rfl (AB (Ew hos hds (x:=vu) rfl (AB (Ew hos hds (x:=.none) rfl (AH ?_)))))));refine AB (slicePart_none ?_);show Ah _ _ (if ((1:Int)==0)=true then _ else _) _ _ s;rw [if_neg (by decide)];refine AB (MU pl (AB (MU pu (AB (AH ?_)))));show Ah _ _ (match FC lo hi 1 (n:Int) with | (lo,hi)=>pure (lo,(1:Int),DN lo hi 1)) _ _ s;rw [SC lo hi n];show Ah _ _ (pure (((sIx n 0 lo:Nat):Int),(1:Int),DN ((sIx n 0 lo:Nat):Int) ((sIx n n hi:Nat):Int) 1)) _ _ s;rw [Rf];exact AH h
theorem Vp (xs:Array AC) (i k:Nat):((CT k).filterMap λ(m:Nat)=>xs[((i:Int)+(m:Int) * 1).toNat]?).toArray=((xs.toList.drop i).take k).toArray:=by
 have e:(λ(m:Nat)=>xs[((i:Int)+(m:Int) * 1).toNat]?)=λm=>xs[i+m]?:=by
  funext m
  have:((i:Int)+(m:Int) * 1).toNat=i+m:=by omega
  rw [this]
 rw [e];have:=pick_run xs i k;rw [List.filterMap_map] at this
 have e2:((λx=>xs[x]?)∘λx=>i+x)=λm=>xs[i+m]?:=rfl
 rw [e2] at this;rw [this]
theorem KF {t sl:AF} {items:Array AC} {vl vu:AC} {lo hi:Option Int} {Q:AC->AE->Prop} (ht:cf s.heap t items) (hs:s.heap.IsSliceOf sl vl vu .none) (pl:OW vl lo) (pu:OW vu hi)
  (hw:¬(sIx items.size 0 lo=0/\sIx items.size items.size hi=items.size))
  (h:Q (.ref s.heap.objs.size) { s with heap:=s.heap.push { cls:=.type "tuple",data:=.seq ((items.toList.drop (sIx items.size 0 lo)).take (sIx items.size items.size hi - sIx items.size 0 lo)).toArray } })
  (hsz:items.size<=sizeLine):Ah (AW prog w) A (Kz (.ref t) (.ref sl)) Q E s:=by
 have htake:sizeOk (.seq ((items.toList.drop (sIx items.size 0 lo)).take (sIx items.size items.size hi - sIx items.size 0 lo)).toArray):=by
  show ((items.toList.drop (sIx items.size 0 lo)).take (sIx items.size items.size hi - sIx items.size 0 lo)).toArray.size<=sizeLine;rw [Aa,CH,Bs,BN];omega
 have hj:sIx items.size items.size hi<=items.size:=aP _ _ (AQ _) hi;obtain ⟨os,hos,hcs,hds⟩:=id hs;have hTs:s.TypeIs (.ref sl) "slice":=⟨os,hos,hcs⟩;unfold Kz
 try with_reducible refine Eg ?_
 first | refine AB (AH ?_) | skip
 refine AB (wpAny_sequenceKey ht.typeIs (by decide) ?_)
 refine AB (Iv (name:=Q9 "__getitem__") ht.typeIs EB
  (Fi EB ht.typeIs entry_tuple_getitem ?_ (args_tuple_getitem _ _)))
 show Ah _ _ (c7 (.ref t) >>= _) _ _ s;refine AB (tupleItemsOf_ ht ?_);refine AB (wpAny_typeOf hTs ?_);rw [if_pos (by decide)];refine AB (Kd hs pl pu ?_)
 have hno:¬((((sIx items.size 0 lo:Nat):Int)==0&&(1:Int)==1&&(sIx items.size items.size hi - sIx items.size 0 lo)==items.size)=true):=by
  intro q;rw [Cg,Cg] at q;have q1:((sIx items.size 0 lo:Nat):Int)=0:=eq_of_beq q.1.1;have q2:sIx items.size items.size hi - sIx items.size 0 lo=items.size:=eq_of_beq q.2;exact hw ⟨by omega,by omega⟩
 show Ah _ _ (if (((sIx items.size 0 lo:Nat):Int)==0&&(1:Int)==1&&(sIx items.size items.size hi - sIx items.size 0 lo)==items.size)=true then _ else _) _ _ s;rw [if_neg hno,Vp]
 first
  | exact AB (m:=Dc _) (B8 (AH ⟨_,rfl,AH h⟩) htake)
  | exact AB (m:=Dc _) (B8 (AB (AH (AH ⟨_,rfl,AH h⟩))) htake)
  | exact AB (AB (m:=Dc _) (B8 (AH (AH ⟨_,rfl,AH h⟩)) htake))
  | exact AB (AB (m:=Dc _) (B8 (AH ⟨_,rfl,AH h⟩) htake))
end
end HT
namespace L2
open PySem PySem.Spec PyProof.Rows
abbrev TO:=St->Hp->(Option Int->Hp->Prop)->Prop
def PO (X:Cx) (e:Option Expr) (t:TO):Prop:=
 ∀(pins:List (AF×Obj)) (s:AE) (σ:St) (H:Hp) (Q:Option Int->Hp->Prop),Inv X pins σ H s->t σ H Q ->
  Ah (AW X.prog X.w) X.A (evalPart e X.env) (λu s'=>∃o H',Inv X pins σ H' s'/\OW u o/\Q o H') X.xe s
def dF (t:TE):TO:=λσ H Q=>t σ H λx H1=>∃i,x=.int i/\Q (some i) H1
theorem intsAre_of {ns:List Int}:∀ {us:List AC},BZ (ns.map V.int) us->EK us ns:=by
 induction ns with
 | nil=>intro us r;rw [Hy] at r;cases r;exact .nil
 | cons n ns ih=>
  intro us r;rw [A9] at r
  cases r with
  | cons r1 r2=>
   obtain ⟨t,e⟩:=r1;subst e;exact .cons n t (ih r2)
section
variable {κ:Type} [DecidableEq κ]
def IG (kvs:List (κ×V)) (k:κ):Option V:=(kvs.find? λkv=>decide (kv.1=k)).map (·.2)
def FE (kvs:List (κ×V)) (k:κ) (v:V):List (κ×V):=
 if (kvs.any λkv=>decide (kv.1=k))=true then kvs.map (λkv=>if kv.1=k then (kv.1,v) else kv) else kvs++[(k,v)]
theorem MF {p:κ×V} {r:List (κ×V)} {k:κ} (e:p.1=k):IG (p :: r) k=some p.2:=by simp [IG,Ba,e]
theorem MH {p:κ×V} {r:List (κ×V)} {k:κ} (e:¬p.1=k):IG (p :: r) k=IG r k:=by simp [IG,Ba,e]
theorem Pu (k:κ):∀kvs:List (κ×V),(kvs.any λkv=>decide (kv.1=k))=(IG kvs k).isSome
 | []=>rfl
 | p :: r=>by
  rw [FB]
  by_cases e:p.1=k
  ·simp only [MF e,decide_eq_true e,Bool.true_or,Option.isSome_some]
  ·rw [MH e,decide_eq_false e,Zv];exact Pu k r
theorem IT (kvs:List (κ×V)) (k:κ) (v:V):(FE kvs k v).length<=kvs.length+1:=by
 unfold FE;split
 ·rw [AG];omega
 ·rw [AR,Am,Fb];omega
theorem Ky.isSome_eq {o:Option V} {u:Option AC} (r:Ky o u):o.isSome=u.isSome:=by
 cases o with
 | none=>cases u with
  | none=>rfl
  | some _=>exact (show False from r).elim
 | some _=>cases u with
  | none=>exact (show False from r).elim
  | some _=>rfl
theorem KV.val {kvs:List (κ×V)} {vs:List (κ×AC)} (r:KV kvs vs) (k:κ):Ky (IG kvs k) (NJ vs k):=by
 unfold KV at r
 induction r with
 | nil=>exact CG
 | @cons p q ps qs h t ih=>
  obtain ⟨h1,h2⟩:=h
  by_cases e:p.1=k
  ·have e':q.1=k:=h1.symm.trans e
   have b:NJ (q :: qs) k=some q.2:=by simp [NJ,Ba,e']
   rw [MF e,b];exact h2
  ·have e':¬q.1=k:=λz=>e (h1.trans z)
   have b:NJ (q :: qs) k=NJ qs k:=by simp [NJ,Ba,e']
   rw [MH e,b];exact ih
theorem KV.any {kvs:List (κ×V)} {vs:List (κ×AC)} (r:KV kvs vs) (k:κ):(kvs.any λkv=>decide (kv.1=k))=vs.any λkv=>decide (kv.1=k):=by
 unfold KV at r
 induction r with
 | nil=>rfl
 | cons h t ih=>rw [FB,FB,ih,h.1]
theorem KV.repl {kvs:List (κ×V)} {vs:List (κ×AC)} (r:KV kvs vs) (k:κ) {y:V} {u:AC} (ry:RelV y u) :
  KV (kvs.map λkv=>if kv.1=k then (kv.1,y) else kv) (vs.map λkv=>if kv.1=k then (kv.1,u) else kv):=by
 unfold KV at r ⊢
 induction r with
 | nil=>exact .nil
 | @cons p q ps qs h t ih=>
  rw [A9,A9];refine .cons ?_ ih;obtain ⟨h1,h2⟩:=h
  by_cases e:p.1=k
  ·rw [if_pos e,if_pos (h1.symm.trans e)];exact ⟨h1,ry⟩
  ·rw [if_neg e,if_neg (λz=>e (h1.trans z))];exact ⟨h1,h2⟩
theorem KV.put {kvs:List (κ×V)} {vs:List (κ×AC)} (r:KV kvs vs) (k:κ) {y:V} {u:AC} (ry:RelV y u):KV (FE kvs k y) (stored vs k u):=by
 unfold FE stored;rw [r.any k]
 by_cases e:(vs.any λkv=>decide (kv.1=k))=true
 ·rw [if_pos e,if_pos e];exact r.repl k ry
 ·rw [if_neg e,if_neg e];exact Qw r ⟨rfl,ry⟩
theorem KV.length {kvs:List (κ×V)} {vs:List (κ×AC)} (r:KV kvs vs):kvs.length=vs.length:=DK r
end
theorem OD {P:Ai} {w:A7} {k:Key} {u:AC} (r:RelV (kV k) u):(Ch P w).is k u=true:=by
 cases k with
 | inl i=>obtain ⟨t,e⟩:=(show ∃t,u=LO i t from r);subst e;exact QO P w i t
 | inr x=>obtain ⟨t,e⟩:=(show ∃t,u=LN x t from r);subst e;exact QN P w x t
theorem OE {P:Ai} {w:A7}:∀ {ks:List Key} {us:List AC},BZ (ks.map kV) us->ItemsAre (Ch P w) ks us
 | [],_,r=>by rw [Hy] at r;cases r;exact .nil
 | k :: ks,_,r=>by
  rw [A9] at r
  cases r with
  | cons h t=>exact .cons (OD h) (OE t)
abbrev KT (H:Hp):List (List Key×V)->List (List Key×AF×AC)->Prop:=El λp q=>p.1=q.1/\H q.2.1=some (.tup (p.1.map kV))/\RelV p.2 q.2.2
theorem KT.val {H:Hp} {kvs:List (List Key×V)} {xs:List (List Key×AF×AC)} (r:KT H kvs xs) (k:List Key):Ky (IG kvs k) ((Q7 xs k).map (·.2)):=by
 induction r with
 | nil=>exact CG
 | @cons p q ps qs h t ih=>
  obtain ⟨h1,_,h2⟩:=h
  by_cases e:p.1=k
  ·have e':q.1=k:=h1.symm.trans e
   have b:Q7 (q :: qs) k=some q.2:=by simp [Q7,Ba,e']
   rw [MF e,b];exact h2
  ·have e':¬q.1=k:=λz=>e (h1.trans z)
   have b:Q7 (q :: qs) k=Q7 qs k:=by simp [Q7,Ba,e']
   rw [MH e,b];exact ih
theorem KT.repl {H:Hp} {kvs:List (List Key×V)} {xs:List (List Key×AF×AC)} (r:KT H kvs xs) (k:List Key) {y:V} {u:AC} (ry:RelV y u) :
  KT H (kvs.map λkv=>if kv.1=k then (kv.1,y) else kv) (xs.map (putAt k u)):=by
 induction r with
 | nil=>exact .nil
 | @cons p q ps qs h t ih=>
  rw [A9,A9];refine .cons ?_ ih;obtain ⟨h1,h2,h3⟩:=h;unfold putAt
  by_cases e:p.1=k
  ·rw [if_pos e,if_pos (h1.symm.trans e)];exact ⟨h1,h2,ry⟩
  ·rw [if_neg e,if_neg (λz=>e (h1.trans z))];exact ⟨h1,h2,h3⟩
theorem KT.put {H:Hp} {kvs:List (List Key×V)} {xs:List (List Key×AF×AC)} (r:KT H kvs xs) (k:List Key) {b:AF} {y:V} {u:AC} (hb:H b=some (.tup (k.map kV))) (ry:RelV y u) :
  KT H (FE kvs k y) (storedH xs k b u):=by
 have e:(kvs.any λkv=>decide (kv.1=k))=(Q7 xs k).isSome:=by
  rw [Pu,(r.val k).isSome_eq,KN]
 unfold FE storedH;rw [e]
 by_cases q:(Q7 xs k).isSome=true
 ·rw [if_pos q,if_pos q];exact r.repl k ry
 ·rw [if_neg q,if_neg q];exact Qw r ⟨rfl,hb,ry⟩
theorem KT.keeps {H H':Hp} {kvs:List (List Key×V)} {xs:List (List Key×AF×AC)} (r:KT H kvs xs) (ht:∀b ys,H b=some (.tup ys)->H' b=some (.tup ys)):KT H' kvs xs:=
 El.mapP r λ_ _ z=>⟨z.1,ht _ _ z.2.1,z.2.2⟩
variable {X:Cx} {e:Expr} {te:TE} {lo hi:Option Expr} {tl th:TO} {pos p2:Pos}
theorem YK (h:PE X e te):PO X (some e) (dF te):=by
 intro pins s σ H Q I hw;rw [evalPart_some]
 refine thn (h pins s σ H _ I hw) λu s1 ⟨x,H1,I1,r1,q1⟩=>?_
 obtain ⟨i,rfl,q⟩:=q1;obtain ⟨t,rfl⟩:=r1;exact ⟨some i,H1,I1,.int i t,q⟩
def SlR (X:Cx) (r:V->Option Int->Option Int->Hp->VK->Prop):Prop:=
 ∀(pins:List (AF×Obj)) (s:AE) (σ:St) (H:Hp) (x:V) (v vl vu:AC) (lo hi:Option Int) (sl:AF) (Q:VK),Inv X pins σ H s->RelV x v->s.heap.IsSliceOf sl vl vu .none->OW vl lo->OW vu hi->r x lo hi H Q ->
  ∃T id,typeLookup (.type T) "__getitem__" = pure (some (.builtin id))/\s.TypeIs v T/\Ah (AW X.prog X.w) X.A (Kz v (.ref sl)) (EP X pins σ Q) X.xe s
theorem SlR.or {r r':V->Option Int->Option Int->Hp->VK->Prop} (h:SlR X r) (h':SlR X r'):SlR X (λx lo hi H Q=>r x lo hi H Q∨r' x lo hi H Q):=by
 intro pins s σ H x v vl vu lo hi sl Q I rx hs pl pu q
 rcases q with q | q
 ·exact h pins s σ H x v vl vu lo hi sl Q I rx hs pl pu q
 ·exact h' pins s σ H x v vl vu lo hi sl Q I rx hs pl pu q
def tSl (r:V->Option Int->Option Int->Hp->VK->Prop) (te:TE) (tl th:TO):TE:=λσ H Q=>te σ H λx H1=>tl σ H1 λl H2=>th σ H2 λu H3=>r x l u H3 Q
theorem Vt {r:V->Option Int->Option Int->Hp->VK->Prop} (hr:SlR X r) (he:PE X e te) (hl:PO X lo tl) (hu:PO X hi th):PE X (.Subscript e (.Slice lo hi none p2) pos) (tSl r te tl th):=by
 intro pins s σ H Q I h;refine Zo (thn (he pins s σ H _ I h) λv s1 ⟨x,H1,I1,r1,q1⟩=>?_);refine wpAny_Slice (thn (hl pins s1 σ H1 _ I1 q1) λvl s2 ⟨l,H2,I2,pl,q2⟩=>thn (hu pins s2 σ H2 _ I2 q2) λvu s3 ⟨u,H3,I3,pu,q3⟩=>?_);rw [evalPart_none];refine AH ?_
 have I4:Inv X pins σ H3 { s3 with heap:=s3.heap.push { cls:=.type "slice",data:=.fields #[vl,vu,.none] } }:=I3.kept (t':=s3.toks) λb ob q=>AM _ q
 obtain ⟨T,id,hT,ht,hg⟩:=hr pins { s3 with heap:=s3.heap.push { cls:=.type "slice",data:=.fields #[vl,vu,.none] } } σ H3 x v vl vu l u s3.heap.objs.size Q I4 r1 (cg ..) pl pu q3;show Ah (AW X.prog X.w) X.A (TM e (.Slice lo hi none p2) v (.ref s3.heap.objs.size)) (EP X pins σ Q) X.xe { s3 with heap:=s3.heap.push { cls:=.type "slice",data:=.fields #[vl,vu,.none] } };exact tail_any (ops:=[.ref s3.heap.objs.size,v]) ht hT hg (by with_unfolding_all rfl)
def M4 (xs:List V) (lo hi:Option Int):List V:=(xs.drop (HT.sIx xs.length 0 lo)).take (HT.sIx xs.length xs.length hi - HT.sIx xs.length 0 lo)
theorem LK (xs:List V) (lo hi:Option Int):(M4 xs lo hi).length<=xs.length:=by
 unfold M4;rw [CH,Bs];omega
def rSlT (K:AA):V->Option Int->Option Int->Hp->VK->Prop:=λx lo hi H Q=>∃a xs,x=.ref a/\SqT K H a xs /\
 ¬(HT.sIx xs.length 0 lo=0/\HT.sIx xs.length xs.length hi=xs.length)/\∀p,H p=none->Q (.ref p) (upd H p (.tup (M4 xs lo hi)))
theorem aM:SlR X (rSlT X.K):=by
 intro pins s σ H x v vl vu lo hi sl Q I rx hs pl pu h;obtain ⟨a,xs,rfl,hx,hw,q⟩:=h;cases rx;obtain ⟨its,r,ht,hz⟩:=I.tuple hx
 have hlen:its.toArray.size=xs.length:=by rw [Aa];exact r.length.symm
 refine ⟨"tuple",_,EB.lookup,ht.typeIs,?_⟩;refine HT.KF ht hs pl pu (by rw [hlen];exact hw) ?_ (by rw [hlen];exact hz);rw [hlen];refine ⟨.ref s.heap.objs.size,_,I.laid (t':=s.toks) (o:=.tup (M4 xs lo hi)) (λb ob q=>AM _ q) (AQ _) ?_,rfl,q _ (I.hok.fresh (AQ _))⟩;exact ⟨Ao (LK xs lo hi) hz,_,(r.drop (HT.sIx xs.length 0 lo)).take (HT.sIx xs.length xs.length hi - HT.sIx xs.length 0 lo),Uy _ _⟩
def da (K:AA):R2:=λx y H Q=>∃a b xs ys,x=.ref a/\y=.ref b/\SqT K H a xs/\SqT K H b ys/\xs≠[]/\xs.length+ys.length<=sizeLine /\
 (ys=[]->Q (.ref a) H)/\(ys≠[]->∀p,H p=none->Q (.ref p) (upd H p (.tup (xs++ys))))
theorem BZ.nil_iff {xs:List V} {us:List AC} (r:BZ xs us):us=[]↔xs=[]:=by
 cases r with
 | nil=>simp
 | cons _ _=>simp
theorem Ya:OpR X (Ci .Add) (da X.K):=by
 intro pins s σ H x y v u Q I rx ry h;obtain ⟨a,b,xs,ys,rfl,rfl,ha,hb,hx,hz,q1,q2⟩:=h;cases rx;cases ry;obtain ⟨its,r1,p1,_⟩:=I.tuple ha;obtain ⟨its2,r2,p2,_⟩:=I.tuple hb;refine HT.ZD p1 p2 (λz=>hx (r1.nil_iff.mp z)) (λz=>⟨.ref a,H,I,rfl,q1 (r2.nil_iff.mp z)⟩) (λz=>?_) (by rw [<-r1.length,<-r2.length];exact hz);refine ⟨.ref s.heap.objs.size,_,I.laid (t':=s.toks) (o:=.tup (xs++ys)) (λb ob q=>AM _ q) (AQ _) ?_,rfl,q2 (λw=>z (r2.nil_iff.mpr w)) _ (I.hok.fresh (AQ _))⟩;exact ⟨by rw [AR];exact hz,_,r1.append r2,Uy _ _⟩
end L2
namespace L2
open PySem PySem.Spec PyProof.Rows
def ixN (n:Nat) (i:Int):Option Nat:=if 0<=i then (if i < n then some i.toNat else none) else if -(n:Int)<=i then some (i+n).toNat else none
def atI {α:Type} (xs:List α) (i:Int):Option α:=(ixN xs.length i).bind λj=>xs[j]?
theorem Ym {n:Nat} {i:Int} {j:Nat} (h:ixN n i=some j):seqIndex? i n=some j/\j < n/\-(n:Int)<=i/\i < n:=by
 unfold ixN at h
 by_cases h0:0<=i
 ·rw [if_pos h0] at h
  by_cases h1:i < n
  ·rw [if_pos h1] at h
   have e:i.toNat=j:=Cf h;exact ⟨by rw [seqIndex_of h0 h1,e],by omega,by omega,h1⟩
  ·rw [if_neg h1] at h;cases h
 ·rw [if_neg h0] at h
  by_cases h1:-(n:Int)<=i
  ·rw [if_pos h1] at h
   have e:(i+n).toNat=j:=Cf h;exact ⟨by rw [seqIndex_neg (by omega) h1,e],by omega,h1,by omega⟩
  ·rw [if_neg h1] at h;cases h
theorem TJ {α:Type} {xs:List α} {i:Int} {v:α} (h:atI xs i=some v):∃j,seqIndex? i xs.length=some j/\xs[j]?=some v/\j < xs.length/\-(xs.length:Int)<=i/\i < xs.length:=by
 unfold atI at h
 cases e:ixN xs.length i with
 | none=>rw [e] at h;cases h
 | some j=>
  rw [e] at h;obtain ⟨h1,h2,h3,h4⟩:=Ym e;exact ⟨j,h1,h,h2,h3,h4⟩
def PX (b:Expr):Prop:=∀o i,PY b false o i=operate [o,i] (Kz o i)
def IxR (X:Cx) (r:R2):Prop:=
 ∀(value slice:Expr) (pins:List (AF×Obj)) (s:AE) (σ:St) (H:Hp) (x y:V) (v u:AC) (Q:VK),Inv X pins σ H s->RelV x v->RelV y u->r x y H Q ->
  PY slice false v u=operate [v,u] (Kz v u)->Ah (AW X.prog X.w) X.A (TM value slice v u) (EP X pins σ Q) X.xe s
def MtR (X:Cx) (id:String) (r:V->List V->Hp->VK->Prop):Prop:=
 ∀(pins:List (AF×Obj)) (s:AE) (σ:St) (H:Hp) (x:V) (xs:List V) (v:AC) (us:List AC) (Q:VK),Inv X pins σ H s->RelV x v->BZ xs us->r x xs H Q ->
  Ah (AW X.prog X.w) X.A (call (.builtin id) (v :: us)) (EP X pins σ Q) X.xe s
section
variable {P:Ai} {w:A7} {H:Hp} {h:BY} {a:AF}
theorem ZT {u:HO} (ok:HOk P w H h) (e:Rd H a u):CD P w H h a u:=e.ok ok
theorem OH {kvs:List (Key×V)} (ok:HOk P w H h) (e:Rd H a (.dK kvs)):kvs.length<=sizeLine/\(a==Ca)=false/\∃vs,KV kvs vs/\h.DictOf (Ch P w) a vs:=
 show CD P w H h a (.dK kvs) from ZT ok e
theorem TB {kvs:List (Key×V)} (ok:HOk P w H h) (e:H a=some (.dK kvs)):kvs.length<=sizeLine/\(a==Ca)=false/\∃vs,KV kvs vs/\h.DictOf (Ch P w) a vs:=OH ok (.inl e)
theorem Mp {ks:List Key} (ok:HOk P w H h) (e:H a=some (.tup (ks.map kV))):(OQ (Ch P w)).is h ks a:=by
 obtain ⟨_,its,r,o,h1,h2,n,h3⟩:=(show CD P w H h a (.tup (ks.map kV)) from ok a _ e);exact ⟨o,its.toArray,n,h1,h2,h3,by simpa using OE r⟩
theorem OG {kvs:List (List Key×V)} (ok:HOk P w H h) (e:Rd H a (.dT kvs)):kvs.length<=sizeLine/\(a==Ca)=false /\
  ∃xs,KT H kvs xs/\h.DictOfH (OQ (Ch P w)) a xs:=by
 obtain ⟨z,y,xs,r,o,es,ep,h1,h2,h3,h4,h5⟩:=(show CD P w H h a (.dT kvs) from ZT ok e);refine ⟨z,y,xs,r,o,es,ep,h1,h2,h3,h4,λx hx=>?_,h5⟩
 have all:∀ {l:List (List Key×V)} {m:List (List Key×AF×AC)},KT H l m->∀x∈m,(OQ (Ch P w)).is h x.1 x.2.1:=by
  intro l m q
  induction q with
  | nil=>intro x hx;exact nomatch hx
  | @cons p q ps qs hq t ih=>
   intro x hx
   rcases Ap.mp hx with e | hx
   ·subst e
    exact Mp ok (by rw [<-hq.1];exact hq.2.1)
   ·exact ih x hx
 exact all r x hx
theorem eg {kvs:List (List Key×V)} (ok:HOk P w H h) (e:H a=some (.dT kvs)):kvs.length<=sizeLine/\(a==Ca)=false /\
  ∃xs,KT H kvs xs/\h.DictOfH (OQ (Ch P w)) a xs:=OG ok (.inl e)
end
def KM (H:Hp) (a:AF) (y:V) (r:Option V):Prop:=
 (∃kvs k,Rd H a (.dK kvs)/\y=kV k/\r=IG kvs k)∨∃kvs k b,Rd H a (.dT kvs)/\y=.ref b/\H b=some (.tup (k.map kV))/\r=IG kvs k
def Qq (H:Hp) (a:AF) (y v:V) (H':Hp):Prop:=
 (∃kvs k,H a=some (.dK kvs)/\y=kV k/\kvs.length < sizeLine/\H'=upd H a (.dK (FE kvs k v))) ∨
 ∃kvs k b,H a=some (.dT kvs)/\y=.ref b/\H b=some (.tup (k.map kV))/\kvs.length < sizeLine/\H'=upd H a (.dT (FE kvs k v))
theorem KM.k {H:Hp} {a:AF} {kvs:List (Key×V)} {k:Key} (e:H a=some (.dK kvs)):KM H a (kV k) (IG kvs k):=.inl ⟨kvs,k,.inl e,rfl,rfl⟩
theorem KM.t {H:Hp} {a b:AF} {kvs:List (List Key×V)} {k:List Key} (e:H a=some (.dT kvs)) (eb:H b=some (.tup (k.map kV))):KM H a (.ref b) (IG kvs k):=.inr ⟨kvs,k,b,.inl e,rfl,eb,rfl⟩
theorem Qq.k {H:Hp} {a:AF} {kvs:List (Key×V)} {k:Key} {v:V} (e:H a=some (.dK kvs)) (hl:kvs.length < sizeLine):Qq H a (kV k) v (upd H a (.dK (FE kvs k v))):=.inl ⟨kvs,k,e,rfl,hl,rfl⟩
theorem Qq.t {H:Hp} {a b:AF} {kvs:List (List Key×V)} {k:List Key} {v:V} (e:H a=some (.dT kvs)) (eb:H b=some (.tup (k.map kV))) (hl:kvs.length < sizeLine) :
  Qq H a (.ref b) v (upd H a (.dT (FE kvs k v))):=.inr ⟨kvs,k,b,e,rfl,eb,hl,rfl⟩
variable {X:Cx} {a b:Expr} {ta tb:TE} {pos:Pos}
theorem IxR.or {r r':R2} (h:IxR X r) (h':IxR X r'):IxR X (λx y H Q=>r x y H Q∨r' x y H Q):=by
 intro value slice pins s σ H x y v u Q I rx ry q hs
 rcases q with q | q
 ·exact h value slice pins s σ H x y v u Q I rx ry q hs
 ·exact h' value slice pins s σ H x y v u Q I rx ry q hs
theorem dh {r:R2} (hr:IxR X r) (ha:PE X a ta) (hb:PE X b tb) (hs:PX b):PE X (.Subscript a b pos) (tOp r ta tb):=by
 intro pins s σ H Q I h;exact Zo (cH ha hb I h λv u s2 x y H2 I2 rx ry q=>hr a b pins s2 σ H2 x y v u Q I2 rx ry q (hs _ _))
def rIxL (K:AA):R2:=λx y H Q=>∃p xs i v,x=.ref p/\y=.int i/\SqL K H p xs/\atI xs i=some v/\Q v H
def rIxT (K:AA):R2:=λx y H Q=>∃p xs i v,x=.ref p/\y=.int i/\SqT K H p xs/\atI xs i=some v/\Q v H
theorem ix_list:IxR X (rIxL X.K):=by
 intro value slice pins s σ H x y v u Q I rx ry h hs;obtain ⟨p,xs,i,z,rfl,rfl,hq,he,q⟩:=h;cases rx;obtain ⟨t,rfl⟩:=ry;obtain ⟨its,r,pl,hz⟩:=I.list hq;obtain ⟨j,h1,h2,h3,h4,h5⟩:=TJ he;obtain ⟨w,ew,rw'⟩:=r.get h2;have hl:=r.length;have hn:=O2;have fin:EP X pins σ Q w s:=⟨z,H,I,rw',q⟩
 by_cases h0:0<=i
 ·have hj:i.toNat=j:=by
   rw [seqIndex_of h0 h5] at h1;exact Cf h1
  exact item_listR pl.isList h0 (by omega) (by rw [hj];simpa using ew) fin hs
 ·have hj:(i+(its.toArray.size:Int)).toNat=j:=by
   rw [seqIndex_neg (by omega) h4] at h1;rw [Aa,<-hl];exact Cf h1
  exact Uq (x:=w) pl.isList.typeIs cT.lookup
   (wpAny_getItem_list_neg (Q:=λr s'=>r=w/\EP X pins σ Q r s') pl.isList (by omega) (by rw [Aa] <;> omega) (by omega) (by rw [hj];simpa using ew) ⟨rfl,fin⟩) hs
theorem bP:IxR X (rIxT X.K):=by
 intro value slice pins s σ H x y v u Q I rx ry h hs;obtain ⟨p,xs,i,z,rfl,rfl,hq,he,q⟩:=h;cases rx;obtain ⟨t,rfl⟩:=ry;obtain ⟨its,r,pl,hz⟩:=I.tuple hq;obtain ⟨j,h1,h2,h3,h4,h5⟩:=TJ he;obtain ⟨w,ew,rw'⟩:=r.get h2;have hl:=r.length;have hn:=O2;have fin:EP X pins σ Q w s:=⟨z,H,I,rw',q⟩
 exact Uq (x:=w) pl.typeIs slot_tuple_getitem.lookup
  (getItem_tuple (j:=j) (Q:=λr s'=>r=w/\EP X pins σ Q r s') pl (by omega) (by omega) (by rw [Aa,<-hl];exact h1) (by simpa using ew) ⟨rfl,fin⟩) hs
theorem Oh (lo hi:Option Int) (n:Nat):(GN lo hi none n).1=((HT.sIx n 0 lo:Nat):Int)/\(GN lo hi none n).2.1=((HT.sIx n n hi:Nat):Int)/\(GN lo hi none n).2.2=1:=by
 refine ⟨?_,?_,rfl⟩
 ·cases lo with
  | none=>simp [GN,HT.sIx]
  | some i=>
   simp only [GN,HT.sIx,Ul,show (1:Int) > 0 by decide,if_true]
   by_cases h:i < 0
   ·simp only [h,if_true] <;> omega
   ·simp only [h,if_false] <;> omega
 ·cases hi with
  | none=>simp [GN,HT.sIx]
  | some i=>
   simp only [GN,HT.sIx,Ul,show (1:Int) > 0 by decide,if_true]
   by_cases h:i < 0
   ·simp only [h,if_true] <;> omega
   ·simp only [h,if_false] <;> omega
theorem NW (its:List AC) (lo hi:Option Int):slicePick its.toArray lo hi none=((its.drop (HT.sIx its.length 0 lo)).take (HT.sIx its.length its.length hi - HT.sIx its.length 0 lo)).toArray:=by
 obtain ⟨h1,h2,h3⟩:=Oh lo hi its.toArray.size;unfold slicePick;rw [h1,h2,h3]
 simp only [sliceRange_one,pick_run,Aa] <;> rfl
def dY (K:AA):V->Option Int->Option Int->Hp->VK->Prop:=λx lo hi H Q=>∃a xs,x=.ref a/\SqL K H a xs/\∀p,H p=none->Q (.ref p) (upd H p (.lst (M4 xs lo hi)))
theorem Xy:SlR X (dY X.K):=by
 intro pins s σ H x v vl vu lo hi sl Q I rx hs pl pu h;obtain ⟨a,xs,rfl,hx,q⟩:=h;cases rx;obtain ⟨its,r,ht,hz⟩:=I.list hx;have hlen:=r.length;refine ⟨"list",_,cT.lookup,ht.isList.typeIs,?_⟩;refine wpAny_getItem_list_slice ht.isList hs pl pu .none (by simp) ?_ (by rw [Aa] <;> omega);rw [NW,<-hlen];refine ⟨.ref s.heap.objs.size,_,I.laid (t':=s.toks) (o:=.lst (M4 xs lo hi)) (λb ob q=>AM _ q) (AQ _) ?_,rfl,q _ (I.hok.fresh (AQ _))⟩;exact ⟨Ao (LK xs lo hi) hz,_,0,(r.drop (HT.sIx xs.length 0 lo)).take (HT.sIx xs.length xs.length hi - HT.sIx xs.length 0 lo),A5 _ rfl⟩
theorem PP:Gi X (.builtin "len") (λxs H Q=>∃p ys,xs=[.ref p]/\(SqL X.K H p ys∨SqT X.K H p ys)/\Q (.int ys.length) H):=by
 intro pins s σ H xs us Q I r h;obtain ⟨p,ys,rfl,hq,q⟩:=h;obtain ⟨u,rfl,rx⟩:=vals1 r;cases rx;have hn:=O2
 rcases hq with hq | hq
 ·obtain ⟨its,r',pl,hz⟩:=I.list hq
  have hlen:=r'.length;exact Calls.call_len_list pl.isList (by simp only [Aa] <;> omega) ⟨.int ys.length,H,I.tok _,⟨s.toks+1,by rw [Aa,hlen]⟩,q⟩
 ·obtain ⟨its,r',pl,hz⟩:=I.tuple hq
  have hlen:=r'.length;exact len_tuple pl (by simp only [Aa] <;> omega) ⟨.int ys.length,H,I.tok _,⟨s.toks+1,by rw [Aa,hlen]⟩,q⟩
theorem PN:Gi X (.type "list") (λxs H Q=>∃p ys,xs=[.ref p]/\(SqL X.K H p ys∨SqT X.K H p ys)/\∀l,H l=none->Q (.ref l) (upd H l (.lst ys))):=by
 intro pins s σ H xs us Q I r h;obtain ⟨p,ys,rfl,hq,q⟩:=h;obtain ⟨u,rfl,rx⟩:=vals1 r;cases rx
 have fin:∀(its:List AC),BZ ys its->ys.length<=sizeLine->∀(h':BY) (c':Nat),(∀b o',s.heap.get? b=some o'->h'.get? b=some o') ->
   h'.get? s.heap.objs.size=some { cls:=.type "list",dict:=none,data:=.seq its.toArray c',slots:=#[] }->EP X pins σ Q (.ref s.heap.objs.size) { s with heap:=h' }:=λits r' hz h' c' kp e=>
  ⟨.ref s.heap.objs.size,_,I.laid (t':=s.toks) kp (AQ _) (show CD X.prog X.w _ h' _ (.lst ys) from ⟨hz,its,c',r',e⟩),rfl,q _ (I.hok.fresh (AQ _))⟩
 rcases hq with hq | hq
 ·obtain ⟨its,r',pl,hz⟩:=I.list hq
  have hlen:=r'.length;obtain ⟨o,ho,hc,n,hd⟩:=pl.isList;exact call_list_seq p (.inl rfl) ho hc hd (λh' c' kp e=>fin its r' hz h' c' kp e) (by simp only [Aa] <;> omega)
 ·obtain ⟨its,r',pl,hz⟩:=I.tuple hq
  have hlen:=r'.length;obtain ⟨o,ho,hc,n,hd⟩:=pl;exact call_list_seq p (.inr rfl) ho hc hd (λh' c' kp e=>fin its r' hz h' c' kp e) (by simp only [Aa] <;> omega)
theorem Ni:Gi X (.type "tuple") (λxs H Q=>∃p ys,xs=[.ref p]/\((SqL X.K H p ys/\∀l,H l=none->Q (.ref l) (upd H l (.tup ys)))∨(SqT X.K H p ys/\Q (.ref p) H))):=by
 intro pins s σ H xs us Q I r h;obtain ⟨p,ys,rfl,h⟩:=h;obtain ⟨u,rfl,rx⟩:=vals1 r;cases rx
 rcases h with ⟨hq,q⟩ | ⟨hq,q⟩
 ·obtain ⟨its,r',pl,hz⟩:=I.list hq
  have hlen:=r'.length;refine call_tuple_list pl.isList (λh' kp=>?_) (by simp only [Aa] <;> omega);have I1:Inv X pins σ H { s with heap:=h' }:=I.kept (t':=s.toks) kp
  have I2:Inv X pins σ (upd H h'.objs.size (.tup ys)) { s with heap:=h'.push { cls:=.type "tuple",data:=.seq its.toArray } }:=
   I1.laid (t':=s.toks) (λb o e=>AM _ e) (AQ _) (show CD X.prog X.w _ _ _ (.tup ys) from ⟨hz,its,r',Uy _ _⟩)
  exact ⟨.ref h'.objs.size,_,I2,rfl,q _ (I1.hok.fresh (AQ _))⟩
 ·obtain ⟨its,r',pl,hz⟩:=I.tuple hq
  exact call_tuple_same pl ⟨.ref p,H,I,rfl,q⟩
def tyV (K:AA) (T:String) (x:V) (H:Hp):Prop:=match x with
 | .str _=>T = "str"
 | .int _=>T = "int"
 | .ref p=>(T = "list"/\∃xs,SqL K H p xs)∨(T = "tuple"/\∃o,K.lookup p=some o/\o.cls=.type "tuple"/\o.dict=none) ∨
   (T = "dict"/\((∃kvs,H p=some (.dK kvs))∨∃kvs,H p=some (.dT kvs)))∨(T = "set"/\∃S n,H p=some (.set S n))
 | _=>False
theorem aA {pins:List (AF×Obj)} {σ:St} {H:Hp} {s:AE} {T:String} {x:V} {v:AC} (I:Inv X pins σ H s) (r:RelV x v) (ty:tyV X.K T x H) :
  s.TypeIs v T/\∀a,v=.ref a->∃ob,s.heap.get? a=some ob/\ob.dict=none:=by
 cases x with
 | str z=>
  obtain ⟨t,rfl⟩:=r;cases (show T = "str" from ty);exact ⟨typeIs_str s z t,λ_ e=>nomatch e⟩
 | int i=>
  obtain ⟨t,rfl⟩:=r;cases (show T = "int" from ty);exact ⟨typeIs_int s i t,λ_ e=>nomatch e⟩
 | ref p=>
  cases r
  rcases ty with ⟨rfl,xs,hq⟩ | ⟨rfl,o,hk,hc,hd⟩ | ⟨rfl,hk⟩ | ⟨rfl,S,n,hk⟩
  ·obtain ⟨its,_,pl,_⟩:=I.list hq
   refine ⟨pl.isList.typeIs,λa e=>?_⟩;cases e;obtain ⟨o,n,e,c,hd,_⟩:=pl;exact ⟨o,e,hd⟩
  ·refine ⟨⟨o,I.kIn p o hk,hc⟩,λa e=>?_⟩
   cases e;exact ⟨o,I.kIn _ o hk,hd⟩
  ·have z:∃o,s.heap.get? p=some o/\o.ExactDict:=by
    rcases hk with ⟨kvs,hk⟩ | ⟨kvs,hk⟩
    ·obtain ⟨_,_,_,_,o,_,_,e,ex,_⟩:=I.hok p _ hk
     exact ⟨o,e,ex⟩
    ·obtain ⟨_,_,_,_,o,_,_,e,ex,_⟩:=I.hok p _ hk
     exact ⟨o,e,ex⟩
   obtain ⟨o,e,ex⟩:=z;refine ⟨⟨o,e,ex.1⟩,λa e2=>?_⟩;cases e2;exact ⟨o,e,ex.2.1⟩
  ·obtain ⟨o,_,_,_,e,ex,_⟩:=I.hok p _ hk
   refine ⟨⟨o,e,ex.1⟩,λa e2=>?_⟩;cases e2;exact ⟨o,e,ex.2.1⟩
 | _=>exact Cw ty
def tBM (K:AA) (T:String) (r:V->List V->Hp->VK->Prop) (to:TE) (t:TA):TE:=λσ H Q=>to σ H λx H1=>tyV K T x H1/\t σ H1 λxs H2=>r x xs H2 Q
variable {o e:Expr} {es:List Expr} {to:TE} {t:TA} {name:Str} {apos cpos:Pos} {T id:String} {r:V->List V->Hp->VK->Prop}
theorem Vw (pa:PlainAttrs T) (slot:Slot T name id) (hty:typeOf (.builtin id)=pure (.type "method_descriptor")) (hm:MtR X id r) (ho:PE X o to) (ha:PA X (e :: es) t)
  (hbase:Dw o name X.env (Bh o X.env)=Bh o X.env:=by rfl)
  (hfew:((Cb cpos (AO (e :: es) X.env)).all (λx=>!x.1)&&(Q6 cpos (KQ [] X.env)).all (λx=>x.1.isSome)
    &&decide ((e :: es).length+([]:List G4).length+(if ([]:List G4).isEmpty then 0 else 1) < 30))=true:=by rfl)
  (hline:(apos.endLine==cpos.line)=true:=by rfl) (hs:AO (e :: es) X.env=(false,Bh e X.env) :: AO es X.env:=by rfl) (hplain:(Cb cpos (AO es X.env)).any (·.1)=false:=by rfl) :
  PE X (.Call (.Attribute o name apos) (e :: es) [] cpos) (tBM X.K T r to t):=by
 intro pins s σ H Q I h;refine wpAny_Call_method_late hbase hfew hline rfl (thn (ho pins s σ H _ I h) λv s1 ⟨x,H1,I1,r1,ty,q1⟩=>?_);obtain ⟨h1,h2⟩:=aA I1 r1 ty;refine ⟨T,id,pa,slot,hty,h1,h2,?_⟩;have hA:=ha cpos pins s1 σ H1 _ I1 q1;rw [hs] at hA ⊢;refine Pl (by show (false||(Cb cpos (AO es X.env)).any (·.1))=false;rw [hplain] <;> rfl) (Iy ?_)
 exact thn hA λus s2 ⟨vs,H2,I2,r2,q2⟩=>hm pins s2 σ H2 x vs v us Q I2 r1 r2 q2
/- xs.append(e),list.index on a module's tuple .. are MtR facts of 06m -/
end L2
namespace L2
open PySem PySem.Spec PyProof.Rows
def MtM (X:Cx) (id:String) (r:V->List V->Hp->VK->Prop):Prop:=
 ∀(pins:List (AF×Obj)) (s:AE) (σ:St) (H:Hp) (x:V) (xs:List V) (v:AC) (us:List AC) (Q:VK),Inv X pins σ H s->RelV x v->BZ xs us->r x xs H Q ->
  Ah (AW X.prog X.w) X.A (call (.builtin id) (v :: us)) (EP X pins σ Q) X.xe s
theorem BZ.one:∀ {x:V} {us:List AC},BZ [x] us->∃u,us=[u]/\RelV x u
 | _,_,.cons r .nil=>⟨_,rfl,r⟩
section
variable {X:Cx} {pins:List (AF×Obj)} {σ:St} {H:Hp} {s:AE} {a:AF} {y v:V} {u r:AC} {o:Option V} {A:A2} {E:AC->AE->Prop}
theorem Inv.big (I:Inv X pins σ H s):Ca < s.heap.objs.size:=by
 have h:Ac < s.heap.objs.size:=(I.mod.glob.keeps I.bk).lt;exact cw (by decide) h
theorem UU {Q:AC->AE->Prop} (hu:A.units+1 < D0) (I:Inv X pins σ H s) (g:KM H a y (some v)) (ry:RelV y u) (h:∀w' s',Inv X pins σ H s'->RelV v w'->Q w' s') :
  Ah (AW X.prog X.w) A (Kz (.ref a) u) Q E s:=by
 rcases g with ⟨kvs,k,e,ey,l⟩ | ⟨kvs,k,b,e,ey,eb,l⟩
 ·subst ey
  obtain ⟨z,hd,vs,rel,dd⟩:=OH I.hok e;obtain ⟨w',hw,rw'⟩:=Ky.some_of (v:=v) (o:=NJ vs k) (by rw [l];exact rel.val k);exact wpAny_getItem_of (OD ry) dd.mapOf hw (h w' _ (I.tok _) rw')
 ·subst ey
  cases (show u=Ak b from ry);obtain ⟨z,hd,xs,rel,dd⟩:=OG I.hok e;obtain ⟨w',hw,rw'⟩:=Ky.some_of (v:=v) (o:=(Q7 xs k).map (·.2)) (by rw [l];exact rel.val k);obtain ⟨p,hp,hp2⟩:=Option.map_eq_some_iff.mp hw;refine wpAny_getItem_heap (HH hu) (Mp I.hok eb) dd hp ?_;rw [hp2];exact h w' _ (I.tok _) rw'
theorem d_in {Q:AC->AE->Prop} (hu:A.units+1 < D0) (I:Inv X pins σ H s) (g:KM H a y o) (ry:RelV y u) (h:∀s',Inv X pins σ H s'->Q (.bool o.isSome) s') :
  Ah (AW X.prog X.w) A (Bg .In u (.ref a)) Q E s:=by
 rcases g with ⟨kvs,k,e,ey,l⟩ | ⟨kvs,k,b,e,ey,eb,l⟩
 ·subst ey
  obtain ⟨z,hd,vs,rel,dd⟩:=OH I.hok e;refine wpAny_in_of (OD ry) hd dd.mapOf ?_;rw [<-(rel.val k).isSome_eq,<-l];exact h _ (I.tok _)
 ·subst ey
  cases (show u=Ak b from ry);obtain ⟨z,hd,xs,rel,dd⟩:=OG I.hok e;refine wpAny_in_heap (HH hu) (Mp I.hok eb) hd dd ?_;have q:=(rel.val k).isSome_eq;rw [KN] at q;rw [<-q,<-l];exact h _ (I.tok _)
theorem ZB {Q:AC->AE->Prop} (hu:A.units+1 < D0) (I:Inv X pins σ H s) (g:KM H a y o) (ry:RelV y u) (h:∀s',Inv X pins σ H s'->Q (.bool (!o.isSome)) s') :
  Ah (AW X.prog X.w) A (Bg .NotIn u (.ref a)) Q E s:=by
 rcases g with ⟨kvs,k,e,ey,l⟩ | ⟨kvs,k,b,e,ey,eb,l⟩
 ·subst ey
  obtain ⟨z,hd,vs,rel,dd⟩:=OH I.hok e;refine wpAny_notIn_of (OD ry) hd dd.mapOf ?_;rw [<-(rel.val k).isSome_eq,<-l];exact h _ (I.tok _)
 ·subst ey
  cases (show u=Ak b from ry);obtain ⟨z,hd,xs,rel,dd⟩:=OG I.hok e;refine wpAny_notIn_heap (HH hu) (Mp I.hok eb) hd dd ?_;have q:=(rel.val k).isSome_eq;rw [KN] at q;rw [<-q,<-l];exact h _ (I.tok _)
theorem Ls {h':BY} {t':Nat} {ob:HO} (I:Inv X pins σ H s) (mu:Mut (H a)) (hs:GK a s.heap h') (he:∃q,h'.get? a=some q) (new:CD X.prog X.w (upd H a ob) h' a ob) :
  Inv X pins σ (upd H a ob) { s with heap:=h',toks:=t' }:=
 I.write (x:=a) (e:=a) mu (.inl rfl) (λb q hb z=>(hs.2 b hb).trans z) he new
theorem R8 {P:Ai} {w:A7} {H':Hp} {h':BY} {kvs:List (Key×V)} {vs:List (Key×AC)} (z:kvs.length<=sizeLine) (hd:(a==Ca)=false) (rel:KV kvs vs) (dd:h'.DictOf (Ch P w) a vs) :
  CD P w H' h' a (.dK kvs):=⟨z,hd,vs,rel,dd⟩
theorem UT {H':Hp} {Q:Unit->AE->Prop} (hu:A.units+1 < D0) (I:Inv X pins σ H s) (g:Qq H a y v H') (ry:RelV y u) (rv:RelV v r) (h:∀s',Inv X pins σ H' s'->Q () s') :
  Ah (AW X.prog X.w) A (setItem (.ref a) u r) Q E s:=by
 rcases g with ⟨kvs,k,e,ey,l,eH⟩ | ⟨kvs,k,b,e,ey,eb,l,eH⟩
 ·subst ey eH
  obtain ⟨z,hd,vs,rel,dd⟩:=TB I.hok e
  have hz:vs.length<=sizeLine:=by rw [<-rel.length];exact z
  have hl:(FE kvs k v).length<=sizeLine:=by have:=IT kvs k v;omega
  refine wpAny_setItem_pairs (hsz:=hz) (OD ry) dd λh' dd' hs=>h _ ?_
  have he:∃q,h'.get? a=some q:=let ⟨q,_,_,hq,_⟩:=dd';⟨q,hq⟩
  exact Ls I (by rw [e];exact CG) hs he (R8 hl hd (rel.put k rv) dd')
 ·subst ey eH
  cases (show u=Ak b from ry);obtain ⟨z,hd,xs,rel,dd⟩:=eg I.hok e
  have hz:xs.length<=sizeLine:=by rw [<-DK rel];exact z
  have hl:(FE kvs k v).length<=sizeLine:=by have:=IT kvs k v;omega
  refine wpAny_setItem_heap (hsz:=hz) (HH hu) (Mp I.hok eb) dd λh' dd' hs=>h _ ?_
  obtain ⟨q,es,ep,hq,h2,h3,h4,_,h5⟩:=dd';refine Ls I (by rw [e];exact CG) hs ⟨q,hq⟩ ⟨hl,hd,_,(rel.put k eb rv).keeps λc ys ec=>?_,q,es,ep,hq,h2,h3,h4,h5⟩;rw [BU (eC ec e (λz=>nomatch z))];exact ec
variable {X:Cx} {pins:List (AF×Obj)} {σ:St} {H:Hp} {s:AE} {l b:AF} {xs ys zs:List V}
theorem Inv.lset {its its':List AC} {n:Nat} {f:Array AC->Array AC} {t':Nat} (I:Inv X pins σ H s) (hH:H l=some (.lst xs))
  (e:s.heap.get? l=some { cls:=.type "list",data:=.seq its.toArray n }) (hf:f its.toArray=its'.toArray) (hv:BZ ys its') (hz:ys.length<=sizeLine) :
  Inv X pins σ (upd H l (.lst ys)) { s with heap:=s.heap.update l (Gn f),toks:=t' }:=by
 have q:=PySem.IsL.update e f;rw [hf] at q;refine I.write (x:=l) (e:=l) (by rw [hH];exact trivial) (.inl rfl) (λb' u hb hu=>(DJ s.heap (Gn f) (Bv hb)).trans hu) ⟨_,q⟩ ?_;exact ⟨hz,its',_,hv,q⟩
theorem Inv.lnew {its:List AC} {t':Nat} (I:Inv X pins σ H s) (hv:BZ ys its) (hz:ys.length<=sizeLine) :
  Inv X pins σ (upd H s.heap.objs.size (.lst ys)) { s with heap:=s.heap.push { cls:=.type "list",data:=.seq its.toArray },toks:=t' }:=
 I.laid (λ_ _ q=>AM _ q) (AQ _) ⟨hz,its,0,hv,A5 _ rfl⟩
theorem Inv.fresh (I:Inv X pins σ H s):H s.heap.objs.size=none:=I.hok.fresh (AQ _)
theorem Inv.lstM (I:Inv X pins σ H s) (hH:H l=some (.lst xs)):xs.length<=sizeLine/\∃(its:List AC) (n:Nat),BZ xs its/\xs.length=its.length/\s.heap.get? l=some { cls:=.type "list",data:=.seq its.toArray n }:=by
 obtain ⟨z,its,n,r,e⟩:=I.hok l _ hH;exact ⟨z,its,n,r,r.length,e⟩
theorem V4 {n:Nat} (h:n<=sizeLine):Fc n=false:=by
 unfold Fc;exact decide_eq_false (by omega)
end
section
variable {X:Cx} {pins:List (AF×Obj)} {σ:St} {H:Hp} {s:AE} {a:AF} {kvs:List (Key×V)} {k:Key} {u:AC} {A:A2} {E:AC->AE->Prop}
end
def cM (i:Expr):Prop:=∀ov iv,PY i false ov iv=operate [ov,iv] (Kz ov iv)
theorem Xu {prog:Ai} {w:A7} {A:A2} {E:AC->AE->Prop} {s:AE} {env:Env} {value slice:Expr} {pos:Pos} {T id:String} {Q:AC->AE->Prop}
  (hl:typeLookup (.type T) "__getitem__" = pure (some (.builtin id))) (hs:cM slice)
  (h:Ah (AW prog w) A (Bh value env) (λo s₁=>Ah (AW prog w) A (Bh slice env) (λi s₂=>s₂.TypeIs o T/\Ah (AW prog w) A (Kz o i) Q E s₂) E s₁) E s) :
  Ah (AW prog w) A (Bh (.Subscript value slice pos) env) Q E s:=by
 refine Zo (DY h (λo s₁ h₁=>DY h₁ (λi s₂ h₂=>?_) λ_ _ x=>x) λ_ _ x=>x);obtain ⟨hT,h₂⟩:=h₂;unfold TM;refine AB ?_;rw [getitemInPython_of_ne hT.not_modules];refine AB (wpAny_specialOf hT hl ?_)
 have fin:Ah (AW prog w) A (PY slice false o i) (λr s₃=>Ah (AW prog w) A (letTemporaryGo value o r >>= λ_=>pure r) Q E s₃) E s₂:=by
  rw [hs o i];exact wpAny_operating (DY h₂ (λr s₃ h₃=>AB (wpAny_letTemporaryGo (AH h₃))) λ_ _ x=>x)
 first
  | exact AH (AB fin)
  | exact AB (AH (AB fin))
  | exact AB fin
theorem Qi {X:Cx} {pins:List (AF×Obj)} {σ:St} {H:Hp} {s:AE} {a:AF} {y:V} {o:Option V} (I:Inv X pins σ H s) (g:KM H a y o):s.TypeIs (.ref a) "dict":=by
 rcases g with ⟨kvs,k,e,_,_⟩ | ⟨kvs,k,b,e,_,_,_⟩
 ·obtain ⟨_,_,vs,_,dd⟩:=OH I.hok e
  exact dd.typeIs
 ·obtain ⟨_,_,xs,_,dd⟩:=OG I.hok e
  exact dd.typeIs
def dP (td ty:TE):TE:=λσ H Q=>td σ H λx H1=>ty σ H1 λy H2=>∃a v,x=.ref a/\KM H2 a y (some v)/\Q v H2
def dO (ty td:TE):TE:=λσ H Q=>ty σ H λy H1=>td σ H1 λx H2=>∃a o,x=.ref a/\KM H2 a y o/\Q (.bl o.isSome) H2
def SZ (ty td:TE):TE:=λσ H Q=>ty σ H λy H1=>td σ H1 λx H2=>∃a o,x=.ref a/\KM H2 a y o/\Q (.bl (!o.isSome)) H2
def dW (td ty tv:TE):TS:=λD σ H=>tv σ H λv H1=>td σ H1 λx H2=>ty σ H2 λy H3=>∃a H4,x=.ref a/\Qq H3 a y v H4/\D.nx σ H4
variable {X:Cx}
def X9:V->List V->Hp->VK->Prop:=λx vs H Q=>∃l xs y,x=.ref l/\vs=[y]/\H l=some (.lst xs)/\xs.length < sizeLine/\Q .non (upd H l (.lst (xs++[y])))
theorem N8:MtM X "list.append" X9:=by
 intro pins s σ H x vs v us Q I rx rv h;obtain ⟨l,xs,y,rfl,rfl,hH,hz,q⟩:=h;cases rx;obtain ⟨u,rfl,ru⟩:=rv.one;obtain ⟨z,its,n,r,hl,e⟩:=I.lstM hH;refine Zk F.slot_list_append ⟨_,e,rfl⟩ F.entry_list_append (F.args_list_append_2 _ _) (PySem.list_append l its.toArray n u (by rw [Aa];omega)) ⟨e,?_⟩;refine ⟨.non,_,I.lset (its':=its++[u]) hH e (by simp) (r.append (.cons ru .nil)) ?_,rfl,q⟩;rw [AR,A6];omega
def X8:V->List V->Hp->VK->Prop:=λx vs H Q=>∃l b xs zs,x=.ref l/\vs=[.ref b]/\H l=some (.lst xs)/\H b=some (.lst zs)/\xs.length+zs.length<=sizeLine/\Q .non (upd H l (.lst (xs++zs)))
theorem T8:MtM X "list.extend" X8:=by
 intro pins s σ H x vs v us Q I rx rv h;obtain ⟨l,b,xs,zs,rfl,rfl,hH,hB,hz,q⟩:=h;cases rx;obtain ⟨u,rfl,ru⟩:=rv.one;cases ru;obtain ⟨z,its,n,r,hl,e⟩:=I.lstM hH;obtain ⟨z2,its2,n2,r2,hl2,e2⟩:=I.lstM hB
 have hsz:its.toArray.size+its2.toArray.size<=sizeLine:=by rw [Aa,Aa];omega
 have hlong:¬(!its.toArray.isEmpty&&Fc (its.toArray.size+its2.toArray.size))=true:=by
  rw [V4 hsz,Bool.and_false];exact AS
 refine Zk F.slot_list_extend ⟨_,e,rfl⟩ F.entry_list_extend (F.args_list_extend_2 _ _)
  (AutoSeq1.list_extend_list_list_0 l its.toArray n b its2.toArray n2 hlong (by rw [Aa];omega) (by omega)) ⟨e,e2,?_⟩
 refine ⟨.non,_,I.lset (its':=its++its2) hH e (by simp) (r.append r2) ?_,rfl,q⟩;rw [AR];omega
def rCat:R2:=λx y H Q=>∃l b xs zs,x=.ref l/\y=.ref b/\H l=some (.lst xs)/\H b=some (.lst zs)/\xs.length+zs.length<=sizeLine/\∀p,H p=none->Q (.ref p) (upd H p (.lst (xs++zs)))
theorem bB:OpR X (Ci .Add) rCat:=by
 intro pins s σ H x y v u Q I rx ry h;obtain ⟨l,b,xs,zs,rfl,rfl,hH,hB,hz,q⟩:=h;cases rx;cases ry;obtain ⟨z,its,n,r,hl,e⟩:=I.lstM hH;obtain ⟨z2,its2,n2,r2,hl2,e2⟩:=I.lstM hB;refine PySem.P.add_list e e2 ?_ (by rw [Aa,Aa];omega)
 have ea:its.toArray++its2.toArray=(its++its2).toArray:=by simp
 rw [ea];exact ⟨.ref _,_,I.lnew (t':=s.toks) (r.append r2) (by rw [AR];omega),rfl,q _ I.fresh⟩
section
variable {X:Cx} {o i e value:Expr} {pos pos' tpos:Pos} {td ty tv:TE}
theorem YT (hu:X.A.units+1 < D0) (ho:PE X o td) (hi:PE X i ty) (hs:cM i):PE X (.Subscript o i pos) (dP td ty):=by
 intro pins s σ H Q I h;refine Xu PySem.F.slot_dict_getitem.lookup hs (thn (ho pins s σ H _ I h) λu s1 ⟨x,H1,I1,rx,q1⟩=>thn (hi pins s1 σ H1 _ I1 q1) λiv s2 ⟨y,H2,I2,ry,a,v,ex,g,q2⟩=>?_);subst ex;obtain rfl:u=Ak a:=rx;exact ⟨Qi I2 g,UU hu I2 g ry λw' s3 I3 rw'=>⟨v,H2,I3,rw',q2⟩⟩
theorem au (hu:X.A.units+1 < D0) (hi:PE X i ty) (ho:PE X o td):PC X .In i o (dO ty td):=by
 intro pins s σ H Q I h
 refine thn (hi pins s σ H _ I h) λiv s1 ⟨y,H1,I1,ry,q1⟩=>thn (ho pins s1 σ H1 _ I1 q1) λu s2 ⟨x,H2,I2,rx,a,ov,ex,g,q2⟩=>?_
 subst ex;obtain rfl:u=Ak a:=rx
 exact d_in hu I2 g ry λs3 I3=>⟨.bl ov.isSome,H2,I3,rfl,q2⟩
theorem T1 (hu:X.A.units+1 < D0) (hi:PE X i ty) (ho:PE X o td):PC X .NotIn i o (SZ ty td):=by
 intro pins s σ H Q I h
 refine thn (hi pins s σ H _ I h) λiv s1 ⟨y,H1,I1,ry,q1⟩=>thn (ho pins s1 σ H1 _ I1 q1) λu s2 ⟨x,H2,I2,rx,a,ov,ex,g,q2⟩=>?_
 subst ex;obtain rfl:u=Ak a:=rx
 exact ZB hu I2 g ry λs3 I3=>⟨.bl (!ov.isSome),H2,I3,rfl,q2⟩
theorem YH (hu:X.A.units+1 < D0) (ho:PE X o td) (hi:PE X i ty) (hv:PE X value tv) (hs:EJ value (some (.Subscript o i pos')) pos.line X.env=pure false) :
  PS X (.Assign [.Subscript o i pos'] value pos) (dW td ty tv):=by
 intro pins s σ H D I h;refine wpAny_Assign_Subscript (thn (hv pins s σ H _ I h) λr s1 ⟨v,H1,I1,rv,q1⟩=>thn (ho pins s1 σ H1 _ I1 q1) λu s2 ⟨x,H2,I2,rx,q2⟩=>thn (hi pins s2 σ H2 _ I2 q2) λiv s3 ⟨y,H3,I3,ry,a,H4,ex,g,q3⟩=>?_) hs;subst ex;obtain rfl:u=Ak a:=rx
 exact UT hu I3 g ry rv λs4 I4=>⟨σ,H4,I4,q3⟩
end
theorem Qh {P:Ai} {w:A7} {H:Hp} (h:BY) (hb:Ca < h.objs.size):CD P w H (h.push { cls:=.type "dict",data:=.dict #[] }) h.objs.size (.dK []):=
 ⟨Cv _,beq_eq_false_iff_ne.mpr (Bv (Ay hb)),[],.nil,BY.DictOf.new h⟩
theorem Wt {P:Ai} {w:A7} {H:Hp} (h:BY) (hb:Ca < h.objs.size):CD P w H (h.push { cls:=.type "dict",data:=.dict #[] }) h.objs.size (.dT []):=
 ⟨Cv _,beq_eq_false_iff_ne.mpr (Bv (Ay hb)),[],.nil,_,#[],0,A5 _ rfl,⟨rfl,rfl,rfl⟩,rfl,rfl,Eh⟩
def aK:TE:=λ_ H Q=>∀p,H p=none->Q (.ref p) (upd H p (.dK []))
def aJ:TE:=λ_ H Q=>∀p,H p=none->Q (.ref p) (upd H p (.dT []))
variable {prog:Ai} {w:A7} {A:A2} {E:AC->AE->Prop} {s:AE}
section
variable {X:Cx} {pos:Pos}
theorem Vv:PE X (.Dict [] [] pos) aK:=λpins s σ H Q I h=>
 ck ⟨.ref s.heap.objs.size,_,I.laid (a:=s.heap.objs.size) (o:=.dK []) (t':=s.toks) (λ_ _ q=>AM _ q) (AQ _) (Qh s.heap I.big),rfl,h _ (I.hok.fresh (AQ _))⟩
theorem Vu:PE X (.Dict [] [] pos) aJ:=λpins s σ H Q I h=>
 ck ⟨.ref s.heap.objs.size,_,I.laid (a:=s.heap.objs.size) (o:=.dT []) (t':=s.toks) (λ_ _ q=>AM _ q) (AQ _) (Wt s.heap I.big),rfl,h _ (I.hok.fresh (AQ _))⟩
end
def RU:List (TE×TE)->St->Hp->(List (V×V)->Hp->Prop)->Prop
 | [],_,H,Q=>Q [] H
 | (tk,tv) :: r,σ,H,Q=>tk σ H λx H1=>tv σ H1 λy H2=>RU r σ H2 λps H3=>Q ((x,y) :: ps) H3
abbrev VV:List (V×V)->List (AC×AC)->Prop:=El λp q=>RelV p.1 q.1/\RelV p.2 q.2
def PPs (X:Cx) (pos:Pos) (keys:List (Option Expr)) (values:List Expr) (trs:List (TE×TE)):Prop:=
 ∀(pins:List (AF×Obj)) (s:AE) (σ:St) (H:Hp) (Q:List (V×V)->Hp->Prop),Inv X pins σ H s->RU trs σ H Q ->
  Ah (AW X.prog X.w) X.A (evalPairs (pairTrees keys values X.env pos)) (λvs s'=>∃ps H',Inv X pins σ H' s'/\VV ps vs/\Q ps H') X.xe s
theorem YJ {X:Cx} {pos:Pos}:PPs X pos [] [] []:=λpins s σ H Q I h=>pairTrees_nil_walk ⟨[],H,I,.nil,h⟩
theorem Vn {X:Cx} {pos:Pos} {k v:Expr} {ks:List (Option Expr)} {vs:List Expr} {tk tv:TE} {trs:List (TE×TE)} (hk:PE X k tk) (hv:PE X v tv) (hr:PPs X pos ks vs trs) :
  PPs X pos (some k :: ks) (v :: vs) ((tk,tv) :: trs):=λpins s σ H Q I h=>
 pairTrees_cons_walk (thn (hk pins s σ H _ I h) λu s1 ⟨x,H1,I1,rx,q1⟩=>thn (hv pins s1 σ H1 _ I1 q1) λw2 s2 ⟨y,H2,I2,ry,q2⟩=>
  thn (hr pins s2 σ H2 _ I2 q2) λws s3 ⟨ps,H3,I3,rel,q3⟩=>⟨(x,y) :: ps,H3,I3,.cons ⟨rx,ry⟩ rel,q3⟩)
def Gu (kvs more:List (Key×V)):List (Key×V):=more.foldl (λacc kv=>FE acc kv.1 kv.2) kvs
theorem KV.merge:∀ {more:List (Key×V)} {rs:List (Key×AC)} {kvs:List (Key×V)} {vs:List (Key×AC)},KV more rs->KV kvs vs->KV (Gu kvs more) (merged vs rs):=by
 intro more rs kvs vs r;unfold KV at r
 induction r generalizing kvs vs with
 | nil=>intro q;exact q
 | @cons p q ps qs h t ih=>
  intro r0
  have e:KV (FE kvs p.1 p.2) (stored vs q.1 q.2):=by
   have:=r0.put p.1 h.2;rw [<-h.1];exact this
  exact ih e
theorem Gv:∀(more kvs:List (Key×V)),(Gu kvs more).length<=kvs.length+more.length
 | [],kvs=>by show kvs.length<=kvs.length+0;omega
 | p :: r,kvs=>by
  have h1:=Gv r (FE kvs p.1 p.2);have h2:=IT kvs p.1 p.2;show (Gu (FE kvs p.1 p.2) r).length<=_;rw [Am];omega
theorem M8 {P:Ai} {w:A7}:∀ {kvs:List (Key×V)} {ws:List (AC×AC)},VV (kvs.map λkv=>(kV kv.1,kv.2)) ws->∃rs,Carries (Ch P w) ws rs/\KV kvs rs
 | [],_,r=>by rw [Hy] at r;cases r;exact ⟨[],CG,.nil⟩
 | p :: kvs,_,r=>by
  rw [A9] at r
  cases r with
  | @cons a b as bs h t=>
   obtain ⟨rs,c,q⟩:=M8 (P:=P) (w:=w) t;obtain ⟨b1,b2⟩:=b;exact ⟨(p.1,b2) :: rs,⟨OD h.1,rfl,c⟩,.cons ⟨rfl,h.2⟩ q⟩
def dM (trs:List (TE×TE)):TE:=λσ H Q=>∀p,H p=none->RU trs σ (upd H p (.dK [])) λps H2=>H2 p=some (.dK [])/\∃kvs:List (Key×V),ps=kvs.map (λkv=>(kV kv.1,kv.2))/\kvs.length<=15/\Q (.ref p) (upd H2 p (.dK (Gu [] kvs)))
theorem YS {X:Cx} {pos:Pos} {keys:List (Option Expr)} {values:List Expr} {trs:List (TE×TE)} (h:PPs X pos keys values trs) (hall:keys.all (·.isSome)=true) (hl:keys.length=values.length) (h0:keys≠[])
  (h15:keys.length<=15):PE X (.Dict keys values pos) (dM trs):=by
 intro pins s σ H Q I q;have hn:=I.hok.fresh (AQ s.heap.objs.size);have I1:=I.laid (a:=s.heap.objs.size) (o:=.dK []) (h':=s.heap.push { cls:=.type "dict",data:=.dict #[] }) (t':=s.toks) (λ_ _ q=>AM _ q) (AQ _) (Qh s.heap I.big);refine wpAny_Dict_walk (knd:=Ch X.prog X.w) hall hl h0 h15 (thn (h pins _ σ _ _ I1 (q _ hn)) λws s2 ⟨ps,H2,I2,rel,e,kvs,ep,lk,q2⟩=>?_);subst ep;obtain ⟨rs,c,rk⟩:=M8 (P:=X.prog) (w:=X.w) rel;obtain ⟨z,hd,vs0,r0,dd⟩:=TB I2.hok e;cases r0;refine ⟨rs,c,dd,λh' dd' hs=>⟨.ref s.heap.objs.size,_,?_,rfl,q2⟩⟩
 have hz:(Gu [] kvs).length<=sizeLine:=by
  have h1:=Gv kvs [];rw [Fb] at h1;rw [PZ];omega
 have he:∃q,h'.get? s.heap.objs.size=some q:=let ⟨q,_,_,hq,_⟩:=dd';⟨q,hq⟩
 exact Ls I2 (by rw [e];exact CG) hs he (R8 hz hd (rk.merge .nil) dd')
structure M1 (X:Cx) (o:Expr) (m:Str) (apos:Pos) (e:Expr) (cpos:Pos):Prop where
 base:Dw o m X.env (Bh o X.env)=Bh o X.env
 few:((Cb cpos (AO [e] X.env)).all (λx=>!x.1)&&(Q6 cpos (KQ [] X.env)).all (λx=>x.1.isSome)
   &&decide (([e]:List Expr).length+([]:List G4).length+(if ([]:List G4).isEmpty then 0 else 1) < 30))=true
 line:(apos.endLine==cpos.line)=true
 trees:Cb cpos (AO [e] X.env)=[(false,Bh e X.env)]
def IsD (H:Hp) (a:AF):Prop:=(∃kvs,Rd H a (.dK kvs))∨∃kvs,Rd H a (.dT kvs)
theorem bU {X:Cx} {pins:List (AF×Obj)} {σ:St} {H:Hp} {s:AE} {a:AF} (I:Inv X pins σ H s) (d:IsD H a) :
  s.TypeIs (.ref a) "dict"/\(∀b,Ak a=.ref b->∃ob,s.heap.get? b=some ob/\ob.dict=none)/\(a==Ca)=false:=by
 rcases d with ⟨kvs,e⟩ | ⟨kvs,e⟩
 ·obtain ⟨_,hd,vs,_,dd⟩:=OH I.hok e
  refine ⟨dd.typeIs,λb q=>?_,hd⟩;cases q;obtain ⟨ob,_,_,h1,h2,_⟩:=dd;exact ⟨ob,h1,h2.2.1⟩
 ·obtain ⟨_,hd,xs,_,dd⟩:=OG I.hok e
  refine ⟨dd.typeIs,λb q=>?_,hd⟩;cases q;obtain ⟨ob,_,_,h1,h2,_⟩:=dd;exact ⟨ob,h1,h2.2.1⟩
section
variable {X:Cx} {pins:List (AF×Obj)} {σ:St} {H:Hp} {s:AE} {a:AF} {y d:V} {u r:AC} {o:Option V} {A:A2} {E:AC->AE->Prop}
end
section
variable {X:Cx} {o e f:Expr} {apos cpos:Pos} {td ty tx:TE}
end
section
variable {X:Cx} {pins:List (AF×Obj)} {σ:St} {H:Hp} {s:AE} {a:AF} {kvs:List (Key×V)} {A:A2} {E:AC->AE->Prop}
end
section
variable {X:Cx} {pins:List (AF×Obj)} {σ:St} {H:Hp} {s:AE} {a:AF} {y:V} {u:AC} {A:A2} {E:AC->AE->Prop}
variable {X:Cx}
end
end L2
namespace Att
open PySem PySem.W PySem.Calls PyProof.Rows
theorem Lc {P:Params} {h:BY}:∀(ns:List Int) (vs:List AC),WellAll P h vs (ns.map ez)->EK vs ns:=by
 intro ns
 induction ns with
 | nil=>
  intro vs w;rw [Hy] at w;cases w;exact .nil
 | cons n ns ih=>
  intro vs w;rw [A9] at w
  cases w with
  | cons a b=>
   cases a;exact .cons _ _ (ih _ b)
theorem Tp {l:OpenLaw} {n:Nat} (hn:l.most=some n) {P:Params} {h:BY} {args:List WData} {vals:List AC}
  (hpre:l.row.toRowW.claim.pre args=true) (hwl:WellAll P h vals args) :
  ∃a vs ns,vals=[Ak a]/\args=[WData.list (ns.map ez)]/\h.get? a=some { cls:=.type "list",data:=.seq vs.toArray }/\EK vs ns/\ns.length<=n:=by
 have hsh:WShape.hasAll [] args [.list .int]=true:=(pre_splitW hpre).1;have hc:l.pre.holds [] { args:=args }=true:=(pre_splitW hpre).2;obtain ⟨d,r,rfl,h1,h2⟩:=hasAllW_cons hsh;obtain rfl:=hasAllW_nil h2;obtain ⟨xs,rfl,h3⟩:=hasW_list h1;obtain ⟨ns,rfl⟩:=items_int h3
 have hlen:ns.length<=n:=by
  unfold OpenLaw.pre at hc
  have h4:(WTm.not (.lt (.lit (.int (n:Int))) (.len (.arg 0)))).holds [] { args:=[.list (ns.map .int)] }=true:=by
   have h4:=(holds_andW hc).1;rw [hn] at h4;exact h4
  have h5:=condW_of h4 (w_not (w_lt w_lit (w_len_list (w_arg rfl))));rw [AG] at h5
  refine L8 λq=>?_
  have q':(n:Int) < ((ns.length:Nat):Int):=by omega
  first
   | (rw [decide_eq_true q'] at h5;exact absurd h5 (by decide))
   | (simp at h5;omega)
 cases hwl with
 | cons w1 w2=>
  cases w2
  cases w1 with
  | list ho hall=>exact ⟨_,_,ns,rfl,rfl,ho,Lc ns _ hall,hlen⟩
theorem Tw (l:OpenLaw) (args:List WData):l.row.toRowW.claim.post args (.bool true) args=true:=
 postW_of (r:=l.row.toRowW) (X:=(true==true))
  (show cX [] (.bool true) .bool=true by first | rfl | decide | simp [cX,WShape.arms,WShape.armsAll])
  (show (WTm.eq .res (.lit (.bool true))).value [] { args:=args,res:=some (.bool true),after:=args }=some (.bool (true==true)) from w_eq_bool (w_res rfl) w_lit) rfl
theorem Qm {l:OpenLaw} {n:Nat} {q:Ai} {loose:List Str} {XP:(Str->Option AC)->BY->Prop} {YP:A7->BY->Prop} {d:DefRec}
  (hn:l.most=some n) (hdf:d.params.defaults=[])
  (call:∀(w:A7) (s₀ s₁:AE) (mg mb:Str->Option AC) (fa:AF) (o:Obj) (pm cd doc:AC) (a:AF) (vs:List AC) (ns:List Int),
   Ground q loose [] XP w s₀ mg mb s₁.heap->YP w s₁.heap ->
   s₁.heap.get? fa=some o->o.data=.func (docDef d.name d.params d.body d.scope pm cd doc)->s₁.heap.CodeRec cd d.name->mg d.name=some (.ref fa) ->
   s₁.heap.get? a=some { cls:=.type "list",data:=.seq vs.toArray }->EK vs ns->ns.length<=n->s₁.gens = #[] ->
   JS (AW l.prog w) NM (.call (.ref fa) ⟨[.ref a],[]⟩) (λr s'=>r=.ok (.ret (.bool true))/\OldK s₁.heap s'.heap/\s'.os=s₁.os/\GM s'.gens) s₁) :
  WalkO q loose XP YP l.row.toRowW d [] (λf vs=>TU f vs):=by
 intro w s₀ s₁ mg mb G Y fa o pm cd doc dV kV ho hd hcd hD hmg hg args vals as hpre hlay hrd hwl hlo;obtain rfl:dV=.none:=Dflts.none hD hdf;obtain rfl:kV=.none:=Dflts.noKw hD;obtain ⟨a,vs,ns,rfl,rfl,hobj,hints,hlen⟩:=Tp hn hpre hwl;refine enter_call (NK (call w s₀ s₁ mg mb fa o pm cd doc a vs ns G Y ho (fd_plain hd) hcd hmg hobj hints hlen hg) λr s' hq=>?_);obtain ⟨rfl,h2,h3,h4⟩:=hq;exact ⟨.inl ⟨.bool true,.bool true,[],rfl,λ_=>rfl,.bool true,Tw l _,λ_=>⟨Nu,λ_ hm=>(nomatch hm)⟩⟩,h2,h3,h4⟩
section
variable {prog:Ai} {w:A7} {A:A2} {E:AC->AE->Prop} {s:AE} {K:Frag}
end
end Att
namespace L2
open PySem PySem.Spec PyProof.Rows
theorem Nz:∀ {vs:List AC} {ns:List Int},EK vs ns->BZ (ns.map V.int) vs
 | _,_,.nil=>.nil
 | _,_,.cons n t h=>.cons ⟨t,rfl⟩ (Nz h)
def ZN (H:Hp):Prop:=∀b,H b=none∨∃o xs,H b=some (.frz o (.lst xs))
theorem WL {P:Ai} {w:A7} {K:AA} {mg mb:Str->Option AC} {CX:CXT} {k:Nat} {fa a:AF} {fd:Cr} {x:Str} {sp:Sp} {s₁:AE} {vs:List AC} {ns:List Int}
  (KX:K.In s₁.heap) (hns:s₁.heap.Ns Ac mg) (hb:s₁.heap.Ns Zl mb) (hbb:∀x:Str,x≠"__name__"->mb x=Da x) (hlim:s₁.heap.NoLimit) (hg:s₁.gens = #[])
  (ha:s₁.heap.get? a=some { cls:=.type "list",data:=.seq vs.toArray }) (hi:EK vs ns) (hl:ns.length<=sizeLine) (hr:FO k NM)
  (F:∀base:BY,K.In base->base.Ns Ac mg->Dy P w K mg base CX k fa fd [x] sp) (hbind:∀(s:AE) (u:AC),Q1 s fd ⟨[u],[]⟩ [(x,u)])
  (hsp:∀H:Hp,ZN H->SqL K H a (ns.map V.int)->sp [.ref a] H (λv _=>v=.bl true) λ_ _ _=>False)
  (hCX:∀H e s',CX [] H s₁ (λ_ _ _=>False) e s'->False) :
  JS (AW P w) NM (.call (.ref fa) ⟨[.ref a],[]⟩) (λr s'=>r=.ok (.ret (.bool true))/\OldK s₁.heap s'.heap/\s'.os=s₁.os/\GM s'.gens) s₁:=by
 have rv:=Nz hi;have lenV:=hi.length
 have core:∀H:Hp,ZN H->SqL K H a (ns.map V.int)->HOk P w H s₁.heap->(∀b,H b≠none->b=a)->(H a≠none->K.lookup a=none) ->
   JS (AW P w) NM (.call (.ref fa) ⟨[.ref a],[]⟩) (λr s'=>r=.ok (.ret (.bool true))/\OldK s₁.heap s'.heap/\s'.os=s₁.os/\GM s'.gens) s₁:=by
  intro H hO hS hok hA hK
  have base_of:∀ {b:AF} {o:Obj},s₁.heap.get? b=some o->H b=none->(O5 s₁.heap H).get? b=some o:=λe n=>WX e n
  have noA:∀ {b:AF} {o:Obj} {es:Array K9} {ep:Nat},s₁.heap.get? b=some o->o.data=.dict es ep->H b=none:=λ{b o es ep} e d=>by
   cases q:H b with
   | none=>rfl
   | some u=>
    have e':b=a:=hA b (by rw [q];simp);subst e';rw [ha] at e;cases e;have d':Data.seq vs.toArray _=Data.dict es ep:=d;cases d'
  have nsK:∀ {b:AF} {m:Str->Option AC},s₁.heap.Ns b m->(O5 s₁.heap H).Ns b m:=λ{b m} ⟨o,es,ep,e,d,r⟩=>⟨o,es,ep,base_of e (noA e d),d,r⟩
  have hKb:K.In (O5 s₁.heap H):=λb o e=>base_of (KX b o e) (by
   cases q:H b with
   | none=>rfl
   | some u=>
    have e':b=a:=hA b (by rw [q];simp);subst e'
    rw [hK (by rw [q];simp)] at e;cases e)
  have hM:Mod K mg (O5 s₁.heap H):=⟨hKb,nsK hns,⟨mb,nsK hb,hbb⟩,let ⟨mc,h1,h2⟩:=hlim;⟨mc,nsK h1,h2⟩⟩;have e0:SE P w K mg (O5 s₁.heap H) NM [] s₁ H:=⟨rfl,hM,λb o e=>Ye e,RD (UI _ _),trivial,λb hb=>absurd (show b∈([]:List AF) from hb) (by simp),hok,.of_eq hg⟩
  refine NK ((F _ hKb (nsK hns)).run NM [] s₁ H ⟨[.ref a],[]⟩ [.ref a] [.ref a] _ _ hr e0 (hbind s₁ (.ref a)) (.cons rfl .nil) (hsp H hO hS)) λr s' h=>?_
  cases r with
  | error e=>exact (hCX H e s' h).elim
  | ok fl=>
   cases fl with
   | next=>exact Cw h
   | brk=>exact Cw h
   | cont=>exact Cw h
   | ret u=>
    obtain ⟨v,H',os,bare,un,hok',r',q⟩:=h;have q':v=.bl true:=q;subst q';obtain rfl:u=NN true:=r';refine ⟨rfl,OldK.of_keep λb o e=>?_,os,bare⟩
    cases q:H b with
    | none=>exact un.keep b o e q (by intro z;exact absurd (show b∈([]:List AF) from z) (by simp)) (by simp)
    | some u=>
     rcases hO b with z | ⟨ob,xs,z⟩
     ·rw [q] at z;cases z
     ·have z2:=un.frzs b ob _ z
      obtain ⟨e1,_⟩:=hok b _ z;obtain ⟨e2,_⟩:=hok' b _ z2;rw [e] at e1;cases e1;exact e2
 cases hk:K.lookup a with
 | some o=>
  have e:=KX a o hk;rw [ha] at e;cases e
  refine core (λ_=>none) (λ_=>.inl rfl) (.inr ⟨_,vs.toArray,_,hk,rfl,rfl,rfl,by rw [Aa,lenV];exact hl,by simpa using rv⟩) (λb u z=>by have z':(none:Option HO)=some u:=z;cases z') (λb z=>absurd rfl z) λz=>absurd rfl z
 | none=>
  refine core (λb=>if b=a then some (.frz { cls:=.type "list",data:=.seq vs.toArray } (.lst (ns.map V.int))) else none) (λb=>?_) (.inl (.inr ⟨{ cls:=.type "list",data:=.seq vs.toArray },if_pos rfl⟩)) (λb u z=>?_) (λb z=>?_) λ_=>hk
  ·by_cases hb:b=a
   ·exact .inr ⟨_,_,if_pos hb⟩
   ·exact .inl (if_neg hb)
  ·by_cases hb:b=a
   ·have z':=(if_pos hb).symm.trans z
    cases z';subst hb;exact ⟨ha,by rw [AG];exact hl,vs,_,rv,ha⟩
   ·have z':=(if_neg hb).symm.trans z
    cases z'
  ·by_cases hb:b=a
   ·exact hb
   ·exact absurd (if_neg hb) z
end L2
namespace L2
open PySem PySem.Spec PyProof.Rows
theorem XX {l:PySem.W.OpenLaw} {n k:Nat} {q:Ai} {loose:List Str} {XP:(Str->Option AC)->BY->Prop} {YP:A7->BY->Prop} {d:DefRec} {K:Params->AA} {CX:A7->CXT} {sp:A7->Sp} {x:Str}
  (hn:l.most=some n) (hn2:n<=sizeLine) (hdf:d.params.defaults=[]) (hr:FO k NM)
  (hY:∀(w:A7) (h:BY),YP w h->(K w.params).In h)
  (F:∀(w:A7) (mg:Str->Option AC) (fa:AF) (h:BY),(K w.params).In h->h.Ns Ac mg->mg d.name=some (.ref fa) ->
   ∃fd:Cr,(∀(s:AE) (u:AC),Q1 s fd ⟨[u],[]⟩ [(x,u)]) /\
    ∀base:BY,(K w.params).In base->base.Ns Ac mg->Dy l.prog w (K w.params) mg base (CX w) k fa fd [x] (sp w))
  (hsp:∀(w:A7) (H:Hp) (a:AF) (ns:List Int),ns.length<=n->ZN H->SqL (K w.params) H a (ns.map V.int)->sp w [.ref a] H (λv _=>v=.bl true) λ_ _ _=>False)
  (hCX:∀(w:A7) (H:Hp) (s:AE) (e:AC) (s':AE),CX w [] H s (λ_ _ _=>False) e s'->False) :
  PySem.W.WalkO q loose XP YP l.row.toRowW d [] (λf vs=>TU f vs):=by
 refine Att.Qm hn hdf λw s₀ s₁ mg mb fa o pm cd doc a vs ns G Y ho hd hcd hmg hobj hints hlen hg=>?_
 have KX:=hY w _ Y;obtain ⟨fd,hb,hF⟩:=F w mg fa _ KX G.T.g hmg
 exact WL KX G.T.g G.T.b G.T.builtins G.T.nolimit hg hobj hints (Ao hlen hn2) hr hF hb (λH hO hS=>hsp w H a ns hlen hO hS) λH e s'=>hCX w H s₁ e s'
end L2
/- THE LAST THEOREM (shape;LID,My.* are yours):
   My.Adr: a structure of the addresses that your layer names (classes,functions);My.Txt K t: a structure (Prop) of the equations over K;
   My.txt_mk:{K} {implicit addresses ..} (e1:nsIn K Ac "law" = some (some (.ref f))) (e2:K.lookup f=some ⟨oc,od,.func (fnOf "law" "law" params body scope dV kV doc pm an cdv ct),sl⟩) (e3:codeIn K cdv "law" = true) ..:∃t,My.Txt K t
(the tactic k_is has no namespace: write k_is) -/
namespace L2
open PySem PySem.Spec PyProof.Rows
def Yr (s:Cd) (j:Nat):Cd:=match s with
 | .ClassDef _ _ _ body _ _ _ _ _ _ _=>body.getD j (.Pass ⟨0,0,0,0⟩)
 | _=>.Pass ⟨0,0,0,0⟩
def CF (s:Cd):Arguments:=match s with
 | .FunctionDef _ a _ _ _ _ _ _ _ _=>a
 | _=>{ posonlyargs:=[],args:=[],vararg:=none,kwonlyargs:=[],kw_defaults:=[],kwarg:=none,defaults:=[] }
def Bw (s:Cd):List Cd:=match s with
 | .FunctionDef _ _ b _ _ _ _ _ _ _=>b
 | _=>[]
def Av (s:Cd):GR:=match s with
 | .FunctionDef _ _ _ _ _ _ sc _ _ _=>sc
 | _=>{ kind:=.function,names:=[],isGenerator:=false,isCoroutine:=false }
structure Fun (K:AA) (x qual:Str) (st:Cd) (f:AF) (fd:Cr):Prop where
 ex:∃(oc:AC) (od:Option AF) (kV doc pm:AC) (an:Option AF) (cdv ct:AC) (osl:Array (Option AC)),
  fd=FS x qual (CF st) (Bw st) (Av st) .none kV doc pm an cdv ct/\K.lookup f=some ⟨oc,od,.func fd,osl⟩/\Lz K cdv qual=true
 kp:EN K (.ref f)=true
section
variable {P:Ai} {w:A7} {K:AA} {mg:Str->Option AC} {base:BY}
theorem Fun.binds {x qual:Str} {st:Cd} {f:AF} {fd:Cr} {ps:List Str} (F:Fun K x qual st f fd)
  (h:∀(kV doc pm:AC) (an:Option AF) (cdv ct:AC) (us:List AC),us.length=ps.length->bindArgs (FS x qual (CF st) (Bw st) (Av st) .none kV doc pm an cdv ct) ⟨us,[]⟩=pure (ps.zip us)):Binds K fd ps []:=by
 obtain ⟨oc,od,kV,doc,pm,an,cdv,ct,osl,rfl,lk,hcd⟩:=F.ex;exact .all (h kV doc pm an cdv ct)
theorem Dg {x qual:Str} {st:Cd} {f:AF} {oc:AC} {od an:Option AF} {osl:Array (Option AC)} {kV doc pm cdv ct:AC} (l:K.lookup f=some ⟨oc,od,.func (FS x qual (CF st) (Bw st) (Av st) .none kV doc pm an cdv ct),osl⟩)
  (c:Lz K cdv qual=true) (k:EN K (.ref f)=true):Fun K x qual st f (FS x qual (CF st) (Bw st) (Av st) .none kV doc pm an cdv ct):=⟨⟨oc,od,kV,doc,pm,an,cdv,ct,osl,rfl,l,c⟩,k⟩
end
section
variable {X:Cx}
theorem pv (i:Nat) {x:Str} {pos:Pos} (hN:X.N[i]?=some x:=by rfl) (hv:Vis X.env.scope x:=by first | exact XD rfl | exact SK (XD rfl) | exact SK (SK rfl)) (hd:(x==("__debug__" : Str))=false:=by decide)
  (hcd:(x==("__classdict__" : Str))=false:=by decide):PE X (.Name x pos) (aH i):=ah hN hv hd hcd
end
section
variable {κ:Type} [DecidableEq κ]
end
end L2
namespace L2
open PySem PySem.Spec PyProof.Rows
inductive D where
 | non | bl (b:Bool) | int (i:Int) | str (x:Str) | tup (ds:List D) | fro (ds:List D) | ref (n:Nat) | exc (C:AF)
def Nk (K:AA) (H:Hp) (a:AF) (vs:List V):Prop:=
 (∃o,H a=some (.frz o (.lst vs))) ∨
  ∃(o:Obj) (its:Array AC) (n:Nat),K.lookup a=some o/\o.cls=.type "list"/\o.dict=none/\o.data=.seq its n/\its.size<=sizeLine/\BZ vs its.toList
theorem Nk.sq {K:AA} {H:Hp} {a:AF} {vs:List V} (h:Nk K H a vs):SqL K H a vs:=by
 rcases h with h | h
 ·exact .inl (.inr h)
 ·exact .inr h
def Nl (o:Obj) (C:AF):Prop:=o.cls=.ref C/\o.dict=none/\∃vs,o.data=.fields vs
mutual
inductive BQ (K:AA) (ρ:List AF) (H:Hp):D->V->Prop where
 | non:BQ K ρ H .non .non
 | bl (b:Bool):BQ K ρ H (.bl b) (.bl b)
 | int (i:Int):BQ K ρ H (.int i) (.int i)
 | str (x:Str):BQ K ρ H (.str x) (.str x)
 | tup {ds:List D} {a:AF} {vs:List V}:H a=some (.tup vs)->An K ρ H ds vs->BQ K ρ H (.tup ds) (.ref a)
 | fro {ds:List D} {a:AF} {vs:List V}:Nk K H a vs->An K ρ H ds vs->BQ K ρ H (.fro ds) (.ref a)
 | ref {n:Nat} {a:AF}:ρ[n]?=some a->BQ K ρ H (.ref n) (.ref a)
 | exc {C a:AF} {o:Obj} {u:HO}:H a=some (.frz o u)->Nl o C->BQ K ρ H (.exc C) (.ref a)
inductive An (K:AA) (ρ:List AF) (H:Hp):List D->List V->Prop where
 | nil:An K ρ H [] []
 | cons {d:D} {v:V} {ds:List D} {vs:List V}:BQ K ρ H d v->An K ρ H ds vs->An K ρ H (d :: ds) (v :: vs)
end
structure Le (K:AA) (ρ:List AF) (H:Hp) (ρ':List AF) (H':Hp):Prop where
 pre:∀(n:Nat) a,ρ[n]?=some a->ρ'[n]?=some a
 tup:∀a xs,H a=some (.tup xs)->H' a=some (.tup xs)
 frz:∀a o u,H a=some (.frz o u)->H' a=some (.frz o u)
 oth:∀a o,H a=some o->(∀n:Nat,ρ[n]?≠some a)->H' a=some o/\∀n:Nat,ρ'[n]?≠some a
theorem Nk.mono {K:AA} {H H':Hp} {a:AF} {xs:List V} (l:∀a o u,H a=some (.frz o u)->H' a=some (.frz o u)) (h:Nk K H a xs):Nk K H' a xs:=by
 rcases h with ⟨o,h⟩ | h
 ·exact .inl ⟨o,l _ _ _ h⟩
 ·exact .inr h
section
variable {K:AA} {ρ ρ' ρ'':List AF} {H H' H'':Hp}
theorem Le.fro (l:Le K ρ H ρ' H'):∀a xs,Nk K H a xs->Nk K H' a xs:=λ_ _ h=>h.mono l.frz
theorem Le.refl:Le K ρ H ρ H:=⟨λ_ _ h=>h,λ_ _ h=>h,λ_ _ _ h=>h,λ_ _ h n=>⟨h,n⟩⟩
theorem Le.trans (a:Le K ρ H ρ' H') (b:Le K ρ' H' ρ'' H''):Le K ρ H ρ'' H'':=
 ⟨λn x h=>b.pre n x (a.pre n x h),λx xs h=>b.tup x xs (a.tup x xs h),λx o u h=>b.frz x o u (a.frz x o u h),λx o h n=>b.oth x o (a.oth x o h n).1 (a.oth x o h n).2⟩
mutual
theorem BQ.mono (l:Le K ρ H ρ' H'):∀ {d:D} {v:V},BQ K ρ H d v->BQ K ρ' H' d v
 | _,_,.non=>.non
 | _,_,.bl b=>.bl b
 | _,_,.int i=>.int i
 | _,_,.str x=>.str x
 | _,_,.tup h r=>.tup (l.tup _ _ h) (An.mono l r)
 | _,_,.fro h r=>.fro (l.fro _ _ h) (An.mono l r)
 | _,_,.ref h=>.ref (l.pre _ _ h)
 | _,_,.exc h e=>.exc (l.frz _ _ _ h) e
theorem An.mono (l:Le K ρ H ρ' H'):∀ {ds:List D} {vs:List V},An K ρ H ds vs->An K ρ' H' ds vs
 | _,_,.nil=>.nil
 | _,_,.cons r t=>.cons (BQ.mono l r) (An.mono l t)
end
mutual
theorem BQ.more (l:∀(n:Nat) a,ρ[n]?=some a->ρ'[n]?=some a):∀ {d:D} {v:V},BQ K ρ H d v->BQ K ρ' H d v
 | _,_,.non=>.non
 | _,_,.bl b=>.bl b
 | _,_,.int i=>.int i
 | _,_,.str x=>.str x
 | _,_,.tup h r=>.tup h (An.more l r)
 | _,_,.fro h r=>.fro h (An.more l r)
 | _,_,.ref h=>.ref (l _ _ h)
 | _,_,.exc h e=>.exc h e
theorem An.more (l:∀(n:Nat) a,ρ[n]?=some a->ρ'[n]?=some a):∀ {ds:List D} {vs:List V},An K ρ H ds vs->An K ρ' H ds vs
 | _,_,.nil=>.nil
 | _,_,.cons r t=>.cons (BQ.more l r) (An.more l t)
end
mutual
theorem BQ.keep (h1:∀a xs,H a=some (.tup xs)->H' a=some (.tup xs)) (h2:∀a o u,H a=some (.frz o u)->H' a=some (.frz o u)):∀ {d:D} {v:V},BQ K ρ H d v->BQ K ρ H' d v
 | _,_,.non=>.non
 | _,_,.bl b=>.bl b
 | _,_,.int i=>.int i
 | _,_,.str x=>.str x
 | _,_,.tup h r=>.tup (h1 _ _ h) (An.keep h1 h2 r)
 | _,_,.fro h r=>.fro (h.mono h2) (An.keep h1 h2 r)
 | _,_,.ref h=>.ref h
 | _,_,.exc h e=>.exc (h2 _ _ _ h) e
theorem An.keep (h1:∀a xs,H a=some (.tup xs)->H' a=some (.tup xs)) (h2:∀a o u,H a=some (.frz o u)->H' a=some (.frz o u)):∀ {ds:List D} {vs:List V},An K ρ H ds vs->An K ρ H' ds vs
 | _,_,.nil=>.nil
 | _,_,.cons r t=>.cons (BQ.keep h1 h2 r) (An.keep h1 h2 t)
end
theorem An.length:∀ {ds:List D} {vs:List V},An K ρ H ds vs->ds.length=vs.length
 | _,_,.nil=>rfl
 | _,_,.cons _ t=>by rw [Am,Am,An.length t]
theorem An.get:∀ {ds:List D} {vs:List V} {i:Nat} {d:D},An K ρ H ds vs->ds[i]?=some d->∃v,vs[i]?=some v/\BQ K ρ H d v
 | _,_,_,_,.nil,e=>by simp at e
 | _,_,0,_,.cons r _,e=>by simp at e;subst e;exact ⟨_,rfl,r⟩
 | _,_,i+1,d,.cons _ t,e=>by
  obtain ⟨v,h1,h2⟩:=An.get (i:=i) (d:=d) t (by simpa using e);exact ⟨v,by simpa using h1,h2⟩
theorem An.get':∀ {ds:List D} {vs:List V} {i:Nat} {v:V},An K ρ H ds vs->vs[i]?=some v->∃d,ds[i]?=some d/\BQ K ρ H d v
 | _,_,_,_,.nil,e=>by simp at e
 | _,_,0,_,.cons r _,e=>by simp at e;subst e;exact ⟨_,rfl,r⟩
 | _,_,i+1,d,.cons _ t,e=>by
  obtain ⟨v,h1,h2⟩:=An.get' (i:=i) (v:=d) t (by simpa using e);exact ⟨v,by simpa using h1,h2⟩
theorem An.append:∀ {ds es:List D} {vs us:List V},An K ρ H ds vs->An K ρ H es us->An K ρ H (ds++es) (vs++us)
 | _,_,_,_,.nil,s=>s
 | _,_,_,_,.cons r t,s=>.cons r (An.append t s)
theorem An.take:∀ {ds:List D} {vs:List V} (n:Nat),An K ρ H ds vs->An K ρ H (ds.take n) (vs.take n)
 | _,_,0,_=>.nil
 | _,_,_+1,.nil=>.nil
 | _,_,n+1,.cons r t=>.cons r (An.take n t)
theorem An.drop:∀ {ds:List D} {vs:List V} (n:Nat),An K ρ H ds vs->An K ρ H (ds.drop n) (vs.drop n)
 | _,_,0,r=>r
 | _,_,_+1,.nil=>.nil
 | _,_,n+1,.cons _ t=>An.drop n t
theorem An.of_ints:∀(ns:List Int),An K ρ H (ns.map D.int) (ns.map V.int)
 | []=>.nil
 | n :: ns=>.cons (.int n) (An.of_ints ns)
theorem An.ints:∀ {ns:List Int} {vs:List V},An K ρ H (ns.map D.int) vs->vs=ns.map V.int
 | [],_,.nil=>rfl
 | n :: ns,_,.cons r t=>by
  cases r;rw [An.ints (ns:=ns) t];rfl
end
inductive Ob where
 | lst (ds:List D)
 | dK (kvs:List (Key×D))
 | dT (kvs:List (List Key×D))
 | ins (C:AF) (fs:List (Str×D))
abbrev Sto:=List Ob
abbrev KVR {κ:Type} (K:AA) (ρ:List AF) (H:Hp):List (κ×D)->List (κ×V)->Prop:=El λ(p:κ×D) (q:κ×V)=>p.1=q.1/\BQ K ρ H p.2 q.2
def Dx (K:AA) (ρ:List AF) (H:Hp) (a:AF):Ob->Prop
 | .lst ds=>∃vs,H a=some (.lst vs)/\An K ρ H ds vs
 | .dK kvs=>∃kvs',H a=some (.dK kvs')/\KVR K ρ H kvs kvs'
 | .dT kvs=>∃kvs',H a=some (.dT kvs')/\KVR K ρ H kvs kvs'
 | .ins C fs=>∃dx fs',H a=some (.ins C dx fs')/\KVR K ρ H fs fs'
structure Bc (K:AA) (ρ:List AF) (S:Sto) (H:Hp):Prop where
 len:ρ.length=S.length
 nd:∀(i j:Nat) a,ρ[i]?=some a->ρ[j]?=some a->i=j
 ob:∀(n:Nat) o a,S[n]?=some o->ρ[n]?=some a->Dx K ρ H a o
section
variable {K:AA} {ρ ρ':List AF} {H H':Hp} {S:Sto} {a p:AF} {o:Ob} {n:Nat} {ho:HO}
theorem KVR.mono {κ:Type} (l:Le K ρ H ρ' H') {x:List (κ×D)} {y:List (κ×V)} (h:KVR K ρ H x y):KVR K ρ' H' x y:=El.mapP h λ_ _ z=>⟨z.1,z.2.mono l⟩
theorem Dx.mut (h:Dx K ρ H a o):Mut (H a):=by
 cases o with
 | lst ds=>obtain ⟨_,e,_⟩:=h;rw [e];trivial
 | dK ds=>obtain ⟨_,e,_⟩:=h;rw [e];trivial
 | dT ds=>obtain ⟨_,e,_⟩:=h;rw [e];trivial
 | ins C fs=>obtain ⟨_,_,e,_⟩:=h;rw [e];trivial
theorem Dx.mono (l:Le K ρ H ρ' H') (e:H' a=H a) (h:Dx K ρ H a o):Dx K ρ' H' a o:=by
 cases o with
 | lst ds=>obtain ⟨vs,h1,h2⟩:=h;exact ⟨vs,e.trans h1,h2.mono l⟩
 | dK ds=>obtain ⟨vs,h1,h2⟩:=h;exact ⟨vs,e.trans h1,h2.mono l⟩
 | dT ds=>obtain ⟨vs,h1,h2⟩:=h;exact ⟨vs,e.trans h1,h2.mono l⟩
 | ins C fs=>obtain ⟨dx,vs,h1,h2⟩:=h;exact ⟨dx,vs,e.trans h1,h2.mono l⟩
theorem Dx.keep (h1:∀a xs,H a=some (.tup xs)->H' a=some (.tup xs)) (h2:∀a o u,H a=some (.frz o u)->H' a=some (.frz o u)) (e:H' a=H a) (h:Dx K ρ H a o):Dx K ρ H' a o:=by
 cases o with
 | lst ds=>obtain ⟨vs,q1,q2⟩:=h;exact ⟨vs,e.trans q1,q2.keep h1 h2⟩
 | dK ds=>obtain ⟨vs,q1,q2⟩:=h;exact ⟨vs,e.trans q1,El.mapP q2 λ_ _ z=>⟨z.1,z.2.keep h1 h2⟩⟩
 | dT ds=>obtain ⟨vs,q1,q2⟩:=h;exact ⟨vs,e.trans q1,El.mapP q2 λ_ _ z=>⟨z.1,z.2.keep h1 h2⟩⟩
 | ins C fs=>obtain ⟨dx,vs,q1,q2⟩:=h;exact ⟨dx,vs,e.trans q1,El.mapP q2 λ_ _ z=>⟨z.1,z.2.keep h1 h2⟩⟩
theorem Dx.mono' (l:∀(n:Nat) a,ρ[n]?=some a->ρ'[n]?=some a) (h:Dx K ρ H a o):Dx K ρ' H a o:=by
 cases o with
 | lst ds=>obtain ⟨vs,h1,h2⟩:=h;exact ⟨vs,h1,h2.more l⟩
 | dK ds=>obtain ⟨vs,h1,h2⟩:=h;exact ⟨vs,h1,El.mapP h2 λ_ _ z=>⟨z.1,z.2.more l⟩⟩
 | dT ds=>obtain ⟨vs,h1,h2⟩:=h;exact ⟨vs,h1,El.mapP h2 λ_ _ z=>⟨z.1,z.2.more l⟩⟩
 | ins C fs=>obtain ⟨dx,vs,h1,h2⟩:=h;exact ⟨dx,vs,h1,El.mapP h2 λ_ _ z=>⟨z.1,z.2.more l⟩⟩
theorem Ea (hp:H p=none∨Mut (H p)):(∀a xs,H a=some (.tup xs)->upd H p ho a=some (.tup xs))/\∀a o u,H a=some (.frz o u)->upd H p ho a=some (.frz o u):=by
 have ne:∀a u,H a=some u->¬Mut (some u)->a≠p:=λa u e nm z=>by
  subst z
  rcases hp with h | h
  ·rw [e] at h;cases h
  ·rw [e] at h;exact nm h
 refine ⟨λa xs e=>?_,λa o u e=>?_⟩
 ·rw [BU (ne a _ e λz=>z)];exact e
 ·rw [BU (ne a _ e λz=>z)];exact e
theorem Le.fresh (hp:H p=none):Le K ρ H ρ (upd H p ho):=
 ⟨λ_ _ h=>h,(Ea (.inl hp)).1,(Ea (.inl hp)).2,λa o e n=>⟨by rw [BU (Bl e hp)];exact e,n⟩⟩
theorem Le.write (hn:ρ[n]?=some p) (hm:Mut (H p)):Le K ρ H ρ (upd H p ho):=
 ⟨λ_ _ h=>h,(Ea (.inr hm)).1,(Ea (.inr hm)).2,λa o e h=>⟨by rw [BU λz=>h n (by rw [z];exact hn)];exact e,h⟩⟩
theorem Fv {α:Type} {l:List α} {x:α} {m:Nat} {a:α} (e:(l++[x])[m]?=some a):(l[m]?=some a/\m < l.length)∨(m=l.length/\a=x):=by
 by_cases hm:m < l.length
 ·rw [AV hm] at e;exact .inl ⟨e,hm⟩
 ·rw [Aw (by lia)] at e
  have:m - l.length=0:=by
   have:=(AD.mp e).1;simp at this;omega
  rw [this] at e;exact .inr ⟨by lia,by simpa using e.symm⟩
theorem Le.alloc (hp:H p=none):Le K ρ H (ρ++[p]) (upd H p ho):=by
 refine ⟨λn a h=>by rw [AV (AD.mp h).1];exact h,(Ea (.inl hp)).1,(Ea (.inl hp)).2,λa o e h=>⟨by rw [BU (Bl e hp)];exact e,λn q=>?_⟩⟩
 rcases Fv q with ⟨q,_⟩ | ⟨_,q⟩
 ·exact h n q
 ·exact Bl e hp q
theorem Bc.there (h:Bc K ρ S H) {m:Nat} (e:ρ[m]?=some a):∃o,S[m]?=some o/\Dx K ρ H a o:=by
 have hn:m < S.length:=by rw [<-h.len];exact (AD.mp e).1
 exact ⟨S[m],by simp [hn],h.ob m _ a (by simp [hn]) e⟩
theorem Bc.notIn (h:Bc K ρ S H) (hp:H p=none) {m:Nat} (e:ρ[m]?=some p):False:=by
 obtain ⟨o,_,r⟩:=h.there e;have:=r.mut;rw [hp] at this;exact this
theorem Bc.alloc (h:Bc K ρ S H) (hp:H p=none) (hob:Dx K (ρ++[p]) (upd H p ho) p o):Bc K (ρ++[p]) (S++[o]) (upd H p ho)/\Le K ρ H (ρ++[p]) (upd H p ho)/\(ρ++[p])[S.length]?=some p:=by
 have le:Le K ρ H (ρ++[p]) (upd H p ho):=Le.alloc hp
 have at':∀(m:Nat) a,(ρ++[p])[m]?=some a->(ρ[m]?=some a/\m < ρ.length)∨(m=ρ.length/\a=p):=λm a e=>Fv e
 refine ⟨⟨by simp [h.len],λi j a hi hj=>?_,λm ob a hm ha=>?_⟩,le,by rw [<-h.len];simp⟩
 ·rcases at' i a hi with ⟨hi1,_⟩ | ⟨hi1,ea⟩ <;> rcases at' j a hj with ⟨hj1,_⟩ | ⟨hj1,ea'⟩
  ·exact h.nd i j a hi1 hj1
  ·rw [ea'] at hi1;exact (h.notIn hp hi1).elim
  ·rw [ea] at hj1;exact (h.notIn hp hj1).elim
  ·lia
 ·rcases at' m a ha with ⟨ha1,hlt⟩ | ⟨rfl,rfl⟩
  ·rw [AV (by rw [<-h.len];exact hlt)] at hm
   refine (h.ob m ob a hm ha1).mono le (BU λz=>?_);rw [z] at ha1;exact h.notIn hp ha1
  ·rw [h.len] at hm
   simp at hm;subst hm;exact hob
theorem Bc.write (h:Bc K ρ S H) (hn:ρ[n]?=some a) (hob:Dx K ρ (upd H a ho) a o):Bc K ρ (S.set n o) (upd H a ho)/\Le K ρ H ρ (upd H a ho):=by
 obtain ⟨o',e',r'⟩:=h.there hn;have le:Le K ρ H ρ (upd H a ho):=Le.write hn r'.mut;refine ⟨⟨by simp [h.len],h.nd,λm ob b hm hb=>?_⟩,le⟩
 by_cases e:m=n
 ·subst e
  rw [hn] at hb;cases hb;rw [A3 (by rw [<-h.len];exact (AD.mp hn).1)] at hm;cases hm;exact hob
 ·rw [Al (Bv e)] at hm
  refine (h.ob m ob b hm hb).mono le (BU λz=>?_);subst z;exact e (h.nd m n b hb hn)
theorem Le.back {S':Sto} (l:Le K ρ H ρ' H') (s:Bc K ρ S H) (s':Bc K ρ' S' H') (hp:H' p=none):H p=none:=by
 cases q:H p with
 | none=>rfl
 | some o=>
  by_cases hn:∃n:Nat,ρ[n]?=some p
  ·obtain ⟨n,hn⟩:=hn
   exact (s'.notIn hp (l.pre n p hn)).elim
  ·have:=(l.oth p o q λn h=>hn ⟨n,h⟩).1
   rw [hp] at this;cases this
theorem Bc.adopt (h:Bc K ρ S H) (hn:∀m:Nat,ρ[m]?≠some p) (hob:Dx K (ρ++[p]) H p o):Bc K (ρ++[p]) (S++[o]) H/\(ρ++[p])[S.length]?=some p:=by
 have le:∀a ob,Dx K ρ H a ob->Dx K (ρ++[p]) H a ob:=λa ob r=>by
  have l0:∀(n:Nat) a,ρ[n]?=some a->(ρ++[p])[n]?=some a:=λn a h=>by rw [AV (AD.mp h).1];exact h
  exact r.mono' l0
 refine ⟨⟨by simp [h.len],λi j a hi hj=>?_,λm ob a hm ha=>?_⟩,by rw [<-h.len];simp⟩
 ·rcases Fv hi with ⟨hi1,_⟩ | ⟨hi1,ea⟩ <;> rcases Fv hj with ⟨hj1,_⟩ | ⟨hj1,ea'⟩
  ·exact h.nd i j a hi1 hj1
  ·rw [ea'] at hi1;exact (hn i hi1).elim
  ·rw [ea] at hj1;exact (hn j hj1).elim
  ·lia
 ·rcases Fv ha with ⟨ha,hlt⟩ | ⟨rfl,rfl⟩
  ·rw [AV (by rw [<-h.len];exact hlt)] at hm
   exact le a ob (h.ob m ob a hm ha)
  ·rw [h.len] at hm
   simp at hm;subst hm;exact hob
end
end L2
namespace L2
open PySem PySem.Spec PyProof.Rows
inductive Res (α:Type) where
 | ok (a:α) (S:Sto) | err (c:AF) (S:Sto) | bad
def Res.bind {α β:Type} (r:Res α) (f:α->Sto->Res β):Res β:=match r with
 | .ok a S=>f a S
 | .err c S=>.err c S
 | .bad=>.bad
abbrev Lo:=List (Option D)
abbrev ME:=Lo->Sto->Res D
abbrev MT:=Lo->Sto->Res Bool
abbrev ML:=Lo->Sto->Res (List D)
inductive Fl where
 | nx (e:Lo) | rt (d:D) | bk (e:Lo) | ct (e:Lo) | ex (c:AF) (e:Lo)
abbrev MS:=Lo->Sto->Res Fl
abbrev MG:=D->Lo->Sto->Res Lo
abbrev Hi:=Sto->Option (List D)
abbrev MI:=Lo->Sto->Res Hi
structure DT (K:AA) (ρ:List AF) (H:Hp) (e:Lo) (σ:St):Prop where
 len:e.length=σ.length
 at':∀(i:Nat) d,e[i]?=some (some d)->∃v,σ[i]?=some (some v)/\BQ K ρ H d v
section
variable {K:AA} {ρ ρ':List AF} {H H':Hp} {S:Sto} {e:Lo} {σ:St}
theorem DT.mono (l:Le K ρ H ρ' H') (h:DT K ρ H e σ):DT K ρ' H' e σ:=⟨h.len,λi d q=>by
 obtain ⟨v,h1,h2⟩:=h.at' i d q
 exact ⟨v,h1,h2.mono l⟩⟩
theorem DT.set {d:D} {v:V} (h:DT K ρ H e σ) (r:BQ K ρ H d v) (i:Nat):DT K ρ H (e.set i (some d)) (σ.set i (some v)):=by
 refine ⟨by simp [h.len],λj d' q=>?_⟩
 by_cases hj:i=j
 ·subst hj
  have hi:i < e.length:=by
   have:=(AD.mp q).1;simpa using this
  rw [A3 hi] at q;cases q;exact ⟨v,by rw [A3 (by rw [<-h.len];exact hi)],r⟩
 ·rw [Al hj] at q ⊢
  exact h.at' j d' q
end
abbrev EW:=AF->St->Hp->Prop
abbrev EH:=AF->Hp->Prop
abbrev noE:EW:=λ_ _ _=>False
abbrev noH:EH:=λ_ _=>False
def BR {α:Type} (K:AA) (E:EH) (ρ:List AF) (H:Hp) (r:Res α) (k:α->Sto->Prop):Prop:=match r with
 | .ok a S=>k a S
 | .err c S=>∀ρ' H',Le K ρ H ρ' H'->Bc K ρ' S H'->E c H'
 | .bad=>False
section
variable {α β:Type} {K:AA} {E:EH} {ρ ρ1:List AF} {H H1:Hp}
theorem BR.seq {r:Res α} {F:α->Sto->Res β} {k:β->Sto->Prop} {k':α->Sto->Prop} (h:BR K E ρ H (r.bind F) k) (f:∀a S,BR K E ρ H (F a S) k->k' a S):BR K E ρ H r k':=by
 cases r with
 | ok a S=>exact f a S h
 | err c S=>exact h
 | bad=>exact h
theorem BR.later {r:Res α} {k:α->Sto->Prop} (h:BR K E ρ H r k) (l:Le K ρ H ρ1 H1):BR K E ρ1 H1 r k:=by
 cases r with
 | ok a S=>exact h
 | err c S=>exact λρ' H' l'=>h ρ' H' (l.trans l')
 | bad=>exact h
theorem BR.imp {r:Res α} {k k':α->Sto->Prop} (h:BR K E ρ H r k) (f:∀a S,k a S->k' a S):BR K E ρ H r k':=by
 cases r with
 | ok a S=>exact f a S h
 | err c S=>exact h
 | bad=>exact h
theorem BR.go {r:Res α} {k k':α->Sto->Prop} (h:BR K E ρ H r k) (l:Le K ρ H ρ1 H1) (f:∀a S,k a S->k' a S):BR K E ρ1 H1 r k':=(h.later l).imp f
end
def okR {α:Type}:Res α->Res α
 | .ok a S=>.ok a S
 | _=>.bad
theorem BR.okR {α:Type} {K:AA} {E:EH} {ρ:List AF} {H:Hp} {r:Res α} {k:α->Sto->Prop} (h:BR K E ρ H (L2.okR r) k):∃a S,r=.ok a S/\k a S:=by
 cases r with
 | ok a S=>exact ⟨a,S,rfl,h⟩
 | err c S=>exact h.elim
 | bad=>exact h.elim
section
variable (K:AA) (E:EW)
def gE (m:ME):TE:=λσ H Q=>∃ρ e S,DT K ρ H e σ/\Bc K ρ S H/\BR K (λc=>E c σ) ρ H (m e S) λd S'=>∀ρ' H' x,Le K ρ H ρ' H'->Bc K ρ' S' H'->BQ K ρ' H' d x->Q x H'
def gT (m:MT):TT:=λσ H Q=>∃ρ e S,DT K ρ H e σ/\Bc K ρ S H/\BR K (λc=>E c σ) ρ H (m e S) λb S'=>∀ρ' H',Le K ρ H ρ' H'->Bc K ρ' S' H'->Q b H'
def gA (m:ML):TA:=λσ H Q=>∃ρ e S,DT K ρ H e σ/\Bc K ρ S H/\BR K (λc=>E c σ) ρ H (m e S) λds S'=>∀ρ' H' xs,Le K ρ H ρ' H'->Bc K ρ' S' H'->An K ρ' H' ds xs->Q xs H'
def gL (m:ML):TE:=λσ H Q=>∃ρ e S,DT K ρ H e σ/\Bc K ρ S H/\BR K (λc=>E c σ) ρ H (m e S) λds S'=>∀ρ' H' p xs,Le K ρ H ρ' H'->Bc K ρ' S' H'->An K ρ' H' ds xs->H' p=some (.lst xs)->(∀n:Nat,ρ'[n]?≠some p)->H p=none->Q (.ref p) H'
def gQ (m:ML):TE:=λσ H Q=>∃ρ e S,DT K ρ H e σ/\Bc K ρ S H/\BR K (λc=>E c σ) ρ H (m e S) λds S'=>∀ρ' H' p xs,Le K ρ H ρ' H'->Bc K ρ' S' H'->An K ρ' H' ds xs->(SqL K H' p xs∨SqT K H' p xs)->Q (.ref p) H'
def Mv (K:AA) (E:EW) (ρ:List AF) (H:Hp) (S':Sto) (D:Qp):Fl->Prop
 | .ex c e'=>∀ρ' H' σ',Le K ρ H ρ' H'->Bc K ρ' S' H'->DT K ρ' H' e' σ'->E c σ' H'
 | .nx e'=>∀ρ' H' σ',Le K ρ H ρ' H'->Bc K ρ' S' H'->DT K ρ' H' e' σ'->D.nx σ' H'
 | .bk e'=>∀ρ' H' σ',Le K ρ H ρ' H'->Bc K ρ' S' H'->DT K ρ' H' e' σ'->D.bk σ' H'
 | .ct e'=>∀ρ' H' σ',Le K ρ H ρ' H'->Bc K ρ' S' H'->DT K ρ' H' e' σ'->D.ct σ' H'
 | .rt d=>∀ρ' H' x,Le K ρ H ρ' H'->Bc K ρ' S' H'->BQ K ρ' H' d x->D.rt x H'
def gS (m:MS):TS:=λD σ H=>∃ρ e S,DT K ρ H e σ/\Bc K ρ S H/\BR K noH ρ H (m e S) λfl S'=>Mv K E ρ H S' D fl
def gG (m:MG):TG:=λv σ H Q=>∃ρ e S d,BQ K ρ H d v/\DT K ρ H e σ/\Bc K ρ S H/\BR K noH ρ H (m d e S) λe' S'=>∀ρ' H' σ',Le K ρ H ρ' H'->Bc K ρ' S' H'->DT K ρ' H' e' σ'->Q σ' H'
def PQ (ρ0:List AF) (H0:Hp) (J:It) (v:Hi):Prop:=∀ρ H S ds (i:Nat),Le K ρ0 H0 ρ H->Bc K ρ S H->v S=some ds ->
 (ds[i]?=none->J.stop i H)/\∀d,ds[i]?=some d->J.go i H/\∀x H',J.yld i H x H'->∃ρ',Le K ρ H ρ' H'/\Bc K ρ' S H'/\BQ K ρ' H' d x
def gI (m:MI):TI:=λσ H R=>∃ρ e S,DT K ρ H e σ/\Bc K ρ S H/\BR K (λc=>E c σ) ρ H (m e S) λv S'=>∀ρ' H' J,Le K ρ H ρ' H'->Bc K ρ' S' H'->PQ K ρ' H' J v->R J H'
end
abbrev GE (X:Cx) (E:EW) (e:Expr) (m:ME):Prop:=PE X e (gE X.K E m)
abbrev GT (X:Cx) (E:EW) (e:Expr) (m:MT):Prop:=PT X e (gT X.K E m)
abbrev GA (X:Cx) (E:EW) (es:List Expr) (m:ML):Prop:=PA X es (gA X.K E m)
abbrev GL (X:Cx) (E:EW) (e:Expr) (m:ML):Prop:=PE X e (gL X.K E m)
abbrev GQ (X:Cx) (E:EW) (e:Expr) (m:ML):Prop:=PE X e (gQ X.K E m)
abbrev GS (X:Cx) (E:EW) (s:Cd) (m:MS):Prop:=PS X s (gS X.K E m)
abbrev GSs (X:Cx) (E:EW) (s:List Cd) (m:MS):Prop:=PSs X s (gS X.K E m)
abbrev GG (X:Cx) (t:Expr) (m:MG):Prop:=PG X t (gG X.K m)
abbrev GI (X:Cx) (E:EW) (tg t:Expr) (m:MI):Prop:=PI X tg t (gI X.K E m)
theorem PE.imp {X:Cx} {e:Expr} {t t':TE} (h:PE X e t) (i:∀σ H Q,t' σ H Q->t σ H Q):PE X e t':=λpins s σ H Q I q=>h pins s σ H Q I (i σ H Q q)
theorem PT.imp {X:Cx} {e:Expr} {t t':TT} (h:PT X e t) (i:∀σ H Q,t' σ H Q->t σ H Q):PT X e t':=λpins s σ H Q I q=>h pins s σ H Q I (i σ H Q q)
theorem PW.imp {X:Cx} {e:Expr} {t t':TT} (h:PW X e t) (i:∀σ H Q,t' σ H Q->t σ H Q):PW X e t':=λwh pins s σ H Q I q=>h wh pins s σ H Q I (i σ H Q q)
theorem PA.imp {X:Cx} {e:List Expr} {t t':TA} (h:PA X e t) (i:∀σ H Q,t' σ H Q->t σ H Q):PA X e t':=λpos pins s σ H Q I q=>h pos pins s σ H Q I (i σ H Q q)
theorem PS.imp {X:Cx} {e:Cd} {t t':TS} (h:PS X e t) (i:∀D σ H,t' D σ H->t D σ H):PS X e t':=λpins s σ H D I q=>h pins s σ H D I (i D σ H q)
theorem PSs.imp {X:Cx} {e:List Cd} {t t':TS} (h:PSs X e t) (i:∀D σ H,t' D σ H->t D σ H):PSs X e t':=λpins s σ H D I q=>h pins s σ H D I (i D σ H q)
theorem PG.imp {X:Cx} {e:Expr} {t t':TG} (h:PG X e t) (i:∀v σ H Q,t' v σ H Q->t v σ H Q):PG X e t':=λpins s σ H v u Q I r q=>h pins s σ H v u Q I r (i v σ H Q q)
theorem PI.imp {X:Cx} {tg e:Expr} {t t':TI} (h:PI X tg e t) (i:∀σ H R,t' σ H R->t σ H R):PI X tg e t':=λpins s σ H R I q=>h pins s σ H R I (i σ H R q)
theorem OpR.imp {X:Cx} {f:AC->AC->Sem AC} {r r':R2} (h:OpR X f r) (i:∀x y H Q,r' x y H Q->r x y H Q):OpR X f r':=λpins s σ H x y v u Q I rx ry q=>h pins s σ H x y v u Q I rx ry (i x y H Q q)
theorem IxR.imp {X:Cx} {r r':R2} (h:IxR X r) (i:∀x y H Q,r' x y H Q->r x y H Q):IxR X r':=λva sl pins s σ H x y v u Q I rx ry q=>h va sl pins s σ H x y v u Q I rx ry (i x y H Q q)
def AL (i:Nat):ME:=λe S=>match e[i]? with
 | some (some d)=>.ok d S
 | _=>.bad
def mC (d:D):ME:=λ_ S=>.ok d S
section
variable {X:Cx} {E:EW} {e a b:Expr} {pos:Pos} {ma mb:ME}
theorem AI {i:Nat} (h:PE X e (aH i)):GE X E e (AL i):=h.imp λσ H Q ⟨ρ,l,S,hl,hs,hm⟩=>by
 unfold AL at hm;split at hm
 ·rename_i d' hd
  obtain ⟨v,h1,h2⟩:=hl.at' i _ hd;exact ⟨v,h1,hm ρ H v .refl hs h2⟩
 ·exact hm.elim
theorem Wm {v:V} {d:D} (h:PE X e (tC v)) (hd:∀ρ H,BQ X.K ρ H d v):GE X E e (mC d):=h.imp λσ H Q ⟨ρ,l,S,hl,hs,hm⟩=>by
 exact hm ρ H v .refl hs (hd _ _)
theorem ge_int {i j pos}:GE X E (.Constant (.int i) j pos) (mC (.int i)):=Wm ap λ_ _=>.int i
theorem Qd {b j pos}:GE X E (.Constant (.bool b) j pos) (mC (.bl b)):=Wm di λ_ _=>.bl b
theorem bq {j pos}:GE X E (.Constant .none j pos) (mC .non):=Wm am λ_ _=>.non
theorem Jd {x j pos}:GE X E (.Constant (.str x) j pos) (mC (.str x)):=Wm ai λ_ _=>.str x
theorem Qc {x:Str} {i:Int} {tk:Tok} {pos:Pos} (hg:Gl X x) (hm:X.mg x=some (.int i tk)) (hd:(x==("__debug__" : Str))=false:=by decide):GE X E (.Name x pos) (mC (.int i)):=
 Wm (Jy (v:=.int i) hg hm ⟨tk,rfl⟩ hd) λ_ _=>.int i
def m2 (f:D->D->Sto->Res D) (ma mb:ME):ME:=λe S=>(ma e S).bind λx S1=>(mb e S1).bind λy S2=>okR (f x y S2)
def rD (K:AA) (f:D->D->Sto->Res D):R2:=λu v H Q=>∃ρ S x y d S',Bc K ρ S H/\BQ K ρ H x u/\BQ K ρ H y v/\f x y S=.ok d S' /\
 ∀ρ' H' z,Le K ρ H ρ' H'->Bc K ρ' S' H'->BQ K ρ' H' d z->Q z H'
theorem JV {K:AA} {f:D->D->Sto->Res D} {σ:St} {H:Hp} {Q:VK} (h:gE K E (m2 f ma mb) σ H Q):tOp (rD K f) (gE K E ma) (gE K E mb) σ H Q:=by
 obtain ⟨ρ,l,S,hl,hs,hm⟩:=h;refine ⟨ρ,l,S,hl,hs,hm.seq λx S1 hm ρ1 H1 u l1 s1 r1=>⟨ρ1,l,S1,hl.mono l1,s1,(hm.later l1).seq λy S2 hm ρ2 H2 v l2 s2 r2=>?_⟩⟩;obtain ⟨d,S',e,k⟩:=hm.okR;exact ⟨ρ2,S2,x,y,d,S',s2,r1.mono l2,r2,e,λρ' H' z l' s' r'=>k ρ' H' z (l1.trans (l2.trans l')) s' r'⟩
theorem BX {op:Operator} {f:D->D->Sto->Res D} (ho:OpR X (Ci op) (rD X.K f)) (ha:GE X E a ma) (hb:GE X E b mb):GE X E (.BinOp a op b pos) (m2 f ma mb):=(dg ho ha hb).imp λ_ _ _ h=>JV h
theorem Wl {op:RH} {f:D->D->Sto->Res D} (ho:OpR X (Bg op) (rD X.K f)) (ha:GE X E a ma) (hb:GE X E b mb) (hm:CQ op b=false):GE X E (.Compare a [op] [b] pos) (m2 f ma mb):=(YV ho ha hb hm).imp λ_ _ _ h=>JV h
theorem eY {f:D->D->Sto->Res D} (ho:IxR X (rD X.K f)) (ha:GE X E a ma) (hb:GE X E b mb) (hs:PX b:=by intro _ _;rfl):GE X E (.Subscript a b pos) (m2 f ma mb):=(dh ho ha hb hs).imp λ_ _ _ h=>JV h
def mB (m:ME):MT:=λe S=>(m e S).bind λd S1=>match d with
 | .bl b=>.ok b S1
 | _=>.bad
def QQ (d:D) (S:Sto):Option Bool:=match d with
 | .non=>some false
 | .bl b=>some b
 | .int i=>some (i != 0)
 | .tup ds=>some (!ds.isEmpty)
 | .fro ds=>some (!ds.isEmpty)
 | .ref n=>match S[n]? with
  | some (.lst ds)=>some (!ds.isEmpty)
  | some (.dK kvs)=>some (!kvs.isEmpty)
  | _=>none
 | _=>none
def Oy (m:ME):MT:=λe S=>(m e S).bind λd S1=>match QQ d S1 with
 | some b=>.ok b S1
 | none=>.bad
theorem An.empty {K:AA} {ρ:List AF} {H:Hp} {ds:List D} {vs:List V} (h:An K ρ H ds vs):ds.isEmpty=vs.isEmpty:=by cases h <;> rfl
theorem KVR.empty {κ:Type} {K:AA} {ρ:List AF} {H:Hp} {x:List (κ×D)} {y:List (κ×V)} (h:KVR K ρ H x y):x.isEmpty=y.isEmpty:=by cases h <;> rfl
theorem Xq {K:AA} {ρ:List AF} {H:Hp} {S:Sto} {d:D} {x:V} {b:Bool} (hs:Bc K ρ S H) (r:BQ K ρ H d x) (h:QQ d S=some b):cJ K x H b:=by
 cases r with
 | non=>cases h;rfl
 | bl c=>cases h;rfl
 | int i=>cases h;rfl
 | str x=>cases h
 | tup h1 h2=>cases h;rw [h2.empty];exact .inr (.inl ⟨_,.inl (.inl h1),rfl⟩)
 | fro h1 h2=>cases h;rw [h2.empty];exact .inl ⟨_,h1.sq,rfl⟩
 | exc _ _=>cases h
 | @ref n a hn=>
  obtain ⟨o,ho,ro⟩:=hs.there hn;unfold QQ at h;simp only [ho] at h
  cases o with
  | lst ds=>cases h;obtain ⟨vs,e,rr⟩:=ro;rw [rr.empty];exact .inl ⟨_,.inl (.inl e),rfl⟩
  | dK kvs=>cases h;obtain ⟨vs,e,rr⟩:=ro;rw [KVR.empty rr];exact .inr (.inr ⟨_,e,rfl⟩)
  | dT kvs=>cases h
  | ins C fs=>cases h
theorem R1 (h:GE X E e ma) (he:∀whole,Q4 e X.env whole=(do let v <-whole;cS e.pos;cV [v] (Zi v)):=by intro _;rfl):GT X E e (mB ma):=(aT h he).imp λσ H Q ⟨ρ,l,S,hl,hs,hm⟩=>by
 refine ⟨ρ,l,S,hl,hs,hm.seq λd S1 hm ρ1 H1 x l1 s1 r1=>?_⟩
 cases d <;> first | exact hm.elim | skip
 cases r1;exact ⟨_,rfl,hm ρ1 H1 l1 s1⟩
theorem Qa (h:GE X E e ma) (he:∀whole,Q4 e X.env whole=(do let v <-whole;cS e.pos;cV [v] (Zi v)):=by intro _;rfl):GT X E e (Oy ma):=(Vh h he).imp λσ H Q ⟨ρ,l,S,hl,hs,hm⟩=>by
 refine ⟨ρ,l,S,hl,hs,hm.seq λd S1 hm ρ1 H1 x l1 s1 r1=>?_⟩
 cases hb:QQ d S1 with
 | none=>rw [hb] at hm;exact hm.elim
 | some c=>
  rw [hb] at hm;exact ⟨c,Xq s1 r1 hb,hm ρ1 H1 l1 s1⟩
theorem FI {op:RH} {f:D->D->Sto->Res D} (ho:OpR X (Bg op) (rD X.K f)) (ha:GE X E a ma) (hb:GE X E b mb) (hm:CQ op b=false):GT X E (.Compare a [op] [b] pos) (mB (m2 f ma mb)):=(YD ho ha hb hm).imp λσ H Q ⟨ρ,l,S,hl,hs,hm⟩=>by
 refine JV (Q:=λx H'=>∃k,x=.bl k/\Q k H') ⟨ρ,l,S,hl,hs,hm.seq λd S1 hm ρ1 H1 x l1 s1 r1=>?_⟩
 cases d <;> first | exact hm.elim | skip
 cases r1;exact ⟨_,rfl,hm ρ1 H1 l1 s1⟩
def Ja (m:MT):MT:=λe S=>(m e S).bind λb S1=>.ok (!b) S1
def QS (ma mb:MT):MT:=λe S=>(ma e S).bind λb S1=>if b=true then mb e S1 else .ok false S1
def mOr (ma mb:MT):MT:=λe S=>(ma e S).bind λb S1=>if b=true then .ok true S1 else mb e S1
variable {ta tb:MT} {rest:List Expr}
theorem Kr (h:GT X E a ta):GT X E (.UnaryOp .Not a pos) (Ja ta):=(aU h).imp λσ H Q ⟨ρ,l,S,hl,hs,hm⟩=>by
 exact ⟨ρ,l,S,hl,hs,hm.seq λd S1 hm ρ1 H1 l1 s1=>hm ρ1 H1 l1 s1⟩
theorem Xt {K:AA} {σ:St} {H:Hp} {Q:Bool->Hp->Prop} (h:gT K E (QS ta tb) σ H Q):dS (gT K E ta) (gT K E tb) σ H Q:=by
 obtain ⟨ρ,l,S,hl,hs,hm⟩:=h;refine ⟨ρ,l,S,hl,hs,hm.seq λc S1 hm ρ1 H1 l1 s1=>?_⟩
 cases c with
 | true=>rw [if_pos rfl] at hm ⊢;exact ⟨ρ1,l,S1,hl.mono l1,s1,hm.go l1 λ_ _ k ρ2 H2 l2 s2=>k ρ2 H2 (l1.trans l2) s2⟩
 | false=>rw [if_neg AS] at hm ⊢;exact hm ρ1 H1 l1 s1
theorem aI {K:AA} {σ:St} {H:Hp} {Q:Bool->Hp->Prop} (h:gT K E (mOr ta tb) σ H Q):tOr (gT K E ta) (gT K E tb) σ H Q:=by
 obtain ⟨ρ,l,S,hl,hs,hm⟩:=h;refine ⟨ρ,l,S,hl,hs,hm.seq λc S1 hm ρ1 H1 l1 s1=>?_⟩
 cases c with
 | false=>rw [if_neg AS] at hm ⊢;exact ⟨ρ1,l,S1,hl.mono l1,s1,hm.go l1 λ_ _ k ρ2 H2 l2 s2=>k ρ2 H2 (l1.trans l2) s2⟩
 | true=>rw [if_pos rfl] at hm ⊢;exact hm ρ1 H1 l1 s1
abbrev GW (X:Cx) (E:EW) (e:Expr) (m:MT):Prop:=PW X e (gT X.K E m)
theorem Ys (ha:GT X E a ta):GW X E (.BoolOp .And [a] pos) ta:=YB ha
theorem R0 (ha:GT X E a ta):GW X E (.BoolOp .Or [a] pos) ta:=aR ha
theorem bZ (ha:GT X E a ta) (hb:GW X E (.BoolOp .And (b :: rest) pos) tb):GW X E (.BoolOp .And (a :: b :: rest) pos) (QS ta tb):=(aS ha hb).imp λ_ _ _ h=>Xt h
theorem Wa (ha:GT X E a ta) (hb:GW X E (.BoolOp .Or (b :: rest) pos) tb):GW X E (.BoolOp .Or (a :: b :: rest) pos) (mOr ta tb):=(dc ha hb).imp λ_ _ _ h=>aI h
theorem Yt {t:MT} (h:GW X E e t):GT X E e t:=PW.pt h
def WA (ma mb:ME):ME:=λe S=>(ma e S).bind λd S1=>match d with
 | .bl true=>.ok (.bl true) S1
 | .bl false=>mb e S1
 | _=>.bad
def Sj (ma:ME):ME:=λe S=>(ma e S).bind λd S1=>match d with
 | .bl c=>.ok (.bl (!c)) S1
 | _=>.bad
theorem bo {op} (h:GE X E a ma):GE X E (.BoolOp op [a] pos) ma:=aj h
theorem eX (ha:GE X E a ma) (hb:GE X E (.BoolOp .Or (b :: rest) pos) mb):GE X E (.BoolOp .Or (a :: b :: rest) pos) (WA ma mb):=(df ha hb).imp λσ H Q ⟨ρ,l,S,hl,hs,hm⟩=>by
 refine ⟨ρ,l,S,hl,hs,hm.seq λc S1 hm ρ1 H1 x l1 s1 r1=>?_⟩
 cases c with
 | bl c=>
  cases r1;refine ⟨c,rfl,?_⟩
  cases c with
  | false=>rw [if_neg AS];exact ⟨ρ1,l,S1,hl.mono l1,s1,hm.go l1 λ_ _ k ρ2 H2 z l2 s2 r2=>k ρ2 H2 z (l1.trans l2) s2 r2⟩
  | true=>rw [if_pos rfl];exact hm ρ1 H1 _ l1 s1 (.bl true)
 | _=>exact hm.elim
theorem bp (ha:GE X E a ma):GE X E (.UnaryOp .Not a pos) (Sj ma):=(ak ha).imp λσ H Q ⟨ρ,l,S,hl,hs,hm⟩=>by
 refine ⟨ρ,l,S,hl,hs,hm.seq λc S1 hm ρ1 H1 x l1 s1 r1=>?_⟩
 cases c with
 | bl c=>cases r1;exact ⟨c,rfl,hm ρ1 H1 _ l1 s1 (.bl _)⟩
 | _=>exact hm.elim
def m3 (f g:D->D->Sto->Res D) (ma mb mc:ME):ME:=λe S=>(ma e S).bind λx S1=>(mb e S1).bind λy S2=>(okR (f x y S2)).bind λz S3=>match z with
 | .bl true=>(mc e S3).bind λw S4=>okR (g y w S4)
 | .bl false=>.ok (.bl false) S3
 | _=>.bad
def BH:ML:=λ_ S=>.ok [] S
def AY (m:ME) (r:ML):ML:=λe S=>(m e S).bind λd S1=>(r e S1).bind λds S2=>.ok (d :: ds) S2
variable {es:List Expr} {ml:ML}
theorem BC:GA X E [] BH:=FF.imp λσ H Q ⟨ρ,l,S,hl,hs,hm⟩=>by
 exact hm ρ H [] .refl hs .nil
theorem Ad (ha:GE X E e ma) (hr:GA X E es ml) (hs:AO (e :: es) X.env=(false,Bh e X.env) :: AO es X.env:=by rfl):GA X E (e :: es) (AY ma ml):=(DF ha hr hs).imp λσ H Q ⟨ρ,l,S,hl,hs,hm⟩=>by
 exact ⟨ρ,l,S,hl,hs,hm.seq λd S1 hm ρ1 H1 x l1 s1 r1=>⟨ρ1,l,S1,hl.mono l1,s1,(hm.later l1).seq λds' S2 hm ρ2 H2 xs l2 s2 r2=>hm ρ2 H2 (x :: xs) (l1.trans l2) s2 (.cons (r1.mono l2) r2)⟩⟩
def Mf (m:ML):ME:=λe S=>(m e S).bind λds S1=>if ds.length<=sizeLine then .ok (.tup ds) S1 else .bad
theorem ER {K:AA} {ρ:List AF} {H:Hp} {S:Sto} {p:AF} {ho:HO} (hs:Bc K ρ S H) (hp:H p=none):Bc K ρ S (upd H p ho)/\Le K ρ H ρ (upd H p ho):=by
 have le:Le K ρ H ρ (upd H p ho):=Le.fresh hp;refine ⟨⟨hs.len,hs.nd,λn o a h1 h2=>(hs.ob n o a h1 h2).mono le (BU λz=>?_)⟩,le⟩;subst z;exact hs.notIn hp h2
theorem O9 {x1} (h:GA X E es ml):GE X E (.Tuple es x1 pos) (Mf ml):=(Vr h).imp λσ H Q ⟨ρ,l,S,hl,hs,hm⟩=>by
 refine ⟨ρ,l,S,hl,hs,hm.seq λds S1 hm ρ1 H1 xs l1 s1 r1=>?_⟩;split at hm
 ·rename_i hz
  refine ⟨by rw [<-r1.length];exact hz,λp hp=>?_⟩;obtain ⟨s2,l2⟩:=ER (ho:=.tup xs) s1 hp;exact hm ρ1 _ _ (l1.trans l2) s2 (.tup BM (r1.mono l2))
 ·exact hm.elim
def Df (m:ML):ML:=λe S=>(m e S).bind λds S1=>if ds.length<=sizeLine then .ok ds S1 else .bad
theorem IV (h:GA X E es ml):GL X E (.List es pos) (Df ml):=(ao h).imp λσ H Q ⟨ρ,l,S,hl,hs,hm⟩=>by
 refine ⟨ρ,l,S,hl,hs,hm.seq λds S1 hm ρ1 H1 xs l1 s1 r1=>?_⟩;split at hm
 ·rename_i hz
  refine ⟨by rw [<-r1.length];exact hz,λp hp=>?_⟩;obtain ⟨s2,l2⟩:=ER (ho:=.lst xs) s1 hp;exact hm ρ1 _ p xs (l1.trans l2) s2 (r1.mono l2) BM (λn q=>s1.notIn hp q) (l1.back hs s1 hp)
 ·exact hm.elim
def E7 (m:ML):ME:=λe S=>(m e S).bind λds S1=>.ok (.ref S1.length) (S1++[.lst ds])
theorem Ev (h:GL X E e ml):GE X E e (E7 ml):=PE.imp h λσ H Q ⟨ρ,l,S,hl,hs,hm⟩=>by
 refine ⟨ρ,l,S,hl,hs,hm.seq λds S1 hm ρ1 H1 p xs l1 s1 r1 hp hn hp0=>?_⟩
 have l0:∀(n:Nat) a,ρ1[n]?=some a->(ρ1++[p])[n]?=some a:=λn a h=>by rw [AV (AD.mp h).1];exact h
 obtain ⟨s2,at2⟩:=s1.adopt (o:=.lst ds) hn ⟨xs,hp,r1.more l0⟩;refine hm _ _ _ ⟨λn a h=>l0 n a (l1.pre n a h),l1.tup,l1.frz,λa o e h=>⟨(l1.oth a o e h).1,λn q=>?_⟩⟩ s2 (.ref at2)
 rcases Fv q with ⟨q,_⟩ | ⟨_,q⟩
 ·exact (l1.oth a o e h).2 n q
 ·exact Bl e hp0 q
def Fp (d:D) (S:Sto):Option (List D):=match d with
 | .tup ds=>some ds
 | .fro ds=>some ds
 | .ref n=>match S[n]? with
  | some (.lst ds)=>some ds
  | _=>none
 | _=>none
def QR (m:ME):ML:=λe S=>(m e S).bind λd S1=>match Fp d S1 with
 | some ds=>.ok ds S1
 | none=>.bad
theorem Lk {K:AA} {ρ:List AF} {H:Hp} {S:Sto} {d:D} {x:V} {ds:List D} (hs:Bc K ρ S H) (r:BQ K ρ H d x) (h:Fp d S=some ds):∃p xs,x=.ref p/\An K ρ H ds xs/\(SqL K H p xs∨SqT K H p xs):=by
 cases r with
 | tup h1 h2=>cases h;exact ⟨_,_,rfl,h2,.inr (.inl (.inl h1))⟩
 | fro h1 h2=>cases h;exact ⟨_,_,rfl,h2,.inl h1.sq⟩
 | @ref n a hn=>
  obtain ⟨o,ho,ro⟩:=hs.there hn;unfold Fp at h;simp only [ho] at h
  cases o with
  | lst es=>cases h;obtain ⟨vs,e,rr⟩:=ro;exact ⟨_,_,rfl,rr,.inl (.inl (.inl e))⟩
  | _=>cases h
 | _=>cases h
theorem Zc (h:GE X E e ma):GQ X E e (QR ma):=PE.imp h λσ H Q ⟨ρ,l,S,hl,hs,hm⟩=>by
 refine ⟨ρ,l,S,hl,hs,hm.seq λx S1 hm ρ1 H1 v l1 s1 r1=>?_⟩
 cases hq:Fp x S1 with
 | none=>rw [hq] at hm;exact hm.elim
 | some ds=>
  rw [hq] at hm;obtain ⟨p,xs,rfl,r2,sq⟩:=Lk s1 r1 hq;exact hm ρ1 H1 p xs l1 s1 r2 sq
end
def Res.lift {α:Type} (r:Res α) (e:Lo) (f:α->Sto->Res Fl):Res Fl:=match r with
 | .ok a S=>f a S
 | .err c S=>.ok (.ex c e) S
 | .bad=>.bad
theorem BR.lift {α:Type} {K:AA} {E:EW} {ρ ρ1:List AF} {H H1:Hp} {σ:St} {e:Lo} {D:Qp} {r:Res α} {F:α->Sto->Res Fl} {k':α->Sto->Prop} (h:BR K noH ρ1 H1 (r.lift e F) λfl S'=>Mv K E ρ H S' D fl) (hl:DT K ρ1 H1 e σ) (l:Le K ρ H ρ1 H1)
  (f:∀a S,(BR K noH ρ1 H1 (F a S) λfl S'=>Mv K E ρ H S' D fl)->k' a S):BR K (λc=>E c σ) ρ1 H1 r k':=by
 cases r with
 | ok a S=>exact f a S h
 | err c S=>exact λρ' H' l' s'=>h ρ' H' σ (l.trans l') s' (hl.mono l')
 | bad=>exact h
def sNx:MS:=λe S=>.ok (.nx e) S
def BW (a b:MS):MS:=λe S=>(a e S).bind λf S1=>match f with
 | .nx e1=>b e1 S1
 | f=>.ok f S1
def C4 (m:ME):MS:=λe S=>(m e S).lift e λ_ S1=>.ok (.nx e) S1
def E6 (m:ME):MS:=λe S=>(m e S).lift e λd S1=>.ok (.rt d) S1
def sIf (t:MT) (a b:MS):MS:=λe S=>(t e S).lift e λc S1=>if c=true then a e S1 else b e S1
def Tq (m:ME) (g:MG):MS:=λe S=>(m e S).lift e λd S1=>(g d e S1).bind λe1 S2=>.ok (.nx e1) S2
def tgN (i:Nat):MG:=λd e S=>.ok (e.set i (some d)) S
def B3 (i:Nat) (m:ME):MS:=Tq m (tgN i)
section
variable {X:Cx} {E:EW} {st:Cd} {rest:List Cd} {e:Expr} {pos:Pos} {a b:MS} {m:ME} {t:MT}
theorem Mv.later {K:AA} {ρ ρ1:List AF} {H H1:Hp} {S:Sto} {D:Qp} {f:Fl} (l:Le K ρ H ρ1 H1) (h:Mv K E ρ H S D f):Mv K E ρ1 H1 S D f:=by
 cases f with
 | nx e=>exact λρ' H' σ' l'=>h ρ' H' σ' (l.trans l')
 | bk e=>exact λρ' H' σ' l'=>h ρ' H' σ' (l.trans l')
 | ct e=>exact λρ' H' σ' l'=>h ρ' H' σ' (l.trans l')
 | ex c e=>exact λρ' H' σ' l'=>h ρ' H' σ' (l.trans l')
 | rt d=>exact λρ' H' x l'=>h ρ' H' x (l.trans l')
theorem Cy:GSs X E [] sNx:=YF.imp λD σ H ⟨ρ,l,S,hl,hs,hm⟩=>by
 exact hm ρ H σ .refl hs hl
theorem Ag (h1:GS X E st a) (h2:GSs X E rest b):GSs X E (st :: rest) (BW a b):=(Vk h1 h2).imp λD σ H ⟨ρ,l,S,hl,hs,hm⟩=>by
 refine ⟨ρ,l,S,hl,hs,hm.seq λg S1 hm=>?_⟩
 cases g with
 | nx e'=>exact λρ1 H1 σ1 l1 s1 r1=>⟨ρ1,e',S1,r1,s1,hm.go l1 λ_ _ k=>k.later l1⟩
 | rt d=>exact hm
 | bk d=>exact hm
 | ct d=>exact hm
 | ex c d=>exact hm
theorem BA (h1:GS X E st a):GSs X E [st] a:=YE h1
theorem Eb (he:GE X E e m) (hs:EJ e none pos.line X.env=pure false:=by rfl):GS X E (.Expr e pos) (C4 m):=(YG he hs).imp λD σ H ⟨ρ,l,S,hl,hs,hm⟩=>by
 exact ⟨ρ,l,S,hl,hs,hm.lift hl .refl λd S1 hm ρ1 H1 x l1 s1 r1=>hm ρ1 H1 σ l1 s1 (hl.mono l1)⟩
theorem DG (he:GE X E e m):GS X E (.Return (some e) pos) (E6 m):=(aW he).imp λD σ H ⟨ρ,l,S,hl,hs,hm⟩=>by
 exact ⟨ρ,l,S,hl,hs,hm.lift hl .refl λd S1 hm ρ1 H1 x l1 s1 r1=>hm ρ1 H1 x l1 s1 r1⟩
theorem FR {c:Expr} {sa sb:List Cd} (hc:GT X E c t) (ha:GSs X E sa a) (hb:GSs X E sb b):GS X E (.If c sa sb pos) (sIf t a b):=(de hc ha hb).imp λD σ H ⟨ρ,l,S,hl,hs,hm⟩=>by
 refine ⟨ρ,l,S,hl,hs,hm.lift hl .refl λc S1 hm ρ1 H1 l1 s1=>?_⟩
 cases c with
 | true=>rw [if_pos rfl] at hm ⊢;exact ⟨ρ1,l,S1,hl.mono l1,s1,hm.go l1 λ_ _ k=>k.later l1⟩
 | false=>rw [if_neg AS] at hm ⊢;exact ⟨ρ1,l,S1,hl.mono l1,s1,hm.go l1 λ_ _ k=>k.later l1⟩
theorem Yw {i:Nat} {tg:Expr} (h:PG X tg (Sx i)):GG X tg (tgN i):=h.imp λv σ H Q ⟨ρ,l,S,d,hd,hl,hs,hm⟩=>by
 exact hm ρ H _ .refl hs (hl.set hd i)
theorem bg {tg:Expr} {g:MG} (he:GE X E e m) (hg:GG X tg g) (hs:swapsWithSole [tg] e pos.line X.env=pure false:=by rfl) (hw:swappedStores [tg] e X.env=pure none:=by rfl)
  (h1:(Db [tg] X.env).map (·.2)=[Lw tg X.env]:=by rfl):GS X E (.Assign [tg] e pos) (Tq m g):=(aZ he hg hs hw h1).imp λD σ H ⟨ρ,l,S,hl,hs,hm⟩=>by
 exact ⟨ρ,l,S,hl,hs,hm.lift hl .refl λd S1 hm ρ1 H1 x l1 s1 r1=>⟨ρ1,l,S1,d,r1,hl.mono l1,s1,(hm.later l1).seq λe1 S2 hm ρ2 H2 σ2 l2 s2 r2=>hm ρ2 H2 σ2 (l1.trans l2) s2 r2⟩⟩
theorem bf {i:Nat} {x:Str} {pos':Pos} (hN:X.N.Nodup) (hi:X.N[i]?=some x) (hx:Loc X.env.scope x) (he:GE X E e m) (hs:EJ e (some (.Name x pos')) pos.line X.env=pure false:=by rfl)
  (hf:X.fn x=true∨X.env.scope.names.lookup x=some .local:=by first | exact .inl rfl | exact .inr rfl | assumption):GS X E (.Assign [.Name x pos'] e pos) (B3 i m):=(aV hN hi hx he hs hf).imp λD σ H ⟨ρ,l,S,hl,hs,hm⟩=>by
 exact ⟨ρ,l,S,hl,hs,hm.lift hl .refl λd S1 hm ρ1 H1 x l1 s1 r1=>hm ρ1 H1 _ l1 s1 ((hl.mono l1).set r1 i)⟩
def HC (v:Hi) (g:MG) (b:MS):Nat->Nat->Lo->Sto->Res Fl
 | k,i,e,S=>match v S with
  | none=>.bad
  | some ds=>match ds[i]? with
   | none=>.ok (.nx e) S
   | some d=>match k with
    | 0=>.bad
    | k+1=>(g d e S).bind λe1 S1=>(b e1 S1).bind λf S2=>match f with
     | .nx e2=>HC v g b k (i+1) e2 S2
     | .ct e2=>HC v g b k (i+1) e2 S2
     | .bk e2=>.ok (.nx e2) S2
     | .rt d=>.ok (.rt d) S2
     | .ex c e2=>.ok (.ex c e2) S2
def CN (v:Hi) (S:Sto):Nat:=match v S with
 | none=>0
 | some ds=>ds.length
def IL (m:MI) (g:MG) (b:MS):MS:=λe S=>(m e S).lift e λv S1=>HC v g b (CN v S1) 0 e S1
theorem Gw {tg iter:Expr} {body:List Cd} {mi:MI} {g:MG} (hp:K5 (AW X.prog X.w) X.A X.env X.xe) (hc:X.calm=true) (hi:GI X E tg iter mi) (hg:GG X tg g) (hb:GSs X E body b)
  (hs:∀x,Dz iter X.env x=pure x:=by intro _;rfl):GS X E (.For tg iter body [] pos) (IL mi g b):=(aX hp hc hi hg hb hs).imp λD σ H ⟨ρ,l,S,hl,hs,hm⟩=>by
 refine ⟨ρ,l,S,hl,hs,hm.lift hl .refl λv S1 hm ρ1 H1 J l1 s1 vo=>?_⟩;refine ⟨λi n σ2 H2=>∃ρ2 e2 S2,Le X.K ρ1 H1 ρ2 H2/\DT X.K ρ2 H2 e2 σ2/\Bc X.K ρ2 S2 H2/\BR X.K noH ρ2 H2 (HC v g b n i e2 S2) λfl S'=>Mv X.K E ρ H S' D fl,⟨CN v S1,ρ1,l,S1,.refl,hl.mono l1,s1,hm.later l1⟩,?_⟩;rintro i n σ2 H2 ⟨ρ2,e2,S2,l2,r2,s2,hm2⟩;unfold HC at hm2
 cases hv:v S2 with
 | none=>rw [hv] at hm2;exact hm2.elim
 | some ds=>
  rw [hv] at hm2;dsimp only at hm2;obtain ⟨v1,v2⟩:=vo ρ2 H2 S2 ds i l2 s2 hv
  cases hd:ds[i]? with
  | none=>
   rw [hd] at hm2;exact .inl ⟨v1 hd,hm2 ρ2 H2 σ2 (l1.trans l2) s2 r2⟩
  | some d=>
   rw [hd] at hm2;dsimp only at hm2;obtain ⟨go,yl⟩:=v2 d hd
   cases n with
   | zero=>exact hm2.elim
   | succ n=>
    dsimp only at hm2;refine .inr ⟨go,λσ' H'=>∃ρ2 e2 S2,Le X.K ρ1 H1 ρ2 H'/\DT X.K ρ2 H' e2 σ'/\Bc X.K ρ2 S2 H'/\BR X.K noH ρ2 H' (HC v g b n (i+1) e2 S2) λfl S'=>Mv X.K E ρ H S' D fl,λσ' H' q=>⟨n,DC n,q⟩,λx H' y=>?_⟩;obtain ⟨ρ3,l3,s3,rd⟩:=yl x H' y;refine ⟨ρ3,e2,S2,d,rd,r2.mono l3,s3,(hm2.later l3).seq λe3 S3 hm2 ρ4 H4 σ4 l4 s4 r4=>?_⟩;refine ⟨ρ4,e3,S3,r4,s4,(hm2.later l4).seq λf4 S4 hm2=>?_⟩
    cases f4 with
    | nx e5=>exact λρ5 H5 σ5 l5 s5 r5=>⟨ρ5,e5,S4,l2.trans (l3.trans (l4.trans l5)),r5,s5,hm2.later l5⟩
    | ct e5=>exact λρ5 H5 σ5 l5 s5 r5=>⟨ρ5,e5,S4,l2.trans (l3.trans (l4.trans l5)),r5,s5,hm2.later l5⟩
    | bk e5=>exact λρ5 H5 σ5 l5 s5 r5=>hm2 ρ5 H5 σ5 (l1.trans (l2.trans (l3.trans (l4.trans l5)))) s5 r5
    | ex c e5=>exact λρ5 H5 σ5 l5 s5 r5=>hm2 ρ5 H5 σ5 (l1.trans (l2.trans (l3.trans (l4.trans l5)))) s5 r5
    | rt d5=>exact λρ5 H5 x5 l5 s5 r5=>hm2 ρ5 H5 x5 (l1.trans (l2.trans (l3.trans (l4.trans l5)))) s5 r5
def HU (c:MT) (b:MS):Nat->MS
 | 0=>λ_ _=>.bad
 | n+1=>λe S=>(c e S).lift e λt S1=>if t=true then (b e S1).bind λf S2=>match f with
   | .nx e2=>HU c b n e2 S2
   | .ct e2=>HU c b n e2 S2
   | .bk e2=>.ok (.nx e2) S2
   | .rt d=>.ok (.rt d) S2
   | .ex c e2=>.ok (.ex c e2) S2
  else .ok (.nx e) S1
theorem Wc {c:Expr} {body:List Cd} (N:Nat) (hp:K5 (AW X.prog X.w) X.A X.env X.xe) (hc:GT X E c t) (hb:GSs X E body b):GS X E (.While c body [] pos) (HU t b N):=(Vl hp hc hb).imp λD σ H ⟨ρ,l,S,hl,hs,hm⟩=>by
 refine ⟨λn σ2 H2=>∃ρ2 e2 S2,Le X.K ρ H ρ2 H2/\DT X.K ρ2 H2 e2 σ2/\Bc X.K ρ2 S2 H2/\BR X.K noH ρ2 H2 (HU t b n e2 S2) λfl S'=>Mv X.K E ρ H S' D fl,⟨N,ρ,l,S,.refl,hl,hs,hm⟩,?_⟩;rintro n σ2 H2 ⟨ρ2,e2,S2,l2,r2,s2,hm2⟩
 cases n with
 | zero=>exact hm2.elim
 | succ n=>
  refine ⟨ρ2,e2,S2,r2,s2,hm2.lift r2 l2 λtc S3 hm2 ρ3 H3 l3 s3=>?_⟩
  cases tc with
  | false=>rw [if_neg AS] at hm2 ⊢;exact hm2 ρ3 H3 σ2 (l2.trans l3) s3 (r2.mono l3)
  | true=>
   rw [if_pos rfl] at hm2 ⊢;refine ⟨λσ' H'=>∃ρ2 e2 S2,Le X.K ρ H ρ2 H'/\DT X.K ρ2 H' e2 σ'/\Bc X.K ρ2 S2 H'/\BR X.K noH ρ2 H' (HU t b n e2 S2) λfl S'=>Mv X.K E ρ H S' D fl,λσ' H' q=>⟨n,DC n,q⟩,?_⟩;refine ⟨ρ3,e2,S3,r2.mono l3,s3,(hm2.later l3).seq λf4 S4 hm2=>?_⟩
   cases f4 with
   | nx e5=>exact λρ5 H5 σ5 l5 s5 r5=>⟨ρ5,e5,S4,l2.trans (l3.trans l5),r5,s5,hm2.later l5⟩
   | ct e5=>exact λρ5 H5 σ5 l5 s5 r5=>⟨ρ5,e5,S4,l2.trans (l3.trans l5),r5,s5,hm2.later l5⟩
   | bk e5=>exact λρ5 H5 σ5 l5 s5 r5=>hm2 ρ5 H5 σ5 (l2.trans (l3.trans l5)) s5 r5
   | ex c e5=>exact λρ5 H5 σ5 l5 s5 r5=>hm2 ρ5 H5 σ5 (l2.trans (l3.trans l5)) s5 r5
   | rt d5=>exact λρ5 H5 x5 l5 s5 r5=>hm2 ρ5 H5 x5 (l2.trans (l3.trans l5)) s5 r5
end
end L2
namespace L2
open PySem PySem.Spec PyProof.Rows
section
variable {X:Cx} {E:EW} {tg e:Expr} {m:ME} {ml:ML} {K:AA}
def LC (d:D):Hi:=λS=>match d with
 | .ref n=>match S[n]? with
  | some (.lst ds)=>some ds
  | _=>none
 | .fro ds=>some ds
 | _=>none
def Fj (ds:List D):Hi:=λ_=>some ds
def eU (m:ME):MI:=λe S=>(m e S).bind λd S1=>match LC d S1 with
 | some _=>.ok (LC d) S1
 | none=>.bad
def Zb (m:ME):MI:=λe S=>(m e S).bind λd S1=>match d with
 | .tup ds=>.ok (Fj ds) S1
 | _=>.bad
theorem Pq {ρ:List AF} {H:Hp} {S:Sto} {a:AF} {d:D} {ds:List D} (s:Bc K ρ S H) (r:BQ K ρ H d (.ref a)) (hv:LC d S=some ds):∃xs,SqL K H a xs/\An K ρ H ds xs:=by
 cases r with
 | tup h1 h2=>cases hv
 | exc _ _=>cases hv
 | fro h1 h2=>cases hv;exact ⟨_,h1.sq,h2⟩
 | @ref n _ hn=>
  obtain ⟨o,ho,ro⟩:=s.there hn;unfold LC at hv;simp only [ho] at hv
  cases o with
  | lst es=>
   cases hv;obtain ⟨vs,e,rr⟩:=ro;exact ⟨vs,.inl (.inl e),rr⟩
  | _=>cases hv
theorem RK {ρ:List AF} {H:Hp} {a:AF} {d:D} (r:BQ K ρ H d (.ref a)):PQ K ρ H (Itl K a) (LC d):=by
 intro ρ2 H2 S ds i l s hv;obtain ⟨xs,sq,rr⟩:=Pq s (r.mono l) hv;refine ⟨λhn=>⟨xs,sq,by rw [<-rr.length];exact D4.mp hn⟩,λd hd=>?_⟩;obtain ⟨x,hx,rx⟩:=rr.get hd;refine ⟨⟨xs,x,sq,hx⟩,λy H' ⟨e,hy⟩=>?_⟩;subst e;have:=hy xs sq;rw [hx] at this;cases this;exact ⟨ρ2,.refl,s,rx⟩
theorem bj (h:GE X E e m):GI X E tg e (eU m):=(YL h).imp λσ H R ⟨ρ,l,S,hl,hs,hm⟩=>by
 refine ⟨ρ,l,S,hl,hs,hm.seq λd S1 hm ρ1 H1 x l1 s1 r1=>?_⟩
 cases hv:LC d S1 with
 | none=>rw [hv] at hm;exact hm.elim
 | some ds=>
  rw [hv] at hm
  have:∃a,x=.ref a:=by
   cases r1 <;> first | exact ⟨_,rfl⟩ | (cases hv;done)
  obtain ⟨a,rfl⟩:=this;obtain ⟨xs,sq,_⟩:=Pq s1 r1 hv;exact ⟨a,rfl,⟨xs,sq⟩,hm ρ1 H1 _ l1 s1 (RK r1)⟩
theorem RJ {ρ:List AF} {H:Hp} {a:AF} {ds:List D} {xs:List V} (h1:H a=some (.tup xs)) (h2:An K ρ H ds xs):PQ K ρ H (Itt K a) (Fj ds):=by
 intro ρ2 H2 S ds' i l s hv;cases hv;have rr:=h2.mono l;have sq:SqT K H2 a xs:=.inl (.inl (l.tup _ _ h1));refine ⟨λhn=>⟨xs,sq,by rw [<-rr.length];exact D4.mp hn⟩,λd hd=>?_⟩;obtain ⟨x,hx,rx⟩:=rr.get hd;refine ⟨⟨xs,x,sq,hx⟩,λy H' ⟨e,hy⟩=>?_⟩;subst e;have:=hy xs sq;rw [hx] at this;cases this;exact ⟨ρ2,.refl,s,rx⟩
theorem bi (h:GE X E e m):GI X E tg e (Zb m):=(ae h).imp λσ H R ⟨ρ,l,S,hl,hs,hm⟩=>by
 refine ⟨ρ,l,S,hl,hs,hm.seq λd S1 hm ρ1 H1 x l1 s1 r1=>?_⟩
 cases d <;> first | exact hm.elim | skip
 cases r1 with
 | tup q1 q2=>exact ⟨_,rfl,⟨_,.inl (.inl q1)⟩,hm ρ1 H1 _ l1 s1 (RJ q1 q2)⟩
def D6 (lo:Int) (n:Nat):List D:=(CT n).map λi:Nat=>D.int (lo+i)
theorem N5 (lo:Int) (n i:Nat):(D6 lo n)[i]?=if i < n then some (.int (lo+i)) else none:=by
 unfold D6;rw [Aj]
 by_cases h:i < n
 ·rw [C8 h,if_pos h];rfl
 ·rw [if_neg h,D4.mpr (by simpa using h)];rfl
theorem MC {ρ:List AF} {H:Hp} (lo:Int) (n:Nat):PQ K ρ H (Itr lo n) (Fj (D6 lo n)):=by
 intro ρ2 H2 S ds' i l s hv;cases hv;rw [N5];refine ⟨λhn=>?_,λd hd=>?_⟩
 ·split at hn
  ·cases hn
  ·rename_i h;exact L8 h
 ·split at hd
  ·rename_i h
   cases hd;refine ⟨h,λy H' ⟨e,hy⟩=>?_⟩;subst e;subst hy;exact ⟨ρ2,.refl,s,.int _⟩
  ·cases hd
def iR1 (ml:ML):MI:=λe S=>(ml e S).bind λds S1=>match ds with
 | [.int j]=>if -(2 ^ 62)<=j/\j < 2 ^ 62 then .ok (Fj (D6 0 j.toNat)) S1 else .bad
 | _=>.bad
def iR2 (ml:ML):MI:=λe S=>(ml e S).bind λds S1=>match ds with
 | [.int i,.int j]=>if -(2 ^ 62)<=i/\i < 2 ^ 62/\-(2 ^ 62)<=j/\j < 2 ^ 62 then .ok (Fj (D6 i (j - i).toNat)) S1 else .bad
 | _=>.bad
theorem Ks {a:Expr} {p pos:Pos} (hg:Gl X "range") (hm:X.mg "range" = none) (ha:GA X E [a] ml) (hs:AO [a] X.env=[(false,Bh a X.env)]:=by rfl):GI X E tg (.Call (.Name "range" p) [a] [] pos) (iR1 ml):=(Tz hg hm ha hs).imp λσ H R ⟨ρ,l,S,hl,hs,hm⟩=>by
 refine ⟨ρ,l,S,hl,hs,hm.seq λds S1 hm ρ1 H1 xs l1 s1 r1=>?_⟩;split at hm
 ·rename_i j
  split at hm
  ·rename_i hj
   cases r1 with
   | cons r t=>
    cases t;cases r;exact ⟨j,rfl,hj.1,hj.2,hm ρ1 H1 _ l1 s1 (MC 0 j.toNat)⟩
  ·exact hm.elim
 ·exact hm.elim
theorem UM {a b:Expr} {p pos:Pos} (hg:Gl X "range") (hm:X.mg "range" = none) (ha:GA X E [a,b] ml) (hs:AO [a,b] X.env=[(false,Bh a X.env),(false,Bh b X.env)]:=by rfl) (hs2:AO [b] X.env=[(false,Bh b X.env)]:=by rfl) :
  GI X E tg (.Call (.Name "range" p) [a,b] [] pos) (iR2 ml):=(Tx hg hm ha hs hs2).imp λσ H R ⟨ρ,l,S,hl,hs,hm⟩=>by
 refine ⟨ρ,l,S,hl,hs,hm.seq λds S1 hm ρ1 H1 xs l1 s1 r1=>?_⟩;split at hm
 ·rename_i i j
  split at hm
  ·rename_i hj
   cases r1 with
   | cons r t=>
    cases t with
    | cons r' t=>
     cases t;cases r;cases r';exact ⟨i,j,rfl,hj,hm ρ1 H1 _ l1 s1 (MC i _)⟩
  ·exact hm.elim
 ·exact hm.elim
end
def JH:List D->Lo->Sto->Res Lo
 | [],e,S=>.ok e S
 | _,_,_=>.bad
def DD (g:MG) (r:List D->Lo->Sto->Res Lo):List D->Lo->Sto->Res Lo
 | d :: ds,e,S=>(g d e S).bind λe1 S1=>r ds e1 S1
 | [],_,_=>.bad
def II (n:Nat) (r:List D->Lo->Sto->Res Lo):MG:=λd e S=>match d with
 | .tup ds=>if ds.length=n then r ds e S else .bad
 | _=>.bad
section
variable {X:Cx} {E:EW} {pos:Pos}
def gGs (K:AA) (r:List D->Lo->Sto->Res Lo):TGs:=λvs σ H Q=>∃ρ e S ds,An K ρ H ds vs/\DT K ρ H e σ/\Bc K ρ S H/\BR K noH ρ H (r ds e S) λe' S'=>∀ρ' H' σ',Le K ρ H ρ' H'->Bc K ρ' S' H'->DT K ρ' H' e' σ'->Q σ' H'
abbrev GGs (X:Cx) (ts:List Expr) (r:List D->Lo->Sto->Res Lo):Prop:=PGs X ts (gGs X.K r)
theorem PGs.imp {X:Cx} {ts:List Expr} {t t':TGs} (h:PGs X ts t) (i:∀vs σ H Q,t' vs σ H Q->t vs σ H Q):PGs X ts t':=λpins s σ H vs us Q I r q=>h pins s σ H vs us Q I r (i vs σ H Q q)
theorem Lp:GGs X [] JH:=YM.imp λvs σ H Q ⟨ρ,l,S,ds,hd,hl,hs,hm⟩=>by
 cases ds with
 | nil=>cases hd;exact ⟨rfl,hm ρ H σ .refl hs hl⟩
 | cons d ds=>exact hm.elim
theorem E8 {e:Expr} {es:List Expr} {g:MG} {r:List D->Lo->Sto->Res Lo} (h1:GG X e g) (h2:GGs X es r)
  (hs:(Db (e :: es) X.env).map (·.2)=Lw e X.env :: (Db es X.env).map (·.2):=by rfl):GGs X (e :: es) (DD g r):=(Vq h1 h2 hs).imp λvs σ H Q ⟨ρ,l,S,ds,hd,hl,hs,hm⟩=>by
 cases ds with
 | nil=>exact hm.elim
 | cons d ds=>
  cases hd with
  | cons q1 q2=>
   exact ⟨_,_,rfl,ρ,l,S,d,q1,hl,hs,hm.seq λe1 S1 hm ρ1 H1 σ1 l1 s1 r1=>⟨ρ1,e1,S1,ds,q2.mono l1,r1,s1,hm.go l1 λ_ _ k ρ2 H2 σ2 l2 s2 r2=>k ρ2 H2 σ2 (l1.trans l2) s2 r2⟩⟩
theorem O8 {es:List Expr} {k:Nat} {r:List D->Lo->Sto->Res Lo} {n:Nat} (hc:X.calm=true) (h:GGs X es r)
  (hn:(Db es X.env).length=n:=by rfl) (hst:(Db es X.env).findIdx? (·.1)=none:=by rfl):GG X (.Tuple es k pos) (II n r):=(ag hc h hn hst).imp λv σ H Q ⟨ρ,l,S,d,hd,hl,hs,hm⟩=>by
 cases d <;> first | exact hm.elim | skip
 rename_i ds
 cases hd with
 | tup q1 q2=>
  unfold II at hm;dsimp only at hm;split at hm
  ·rename_i hlen
   exact ⟨_,_,rfl,.inl (.inl q1),by rw [<-q2.length];exact hlen,ρ,l,S,ds,q2,hl,hs,hm⟩
  ·exact hm.elim
end
def spM (K:AA) (n:Nat) (f:List D->Sto->Res D):Sp:=λvs H Q E=>∃ρ ds S,ds.length=n/\An K ρ H ds vs/\Bc K ρ S H/\BR K (λc H'=>E (.ref c) none H') ρ H (f ds S) λd S'=>
 ∀ρ' H' x,Le K ρ H ρ' H'->Bc K ρ' S' H'->BQ K ρ' H' d x->Q x H'
theorem spM.len {K:AA} {n:Nat} {f:List D->Sto->Res D} {vs:List V} {H:Hp} {Q:VK} {E:XK} (h:spM K n f vs H Q E):vs.length=n:=by
 obtain ⟨ρ,ds,S,h1,h2,_⟩:=h;rw [<-h2.length];exact h1
def CC (n:Nat) (f:List D->Sto->Res D) (m:ML):ME:=λe S=>(m e S).bind λds S1=>if ds.length=n then f ds S1 else .bad
def OA (C:AF) (n:Nat) (f:List D->Sto->Res D) (m:ML):ME:=λe S=>(m e S).bind λds S1=>if ds.length+1=n then (f (.ref S1.length :: ds) (S1++[.ins C []])).bind (λd S2=>match d with
  | .non=>.ok (.ref S1.length) S2
  | _=>.bad) else .bad
def Ta (E:EW) (σ:St):XK:=λv o H=>o=none/\∃c,v=.ref c/\E c σ H
section
variable {X:Cx} {E:EW} {CX:CXT} {k n:Nat} {f C:AF} {fd:Cr} {ps:List Str} {x:Str} {p pos:Pos} {e:Expr} {es:List Expr} {ml:ML} {g:List D->Sto->Res D}
theorem BR.xk {α:Type} {K:AA} {σ:St} {ρ ρ1:List AF} {H H1:Hp} {r:Res α} {k k':α->Sto->Prop} (h:BR K (λc=>E c σ) ρ H r k) (l:Le K ρ H ρ1 H1) (f:∀a S,k a S->k' a S):BR K (λc H'=>Ta E σ (.ref c) none H') ρ1 H1 r k':=by
 cases r with
 | ok a S=>exact f a S h
 | err c S=>exact λρ' H' l' s=>⟨rfl,c,rfl,h ρ' H' (l.trans l') s⟩
 | bad=>exact h
theorem B4 (F:Dy X.prog X.w X.K X.mg X.base CX k f fd ps (spM X.K n g)) (hx:Jg CX X (Ta E)) (hr:FO k X.A) (hg:Gl X x) (hm:X.mg x=some (.ref f)) (hk:EN X.K (.ref f)=true) (hb:Binds X.K fd ps [])
  (ha:GA X E (e :: es) ml) (hdb:(x==("__debug__" : Str))=false:=by decide) (he:AO (e :: es) X.env=(false,Bh e X.env) :: AO es X.env:=by rfl) (hpl:(Cb pos (AO es X.env)).any (·.1)=false:=by rfl) :
  GE X E (.Call (.Name x p) (e :: es) [] pos) (CC n g ml):=(YW (E:=Ta E) F hr hg hm hk hb .nil hx ha hdb he hpl).imp λσ H Q ⟨ρ,l,S,hl,hs,hm⟩=>by
 refine ⟨ρ,l,S,hl,hs,hm.seq λds S1 hm ρ1 H1 xs l1 s1 r1=>?_⟩;split at hm
 ·rename_i hlen
  rw [Ax];exact ⟨ρ1,ds,S1,hlen,r1,s1,hm.xk l1 λ_ _ k ρ' H' z l' s' r'=>k ρ' H' z (l1.trans l') s' r'⟩
 ·exact hm.elim
theorem Y0 (M:Mk X.K C f) (F:Dy X.prog X.w X.K X.mg X.base CX k f fd ps (spM X.K n g)) (hx:Jg CX X (Ta E)) (hr:FO (k+1) X.A) (hg:Gl X x) (hm:X.mg x=some (.ref C)) (hb:Binds X.K fd ps [])
  (ha:GA X E (e :: es) ml) (hdb:(x==("__debug__" : Str))=false:=by decide) (he:AO (e :: es) X.env=(false,Bh e X.env) :: AO es X.env:=by rfl) (hpl:(Cb pos (AO es X.env)).any (·.1)=false:=by rfl) :
  GE X E (.Call (.Name x p) (e :: es) [] pos) (OA C n g ml):=(YQ (E:=Ta E) M F hr hg hm hb .nil hx ha hdb he hpl).imp λσ H Q ⟨ρ,l,S,hl,hs,hm⟩=>by
 refine ⟨ρ,l,S,hl,hs,hm.seq λds S1 hm ρ1 H1 xs l1 s1 r1 a dx ha hdx hne=>?_⟩;split at hm
 ·rename_i hlen
  rw [Ax];obtain ⟨s2,l2⟩:=ER (ho:=.own a) s1 hdx
  have ha2:upd H1 dx (.own a) a=none:=by rw [BU (Bv hne)];exact ha
  obtain ⟨s3,l3,at3⟩:=s2.alloc (p:=a) (ho:=.ins C dx []) (o:=.ins C []) ha2 ⟨dx,[],BM,.nil⟩;refine ⟨ρ1++[a],.ref S1.length :: ds,S1++[.ins C []],by simpa using hlen,.cons (.ref at3) (r1.mono (l2.trans l3)),s3,BR.xk (hm.seq λz S2 hm=>hm) (l1.trans (l2.trans l3)) λz S2 hm ρ' H' y l' s' r'=>?_⟩
  cases z <;> first | exact hm.elim | skip
  cases r';exact ⟨rfl,hm ρ' H' _ (l1.trans (l2.trans (l3.trans l'))) s' (.ref (l'.pre _ _ at3))⟩
 ·exact hm.elim
end
theorem KVR.lookup {K:AA} {ρ:List AF} {H:Hp} (f:Str):∀ {x:List (Str×D)} {y:List (Str×V)} {d:D},KVR K ρ H x y->x.lookup f=some d->∃v,y.lookup f=some v/\BQ K ρ H d v
 | _,_,_,.nil,h=>by simp at h
 | (g,a) :: x,(g',b) :: y,d,.cons r t,h=>by
  obtain ⟨r1,r2⟩:=r;dsimp only at r1 r2;subst r1;rw [Bd] at h ⊢
  cases hq:(f==g) with
  | true=>rw [hq] at h;cases h;exact ⟨b,rfl,r2⟩
  | false=>rw [hq] at h;exact KVR.lookup f t h
def LY (f:Str) (v:D):List (Str×D)->List (Str×D)
 | []=>[(f,v)]
 | (g,x) :: r=>if g=f then (g,v) :: r else (g,x) :: LY f v r
theorem KVR.putF {K:AA} {ρ:List AF} {H:Hp} (f:Str) {d:D} {v:V} (rd:BQ K ρ H d v):∀ {x:List (Str×D)} {y:List (Str×V)},KVR K ρ H x y->KVR K ρ H (LY f d x) (putF f v y)
 | _,_,.nil=>.cons ⟨rfl,rd⟩ .nil
 | (g,a) :: x,(g',b) :: y,.cons r t=>by
  obtain ⟨r1,r2⟩:=r;dsimp only at r1 r2;subst r1;unfold LY L2.putF
  by_cases hq:g=f
  ·rw [if_pos hq,if_pos hq];exact .cons ⟨rfl,rd⟩ t
  ·rw [if_neg hq,if_neg hq];exact .cons ⟨rfl,r2⟩ (KVR.putF f rd t)
theorem KVR.length {κ:Type} {K:AA} {ρ:List AF} {H:Hp} {x:List (κ×D)} {y:List (κ×V)} (h:KVR K ρ H x y):x.length=y.length:=DK h
def Hu (C:AF) (f:Str) (m:ME):ME:=λe S=>(m e S).bind λd S1=>match d with
 | .ref n=>match S1[n]? with
  | some (.ins C' fs)=>if C'=C then (match fs.lookup f with | some v=>.ok v S1 | none=>.bad) else .bad
  | _=>.bad
 | _=>.bad
def N3 (C:AF) (f:Str) (mo mv:ME):MS:=λe S=>(mv e S).lift e λv S1=>(mo e S1).lift e λd S2=>match d with
 | .ref n=>match S2[n]? with
  | some (.ins C' fs)=>if C'=C/\fs.length < 1000 then .ok (.nx e) (S2.set n (.ins C (LY f v fs))) else .bad
  | _=>.bad
 | _=>.bad
section
variable {X:Cx} {E:EW} {o e value:Expr} {f:Str} {pos pos':Pos} {m mv:ME} {C:AF}
theorem Kt (hc:Cls X.K C) (hn:GH X.K C f) (he:GE X E e m) (hb:Dw e f X.env (Bh e X.env)=Bh e X.env:=by rfl):GE X E (.Attribute e f pos) (Hu C f m):=(aq he hb).imp λσ H Q ⟨ρ,l,S,hl,hs,hm⟩=>by
 refine ⟨ρ,l,S,hl,hs,hm.seq λx S1 hm ρ1 H1 v l1 s1 r1=>?_⟩
 cases x <;> first | exact hm.elim | skip
 rename_i n;dsimp only at hm
 cases ho:S1[n]? with
 | none=>rw [ho] at hm;exact hm.elim
 | some ob=>
  rw [ho] at hm
  cases ob <;> first | exact hm.elim | skip
  rename_i C' fs;dsimp only at hm;split at hm
  ·rename_i hC
   rw [hC] at ho
   cases r1 with
   | ref hn'=>
    obtain ⟨dx,fs',e1,e2⟩:=s1.ob n _ _ ho hn'
    cases hq:fs.lookup f with
    | none=>rw [hq] at hm;exact hm.elim
    | some w=>
     rw [hq] at hm;obtain ⟨v,h3,h4⟩:=KVR.lookup f e2 hq;exact ⟨_,_,dx,fs',v,rfl,e1,hc,hn,h3,hm ρ1 H1 v l1 s1 h4⟩
  ·exact hm.elim
theorem R3 (hc:Cls X.K C) (hn:GH X.K C f) (ha:GE X E o m) (hv:GE X E value mv) (hs:EJ value (some (.Attribute o f pos')) pos.line X.env=pure false:=by rfl):GS X E (.Assign [.Attribute o f pos'] value pos) (N3 C f m mv):=(aY ha hv hs).imp λD σ H ⟨ρ,l,S,hl,hs,hm⟩=>by
 refine ⟨ρ,l,S,hl,hs,hm.lift hl .refl λv S1 hm ρ1 H1 y l1 s1 r1=>⟨ρ1,l,S1,hl.mono l1,s1,(hm.later l1).lift (hl.mono l1) l1 λx S2 hm ρ2 H2 u l2 s2 r2=>?_⟩⟩
 cases x <;> first | exact hm.elim | skip
 rename_i n;dsimp only at hm
 cases ho:S2[n]? with
 | none=>rw [ho] at hm;exact hm.elim
 | some ob=>
  rw [ho] at hm
  cases ob <;> first | exact hm.elim | skip
  rename_i C' fs;dsimp only at hm;split at hm
  ·rename_i hC
   obtain ⟨hC,hlen⟩:=hC;rw [hC] at ho
   cases r2 with
   | ref hn'=>
    obtain ⟨dx,fs',e1,e2⟩:=s2.ob n _ _ ho hn';have le:Le X.K ρ2 H2 ρ2 (upd H2 _ (.ins C dx (putF f y fs'))):=Le.write hn' (by rw [e1];trivial);obtain ⟨s3,l3⟩:=s2.write (ho:=.ins C dx (putF f y fs')) (o:=.ins C (LY f v fs)) hn' ⟨dx,_,BM,(KVR.putF f (r1.mono l2) e2).mono le⟩;refine ⟨_,C,dx,fs',rfl,e1,hc,hn,by rw [<-KVR.length e2];exact hlen,?_⟩;exact hm ρ2 _ σ (l1.trans (l2.trans l3)) s3 (hl.mono (l1.trans (l2.trans l3)))
  ·exact hm.elim
end
end L2
namespace L2
open PySem PySem.Spec PyProof.Rows
theorem CD.get {P:Ai} {w:A7} {H:Hp} {h:BY} {a:AF} {o:HO} (x:CD P w H h a o):∃u,h.get? a=some u:=by
 cases o with
 | lst xs=>obtain ⟨_,_,_,_,e⟩:=x;exact ⟨_,e⟩
 | tup xs=>obtain ⟨_,_,_,o,e,_⟩:=x;exact ⟨_,e⟩
 | dK kvs=>obtain ⟨_,_,_,_,o,_,_,e,_⟩:=x;exact ⟨_,e⟩
 | dT kvs=>obtain ⟨_,_,_,_,o,_,_,e,_⟩:=x;exact ⟨_,e⟩
 | set S n=>obtain ⟨o,_,_,_,e,_⟩:=x;exact ⟨_,e⟩
 | ins C dx fs=>obtain ⟨_,_,_,e,_⟩:=x;exact ⟨_,e⟩
 | own y=>exact x
 | xd fs=>obtain ⟨_,⟨_,_,_,e,_⟩,_⟩:=x;exact ⟨_,e⟩
 | rng lo hi=>obtain ⟨_,_,_,e⟩:=x;exact ⟨_,e⟩
 | frz ob u=>obtain ⟨e,_⟩:=x;exact ⟨_,e⟩
 | tbl ps=>exact ⟨_,(show h.get? a=some _ from x)⟩
 | met f y=>exact ⟨_,(show h.get? a=some _ from x)⟩
 | ext φ=>obtain ⟨_,e,_⟩:=x;exact e
def Nm (Nw:AF->Prop) (F:Option AC->Prop) (ea C:AF) (H:Hp) (h:BY):Prop:=
 H ea=none/\Nw ea/\∃(oe:Obj) (vs:Array AC) (a0:AC),h.get? ea=some oe/\oe.cls=.ref C/\(oe.dict=none/\oe.data=.fields vs)/\vs[0]?=some a0 /\
  ((F none/\vs[1]?=some .none)∨∃(T:AF) (oT:Obj) (ts:Array AC) (fl:AC),F (some fl)/\vs[1]?=some (.ref T)/\T≠ea/\H T=none/\Nw T/\h.get? T=some oT/\oT.data=.fields ts/\ts[3]?=some fl)
theorem Nm.imp {Nw:AF->Prop} {h:BY} {F G:Option AC->Prop} {ea C:AF} {H:Hp} (x:Nm Nw F ea C H h) (f:∀o,F o->G o):Nm Nw G ea C H h:=by
 obtain ⟨n1,n2,oe,vs,a0,g1,g2,g3,g4,g5⟩:=x;refine ⟨n1,n2,oe,vs,a0,g1,g2,g3,g4,?_⟩
 rcases g5 with ⟨a,b⟩ | ⟨T,oT,ts,fl,a,b⟩
 ·exact .inl ⟨f _ a,b⟩
 ·exact .inr ⟨T,oT,ts,fl,f _ a,b⟩
structure HF (X:Cx):Prop where
 st:X.stack=X.env :: X.outer
 fr:X.env.frame=some X.env.locals
 ex:X.ex=[]
def Nw (X:Cx) (b:AF):Prop:=X.s₀.heap.get? b=none/\∀p∈X.pn,p.1≠b
section
variable {X:Cx} {pins:List (AF×Obj)} {σ:St} {H:Hp} {s:AE} {h':BY} {ea C:AF} {F:Option AC->Prop}
theorem Inv.old (I:Inv X pins σ H s) (O:HF X) {b:AF} (e:s.heap.get? b=none):H b=none/\Nw X b:=by
 refine ⟨?_,?_,λp hp z=>?_⟩
 ·cases q:H b with
  | none=>rfl
  | some u=>
   obtain ⟨o,ho⟩:=(I.hok b u q).get;rw [e] at ho;cases ho
 ·cases q:X.s₀.heap.get? b with
  | none=>rfl
  | some o=>
   obtain ⟨o',ho⟩:=I.base.there b o q (by rw [O.ex];simp);rw [e] at ho;cases ho
 ·have:=(I.pin p (A1 _ hp)).1
  rw [z,e] at this;cases this
theorem Inv.recs {ch:List AF} (I:Inv X [] σ H s) (O:HF X) (hc:∀b∈ch,H b=none/\Nw X b/\∃o vs,s.heap.get? b=some o/\o.data=.fields vs)
  (st:(Hj s.heap (frs X.stack++ch)).StaysIn h') (up:s.heap.UpToSlots h'):Inv X [] σ H { s with heap:=h' }:=by
 have keepB:∀b o,b∉frs X.stack->b∉ch->s.heap.get? b=some o->h'.get? b=some o:=λb o h1 h2 e=>
  st b o (Qv _ e λz=>(Au.mp z).elim h1 h2)
 have noL:∀b∈ch,b≠X.env.locals:=λb hb z=>by
  obtain ⟨_,_,o,vs,e,d⟩:=hc b hb;obtain ⟨m,⟨o',es,ep,ho',hd',_⟩,_⟩:=I.loc;rw [z,ho'] at e;cases e;rw [hd'] at d;cases d
 have noC:∀b∈ch,∀x c,X.env.cells.lookup x=some c->c≠b:=λb hb x c q z=>by
  obtain ⟨_,_,o,vs,e,d⟩:=hc b hb;obtain ⟨v,o',ho',hd'⟩:=I.cell x c q;rw [z,e] at ho';cases ho';rw [d] at hd';cases hd'
 refine I.stepN (g':=s.gens) (t':=s.toks) (d':=s.drawn) (ch:=ch) (λb hb=>⟨.inr (hc b hb).2.1.1,noL b hb,noC b hb,λp hp=>(hc b hb).2.1.2 p (by rwa [Ax] at hp)⟩)
  (λb o nl nf nc e _=>keepB b o (λz=>(Ap.mp (I.stkSub b z)).elim nl nf) nc e) (λb o _ hf _ e _=>?_) (λ_ _ _ _ n=>n) (λb o nc e=>?_) (λ_ _ q=>q) (λ_ _ _ q=>q) (λb ps q=>⟨#[],by rw [q];simp⟩) (λm hm=>up.ns hm) (λa o e=>?_) I.bare
 ·obtain ⟨o',ho',nf⟩:=(I.funs.mem hf).2
  rw [e] at ho';cases ho';exact up b o e nf
 ·by_cases hb:b∈frs X.stack
  ·obtain ⟨o',ho',nf⟩:=(I.stack.mem hb).2
   rw [e] at ho';cases ho';obtain ⟨sl,q⟩:=up b o e nf;exact ⟨_,q⟩
  ·exact ⟨o,keepB b o hb nc e⟩
 ·have tr:∀b u,H b=some u->∀v,s.heap.get? b=some v->h'.get? b=some v:=λb u q v r=>
   keepB b v (λz=>by rw [I.stkFree b z] at q;cases q) (λz=>by rw [(hc b z).1] at q;cases q) r
  refine (I.hok a o e).stay (λb u hb q=>?_) (λ_ q=>q) λ_ _ q=>q
  rcases hb with z | z
  ·subst z;exact tr _ _ e u q
  ·exact tr _ _ z u q
abbrev WY (X:Cx) (h:BY) (ch:List AF):BY:=Hj h (frs X.stack++ch)
theorem OF {h:BY} {ch:List AF} {b:AF} (hb:b∈ch):(WY X h ch).get? b=none:=ID _ (As _ hb)
theorem Ib (f:Array AC->Array AC) (o:Obj):(CL f o).dict=o.dict:=by
 obtain ⟨c,d,dt,sl⟩:=o
 cases dt <;> rfl
theorem Qg {M:NR} {A:A2} {E:AC->AE->Prop} {Q:Unit->AE->Prop} {base:BY} {env:Env} {outer:List Env} {L e:AF} {oe:Obj} {vs:Array AC} {head:AC} {hadNext:Bool}
  (hfr:A.frames=some (env :: outer)) (hl:s.heap.FunFrames base (env :: outer)) (hf:env.frame=some L) (he:s.heap.get? e=some oe) (hd:oe.data=.fields vs) (hsz:1 < vs.size)
  (k:∀h2 T oT ts,T≠e->s.heap.get? T=none->(∀b o,b≠e->b∉frs (env :: outer)->s.heap.get? b=some o->h2.get? b=some o)->(∀b o,b≠e->s.heap.get? b=some o->∃sl,h2.get? b=some { o with slots:=sl }) ->
   h2.get? e=some (CL (·.setIfInBounds 1 (.ref T)) oe)->h2.get? T=some oT->oT.data=.fields ts->ts[3]?=some (EM L)->Q () { s with heap:=h2 }) :
  Ah M A (do let a <-frameOf env;let pl <-entryPlaceOf L hadNext;let b <-OX head a .none (EM L) .none pl;XM (.ref e) 1 b) Q E s:=by
 have hnot:e∉frs (env :: outer):=λz=>by
  obtain ⟨_,o,ho,nf⟩:=hl.mem z;rw [he] at ho;cases ho;exact nf vs hd
 refine AB (wpAny_frameOf_fun hfr hl hf λg1 so=>AB (wpAny_entryPlaceOf λpl hpl=>?_));unfold OX newFields;refine AB (B8 ?_ (hpl.sizeOk5 _ _ _ _ _));have e1:g1.get? e=some oe:=(so.2.1 e hnot).trans he;have e2:=AM (h:=g1) { cls:=.type "traceback",dict:=none,data:=.fields ([head,.ref L,.none,EM L,.none]++(if pl.isEmpty then BE 6 BP else pl)).toArray } e1;refine HG e2 hd hsz ?_;have nTe:g1.objs.size≠e:=RC (Ae e1);have dd:=CJ hd (·.setIfInBounds 1 (Ak g1.objs.size))
 have old:∀b o,b≠e->g1.get? b=some o->((g1.push { cls:=.type "traceback",dict:=none,data:=.fields ([head,.ref L,.none,EM L,.none]++(if pl.isEmpty then BE 6 BP else pl)).toArray }).update e (CL (·.setIfInBounds 1 (Ak g1.objs.size)))).get? b=some o:=λb o ne q=>by
  rw [DJ _ _ (Bv ne)];exact AM _ q
 refine k _ g1.objs.size { cls:=.type "traceback",dict:=none,data:=.fields ([head,.ref L,.none,EM L,.none]++(if pl.isEmpty then BE 6 BP else pl)).toArray } _ nTe (SN (RD so.1.symm)) (λb o ne nf q=>old b o ne ((so.2.1 b nf).trans q)) (λb o ne q=>?_) (E2 _ e2 (E9 dd)) ?_ rfl ?_
 ·obtain ⟨sl,z⟩:=so.2.2 b o q
  exact ⟨sl,old b _ ne z⟩
 ·rw [DJ _ _ (Bv nTe)]
  exact A5 g1 rfl
 ·rcases hpl with rfl | ⟨_,_,_,_,_,_,_,rfl⟩ <;> simp
theorem P0 {h:BY} {ch:List AF} (keep:∀b o,b∉frs X.stack->b∉ch->h.get? b=some o->h'.get? b=some o):(WY X h ch).StaysIn h':=λb o q=>by
 have hb:b∉frs X.stack++ch:=λz=>by
  have:=ID (h:=h) (frs X.stack++ch) z;rw [show (WY X h ch).get? b=(Hj h (frs X.stack++ch)).get? b from rfl,this] at q;cases q
 exact keep b o (λz=>hb (A1 _ z)) (λz=>hb (As _ z)) (JT _ q)
theorem Ov {M:NR} {A:A2} {E:AC->AE->Prop} {Q:Unit->AE->Prop} (I:Inv X [] σ H s) (O:HF X) (hA:A.frames=some X.stack) (x:Nm (Nw X) F ea C H s.heap)
  (hF:∀o,F o->o=none∨o=some .none∨o=some (EM X.env.locals))
  (k:∀h',Inv X [] σ H { s with heap:=h' }->Nm (Nw X) (· = some (EM X.env.locals)) ea C H h'->Q () { s with heap:=h' }):Ah M A (Ue (.ref ea) X.env) Q E s:=by
 obtain ⟨n1,n2,oe,vs,a0,g1,g2,⟨g0,g3⟩,g4,g5⟩:=x
 have hA':A.frames=some (X.env :: X.outer):=by rw [hA,O.st]
 have hst:frs (X.env :: X.outer)=frs X.stack:=by rw [O.st]
 have fr:s.heap.FunFrames X.base (X.env :: X.outer):=by rw [<-O.st];exact I.stack
 rcases g5 with ⟨_,h1⟩ | ⟨T,oT,ts,fl,hf,h1,ne,m1,m2,gT,dT,h3⟩
 ·have hsz:=(Dp.mp h1).1
  unfold Ue;simp only [O.fr];refine AB (Ew g1 g3 h1 ?_);rw [if_neg (by decide)]
  refine Qg hA' fr O.fr g1 g3 hsz λh2 T oT ts nT fT kp up q1 q2 q3 q4=>?_
  rw [hst] at kp;have hT:=I.old O fT
  have hc:∀b∈[ea],H b=none/\Nw X b/\∃o vs,s.heap.get? b=some o/\o.data=.fields vs:=λb hb=>by
   cases Ab.mp hb;exact ⟨n1,n2,oe,vs,g1,g3⟩
  refine k h2 (I.recs O hc (P0 λb o z1 z2 q=>kp b o (λz=>z2 (Ab.mpr z)) z1 q) λb o q nf=>up b o (λz=>?_) q) ?_
  ·rw [z,g1] at q
   cases q;exact nf vs g3
  ·exact ⟨n1,n2,_,_,a0,q1,by rw [LR];exact g2,⟨by rw [Ib];exact g0,CJ g3 _⟩,by rw [LB (by decide)];exact g4,.inr ⟨T,oT,ts,_,rfl,by simp [hsz],nT,hT.1,hT.2,q2,q3,q4⟩⟩
 ·rcases hF _ hf with e | e | e
  ·cases e
  ·cases e
   have hsz:=(Dp.mp h1).1;unfold Ue;simp only [O.fr];refine AB (Ew g1 g3 h1 ?_);rw [if_pos (show (Ak T != BP)=true from by simp)];refine AB (Ew gT dT h3 ?_);rw [if_neg (show ¬((BP==EM X.env.locals)=true) from by simp [EM])];refine AB (HG gT dT (Dp.mp h3).1 ?_)
   have oth:∀b,b≠T->(s.heap.update T (CL (·.setIfInBounds 3 BP))).get? b=s.heap.get? b:=λb hb=>DJ _ _ (Bv hb)
   have nrec:∀b o,s.heap.get? b=some o->(∀vs,o.data≠.fields vs)->b≠T:=λb o hb nf q=>by
    rw [q,gT] at hb;cases hb;exact nf ts dT
   have fr2:(s.heap.update T (CL (·.setIfInBounds 3 BP))).FunFrames X.base (X.env :: X.outer):=fr.of_keeps λb o hb nf=>⟨o,(oth b (nrec b o hb nf)).trans hb,rfl⟩
   have gU:(s.heap.update T (CL (·.setIfInBounds 3 BP))).get? T=some (CL (·.setIfInBounds 3 BP) oT):=E2 _ gT (E9 (CJ dT _))
   have hc:∀b∈[ea,T],H b=none/\Nw X b/\∃o vs,s.heap.get? b=some o/\o.data=.fields vs:=λb hb=>by
    rcases Ap.mp hb with rfl | hb
    ·exact ⟨n1,n2,oe,vs,g1,g3⟩
    ·cases Ab.mp hb
     exact ⟨m1,m2,oT,ts,gT,dT⟩
   refine Qg (s:={ s with heap:=s.heap.update T (CL (·.setIfInBounds 3 BP)) }) hA' fr2 O.fr ((oth ea (Bv ne)).trans g1) g3 hsz λh2 T2 oT2 ts2 nT fT kp up q1 q2 q3 q4=>?_
   rw [hst] at kp
   have fT':s.heap.get? T2=none:=by
    have z:T2≠T:=λz=>by rw [z] at fT;exact absurd (fT.symm.trans gU) (by simp)
    rw [<-oth T2 z];exact fT
   have hT:=I.old O fT';refine k h2 (I.recs O hc (P0 λb o z1 z2 q=>kp b o (λz=>z2 (by rw [z];exact A0)) z1 ((oth b λz=>z2 (by rw [z];exact AZ _ (Ab.mpr rfl))).trans q)) λb o q nf=>up b o (λz=>?_) ((oth b (nrec b o q nf)).trans q)) ?_
   ·rw [z,g1] at q
    cases q;exact nf vs g3
   ·exact ⟨n1,n2,_,_,a0,q1,by rw [LR];exact g2,⟨by rw [Ib];exact g0,CJ g3 _⟩,by rw [LB (by decide)];exact g4,.inr ⟨T2,oT2,ts2,_,rfl,by simp [hsz],nT,hT.1,hT.2,q2,q3,q4⟩⟩
  ·cases e
   have hTn:(WY X s.heap [ea,T]).get? T=none:=OF (AZ _ (Ab.mpr rfl));refine wpAny_noteFrame_againW (base:=WY X s.heap [ea,T]) (cls:=.ref C) (a0:=a0) O.fr ⟨oe,vs,T,oT,ts,g1,⟨g2,g4⟩,g3,h1,hTn,ne,gT,dT,h3⟩ ?_;exact k s.heap I ⟨n1,n2,oe,vs,a0,g1,g2,⟨g0,g3⟩,g4,.inr ⟨T,oT,ts,_,rfl,h1,ne,m1,m2,gT,dT,h3⟩⟩
theorem Is {M:NR} {A:A2} {E:AC->AE->Prop} {Q:Unit->AE->Prop} (f:Option AF) (I:Inv X [] σ H s) (O:HF X) (x:Nm (Nw X) F ea C H s.heap) (hF:¬F none)
  (k:∀h',Inv X [] σ H { s with heap:=h' }->Nm (Nw X) (· = some (f.elim BP λa=>EM a)) ea C H h'->Q () { s with heap:=h' }):Ah M A (setFlight (.ref ea) f) Q E s:=by
 obtain ⟨n1,n2,oe,vs,a0,g1,g2,⟨g0,g3⟩,g4,g5⟩:=x
 rcases g5 with ⟨z,_⟩ | ⟨T,oT,ts,fl,hf,h1,ne,m1,m2,gT,dT,h3⟩
 ·exact (hF z).elim
 ·have hc:∀b∈[ea,T],H b=none/\Nw X b/\∃o vs,s.heap.get? b=some o/\o.data=.fields vs:=λb hb=>by
   rcases Ap.mp hb with rfl | hb
   ·exact ⟨n1,n2,oe,vs,g1,g3⟩
   ·cases Ab.mp hb
    exact ⟨m1,m2,oT,ts,gT,dT⟩
  have hsz:3 < ts.size:=(Dp.mp h3).1;unfold setFlight;refine AB (Ew g1 g3 h1 ?_);rw [if_pos (show (Ak T != BP)=true from by simp)];refine HG gT dT hsz ?_
  have oth:∀b,b≠T->(s.heap.update T (CL (·.setIfInBounds 3 (f.elim BP λa=>EM a)))).get? b=s.heap.get? b:=λb hb=>DJ _ _ (Bv hb)
  have nrec:∀b o,s.heap.get? b=some o->(∀vs,o.data≠.fields vs)->b≠T:=λb o hb nf q=>by
   rw [q,gT] at hb;cases hb;exact nf ts dT
  refine k _ (I.recs O hc (λb o q=>?_) λb o q nf=>⟨o.slots,(oth b (nrec b o q nf)).trans q⟩) ?_
  ·have hb:b≠T:=λz=>by rw [z,OF (AZ _ (Ab.mpr rfl))] at q;cases q
   exact (oth b hb).trans (JT _ q)
  ·refine ⟨n1,n2,oe,vs,a0,(oth ea (Bv ne)).trans g1,g2,⟨g0,g3⟩,g4,.inr ⟨T,_,_,_,rfl,h1,ne,m1,m2,E2 _ gT (E9 (CJ dT _)),CJ dT _,?_⟩⟩
   simp [hsz]
end
def trF (X:Cx) (o:Option AC):Prop:=o=none∨o=some .none∨o=some (EM X.env.locals)
def XE (X:Cx) (E:EW) (e:AC) (s':AE):Prop:=∃ea C σ H',e=.ref ea/\Inv X [] σ H' s'/\Nm (Nw X) (trF X) ea C H' s'.heap/\E C σ H'
def CXG (P:Ai) (w:A7):CXT:=λouter H s E e s'=>∃ea C H',e=.ref ea/\s'.os=s.os/\GM s'.gens/\Un (frs outer) [] H H' s.heap s'.heap/\HOk P w H' s'.heap/\Nm (λb=>s.heap.get? b=none) (· = some .none) ea C H' s'.heap/\E (.ref C) none H'
theorem XE.own {X:Cx} {E:EW} (O:HF X):K5 (AW X.prog X.w) X.A X.env (XE X E):=by
 rintro e s' ⟨ea,C,σ,H,rfl,I,x,w⟩
 refine Ov I O I.ok.frames x (λo z=>z) λh1 I1 x1=>?_
 have x1':=x1;obtain ⟨n1,n2,oe,vs,a0,g1,g2,g3,g4,g5⟩:=x1'
 rcases g5 with ⟨z,_⟩ | ⟨T,oT,ts,fl,hf,h1',_⟩
 ·cases z
 ·show Ah _ _ _ _ _ _
  refine AB (Ew (s:={ s' with heap:=h1 }) g1 g3.2 h1' ?_);rw [if_neg (by simp)];rw [O.fr]
  refine Is (s:={ s' with heap:=h1 }) (some X.env.locals) I1 O x1 (by simp) λh2 I2 x2=>?_
  exact ⟨ea,C,σ,H,rfl,I2,x2.imp λo z=>.inr (.inr z),w⟩
theorem XE.leave {X:Cx} {E:EW} {e:AC} {s':AE} {Q:Unit->AE->Prop} {E':AC->AE->Prop} (O:HF X) (h:XE X E e s')
  (k:∀ea C σ H' s'',e=.ref ea->Inv X [] σ H' s''->Nm (Nw X) (· = some .none) ea C H' s''.heap->E C σ H'->Q () s''):Ah (AW X.prog X.w) X.A (leaving X.env e) Q E' s':=by
 obtain ⟨ea,C,σ,H,rfl,I,x,w⟩:=h;unfold leaving;refine AB (Ov I O I.ok.frames x (λo z=>z) λh1 I1 x1=>?_)
 refine Is (s:={ s' with heap:=h1 }) none I1 O x1 (by simp) λh2 I2 x2=>?_
 exact k ea C σ H _ rfl I2 x2 w
abbrev Cx.p (X:Cx) (pn:List (AF×Obj)):Cx:={ X with pn:=pn }
abbrev Cx.w' (X:Cx) (pn:List (AF×Obj)) (E:EW):Cx:={ X with pn:=pn,xe:=XE (X.p pn) E }
theorem Inv.with {X:Cx} {pins:List (AF×Obj)} {σ:St} {H:Hp} {s:AE} (I:Inv X pins σ H s) (z:AC->AE->Prop):Inv { X with xe:=z } pins σ H s:=by
 obtain ⟨ok,a,b,c,d,e,f,g,i,j,l⟩:=I;obtain ⟨o1,o2,o3,o4,o5,o6,o7,o8,o9,o10,o11,o12,o13,o14,o15,o16,o17,o18⟩:=ok;exact ⟨⟨o1,o2,o3,o4,o5,o6,o7,o8,o9,o10,o11,o12,o13,o14,o15,o16,o17,o18⟩,a,b,c,d,e,f,g,i,j,l⟩
theorem Inv.without {X:Cx} {pins:List (AF×Obj)} {σ:St} {H:Hp} {s:AE} {z:AC->AE->Prop} (I:Inv { X with xe:=z } pins σ H s):Inv X pins σ H s:=by
 have:=I.with X.xe
 exact this
theorem Inv.pinIn {X:Cx} {pins:List (AF×Obj)} {σ:St} {H:Hp} {s:AE} (I:Inv X pins σ H s):Inv (X.p (X.pn++pins)) [] σ H s:=by
 obtain ⟨ok,a,b,c,d,e,f,g,i,j,l⟩:=I;obtain ⟨o1,o2,o3,o4,o5,o6,o7,o8,o9,o10,o11,o12,o13,o14,o15,o16,o17,o18⟩:=ok;exact ⟨⟨o1,o2,o3,o4,o5,o6,o7,o8,o9,o10,o11,o12,o13,o14,o15,o16,o17,o18⟩,a,b,c,d,e,f,g,λq hq=>i q (by rwa [Ax] at hq),j,l⟩
theorem Inv.pinOut {X:Cx} {pins:List (AF×Obj)} {σ:St} {H:Hp} {s:AE} (I:Inv (X.p (X.pn++pins)) [] σ H s):Inv X pins σ H s:=by
 obtain ⟨ok,a,b,c,d,e,f,g,i,j,l⟩:=I;obtain ⟨o1,o2,o3,o4,o5,o6,o7,o8,o9,o10,o11,o12,o13,o14,o15,o16,o17,o18⟩:=ok;exact ⟨⟨o1,o2,o3,o4,o5,o6,o7,o8,o9,o10,o11,o12,o13,o14,o15,o16,o17,o18⟩,a,b,c,d,e,f,g,λq hq=>i q (by show q∈(X.pn++pins)++[];rwa [Ax]),j,l⟩
structure Good (X:Cx) (E:EW):Prop where
 pass:Jg (CXG X.prog X.w) X (Ta E)
 own:K5 (AW X.prog X.w) X.A X.env X.xe
 made:∀(pins:List (AF×Obj)) (σ:St) (H:Hp) (s:AE) (h':BY) (ea C:AF) (args:List AC),Inv X pins σ H s->E C σ H->BY.MadeExcOf s.heap h' ea (.ref C) args->X.xe (.ref ea) { s with heap:=h' }
theorem HF.p {X:Cx} (O:HF X) (pn:List (AF×Obj)):HF (X.p pn):=⟨O.st,O.fr,O.ex⟩
theorem BV {X:Cx} {E:EW} {pn:List (AF×Obj)} (O:HF X):Good (X.w' pn E) E:=by
 have O':=O.p pn;refine ⟨λpins σ H s e s' I h=>?_,XE.own O',λpins σ H s h' ea C args I w hx=>?_⟩
 ·obtain ⟨ea,C,H',rfl,os,bare,un,hok,x,_,c,ec,w⟩:=h
  cases ec;have I0:Inv (X.p pn) pins σ H s:=Inv.without (X:=X.p pn) I;have I1:Inv (X.p pn) pins σ H' s':=I0.call' os un hok bare (λb z=>absurd z (by simp))
  have I2:Inv (X.p pn) [] σ H' s':=I1.pins_of λp hp=>absurd hp (by simp)
  obtain ⟨n1,n2,oe,vs,a0,g1,g2,g3,g4,g5⟩:=x;refine ⟨ea,C,σ,H',rfl,I2,⟨n1,(I0.old O' n2).2,oe,vs,a0,g1,g2,g3,g4,?_⟩,w⟩
  rcases g5 with ⟨z,_⟩ | ⟨T,oT,ts,fl,hf,h1,ne,m1,m2,r⟩
  ·cases z
  ·exact .inr ⟨T,oT,ts,fl,.inr (.inl hf),h1,ne,m1,(I0.old O' m2).2,r⟩
 ·have I0:Inv (X.p pn) pins σ H s:=Inv.without (X:=X.p pn) I
  have I1:Inv (X.p pn) pins σ H { s with heap:=h',toks:=s.toks }:=I0.kept hx.keeps;obtain ⟨t,g1,_,_⟩:=hx.there;have hold:=I0.old O' hx.new;exact ⟨ea,C,σ,H,rfl,I1.pins_of λp hp=>absurd hp (by simp),⟨hold.1,hold.2,_,_,_,g1,rfl,⟨rfl,rfl⟩,rfl,.inl ⟨.inl rfl,rfl⟩⟩,w⟩
end L2
namespace L2
open PySem PySem.Spec PyProof.Rows
abbrev M9:List AC:=[.type "ValueError",.type "Exception",.type "BaseException",.type "object"]
structure XCl (K:AA) (C:AF):Prop where
 ex:XC K C M9 "ValueError.__new__" = true
theorem XCl.obj {K:AA} {C:AF} (c:XCl K C):∃bm N nm q bs hdct sn sub ab col dd k0 k1 k2 k3 k5,K.lookup C=some (excClassObj nm q C N bs bm hdct sn sub ab col dd k0 k1 k2 k3 k5 "ValueError.__new__") /\
  Lx K N=true/\PySem.W.nsIn K N "__init__" = some none/\PySem.W.tailIn K M9 bm=true:=by
 have q:=c.ex;unfold XC at q;split at q
 ·rename_i ddx cdx slx hox
  split at q
  ·rename_i Cx bmx j0 j1 j2 j3 nx j5 hmx hsx
   simp only [Cg,beq_iff_eq,Uz] at q;obtain ⟨⟨⟨⟨⟨e1,e2⟩,e3⟩,e4⟩,e5⟩,e6⟩:=q;subst e1;subst e2;obtain ⟨f1,f2,f3,f4,f5,f6,f7,f8,f9,f10,f11⟩:=cdx;dsimp only at hmx e3 e5 e6;subst hmx;subst e3;obtain ⟨lx⟩:=slx;dsimp only at hsx;subst hsx;exact ⟨bmx,f4,f1,f5,f2,f6,f7,f8,f9,f10,ddx,j0,j1,j2,j3,j5,hox,e5,e6,e4⟩
  ·cases q
 ·cases q
theorem Yf {K:AA} {N:AF} {h h2:BY} {m:Str->Option AC} (e:Lx K N=true) (X:K.In h) (X2:K.In h2) (n:h.Ns N m):h2.Ns N m:=by
 obtain ⟨o,es,ep,ho,r⟩:=n;unfold Lx at e;split at e
 ·rename_i hk
  have z:=X _ _ hk;rw [ho] at z;cases z;exact ⟨_,es,ep,X2 _ _ hk,r⟩
 ·cases e
def DE (C:AF) (ml:ML):MS:=λe S=>(ml e S).lift e λds S1=>if ds.length<=sizeLine then .ok (.ex C e) S1 else .bad
section
variable {X:Cx} {E:EW} {x:Str} {np cpos pos:Pos} {e:Expr} {es:List Expr} {ml:ML} {C:AF}
theorem HB (G:Good X E) (hc:X.calm=true) (c:XCl X.K C) (hg:Gl X x) (hm:X.mg x=some (.ref C)) (ha:GA X E (e :: es) ml) (hdb:(x==("__debug__" : Str))=false:=by decide)
  (he:AO (e :: es) X.env=(false,Bh e X.env) :: AO es X.env:=by rfl) (hpl:(Cb cpos (AO es X.env)).any (·.1)=false:=by rfl) :
  GS X E (.Raise (some (.Call (.Name x np) (e :: es) [] cpos)) none pos) (DE C ml):=by
 intro pins s σ H D I ⟨ρ,l,S,hl,hs,hm'⟩;have hh:X.A.handled=none:=I.ok.hd hc;obtain ⟨bm,N,nm,q,bs,hdct,sn,sub,ab,col,dd,k0,k1,k2,k3,k5,hC,hok,hin,htl⟩:=c.obj;have hN:s.heap.Ns N (s.heap.nsMap N):=.of_isNs (PySem.W.isNs_of_in I.kIn hok)
 refine wpAny_Raise_call_subT (C:=C) (nm:=nm) (q:=q) (N:=N) (bs:=bs) (bm:=bm) (hdct:=hdct) (sn:=sn) (sub:=sub) (ab:=ab) (col:=col) (dd:=dd) (k0:=k0) (k1:=k1) (k2:=k2) (k3:=k3) (k5:=k5) (bmB:=M9) PySem.F.excBase_ValueError
  ((RA I.kIn htl).hasType (by decide +kernel)) hh (by rw [he];show (false||(Cb cpos (AO es X.env)).any (·.1))=false;rw [hpl];rfl) (PySem.W.nsMap_none_of_in I.kIn hok hin)
  (KB I hg hm ⟨rfl,?_⟩ hdb)
 have hgo:=ha cpos pins s σ H (λvs H1=>vs.length<=sizeLine/\E C σ H1) I ⟨ρ,l,S,hl,hs,BR.lift hm' hl .refl λds S1 hm ρ1 H1 xs l1 s1 r1=>by
  split at hm
  ·rename_i hz
   exact ⟨by rw [<-r1.length];exact hz,hm ρ1 H1 σ l1 s1 (hl.mono l1)⟩
  ·exact hm.elim⟩
 rw [he] at hgo ⊢;refine Iy (thn hgo λus s2 ⟨vs,H2,I2,rv,hz,w⟩=>?_);exact ⟨rfl,by rw [<-rv.length];exact hz,I2.kIn _ _ hC,Yf hok I.kIn I2.kIn hN,RA I2.kIn htl,λh' ea hx=>G.made pins σ H2 s2 h' ea C us I2 w hx⟩
end
abbrev Cx.suite (X:Cx) (ea:AF):Cx:={ X with A:=X.A.mark (some (.ref ea)),calm:=false,xe:=λ_ _=>False }
theorem Inv.suite {X:Cx} {pins:List (AF×Obj)} {σ:St} {H:Hp} {s:AE} (I:Inv X pins σ H s) (ea:AF):Inv (X.suite ea) pins σ H s:=by
 obtain ⟨ok,a,b,c,d,e,f,g,i,j,l⟩:=I;obtain ⟨o1,o2,o3,o4,o5,o6,o7,o8,o9,o10,o11,o12,o13,o14,o15,o16,o17,o18⟩:=ok;exact ⟨⟨o1,o2,o3,o4,o5,o6,o7,o8,λz=>absurd (show false=true from z) AS,o10,o11,o12,o13,o14,o15,o16,o17,o18⟩,a,b,c,d,e,f,g,i,j,l⟩
theorem Inv.unsuite {X:Cx} {pins:List (AF×Obj)} {σ:St} {H:Hp} {s:AE} {ea:AF} (ok:X.Ok) (I:Inv (X.suite ea) pins σ H s):Inv X pins σ H s:=by
 obtain ⟨_,a,b,c,d,e,f,g,i,j,l⟩:=I;exact ⟨ok,a,b,c,d,e,f,g,i,j,l⟩
theorem Inv.track {X:Cx} {σ:St} {H:Hp} {s:AE} {ea:AF} {o:Obj} {vs:Array AC} (I:Inv X [] σ H s) (n1:H ea=none) (n2:Nw X ea) (g1:s.heap.get? ea=some o) (g3:o.data=.fields vs) :
  Inv X [] σ (upd H ea (.frz o (.ext λh=>∃u,h.get? ea=some u))) s:=by
 have neL:X.env.locals≠ea:=λz=>by
  obtain ⟨m,⟨o',es,ep,ho',hd',_⟩,_⟩:=I.loc;rw [z,g1] at ho';cases ho';rw [g3] at hd';cases hd'
 have neC:∀x c,X.env.cells.lookup x=some c->c≠ea:=λx c q z=>by
  obtain ⟨v,o',ho',hd'⟩:=I.cell x c q;rw [z,g1] at ho';cases ho';rw [g3] at hd';cases hd'
 refine ⟨I.ok,I.os,I.bare,⟨I.base.keep,I.base.slot,λb u q n hx=>?_,I.base.there,λb xs q=>?_,λb u xs q=>?_,λb ps q=>?_⟩,I.loc,I.cell,?_,λx c q=>?_,λp hp=>?_,λb u q=>?_,I.len⟩
 ·rw [BU λz=>by rw [z,n2.1] at q;cases q]
  exact I.base.free b u q n hx
 ·have:=I.base.tups b xs q
  rw [BU (Bl this n1)];exact this
 ·have:=I.base.frzs b u xs q
  rw [BU (Bl this n1)];exact this
 ·obtain ⟨more,this⟩:=I.base.tbls b ps q
  exact ⟨more,by rw [BU (Bl this n1)];exact this⟩
 ·rw [BU neL];exact I.free
 ·rw [BU (neC x c q)];exact I.freeC x c q
 ·obtain ⟨z1,z2,z3⟩:=I.pin p hp
  exact ⟨z1,by rw [BU (n2.2 p (by rwa [Ax] at hp))];exact z2,z3⟩
 ·by_cases hb:b=ea
  ·subst hb
   rw [BM] at q;cases q;exact ⟨g1,⟨o,g1⟩,⟨o,g1⟩,λh1 h2 ⟨u,e1⟩ k=>⟨u,k u e1⟩⟩
  ·rw [BU hb] at q
   exact (I.hok b u q).stay (λ_ _ _ z=>z) (λc z=>by rw [BU (Bl z n1)];exact z) λc xs z=>by rw [BU (Bl z n1)];exact z
theorem Iq {X:Cx} {σ:St} {H:Hp} {s:AE} {M:NR} {A:A2} {E:AC->AE->Prop} {Q:Unit->AE->Prop} {i:Nat} {n:Str} {pos:Pos} (I:Inv X [] σ H s) (hN:X.N.Nodup) (hi:X.N[i]?=some n) (hn:X.env.scope.names.lookup n=some .local)
  (k:∀s',Inv X [] (σ.set i none) H s'->Q () s'):Ah M A (do bindName X.env n .none;unbindBehindTheSuite X.env n pos) Q E s:=by
 obtain ⟨m,hm,hl⟩:=id I.loc
 have hp:(X.env.scope.kind==.class||(X.env.scope.kind==.module&&X.env.locals != X.env.globals))=false:=by rw [I.ok.kind];rfl
 have neL:∀b o,X.s₀.heap.get? b=some o->b≠X.env.locals:=λb o e=>Ay (AX (Ae e) I.ok.above)
 obtain ⟨oL,_,_,hoL,_⟩:=id hm
 refine wpAny_nameGoes_keeps hn hm hp λh' v hn' sb=>k _ ?_
 have cellK:∀y c w',X.env.cells.lookup y=some c->s.heap.IsCell c w'->h'.IsCell c w':=λy c w' q z=>z.sameBut sb (I.cne y c q)
 refine ⟨I.ok,I.os,I.bare,⟨λb o e z hb hx=>(sb.2 b (neL b o e)).trans (I.base.keep b o e z hb hx),λb o e z hb hx=>?_,I.base.free,λb o e hx=>?_,I.base.tups,I.base.frzs,I.base.tbls⟩,⟨_,hn',λj y v' e1 e2 e3=>?_⟩,λy c q=>?_,I.free,I.freeC,λp hp=>?_,λb u q=>?_,by simpa using I.len⟩
 ·obtain ⟨sl,q⟩:=I.base.slot b o e z hb hx
  exact ⟨sl,(sb.2 b (neL b o e)).trans q⟩
 ·obtain ⟨o',q⟩:=I.base.there b o e hx
  exact ⟨o',(sb.2 b (neL b o e)).trans q⟩
 ·by_cases hj:i=j
  ·subst hj
   rw [Pk ] at e2
   cases hq:σ[i]? <;> rw [hq] at e2 <;> cases e2
  ·rw [Al hj] at e2
   obtain ⟨u',r',q⟩:=hl j y v' e1 e2 e3;refine ⟨u',r',?_⟩
   rcases q with ⟨kk,e⟩ | ⟨kk,c,e,z⟩
   ·refine .inl ⟨kk,?_⟩
    have:y≠n:=λz=>hj (Md hN (z▸hi) e1)
    show (if y=n then v else m y)=_;rw [if_neg this];exact e
   ·exact .inr ⟨kk,c,e,cellK y c _ e z⟩
 ·obtain ⟨w',z⟩:=I.cell y c q
  exact ⟨w',cellK y c w' q z⟩
 ·obtain ⟨z1,z2,z3,z4⟩:=I.pin p hp
  exact ⟨(sb.2 p.1 z3).trans z1,z2,z3,z4⟩
 ·refine (I.hok b u q).stay (λc v' hc z=>(sb.2 c ?_).trans z) (λ_ z=>z) λ_ _ z=>z
  intro e
  rcases hc with z | z
  ·rw [z] at e;rw [e,I.free] at q;cases q
  ·rw [e,I.free] at z;cases z
structure SF (K:AA) (C G:AF):Prop where
 ty:IB K (.ref G)=some (.type "type")
 cl:(DI K G).isSome=true
 ba:JC K (.ref G) (.type "BaseException")=some true
 su:JC K (.ref C) (.ref G)=some true
theorem Rr {K:AA} {C G ea:AF} {oe:Obj} {M:NR} {A:A2} {E:AC->AE->Prop} {Q:Bool->AE->Prop} {s:AE} (c:SF K C G) (X:K.In s.heap) (g1:s.heap.get? ea=some oe) (g2:oe.cls=.ref C) (q:Q true s) :
  Ah M A (excMatches (.ref ea) (.ref G)) Q E s:=by
 have L1:Ey M s.heap (isInstance (.ref G) (.type "tuple")) false:=PySem.W.looks_instIn X (by unfold PySem.W.instIn;rw [c.ty];show JC K (.type "type") (.type "tuple")=some false;kernel_rfl);have L2:Ey M s.heap (isSubtype (.ref G) (.type "BaseException")) true:=Qt X c.ba;have L3:Ey M s.heap (isSubtype (.ref C) (.ref G)) true:=Qt X c.su
 have L4:Ey M s.heap (isType (.ref G)) true:=by
  have z:=c.cl;unfold DI at z;split at z
  ·rename_i hk
   intro A' Q' E' s' k q;unfold isType loadHead;exact AB (Q2 (k _ _ (X _ _ hk)) (AH q))
  ·cases z
 have L5:Ey M s.heap (typeOf (.ref ea)) (.ref C):=g2▸(cq g1).andThen .now;unfold excMatches isExcClass;refine AB (L1.at ?_);rw [if_neg AS];refine AB (AH ?_);dsimp only;refine AB ?_;rw [IE];refine AB (AB (AB (L4.at ?_)));rw [if_pos rfl];refine L2.at ?_;simp only [Pd,CI,if_false];refine AH ?_;dsimp only;rw [Nr];refine AH (AB (L5.at (AB ?_)));rw [IE];refine AB (AB (L3.at ?_));rw [if_pos rfl];exact AH (AH (AH q))
def X1 (cs:List AF) (i:Nat) (b h:MS):MS:=λe S=>(b e S).bind λf S1=>match f with
 | .ex c e1=>if c∈cs then (h (e1.set i (some (.exc c))) S1).bind λf2 S2=>match f2 with
   | .nx e2=>.ok (.nx (e2.set i none)) S2
   | .bk e2=>.ok (.bk (e2.set i none)) S2
   | .ct e2=>.ok (.ct (e2.set i none)) S2
   | .rt d=>.ok (.rt d) S2
   | .ex _ _=>.bad
  else .bad
 | f=>.ok f S1
theorem DT.forget {K:AA} {ρ:List AF} {H:Hp} {e:Lo} {σ:St} (i:Nat) (h:DT K ρ H e σ):DT K ρ H (e.set i none) (σ.set i none):=by
 refine ⟨by simp [h.len],λj d q=>?_⟩
 by_cases hj:i=j
 ·subst hj
  rw [Pk] at q
  cases hq:e[i]? <;> rw [hq] at q <;> cases q
 ·rw [Al hj] at q ⊢
  exact h.at' j d q
section
variable {X:Cx} {E:EW} {body suite:List Cd} {b₀:Cd} {g n:Str} {gp hpos pos:Pos} {cs:List AF} {i:Nat} {mb mh:MS} {G:AF}
theorem bd {pn:List (AF×Obj)} (O:HF X) (hN:X.N.Nodup) (hi:X.N[i]?=some n) (hn:X.env.scope.names.lookup n=some .local) (hg:Gl X g) (hm:X.mg g=some (.ref G)) (hcs:∀c∈cs,SF X.K c G)
  (hb:∀pn' E',GSs (X.w' pn' E') E' body mb) (hh:∀pn' ea,GSs ((X.p pn').suite ea) noE (b₀ :: suite) mh) (hdb:(g==("__debug__" : Str))=false:=by decide) :
  GS (X.w' pn E) E (.Try body [.ExceptHandler (some (.Name g gp)) (some n) (b₀ :: suite) hpos] [] [] pos) (X1 cs i mb mh):=by
 intro pins s σ H D I ⟨ρ,l,S,hl,hs,hm'⟩;have I0:Inv (X.p pn) pins σ H s:=Inv.without (X:=X.p pn) I;have I1:Inv (X.p (pn++pins)) [] σ H s:=I0.pinIn;have O1:=O.p (pn++pins)
 let DS:Qp:={ nx:=λσ2 H2=>D.nx (σ2.set i none) H2,rt:=D.rt,bk:=λσ2 H2=>D.bk (σ2.set i none) H2,ct:=λσ2 H2=>D.ct (σ2.set i none) H2 }
 let ET:EW:=λC σ' H'=>C∈cs/\∀ea o u,H' ea=none->Nl o C->gS X.K noE mh DS (σ'.set i (some (.ref ea))) (upd H' ea (.frz o u))
 have run:=hb (pn++pins) ET [] s σ H D (I1.with _) ⟨ρ,l,S,hl,hs,hm'.seq λf S1 hm=>by
  cases f with
  | nx e'=>exact hm
  | rt d=>exact hm
  | bk d=>exact hm
  | ct d=>exact hm
  | ex c e1=>
   intro ρ' H' σ' l' s' r';dsimp only at hm;split at hm
   ·rename_i hc
    refine ⟨hc,λea o u hn ho=>?_⟩;have le:Le X.K ρ' H' ρ' (upd H' ea (.frz o u)):=Le.fresh hn;have s2:=(ER (ho:=.frz o u) s' hn).1;refine ⟨ρ',e1.set i (some (.exc c)),S1,(r'.mono le).set (.exc BM ho) i,s2,((BR.later hm (l'.trans le)).seq λf2 S2 hm=>?_)⟩
    cases f2 with
    | nx e2=>exact λρ2 H2 σ2 l2 q2 r2=>hm ρ2 H2 _ (l'.trans (le.trans l2)) q2 (r2.forget i)
    | bk e2=>exact λρ2 H2 σ2 l2 q2 r2=>hm ρ2 H2 _ (l'.trans (le.trans l2)) q2 (r2.forget i)
    | ct e2=>exact λρ2 H2 σ2 l2 q2 r2=>hm ρ2 H2 _ (l'.trans (le.trans l2)) q2 (r2.forget i)
    | rt d=>exact λρ2 H2 x2 l2 q2 r2=>hm ρ2 H2 x2 (l'.trans (le.trans l2)) q2 r2
    | ex c' e2=>exact hm.elim
   ·exact hm.elim⟩
 refine wpAny_Try_except (DY run (λf s1 q=>?_) λe s1 q=>?_)
 ·-- the body went through
  cases f with
  | next=>
   obtain ⟨σ',H',J,z⟩:=q;exact Gj ⟨σ',H',(Inv.pinOut (X:=X.p pn) J.without).with _,z⟩
  | brk=>
   obtain ⟨σ',H',J,z⟩:=q;exact ⟨σ',H',(Inv.pinOut (X:=X.p pn) J.without).with _,z⟩
  | cont=>
   obtain ⟨σ',H',J,z⟩:=q;exact ⟨σ',H',(Inv.pinOut (X:=X.p pn) J.without).with _,z⟩
  | ret u=>
   obtain ⟨v,σ',H',J,r,z⟩:=q;exact ⟨v,σ',H',(Inv.pinOut (X:=X.p pn) J.without).with _,r,z⟩
 ·-- an exception is caught
  obtain ⟨ea,C,σ',H',rfl,J,x,hC,w⟩:=q
  refine Ov (X:=X.p (pn++pins)) J O1 J.ok.frames x (λo z=>z) λh1 J1 x1=>?_
  refine Is (X:=X.p (pn++pins)) (s:={ s1 with heap:=h1 }) none J1 O1 x1 (by simp) λh2 J2 x2=>?_
  refine wpAny_handleBy_cons (codeAny_handlers_test ?_) (by intro z;cases z);have J2s:=J2.suite ea;refine KB (X:=(X.p (pn++pins)).suite ea) J2s hg hm ?_ hdb;have x2':=x2;obtain ⟨n1,n2,oe,vs,a0,g1,g2,⟨g0,g3⟩,_⟩:=x2';refine Rr (hcs C hC) J2.kIn g1 g2 ?_;refine codeAny_handlers_suite_as ?_
  refine Is (X:=X.p (pn++pins)) (s:={ s1 with heap:=h2 }) none J2 O1 x2 (by simp) λh3 J3 x3=>?_
  obtain ⟨n1,n2,oe,vs,a0,g1,g2,⟨g0,g3⟩,_⟩:=x3;have J4:=J3.track n1 n2 g1 g3;refine MN (X:=(X.p (pn++pins)).suite ea) (v:=.ref ea) (J4.suite ea) hN hi (.inl hn) rfl (λs5 J5=>?_) (.inr hn)
  refine DY (hh (pn++pins) ea [] s5 _ _ DS J5 (w ea oe _ n1 ⟨g2,g0,vs,g3⟩)) (λf s6 q=>?_) λ_ _ z=>z.elim
  have ok:(X.p (pn++pins)).Ok:=J.ok
  cases f with
  | next=>
   obtain ⟨σ6,H6,J6,z⟩:=q
   exact Iq (X:=X.p (pn++pins)) (J6.unsuite ok) hN hi hn λs7 J7=>⟨_,H6,(Inv.pinOut (X:=X.p pn) J7).with _,z⟩
  | brk=>
   obtain ⟨σ6,H6,J6,z⟩:=q
   exact Iq (X:=X.p (pn++pins)) (J6.unsuite ok) hN hi hn λs7 J7=>⟨_,H6,(Inv.pinOut (X:=X.p pn) J7).with _,z⟩
  | cont=>
   obtain ⟨σ6,H6,J6,z⟩:=q
   exact Iq (X:=X.p (pn++pins)) (J6.unsuite ok) hN hi hn λs7 J7=>⟨_,H6,(Inv.pinOut (X:=X.p pn) J7).with _,z⟩
  | ret u=>
   obtain ⟨v,σ6,H6,J6,r,z⟩:=q
   exact Iq (X:=X.p (pn++pins)) (J6.unsuite ok) hN hi hn λs7 J7=>⟨v,_,H6,(Inv.pinOut (X:=X.p pn) J7).with _,r,z⟩
end
def Eo (n:Nat) (ds:List D):Lo:=ds.map some++BE (n - ds.length) none
theorem RW {K:AA} {ρ:List AF} {H:Hp} {N:List Str} {ds:List D} {vs:List V} (r:An K ρ H ds vs):DT K ρ H (Eo N.length ds) (start N vs):=by
 refine ⟨by simp [Eo,start,r.length],λi d q=>?_⟩;unfold Eo at q;unfold start
 by_cases hi:i < ds.length
 ·rw [AV (by simpa using hi),Aj] at q
  rw [AV (by rw [AG,<-r.length];exact hi),Aj]
  cases e:ds[i]? with
  | none=>rw [e] at q;cases q
  | some d'=>
   rw [e] at q;cases q;obtain ⟨v,h1,h2⟩:=r.get e;exact ⟨v,by rw [h1];rfl,h2⟩
 ·rw [Aw (by simpa using hi),CS] at q
  split at q <;> cases q
def Es (n:Nat) (mb:MS) (ds:List D) (S:Sto):Res D:=(okR (mb (Eo n ds) S)).bind λf S1=>match f with
 | .rt d=>.ok d S1
 | .nx _=>.ok .non S1
 | .ex c _=>.err c S1
 | _=>.bad
section
variable {P:Ai} {w:A7} {K:AA} {mg:Str->Option AC} {base:BY}
theorem cC {x qual:Str} {st:Cd} {f:AF} {fd:Cr} {N ps:List Str} {k n:Nat} (F:Fun K x qual st f fd) (Sc:B5 N ps (Av st)) (hn:ps.length=n) {mb:MS}
  (hbody:∀(cdv:AC) (A:A2) (outer:List Env) (s:AE) (H:Hp) (E:XK),FO k (A.deeper (JR qual (Av st) s.heap.objs.size f cdv))->∀pn E',GSs ((PH (CXG P w) P w K mg base N qual (Av st) f cdv A outer s H E).w' pn E') E' (Bw st) mb) :
  Dy P w K mg base (CXG P w) (k+1) f fd ps (spM K n (Es N.length mb)):=by
 obtain ⟨oc,od,kV,doc,pm,an,cdv,ct,osl,rfl,lk,hcd⟩:=F.ex
 refine ee lk hcd Sc (λvs H Q E h=>by rw [hn];exact h.len) λA outer s H vs Q E hr h=>?_
 obtain ⟨ρ,ds,S,h1,h2,h3,h4⟩:=h;have O:HF (PH (CXG P w) P w K mg base N qual (Av st) f cdv A outer s H E):=⟨rfl,rfl,rfl⟩;have hb:=hbody cdv A outer s H E hr [] (λc _ H'=>E (.ref c) none H');refine ⟨gS K (λc _ H'=>E (.ref c) none H') mb,λpins s' σ H' D I q=>DY (hb pins s' σ H' D (I.with _) q) (λfl s1 z=>?_) λe s1 z=>?_,ρ,_,S,RW h2,h3,?_⟩
 ·cases fl with
  | next=>obtain ⟨σ',H2,J,z⟩:=z;exact ⟨σ',H2,J.without,z⟩
  | brk=>obtain ⟨σ',H2,J,z⟩:=z;exact ⟨σ',H2,J.without,z⟩
  | cont=>obtain ⟨σ',H2,J,z⟩:=z;exact ⟨σ',H2,J.without,z⟩
  | ret u=>obtain ⟨v,σ',H2,J,r,z⟩:=z;exact ⟨v,σ',H2,J.without,r,z⟩
 ·refine XE.leave O z λea C σ' H2 s2 e1 J x w=>⟨ea,C,H2,e1,J.os,J.bare,J.base,J.hok,?_,w⟩
  obtain ⟨n1,n2,oe,vs',a0,g1,g2,g3,g4,g5⟩:=x;refine ⟨n1,n2.1,oe,vs',a0,g1,g2,g3,g4,?_⟩
  rcases g5 with z | ⟨T,oT,ts,fl,hf,h1,ne,m1,m2,r⟩
  ·exact .inl z
  ·exact .inr ⟨T,oT,ts,fl,hf,h1,ne,m1,m2.1,r⟩
 ·unfold Es at h4
  cases hr:mb (Eo N.length ds) S with
  | bad=>rw [hr] at h4;exact h4.elim
  | err c S'=>rw [hr] at h4;exact h4.elim
  | ok fl S'=>
   rw [hr] at h4
   cases fl with
   | nx e'=>exact λρ' H' σ' l s' r=>h4 ρ' H' .non l s' .non
   | rt d=>exact h4
   | bk e'=>exact h4.elim
   | ct e'=>exact h4.elim
   | ex c e'=>exact λρ' H' σ' l s' r=>h4 ρ' H' l s'
end
end L2
namespace L2
open PySem PySem.Spec PyProof.Rows
section
variable {X:Cx}
def intOp (C:Int->Int->Prop) [∀i j,Decidable (C i j)] (g:Int->Int->D):D->D->Sto->Res D
 | .int i,.int j,S=>if C i j then .ok (g i j) S else .bad
 | _,_,_=>.bad
theorem WT {C:Int->Int->Prop} [∀i j,Decidable (C i j)] {g:Int->Int->D} {a b d:D} {S S':Sto} (h:intOp C g a b S=.ok d S'):∃i j,a=.int i/\b=.int j/\C i j/\d=g i j/\S'=S:=by
 unfold intOp at h;split at h
 ·split at h
  ·rename_i i j _ hc
   cases h;exact ⟨_,_,rfl,rfl,hc,rfl,rfl⟩
  ·cases h
 ·cases h
theorem Mb {f:AC->AC->Sem AC} {C:Int->Int->Prop} [∀i j,Decidable (C i j)] {g:Int->Int->D} {v:Int->Int->V} (hv:∀ρ H i j,BQ X.K ρ H (g i j) (v i j)) (h:OpR X f (rI C v)):OpR X f (rD X.K (intOp C g)):=h.imp λx y H Q ⟨ρ,S,a,b,d,S',hs,ra,rb,hm,k⟩=>by
 obtain ⟨i,j,rfl,rfl,hc,rfl,rfl⟩:=WT hm;cases ra;cases rb;exact ⟨i,j,rfl,rfl,hc,k ρ H _ .refl hs (hv _ _ _ _)⟩
theorem J8 {f:AC->AC->Sem AC} {g:Int->Int->D} {v:Int->Int->V} (hv:∀ρ H i j,BQ X.K ρ H (g i j) (v i j)) (h:OpR X f (rI0 v)):OpR X f (rD X.K (intOp (λ_ _=>True) g)):=
 Mb (C:=λ_ _=>True) hv (h.imp λx y H Q ⟨i,j,e1,e2,_,q⟩=>⟨i,j,e1,e2,q⟩)
instance (i j:Int):Decidable (XA i j):=inferInstanceAs (Decidable (_/\_))
instance (i j:Int):Decidable (cO i j):=inferInstanceAs (Decidable (_/\_/\_))
instance (i j:Int):Decidable (Qr i j):=inferInstanceAs (Decidable (_∨_))
abbrev VM:=intOp (λ_ _=>True) λi j=>.int (i - j)
abbrev QM:=intOp Qr λi j=>.int (i * j)
abbrev IW:=intOp XA λi j=>.int (i / j)
abbrev Ht:=intOp (λ_ j=>0 < j) λi j=>.int (i % j)
abbrev aa:=intOp cO λi j=>.int (i ^ j.toNat)
abbrev ltD:=intOp (λ_ _=>True) λi j=>.bl (decide (i < j))
abbrev leD:=intOp (λ_ _=>True) λi j=>.bl (decide (i<=j))
abbrev gtD:=intOp (λ_ _=>True) λi j=>.bl (decide (j < i))
abbrev geD:=intOp (λ_ _=>True) λi j=>.bl (decide (j<=i))
theorem Ri:OpR X (Ci .Sub) (rD X.K VM):=J8 (λ_ _ _ _=>.int _) ax
theorem Ou:OpR X (Ci .Mult) (rD X.K QM):=Mb (λ_ _ _ _=>.int _) az
theorem HY:OpR X (Ci .FloorDiv) (rD X.K IW):=Mb (λ_ _ _ _=>.int _) YZ
theorem EZ:OpR X (Ci .Mod) (rD X.K Ht):=Mb (λ_ _ _ _=>.int _) bA
theorem bE:OpR X (Ci .Pow) (rD X.K aa):=Mb (λ_ _ _ _=>.int _) ay
theorem V2:OpR X (Bg .Lt) (rD X.K ltD):=J8 (λ_ _ _ _=>.bl _) dk
theorem V3:OpR X (Bg .LtE) (rD X.K leD):=J8 (λ_ _ _ _=>.bl _) dm
theorem dy:OpR X (Bg .Gt) (rD X.K gtD):=J8 (λ_ _ _ _=>.bl _) dq
theorem dz:OpR X (Bg .GtE) (rD X.K geD):=J8 (λ_ _ _ _=>.bl _) dr
def JB:D->D->Sto->Res D
 | .int i,.int j,S=>.ok (.int (i+j)) S
 | .tup xs,.tup ys,S=>if xs.length+ys.length<=sizeLine then .ok (.tup (xs++ys)) S else .bad
 | .ref l,.ref b,S=>match S[l]?,S[b]? with
  | some (.lst xs),some (.lst ys)=>if xs.length+ys.length<=sizeLine then .ok (.ref S.length) (S++[.lst (xs++ys)]) else .bad
  | _,_=>.bad
 | _,_,_=>.bad
def db (K:AA):R2:=λx y H Q=>∃a b xs ys,x=.ref a/\y=.ref b/\H a=some (.tup xs)/\H b=some (.tup ys)/\xs.length+ys.length<=sizeLine /\
 (xs=[]->Q (.ref b) H)/\(ys=[]->Q (.ref a) H)/\(∀p,H p=none->Q (.ref p) (upd H p (.tup (xs++ys))))
theorem Yb:OpR X (Ci .Add) (db X.K):=by
 intro pins s σ H x y v u Q I rx ry h;obtain ⟨a,b,xs,ys,rfl,rfl,ha,hb,hz,q0,q1,q2⟩:=h;cases rx;cases ry;obtain ⟨its,r1,p1,_⟩:=I.tuple (a:=a) (xs:=xs) (.inl (.inl ha));obtain ⟨its2,r2,p2,_⟩:=I.tuple (a:=b) (xs:=ys) (.inl (.inl hb))
 by_cases hx:xs=[]
 ·obtain ⟨⟨cls,dd,data,sl⟩,ho,hc,n,hd⟩:=id p1
  obtain ⟨⟨cls2,dd2,data2,sl2⟩,ho2,hc2,n2,hd2⟩:=id p2;simp only at hc hd hc2 hd2;subst hc hd hc2 hd2;have hi:its=[]:=r1.nil_iff.mpr hx
  exact Us ⟨_,ho,rfl⟩ ⟨_,ho2,rfl⟩ OR TN HJ G2 (Gm _ _)
   (tuple_addW0 a b its.toArray its2.toArray n n2 dd dd2 sl sl2 (by simp [hi])) ⟨ho,ho2,⟨.ref b,H,I,rfl,q0 hx⟩⟩
 ·exact Ya pins s σ H (.ref a) (.ref b) _ _ Q I rfl rfl ⟨a,b,xs,ys,rfl,rfl,.inl (.inl ha),.inl (.inl hb),hx,hz,q1,λ_ p hp=>q2 p hp⟩
theorem An.nil_of {K:AA} {ρ:List AF} {H:Hp} {xs:List D} {vs:List V} (r:An K ρ H xs vs) (e:vs=[]):xs=[]:=by
 subst e;cases r;rfl
theorem Gs:OpR X (Ci .Add) (rD X.K JB):=(bC.or (Yb.or bB)).imp λx y H Q ⟨ρ,S,a,b,d,S',hs,ra,rb,hm,k⟩=>by
 cases ra with
 | int i=>
  cases rb <;> first | (cases hm;done) | skip
  cases hm;exact .inl ⟨_,_,rfl,rfl,k ρ H _ .refl hs (.int _)⟩
 | @tup xs a1 vs h1 h2=>
  cases rb with
  | @tup ys b1 ws h3 h4=>
   unfold JB at hm;dsimp only at hm;split at hm
   ·rename_i hz
    cases hm;refine .inr (.inl ⟨_,_,_,_,rfl,rfl,h1,h3,by rw [<-h2.length,<-h4.length];exact hz,λe=>?_,λe=>?_,λp hp=>?_⟩)
    ·rw [h2.nil_of e,List.nil_append] at k
     exact k ρ H _ .refl hs (.tup h3 h4)
    ·rw [h4.nil_of e,Ax] at k
     exact k ρ H _ .refl hs (.tup h1 h2)
    ·obtain ⟨s2,l2⟩:=ER (ho:=.tup (vs++ws)) hs hp
     exact k ρ _ _ l2 s2 (.tup BM ((h2.append h4).mono l2))
   ·cases hm
  | _=>cases hm
 | @ref n a1 hn=>
  cases rb with
  | @ref m b1 hn'=>
   unfold JB at hm;dsimp only at hm;split at hm
   ·rename_i xs ys h1 h2
    split at hm
    ·rename_i hz
     cases hm;obtain ⟨vs,e1,r1⟩:=hs.ob _ _ _ h1 hn;obtain ⟨us,e2,r2⟩:=hs.ob _ _ _ h2 hn';refine .inr (.inr ⟨_,_,_,_,rfl,rfl,e1,e2,by rw [<-r1.length,<-r2.length];exact hz,λp hp=>?_⟩);have le:Le X.K ρ H (ρ++[p]) (upd H p (.lst (vs++us))):=Le.alloc hp;obtain ⟨s2,l2,at2⟩:=hs.alloc (ho:=.lst (vs++us)) (o:=.lst (xs++ys)) hp ⟨_,BM,(r1.append r2).mono le⟩;exact k _ _ _ l2 s2 (.ref at2)
    ·cases hm
   ·cases hm
  | _=>cases hm
 | _=>cases hm
def ixD:D->D->Sto->Res D:=λa b S=>match Fp a S,b with
 | some ds,.int i=>match atI ds i with
  | some d=>.ok d S
  | none=>.bad
 | _,_=>.bad
theorem ZH {K:AA} {ρ:List AF} {H:Hp} {ds:List D} {vs:List V} {i:Int} {d:D} (r:An K ρ H ds vs) (h:atI ds i=some d):∃v,atI vs i=some v/\BQ K ρ H d v:=by
 unfold atI at h ⊢;rw [<-r.length]
 cases hq:ixN ds.length i with
 | none=>rw [hq] at h;cases h
 | some j=>
  rw [hq] at h;exact r.get h
theorem dv:IxR X (rD X.K ixD):=(ix_list.or bP).imp λx y H Q ⟨ρ,S,a,b,d,S',hs,ra,rb,hm,k⟩=>by
 unfold ixD at hm;split at hm
 ·rename_i ds i hq
  split at hm
  ·rename_i d' hd
   cases hm;cases rb;obtain ⟨p,xs,rfl,rr,sq⟩:=Lk hs ra hq;obtain ⟨v,h1,h2⟩:=ZH rr hd
   rcases sq with sq | sq
   ·exact .inl ⟨p,xs,_,v,rfl,rfl,sq,h1,k ρ H v .refl hs h2⟩
   ·exact .inr ⟨p,xs,_,v,rfl,rfl,sq,h1,k ρ H v .refl hs h2⟩
  ·cases hm
 ·cases hm
end
def mQ (f:List D->Sto->Res D) (m:ML):ME:=λe S=>(m e S).bind λds S1=>okR (f ds S1)
section
variable {X:Cx} {E:EW} {e:Expr} {es:List Expr} {x:Str} {p pos:Pos} {ml:ML} {id T:String} {r:List V->Hp->VK->Prop} {f:List D->Sto->Res D}
def en (K:AA) (r:List V->Hp->VK->Prop) (f:List D->Sto->Res D):Prop:=∀ρ H S ds q xs d S' (Q:VK),Bc K ρ S H->An K ρ H ds xs->(SqL K H q xs∨SqT K H q xs)->f ds S=.ok d S' ->
 (∀ρ' H' z,Le K ρ H ρ' H'->Bc K ρ' S' H'->BQ K ρ' H' d z->Q z H')->r [.ref q] H Q
def cP (K:AA) (r:List V->Hp->VK->Prop) (f:List D->Sto->Res D):Prop:=∀ρ H S ds xs d S' (Q:VK),Bc K ρ S H->An K ρ H ds xs->f ds S=.ok d S' ->
 (∀ρ' H' z,Le K ρ H ρ' H'->Bc K ρ' S' H'->BQ K ρ' H' d z->Q z H')->r xs H Q
def em (K:AA) (r:List V->Hp->VK->Prop) (f:List D->Option (List D)):Prop:=∀ρ H S ds q xs es (Q:VK),Bc K ρ S H->An K ρ H ds xs->(SqL K H q xs∨SqT K H q xs)->f ds=some es ->
 (∀ρ' H' p ys,Le K ρ H ρ' H'->Bc K ρ' S H'->An K ρ' H' es ys->H' p=some (.lst ys)->(∀n:Nat,ρ'[n]?≠some p)->H p=none->Q (.ref p) H')->r [.ref q] H Q
theorem Yz (hc:Gi X (.builtin id) r) (hf:en X.K r f) (hg:Gl X x) (hm:X.mg x=none) (hv:Da x=some (.builtin id)) (h:GQ X E e ml) (hn:x≠"__name__":=by decide) (hdb:(x==("__debug__" : Str))=false:=by decide)
  (he:AO [e] X.env=(false,Bh e X.env) :: AO [] X.env:=by rfl):GE X E (.Call (.Name x p) [e] [] pos) (mQ f ml):=(IQ hc hg hm hv (DF h FF he) hn hdb he rfl).imp λσ H Q ⟨ρ,l,S,hl,hs,hm⟩=>by
 refine ⟨ρ,l,S,hl,hs,hm.seq λds S1 hm ρ1 H1 q xs l1 s1 r1 sq=>?_⟩;obtain ⟨d,S',e,k⟩:=hm.okR
 exact hf ρ1 H1 S1 ds q xs d S' Q s1 r1 sq e λρ' H' z l' s' r'=>k ρ' H' z (l1.trans l') s' r'
theorem Sv (hc:Gi X (.builtin id) r) (hf:cP X.K r f) (hg:Gl X x) (hm:X.mg x=none) (hv:Da x=some (.builtin id)) (h:GA X E (e :: es) ml) (hn:x≠"__name__":=by decide) (hdb:(x==("__debug__" : Str))=false:=by decide)
  (he:AO (e :: es) X.env=(false,Bh e X.env) :: AO es X.env:=by rfl) (hpl:(Cb pos (AO es X.env)).any (·.1)=false:=by rfl):GE X E (.Call (.Name x p) (e :: es) [] pos) (mQ f ml):=(IQ hc hg hm hv h hn hdb he hpl).imp λσ H Q ⟨ρ,l,S,hl,hs,hm⟩=>by
 refine ⟨ρ,l,S,hl,hs,hm.seq λds S1 hm ρ1 H1 xs l1 s1 r1=>?_⟩;obtain ⟨d,S',e,k⟩:=hm.okR
 exact hf ρ1 H1 S1 ds xs d S' Q s1 r1 e λρ' H' z l' s' r'=>k ρ' H' z (l1.trans l') s' r'
def mN (f:List D->Option (List D)) (m:ML):ML:=λe S=>(m e S).bind λds S1=>match f ds with
 | some es=>.ok es S1
 | none=>.bad
theorem Yv {f:List D->Option (List D)} (hc:Gi X (.type T) r) (hf:em X.K r f) (hg:Gl X x) (hm:X.mg x=none) (hv:Da x=some (.type T)) (h:GQ X E e ml) (hn:x≠"__name__":=by decide) (hdb:(x==("__debug__" : Str))=false:=by decide)
  (he:AO [e] X.env=(false,Bh e X.env) :: AO [] X.env:=by rfl):GL X E (.Call (.Name x p) [e] [] pos) (mN f ml):=(Kj hc hg hm hv (DF h FF he) hn hdb he rfl).imp λσ H Q ⟨ρ,l,S,hl,hs,hm⟩=>by
 refine ⟨ρ,l,S,hl,hs,hm.seq λds S1 hm ρ1 H1 q xs l1 s1 r1 sq=>?_⟩
 cases hq:f ds with
 | none=>rw [hq] at hm;exact hm.elim
 | some es=>
  rw [hq] at hm
  exact hf ρ1 H1 S1 ds q xs es Q s1 r1 sq hq λρ' H' p ys l' s' r' hp hn hp0=>hm ρ' H' p ys (l1.trans l') s' r' hp hn (l1.back hs s1 hp0)
def eM (ds:List D) (S:Sto):Res D:=.ok (.int ds.length) S
theorem aN:en X.K (λxs H Q=>∃p ys,xs=[.ref p]/\(SqL X.K H p ys∨SqT X.K H p ys)/\Q (.int ys.length) H) eM:=λρ H S ds q xs d S' Q hs rr sq hm k=>by
 cases hm;exact ⟨q,xs,rfl,sq,k ρ H _ .refl hs (by rw [rr.length];exact .int _)⟩
def JM:List D->Sto->Res D
 | [.int i,.int j],S=>.ok (.int (if j < i then j else i)) S
 | _,_=>.bad
def J9:List D->Sto->Res D
 | [.int i,.int j],S=>.ok (.int (if j > i then j else i)) S
 | _,_=>.bad
theorem ZL:cP X.K (λxs H Q=>∃i j,xs=[.int i,.int j]/\Q (.int (if j < i then j else i)) H) JM:=λρ H S ds xs d S' Q hs rr hm k=>by
 unfold JM at hm;split at hm
 ·cases hm
  cases rr with
  | cons a t=>
   cases t with
   | cons b t=>
    cases t;cases a;cases b;exact ⟨_,_,rfl,k ρ H _ .refl hs (.int _)⟩
 ·cases hm
theorem ZM:cP X.K (λxs H Q=>∃i j,xs=[.int i,.int j]/\Q (.int (if j > i then j else i)) H) J9:=λρ H S ds xs d S' Q hs rr hm k=>by
 unfold J9 at hm;split at hm
 ·cases hm
  cases rr with
  | cons a t=>
   cases t with
   | cons b t=>
    cases t;cases a;cases b;exact ⟨_,_,rfl,k ρ H _ .refl hs (.int _)⟩
 ·cases hm
def Sn (ds:List D):Option (List D):=some ds
theorem Xx:em X.K (λxs H Q=>∃p ys,xs=[.ref p]/\(SqL X.K H p ys∨SqT X.K H p ys)/\∀l,H l=none->Q (.ref l) (upd H l (.lst ys))) Sn:=λρ H S ds q xs es Q hs rr sq hm k=>by
 cases hm;refine ⟨q,xs,rfl,sq,λl hl=>?_⟩;obtain ⟨s2,l2⟩:=ER (ho:=.lst xs) hs hl;exact k ρ _ l xs l2 s2 (rr.mono l2) BM (λn e=>hs.notIn hl e) hl
end
end L2
namespace L2
open PySem PySem.Spec PyProof.Rows
def Ct (X:Cx) (scope:GR) (N':List Str) (cl:List (Str×AF)) (C:AF) (s₁:AE) (H₁:Hp) (ex:List AF) (pn:List (AF×Obj)):Cx where
 prog:=X.prog
 w:=X.w
 K:=X.K
 mg:=X.mg
 base:=X.base
 A:=X.A
 N:=N'
 s₀:=s₁
 H₀:=H₁
 env:=compEnvC scope cl C X.env
 outer:=X.stack
 stack:=X.stack
 ex:=ex
 fn:=λ_=>false
 calm:=X.calm
 pn:=pn
 xe:=λ_ _=>False
theorem PK {env:Env}:∀(names:List (Str×NQ)) (acc:List (Str×AF)),(∀y∈names,y.2=.free->∃c,env.cells.lookup y.1=some c)->(∀n c,acc.lookup n=some c->env.cells.lookup n=some c) ->
  ∃cl,(forIn names acc (λ(x:Str×NQ) (cs:List (Str×AF))=>match x with | (name,kind)=>if (kind==GV)=true then do let a <-cellOf env name;pure (E3 ((name,a) :: cs)) else pure (E3 cs)):Sem (List (Str×AF)))=pure cl /\
   (∀n c,cl.lookup n=some c->env.cells.lookup n=some c)/\(∀n c,acc.lookup n=some c->∃c',cl.lookup n=some c')/\∀y∈names,y.2=.free->∃c,cl.lookup y.1=some c
 | [],acc,_,ha=>⟨acc,rfl,ha,λn c h=>⟨c,h⟩,λ_ h=>nomatch h⟩
 | (n,k) :: r,acc,h,ha=>by
  rw [IE]
  by_cases hk:k=.free
  ·subst hk
   obtain ⟨c,hc⟩:=h (n,.free) A0 rfl
   obtain ⟨cl,e,h1,h2,h3⟩:=PK r ((n,c) :: acc) (λy hy=>h y (AZ _ hy)) (λm d hm=>by
    rw [Bd] at hm
    cases hq:(m==n) with
    | true=>rw [hq] at hm;cases hm;rw [eq_of_beq hq];exact hc
    | false=>rw [hq] at hm;exact ha m d hm)
   have e0:cellOf env n=pure c:=by unfold cellOf;rw [hc]
   refine ⟨cl,?_,h1,λm d hm=>h2 m (if m==n then c else d) ?_,λy hy hf=>?_⟩
   ·simp only [beq_self_eq_true,if_true,e0,pure_bind]
    exact e
   ·rw [Bd]
    cases hq:(m==n) with
    | true=>rfl
    | false=>exact hm
   ·rcases Ap.mp hy with rfl | hy
    ·exact h2 n c (by rw [Bd,beq_self_eq_true])
    ·exact h3 y hy hf
  ·have hb:(k==GV)=false:=by simpa using hk
   obtain ⟨cl,e,h1,h2,h3⟩:=PK r acc (λy hy=>h y (AZ _ hy)) ha;refine ⟨cl,?_,h1,h2,λy hy hf=>?_⟩
   ·simp only [hb,CI,if_false,pure_bind]
    exact e
   ·rcases Ap.mp hy with rfl | hy
    ·exact (hk hf).elim
    ·exact h3 y hy hf
theorem TD {scope:GR} {env:Env} (h:∀y∈scope.names,y.2=.free->∃c,env.cells.lookup y.1=some c):∃cl,closureFor scope env=pure cl /\
  (∀n c,cl.lookup n=some c->env.cells.lookup n=some c)/\∀y∈scope.names,y.2=.free->∃c,cl.lookup y.1=some c:=by
 obtain ⟨cl,e,h1,_,h3⟩:=PK scope.names [] h (λn c z=>by simp at z);refine ⟨cl,?_,h1,h3⟩;unfold closureFor;exact (congrArg (λz=>z >>= λcs=>pure cs) e).trans (by rw [pure_bind])
def Uc (X:Cx) (ifs:List Expr) (t:TT):Prop:=
 ∀(pins:List (AF×Obj)) (s:AE) (σ:St) (H:Hp) (Q:Bool->Hp->Prop),Inv X pins σ H s->t σ H Q ->
  Ah (AW X.prog X.w) X.A (forIn ifs true λc r=>if r=true then do let ok <-Q4 c X.env (Bh c X.env);pure (E3 ok) else pure (E3 r)) (TP X pins σ Q) X.xe s
theorem Vo {X:Cx}:Uc X [] (λ_ H Q=>Q true H):=λpins s σ H Q I h=>wpAny_tests_nil ⟨H,I,h⟩
structure Jh (X:Cx) (scope:GR) (own N':List Str):Prop where
 kind:scope.kind=.function
 nocell:∀y∈scope.names,y.2≠.cell
 names:∀y∈scope.names,y.2=.local->scope.names.lookup y.1=some .local
 free:∀y∈scope.names,y.2=.free->X.env.kindOf y.1=some .cell∨X.env.kindOf y.1=some .free
 len:N'.length=own.length+X.N.length
 up:∀i x,N'[own.length+i]?=some x->Vis (G0 scope X.env) x->X.N[i]?=some x/\Vis X.env.scope x/\((G0 scope X.env).names.lookup x=some .cell∨(G0 scope X.env).names.lookup x=some .free)/\X.env.kindOf x≠some .local
 vis:∀x,((G0 scope X.env).names.lookup x=some .cell∨(G0 scope X.env).names.lookup x=some .free)->(x,GV)∈scope.names
section
variable {X:Cx} {pins:List (AF×Obj)} {σ:St} {H2:Hp} {s2:AE} {scope:GR} {own N':List Str} {cl:List (Str×AF)} {fp:List AF} {C:AF} {s:AE} {H:Hp}
theorem R9 (Sc:Jh X scope own N') (I:Inv X pins σ H2 s2) (hf:∀b∈fp,NE X pins H2 b) (hfl:∀b∈fp,b < s2.heap.objs.size)
  (c1:∀n c,cl.lookup n=some c->X.env.cells.lookup n=some c) (c2:∀y∈scope.names,y.2=.free->∃c,cl.lookup y.1=some c)
  (hC:s2.heap.objs.size<=C) {m:Str->Option AC} (hn:s.heap.Ns C m) (hos:s.os=s2.os) (hg:GM s.gens)
  (u:Un (frs X.stack) fp H2 H s2.heap s.heap) (hok:HOk X.prog X.w H s.heap) (hHC:H C=none) :
  Inv (Ct X scope N' cl C s2 H2 fp (X.pn++pins)) [] (BE own.length none++σ) H s:=by
 have cellK:∀x c v,cl.lookup x=some c->s2.heap.IsCell c v->s.heap.IsCell c v:=λx c v e ⟨o,ho,hd⟩=>by
  obtain ⟨sl,q⟩:=u.any ho (I.freeC x c (c1 x c e)) λz=>(hf c z).2.2.2.2.1 x c (c1 x c e) rfl
  exact ⟨_,q,hd⟩
 have ok':(Ct X scope N' cl C s2 H2 fp (X.pn++pins)).Ok:=by
  refine ⟨I.ok.mod,Sc.kind,I.ok.glob,I.ok.blt,hC,λx y c h1 h2=>I.ok.inj x y c (c1 x c h1) (c1 y c h2),λx hx=>?_,λx c z=>?_,I.ok.hd,I.ok.frames,.inl rfl,λb hb=>?_,I.bs,Ao I.ok.bsz I.sz,λb o e hb=>?_,λb hb hb'=>?_,I.stack,I.stkFree⟩
  ·obtain ⟨c,hc⟩:=c2 _ (Sc.vis x hx) rfl
   exact ⟨c,hc⟩
  ·exact absurd (show false=true from z) AS
  ·exact ⟨Ay (AX (hfl b hb) hC),λx c e=>(hf b hb).2.2.2.2.1 x c (c1 x c e)⟩
  ·obtain ⟨_,_,_,z,_⟩:=hf b hb
   rcases z with z | z
   ·exact I.ok.noex b o e z
   ·exact absurd (AX (Ae (I.ok.bs b o e).1) z) (DV _)
  ·obtain ⟨_,z1,z2,_⟩:=hf b hb
   rcases Ap.mp (I.stkSub b hb') with e | e
   ·exact z1 e
   ·exact z2 e
 refine ⟨ok',hos,hg,u,⟨m,hn,λi x v e1 e2 e3=>?_⟩,λx c e=>?_,hHC,λx c e=>?_,λp hp=>?_,hok,?_⟩
 ·have hi:own.length<=i:=by
   apply L8
   intro hlt;rw [AV (by simpa using hlt),CS,if_pos hlt] at e2;cases e2
  obtain ⟨j,rfl⟩:∃j,i=own.length+j:=⟨i - own.length,by lia⟩
  rw [Aw (by simp)] at e2
  have e2':σ[j]?=some (some v):=by simpa using e2
  obtain ⟨n1,n2,n3,n4⟩:=Sc.up j x e1 e3;obtain ⟨m0,hn0,hl⟩:=I.loc;obtain ⟨w',r,lk⟩:=hl j x v n1 e2' n2;refine ⟨w',r,.inr ⟨n3,?_⟩⟩
  rcases lk with ⟨k,_⟩ | ⟨_,c,hc,hcell⟩
  ·exact (n4 k).elim
  ·obtain ⟨c',hc'⟩:=c2 _ (Sc.vis x n3) rfl
   have e:=c1 x c' hc';rw [hc] at e;cases e;exact ⟨c,hc',cellK x c _ hc' hcell⟩
 ·obtain ⟨v,z⟩:=I.cell x c (c1 x c e)
  exact ⟨v,cellK x c v e z⟩
 ·obtain ⟨v,o,ho,hd⟩:=I.cell x c (c1 x c e)
  exact u.free c o ho (I.freeC x c (c1 x c e)) λz=>(hf c z).2.2.2.2.1 x c (c1 x c e) rfl
 ·have hp':p∈X.pn++pins:=by
   have hp:p∈(X.pn++pins)++[]:=hp;rwa [Ax] at hp
  obtain ⟨e,n,ne,nf,d⟩:=I.pin p hp'
  have nfs:p.1∉frs X.stack:=λz=>(Ap.mp (I.stkSub _ z)).elim ne nf
  have nfp:p.1∉fp:=λz=>(hf _ z).2.2.2.2.2 p hp' rfl
  exact ⟨u.keep p.1 p.2 e n nfs nfp,u.free p.1 p.2 e n nfp,Ay (AX (Ae e) hC),nfs,d⟩
 ·show (BE own.length none++σ).length=N'.length
  rw [AR,Il,I.len,Sc.len]
def VH (k:Nat) (wi:TI) (g:TG) (tc:TT) (te:TE):TE:=λσ H Q=>wi σ H λJ H1=>∀p,H1 p=none->∃W:Nat->Nat->St->Hp->List V->Prop,(∃m,W 0 m (BE k none++σ) (upd H1 p (.lst [])) []) /\
 ∀i m σ' H' xs,W i m σ' H' xs->H' p=some (.lst xs)/\((J.stop i H'/\Q (.ref p) H')∨(J.go i H'/\xs.length < sizeLine/\∀x H'',J.yld i H' x H''->g x σ' H'' λσ2 H2=>tc σ2 H2 λb H3=>
  if b=true then te σ2 H3 λy H4=>H4 p=some (.lst xs)/\∃m',m' < m/\W (i+1) m' σ2 (upd H4 p (.lst (xs++[y]))) (xs++[y]) else ∃m',m' < m/\W (i+1) m' σ2 H3 xs))
theorem UW {X':Cx} {elt target iter:Expr} {ifs:List Expr} {pos:Pos} {J:It} {it p:AF} {tn:Nat->BY->Prop} {g:TG} {tc:TT} {te:TE} {R:Zp->AE->Prop} {Q:Hp->Prop}
  (hc:X'.calm=true) (hx:X'.xe=λ_ _=>False) (T:Ub X'.prog X'.w X'.K target J fp it tn) (hg:PG X' target g) (hif:Uc X' ifs tc) (he:PE X' elt te)
  (W:Nat->Nat->St->Hp->List V->Prop) (turn:∀i m σ' H' xs,W i m σ' H' xs->H' p=some (.lst xs)/\((J.stop i H'/\Q H')∨(J.go i H'/\xs.length < sizeLine/\∀x H'',J.yld i H' x H''->g x σ' H'' λσ2 H2=>tc σ2 H2 λb H3=>
   if b=true then te σ2 H3 λy H4=>H4 p=some (.lst xs)/\∃m',m' < m/\W (i+1) m' σ2 (upd H4 p (.lst (xs++[y]))) (xs++[y]) else ∃m',m' < m/\W (i+1) m' σ2 H3 xs)))
  (fin:∀σ' H' s',Inv X' [] σ' H' s'->Q H'->R (.ok .next) s')
  {m0:Nat} {σ0:St} {H0:Hp} {s0:AE} (I0:Inv X' [] σ0 H0 s0) (st0:tn 0 s0.heap) (f0:∀b∈fp,NE X' [] H0 b) (w0:W 0 m0 σ0 H0 []) :
  JS (AW X'.prog X'.w) X'.A (.compLoop (.ListComp elt [⟨target,iter,ifs,0⟩] scope pos) 0 (.ref it) (.ref p) X'.env) R s0:=by
 have stat:∀ {H':Hp},(∀b∈fp,H' b=none)->∀b∈fp,NE X' [] H' b:=λhn b hb=>⟨hn b hb,(f0 b hb).2⟩
 refine codeAny_loop rfl (λn s'=>∃i σ' H' xs,Inv X' [] σ' H' s'/\tn i s'.heap/\(∀b∈fp,H' b=none)/\W i n σ' H' xs) (λn s1 hI=>?_) m0 ⟨0,σ0,H0,[],I0,st0,λb hb=>(f0 b hb).1,w0⟩;obtain ⟨i,σ1,H1,xs,I1,st1,fr1,w1⟩:=hI;show Ah _ X'.A ((compTurn (.ListComp elt [⟨target,iter,ifs,0⟩] scope pos) 0 (.ref it) (.ref p) X'.env).onRaise (λx=>do Ue x X'.env;theTreesLotGoes x)) _ _ s1;refine wpAny_noted ?_;rw [compTurn_list]
 have up:∀ {α:Type} {t:Sem α} {P:α->AE->Prop} {E:AC->AE->Prop} {s:AE},Ah (AW X'.prog X'.w) X'.A t P X'.xe s->Ah (AW X'.prog X'.w) X'.A t P E s:=λh=>DY h (λ_ _ z=>z) λ_ _ z=>by rw [hx] at z;exact z.elim
 obtain ⟨hp,hcase⟩:=turn i n σ1 H1 xs w1;refine AB (wpAny_standAt (AB ?_))
 rcases hcase with ⟨stop,q⟩ | ⟨go,hz,step⟩
 ·refine up (thn (T.done X' rfl rfl rfl hc i [] s1 σ1 H1 X'.xe I1 (stat fr1) st1 stop) λr s4 ⟨hr,I4⟩=>?_)
  subst hr;exact AH (fin σ1 H1 s4 I4 q)
 ·refine up (thn (T.item X' rfl rfl rfl hc i [] s1 σ1 H1 X'.xe I1 (stat fr1) st1 go) λr s4 ⟨u,hr,h4⟩=>?_)
  subst hr;refine AB (up (thn h4 λ_ s5 ⟨x,H5,I5,r5,y5,st5,fr5⟩=>?_));have I5':=I5.pinned (stat fr5) (T.obj _ _ st5);refine AB (up (thn (hg _ s5 σ1 H5 x u _ I5' r5 (step x H5 y5)) λ_ s6 ⟨σ6,H6,I6,q6⟩=>?_))
  have cW:∀ {s7:AE} {σ7:St} {H7:Hp} {ys:List V},Inv X' ([]++MX fp s5.heap) σ7 H7 s7->(∃m',m' < n/\W (i+1) m' σ7 H7 ys)->∃m,m < n/\∃i σ' H' xs,Inv X' [] σ' H' s7/\tn i s7.heap/\(∀b∈fp,H' b=none)/\W i m σ' H' xs:=λ{s7 σ7 H7 ys} I7 ⟨m',hm,w7⟩=>by
   refine ⟨m',hm,i+1,σ7,H7,ys,I7.unpinned,T.keep _ _ _ st5 λb hb o e=>(I7.pin (b,o) (As _ (As _ (HZ hb e)))).1,λb hb=>?_,w7⟩;obtain ⟨o,e,d⟩:=T.obj _ _ st5 b hb;exact (I7.pin (b,o) (As _ (As _ (HZ hb e)))).2.1
  refine AB (up (thn (hif _ s6 σ6 H6 _ I6 q6) λok s7 ⟨H7,I7,q7⟩=>?_))
  cases ok with
  | false=>
   rw [if_neg AS] at q7;exact AH ⟨rfl,cW I7 q7⟩
  | true=>
   rw [if_pos rfl] at q7;refine AB (AB (up (thn (he _ s7 σ6 H7 _ I7 q7) λyv s8 ⟨y,H8,I8,r8,hp8,q8⟩=>?_)));refine AB (up (thn (N8 (X:=X') _ s8 σ6 H8 (.ref p) [y] (.ref p) [yv] (λv H9=>v=.non/\H9=upd H8 p (.lst (xs++[y]))) I8 rfl (.cons r8 .nil) ⟨p,xs,y,rfl,rfl,hp8,hz,rfl,rfl⟩) λv9 s9 ⟨v,H9,I9,r9,e9,e10⟩=>?_));subst e10;exact AH (AH ⟨rfl,cW I9 q8⟩)
end
end L2
namespace L2
open PySem PySem.Spec PyProof.Rows
section
variable {X:Cx} {pins:List (AF×Obj)} {σ:St} {H2:Hp} {s2:AE} {scope:GR} {own N':List Str} {cl:List (Str×AF)} {fp:List AF} {C:AF}
theorem OI {σ':St} {H':Hp} {s':AE} {h':BY} (I2:Inv X pins σ H2 s2) (J:Inv (Ct X scope N' cl C s2 H2 fp (X.pn++pins)) [] σ' H' s') (hC:s2.heap.objs.size<=C) (hf:∀b∈fp,NE X pins H2 b)
  (sb:GK C s'.heap h'):Inv X pins σ H' { s' with heap:=h' }:=by
 have ne:∀b o,s2.heap.get? b=some o->b≠C:=λb o e=>Ay (AX (Ae e) hC)
 have jb:Un (frs X.stack) fp H2 H' s2.heap s'.heap:=J.base
 have u:Un (frs X.stack) fp H2 H' s2.heap h':=by
  refine ⟨λb o e n hb hx=>(sb.2 b (ne b o e)).trans (jb.keep b o e n hb hx),λb o e n hb hx=>?_,jb.free,λb o e hx=>?_,jb.tups,jb.frzs,jb.tbls⟩
  ·obtain ⟨sl,q⟩:=jb.slot b o e n hb hx
   exact ⟨sl,(sb.2 b (ne b o e)).trans q⟩
  ·obtain ⟨o',q⟩:=jb.there b o e hx
   exact ⟨o',(sb.2 b (ne b o e)).trans q⟩
 have hHC:H' C=none:=J.free
 have hok:HOk X.prog X.w H' h':=λa o e=>(J.hok a o e).stay (λb u hb q=>(sb.2 b λz=>by
  subst z
  rcases hb with z | z
  ·subst z;rw [hHC] at e;cases e
  ·rw [hHC] at z;cases z).trans q) (λ_ q=>q) λ_ _ q=>q
 exact I2.call' (s':={ s' with heap:=h' }) (ch:=fp) J.os u hok J.bare λb hb=>by
  obtain ⟨_,z1,z2,z3,z4,z5⟩:=hf b hb;exact ⟨z3,z1,z4,z5⟩
variable {elt iter target:Expr} {ifs:List Expr} {pos:Pos} {wi:TI} {g:TG} {tc:TT} {te:TE}
theorem M6 {σ:St} {E:AC->AE->Prop} {Qf:AF->Hp->Prop} {RR:AC->AF->Zp->AE->Prop} {it:AF} {J:It} {tn:Nat->BY->Prop} (hc:X.calm=true) (Sc:Jh X scope own N')
  (hg:∀cl C s₁ H₁ ex pn,PG (Ct X scope N' cl C s₁ H₁ ex pn) target g) (hif:∀cl C s₁ H₁ ex pn,Uc (Ct X scope N' cl C s₁ H₁ ex pn) ifs tc) (he:∀cl C s₁ H₁ ex pn,PE (Ct X scope N' cl C s₁ H₁ ex pn) elt te)
  (c1:∀n c,cl.lookup n=some c->X.env.cells.lookup n=some c) (c2:∀y∈scope.names,y.2=.free->∃c,cl.lookup y.1=some c)
  (I2:Inv X pins σ H2 s2) (T:Ub X.prog X.w X.K target J fp it tn) (st2:tn 0 s2.heap) (f2:∀b∈fp,NE X pins H2 b)
  (q2:∀p,H2 p=none->∃W:Nat->Nat->St->Hp->List V->Prop,(∃m,W 0 m (BE own.length none++σ) (upd H2 p (.lst [])) []) /\
   ∀i m σ' H' xs,W i m σ' H' xs->H' p=some (.lst xs)/\((J.stop i H'/\Qf p H')∨(J.go i H'/\xs.length < sizeLine/\∀x H'',J.yld i H' x H''->g x σ' H'' λσ2 H2=>tc σ2 H2 λb H3=>
    if b=true then te σ2 H3 λy H4=>H4 p=some (.lst xs)/\∃m',m' < m/\W (i+1) m' σ2 (upd H4 p (.lst (xs++[y]))) (xs++[y]) else ∃m',m' < m/\W (i+1) m' σ2 H3 xs)))
  (hRR:∀D C σ' H' s',s2.heap.objs.size<=C->Inv (Ct X scope N' cl C s2 H2 fp (X.pn++pins)) [] σ' H' s'->Qf D H'->RR (.ref D) C (.ok .next) s') :
  Ah (AW X.prog X.w) X.A (newList []) (λacc s₃=>Ah (AW X.prog X.w) X.A (newFunctionEnv scope X.env.globals cl [] X.env.qual none .none (some X.env)) (λcenv s₄=>
   JS (AW X.prog X.w) X.A (.compStart (.ListComp elt [⟨target,iter,ifs,0⟩] scope pos) 0 (.ref it) acc { cenv with scope:=G0 scope X.env }) (RR acc cenv.locals) s₄) E s₃) E s2:=by
 have hfl:∀b∈fp,b < s2.heap.objs.size:=λb hb=>by
  obtain ⟨o,e,_⟩:=T.obj _ _ st2 b hb;exact Ae e
 refine B8 (wpAny_newFunctionEnv Sc.nocell (by intro y hy;simp at hy) (λh₁ hns₁ hsb₁=>?_) Sc.kind);dsimp only at hns₁ hsb₁ ⊢;generalize hH3:s2.heap.push { cls:=.type "list",dict:=none,data:=.seq ([]:List AC).toArray }=H3 at hns₁ hsb₁ ⊢
 have hC:H3.objs.size=s2.heap.objs.size+1:=by rw [<-hH3,JG]
 have hDC:s2.heap.objs.size≠H3.objs.size:=by rw [hC];exact Ay (DC _)
 have hCle:s2.heap.objs.size<=H3.objs.size:=by rw [hC];exact NF _
 have old:∀b o,s2.heap.get? b=some o->h₁.get? b=some o:=λb o e=>hsb₁.extBut b o (Ay (by rw [hC];exact XF (Ae e))) (AM _ (hH3▸AM _ e))
 have hacc:h₁.get? s2.heap.objs.size=some { cls:=.type "list",dict:=none,data:=.seq ([]:List AC).toArray }:=hsb₁.extBut _ _ hDC (AM _ (hH3▸A5 _ rfl));have hD:H2 s2.heap.objs.size=none:=I2.hok.fresh (AQ _);have u:Un (frs X.stack) fp H2 (upd H2 s2.heap.objs.size (.lst [])) s2.heap h₁:=Un.laid old (AQ _) hD;have hok:HOk X.prog X.w (upd H2 s2.heap.objs.size (.lst [])) h₁:=I2.hok.laid old (AQ _) ⟨Cv _,[],0,.nil,hacc⟩
 have hHC:upd H2 s2.heap.objs.size (.lst []) H3.objs.size=none:=by rw [BU (Bv hDC)];exact I2.hok.fresh hCle
 obtain ⟨W,⟨m0,w0⟩,turn⟩:=q2 s2.heap.objs.size hD
 have loop:∀s₃:AE,s₃={ s2 with heap:=h₁,toks:=s2.toks+([]:List (Str×AC)).length } ->
   JS (AW X.prog X.w) X.A (.compLoop (.ListComp elt [⟨target,iter,ifs,0⟩] scope pos) 0 (.ref it) (.ref s2.heap.objs.size) (compEnvC scope cl H3.objs.size X.env))
    (RR (.ref s2.heap.objs.size) H3.objs.size) s₃:=by
  rintro s₃ rfl
  have J0:Inv (Ct X scope N' cl H3.objs.size s2 H2 fp (X.pn++pins)) [] (BE own.length none++σ) (upd H2 s2.heap.objs.size (.lst [])) { s2 with heap:=h₁,toks:=s2.toks+([]:List (Str×AC)).length }:=
   R9 (s:={ s2 with heap:=h₁,toks:=s2.toks+([]:List (Str×AC)).length }) Sc I2 f2 hfl c1 c2 hCle hns₁ rfl I2.bare u hok hHC
  refine UW (X':=Ct X scope N' cl H3.objs.size s2 H2 fp (X.pn++pins)) (fp:=fp) (Q:=Qf s2.heap.objs.size) hc rfl T (hg _ _ _ _ _ _) (hif _ _ _ _ _ _) (he _ _ _ _ _ _) W turn (λσ' H' s' J q=>hRR _ _ σ' H' s' hCle J q) J0 (T.keep _ _ _ st2 λb _ o e=>old b o e) (λb hb=>?_) w0;obtain ⟨z0,z1,z2,z3,z4,z5⟩:=f2 b hb;refine ⟨by rw [BU (Ay (hfl b hb))];exact z0,Ay (AX (hfl b hb) hCle),λz=>?_,.inl hb,λx c e=>z4 x c (c1 x c e),λp hp=>?_⟩
  ·exact (Ap.mp (I2.stkSub _ z)).elim z1 z2
  ·have hp:p∈(X.pn++pins)++[]:=hp
   rw [Ax] at hp;exact z5 p hp
 exact codeAny_compStart_list (loop _ rfl) (T.self X.A 0 _ _ _ (T.keep _ _ _ st2 λb _ o e=>old b o e) (loop _ rfl))
theorem YU (hc:X.calm=true) (Sc:Jh X scope own N') (hi:PI X target iter wi)
  (hg:∀cl C s₁ H₁ ex pn,PG (Ct X scope N' cl C s₁ H₁ ex pn) target g) (hif:∀cl C s₁ H₁ ex pn,Uc (Ct X scope N' cl C s₁ H₁ ex pn) ifs tc) (he:∀cl C s₁ H₁ ex pn,PE (Ct X scope N' cl C s₁ H₁ ex pn) elt te)
  (hs:∀x,Dz iter X.env x=pure x:=by intro _;rfl):PE X (.ListComp elt [⟨target,iter,ifs,0⟩] scope pos) (VH own.length wi g tc te):=by
 intro pins s σ H Q I h;rw [eval_ListComp];obtain ⟨cl,hclos,c1,c2⟩:=TD (scope:=scope) (env:=X.env) (λy hy hf=>I.ok.has y.1 (Sc.free y hy hf));refine TL (use:=none) rfl hs hclos Sc.kind Sc.names (thn (hi pins s σ H _ I h) λv s1 h1=>thn h1 λitv s2 h2=>?_);obtain ⟨it,fp,tn,J,H2,rfl,I2,T,st2,f2,q2⟩:=h2
 refine M6 (Qf:=λp H'=>Q (.ref p) H') (RR:=λacc C=>compPost (AW X.prog X.w) X.A X.xe none (EP X pins σ Q) acc C) hc Sc hg hif he c1 c2 I2 T st2 f2 q2 λD C σ' H' s' hC J q=>?_
 obtain ⟨m,hn,_⟩:=J.loc;exact ⟨m,hn,λh' sb=>⟨.ref D,H',OI I2 J hC f2 sb,rfl,q⟩⟩
theorem YI {i:Nat} {y:Str} {py spos:Pos} (hc:X.calm=true) (hsw:EJ (.ListComp elt [⟨target,iter,ifs,0⟩] scope pos) (some (.Name y py)) spos.line X.env=pure true)
  (hN:X.N.Nodup) (hy:X.N[i]?=some y) (hloc:Loc X.env.scope y) (Sc:Jh X scope own N') (hi:PI X target iter wi)
  (hg:∀cl C s₁ H₁ ex pn,PG (Ct X scope N' cl C s₁ H₁ ex pn) target g) (hif:∀cl C s₁ H₁ ex pn,Uc (Ct X scope N' cl C s₁ H₁ ex pn) ifs tc) (he:∀cl C s₁ H₁ ex pn,PE (Ct X scope N' cl C s₁ H₁ ex pn) elt te)
  (hs:∀x,Dz iter X.env x=pure x:=by intro _;rfl) (hf:X.fn y=true∨X.env.scope.names.lookup y=some .local:=by first | exact .inl rfl | exact .inr rfl | assumption) :
  PS X (.Assign [.Name y py] (.ListComp elt [⟨target,iter,ifs,0⟩] scope pos) spos) (aL (VH own.length wi g tc te) (Sx i)):=by
 intro pins s σ H D I h;rw [exec_Assign_Name_used _ _ _ _ hsw];refine AB (wpAny_standAt (AB ?_));show Ah _ X.A (do let _ <-comprehension (.ListComp elt [⟨target,iter,ifs,0⟩] scope pos) scope X.env _ (newList []) false (Bh iter X.env) (some (Lw (.Name y py) X.env))) _ _ s;obtain ⟨cl,hclos,c1,c2⟩:=TD (scope:=scope) (env:=X.env) (λy hy hf=>I.ok.has y.1 (Sc.free y hy hf))
 refine AB (DY (TL (use:=some (Lw (.Name y py) X.env)) (Q:=λ_ s'=>SP X pins D .next s') rfl hs hclos Sc.kind Sc.names
  (thn (hi pins s σ H _ I h) λv s1 h1=>thn h1 λitv s2 h2=>?_)) (λ_ s' hq=>AH (AH hq)) λ_ _ e=>e)
 obtain ⟨it,fp,tn,J,H2,rfl,I2,T,st2,f2,q2⟩:=h2
 refine M6 (Qf:=λp H'=>D.nx (σ.set i (some (.ref p))) H') (RR:=λacc C=>compPost (AW X.prog X.w) X.A X.xe (some (Lw (.Name y py) X.env)) (λ_ s'=>SP X pins D .next s') acc C) hc Sc hg hif he c1 c2 I2 T st2 f2 q2 λA C σ' H' s' hC J q=>?_
 obtain ⟨m,hn,_⟩:=J.loc;have I3:Inv X pins σ H' s':=OI I2 J hC f2 (fG ..);have hHC:H' C=none:=J.free
 have hcell:∀x c,X.env.cells.lookup x=some c->c≠C:=λx c e z=>by
  obtain ⟨v,q⟩:=I2.cell x c e;exact absurd (AX q.lt (by rw [z];exact hC)) (DV _)
 have hloc':C≠X.env.locals:=RC (AX I2.lt hC);show Ah _ X.A (Lw (.Name y py) X.env (.ref A)) _ _ s';refine cQ (N1 (v:=.ref A) I3 hN hy hloc rfl (λs4 I4 ⟨a,sb,ha⟩=>?_) hf)
 have haC:C≠a:=by
  rcases ha with e | e
  ·rw [e];exact hloc'
  ·exact Bv (hcell _ _ e)
 refine ⟨m,hn.sameBut sb haC,λh' sb'=>⟨_,H',?_,q⟩⟩
 refine I4.turned (t':=s4.toks) (it:=C) (λb o hb e=>(sb'.2 b hb).trans e) hHC hloc' (.inr (Ao I2.sz hC)) hcell λp hp z=>?_
 exact absurd (AX (Ae (I2.pin p hp).1) (by rw [z];exact hC)) (DV _)
end
def EI (v:Hi) (g:MG) (c:MT) (m:ME):Nat->Nat->Lo->Sto->List D->Res (List D)
 | k,i,e,S,acc=>match v S with
  | none=>.bad
  | some ds=>match ds[i]? with
   | none=>.ok acc S
   | some d=>match k with
    | 0=>.bad
    | k+1=>if acc.length < sizeLine then (okR (g d e S)).bind λe1 S1=>(okR (c e1 S1)).bind λb S2=>if b=true then (okR (m e1 S2)).bind λy S3=>EI v g c m k (i+1) e1 S3 (acc++[y]) else EI v g c m k (i+1) e1 S2 acc else .bad
def Hq (n:Nat) (mi:MI) (g:MG) (c:MT) (m:ME):ML:=λe S=>(mi e S).bind λv S1=>EI v g c m (CN v S1) 0 (BE n none++e) S1 []
def JN:MT:=λ_ S=>.ok true S
section
variable {X:Cx} {E:EW} {scope:GR} {own N':List Str} {elt iter target:Expr} {ifs:List Expr} {pos:Pos} {mi:MI} {g:MG} {c:MT} {m:ME}
abbrev cN (X:Cx) (E:EW) (ifs:List Expr) (c:MT):Prop:=Uc X ifs (gT X.K E c)
theorem KD:cN X E [] JN:=λpins s σ H Q I ⟨ρ,l,S,hl,hs,hm⟩=>by
 exact Vo pins s σ H Q I (hm ρ H .refl hs)
theorem DT.grow {K:AA} {ρ:List AF} {H:Hp} {e:Lo} {σ:St} (n:Nat) (h:DT K ρ H e σ):DT K ρ H (BE n none++e) (BE n none++σ):=by
 refine ⟨by simp [h.len],λi d q=>?_⟩
 by_cases hi:i < n
 ·rw [AV (by simpa using hi),CS,if_pos hi] at q
  cases q
 ·rw [Aw (by simpa using hi)] at q ⊢
  simp only [Il] at q ⊢;exact h.at' _ d q
theorem BR.ok_of {α:Type} {K:AA} {E:EH} {ρ:List AF} {H:Hp} {r:Res α} {k:α->Sto->Prop} {a:α} {S:Sto} (e:r=.ok a S) (h:k a S):BR K E ρ H r k:=by
 subst e;exact h
theorem Ma {α β:Type} {r:Res α} {F:α->Sto->Res β} {b:β} {S:Sto} (h:(okR r).bind F=.ok b S):∃a S1,r=.ok a S1/\F a S1=.ok b S:=by
 cases r with
 | ok a S1=>exact ⟨a,S1,rfl,h⟩
 | err c S1=>cases h
 | bad=>cases h
theorem Qk {v:Hi} {g:MG} {c:MT} {m:ME} {er:AF} {S':Sto}:∀(k i:Nat) (e:Lo) (S:Sto) (acc:List D),EI v g c m k i e S acc≠.err er S':=by
 intro k
 induction k with
 | zero=>
  intro i e S acc h;unfold EI at h;split at h
  ·cases h
  ·split at h <;> cases h
 | succ k ih=>
  intro i e S acc h;unfold EI at h;split at h
  ·cases h
  ·split at h
   ·cases h
   ·dsimp only at h
    split at h
    ·cases h1:g _ e S with
     | ok e1 S1=>
      rw [h1] at h;dsimp only [okR,Res.bind] at h
      cases h2:c e1 S1 with
      | ok b S2=>
       rw [h2] at h;dsimp only [okR,Res.bind] at h
       cases b with
       | true=>
        rw [if_pos rfl] at h
        cases h3:m e1 S2 with
        | ok y S3=>rw [h3] at h;exact ih _ _ _ _ h
        | err _ _=>rw [h3] at h;cases h
        | bad=>rw [h3] at h;cases h
       | false=>
        rw [if_neg AS] at h;exact ih _ _ _ _ h
      | err _ _=>rw [h2] at h;cases h
      | bad=>rw [h2] at h;cases h
     | err _ _=>rw [h1] at h;cases h
     | bad=>rw [h1] at h;cases h
    ·cases h
theorem Pz {K:AA} {n:Nat} {σ:St} {H:Hp} {Q:VK} (h:gL K E (Hq n mi g c m) σ H Q):VH n (gI K E mi) (gG K g) (gT K noE c) (gE K noE m) σ H Q:=by
 obtain ⟨ρ,l,S,hl,hs,hm⟩:=h;refine ⟨ρ,l,S,hl,hs,hm.seq λv S1 hm ρ1 H1 J l1 s1 vo p hp=>?_⟩
 obtain ⟨ds,S',hm,k⟩:∃ds S',EI v g c m (CN v S1) 0 (BE n none++l) S1 []=.ok ds S'/\∀ρ' H' p xs,Le K ρ H ρ' H'->Bc K ρ' S' H'->An K ρ' H' ds xs->H' p=some (.lst xs)->(∀n:Nat,ρ'[n]?≠some p)->H p=none->Q (.ref p) H':=by
  cases hc:EI v g c m (CN v S1) 0 (BE n none++l) S1 [] with
  | ok ds S'=>rw [hc] at hm;exact ⟨ds,S',rfl,hm⟩
  | err c S'=>exact (Qk _ _ _ _ _ hc).elim
  | bad=>rw [hc] at hm;exact hm.elim
 obtain ⟨s1',l1'⟩:=ER (ho:=.lst []) s1 hp;have hp0:H p=none:=l1.back hs s1 hp
 refine ⟨λi j σ2 H2 xs=>∃ρ2 e2 S2 acc,Le K ρ1 H1 ρ2 H2/\DT K ρ2 H2 e2 σ2/\Bc K ρ2 S2 H2/\An K ρ2 H2 acc xs/\H2 p=some (.lst xs)/\(∀q:Nat,ρ2[q]?≠some p)/\EI v g c m j i e2 S2 acc=.ok ds S',
  ⟨CN v S1,ρ1,_,S1,[],l1',(hl.mono (l1.trans l1')).grow n,s1',.nil,BM,λq e=>s1.notIn hp e,hm⟩,?_⟩
 rintro i j σ2 H2 xs ⟨ρ2,e2,S2,acc,l2,r2,s2,ra,hp2,hn2,hm2⟩;refine ⟨hp2,?_⟩;unfold EI at hm2
 cases hv:v S2 with
 | none=>rw [hv] at hm2;cases hm2
 | some vs=>
  rw [hv] at hm2;dsimp only at hm2;obtain ⟨v1,v2⟩:=vo ρ2 H2 S2 vs i l2 s2 hv
  cases hd:vs[i]? with
  | none=>
   rw [hd] at hm2;cases hm2;exact .inl ⟨v1 hd,k ρ2 H2 p xs (l1.trans l2) s2 ra hp2 hn2 hp0⟩
  | some d=>
   rw [hd] at hm2;dsimp only at hm2;obtain ⟨go,yl⟩:=v2 d hd
   cases j with
   | zero=>cases hm2
   | succ j=>
    dsimp only at hm2;split at hm2
    ·rename_i hz
     obtain ⟨e3,S3,h3,hm2⟩:=Ma hm2;obtain ⟨b,S4,h4,hm2⟩:=Ma hm2;refine .inr ⟨go,by rw [<-ra.length];exact hz,λx H' y=>?_⟩;obtain ⟨ρ3,l3,s3,rd⟩:=yl x H' y;obtain ⟨hp3,hn3⟩:=l3.oth p _ hp2 hn2;refine ⟨ρ3,e2,S2,d,rd,r2.mono l3,s3,BR.ok_of h3 λρ4 H4 σ4 l4 s4 r4=>?_⟩;obtain ⟨hp4,hn4⟩:=l4.oth p _ hp3 hn3;refine ⟨ρ4,e3,S3,r4,s4,BR.ok_of h4 λρ5 H5 l5 s5=>?_⟩;obtain ⟨hp5,hn5⟩:=l5.oth p _ hp4 hn4
     cases b with
     | false=>
      rw [if_neg AS] at hm2 ⊢;exact ⟨j,DC j,ρ5,e3,S4,acc,l2.trans (l3.trans (l4.trans l5)),r4.mono l5,s5,ra.mono (l3.trans (l4.trans l5)),hp5,hn5,hm2⟩
     | true=>
      rw [if_pos rfl] at hm2 ⊢;obtain ⟨yv,S5,h5,hm2⟩:=Ma hm2;refine ⟨ρ5,e3,S4,r4.mono l5,s5,BR.ok_of h5 λρ6 H6 y6 l6 s6 r6=>?_⟩;obtain ⟨hp6,hn6⟩:=l6.oth p _ hp5 hn5
      have l7:∀xs',Le K ρ6 H6 ρ6 (upd H6 p (.lst xs'))->True:=λ_ _=>trivial
      have up7:∀xs':List V,Bc K ρ6 S5 (upd H6 p (.lst xs'))/\(∀a o,Dx K ρ6 H6 a o->a≠p->Dx K ρ6 (upd H6 p (.lst xs')) a o)/\∀e' w',BQ K ρ6 H6 e' w'->BQ K ρ6 (upd H6 p (.lst xs')) e' w':=λxs'=>by
       have kk:=Ea (H:=H6) (p:=p) (ho:=.lst xs') (.inr (by rw [hp6];trivial))
       have mono:∀e' w',BQ K ρ6 H6 e' w'->BQ K ρ6 (upd H6 p (.lst xs')) e' w':=λe' w' r=>r.keep kk.1 kk.2
       have mob:∀a o,Dx K ρ6 H6 a o->a≠p->Dx K ρ6 (upd H6 p (.lst xs')) a o:=λa o r ne=>r.keep kk.1 kk.2 (BU ne)
       exact ⟨⟨s6.len,s6.nd,λn o a q1 q2=>mob a o (s6.ob n o a q1 q2) λz=>hn6 n (by rw [<-z];exact q2)⟩,mob,mono⟩
      obtain ⟨u1,u2,u3⟩:=up7 (xs++[y6]);refine ⟨hp6,j,DC j,ρ6,e3,S5,acc++[yv],?_,?_,u1,?_,BM,hn6,hm2⟩
      ·have lx:=l2.trans (l3.trans (l4.trans (l5.trans l6)))
       have kk:=Ea (H:=H6) (p:=p) (ho:=.lst (xs++[y6])) (.inr (by rw [hp6];trivial))
       exact ⟨lx.pre,λa zs q=>kk.1 a zs (lx.tup a zs q),λa o u q=>kk.2 a o u (lx.frz a o u q),λa o q z=>by
        have nap:a≠p:=Bl q hp;obtain ⟨z1,z2⟩:=lx.oth a o q z
        exact ⟨by rw [BU nap];exact z1,z2⟩⟩
      ·have rr:=r4.mono (l5.trans l6)
       exact ⟨rr.len,λq d' hq=>by
        obtain ⟨w',z1,z2⟩:=rr.at' q d' hq
        exact ⟨w',z1,u3 _ _ z2⟩⟩
      ·have ra6:=ra.mono (l3.trans (l4.trans (l5.trans l6)))
       have kk:=Ea (H:=H6) (p:=p) (ho:=.lst (xs++[y6])) (.inr (by rw [hp6];trivial));exact (ra6.keep kk.1 kk.2).append (.cons (u3 _ _ r6) .nil)
    ·cases hm2
theorem O6 (hc:X.calm=true) (Sc:Jh X scope own N') (hi:GI X E target iter mi)
  (hg:∀cl C s₁ H₁ ex pn,GG (Ct X scope N' cl C s₁ H₁ ex pn) target g) (hif:∀cl C s₁ H₁ ex pn,cN (Ct X scope N' cl C s₁ H₁ ex pn) noE ifs c) (he:∀cl C s₁ H₁ ex pn,GE (Ct X scope N' cl C s₁ H₁ ex pn) noE elt m)
  (hs:∀x,Dz iter X.env x=pure x:=by intro _;rfl):GL X E (.ListComp elt [⟨target,iter,ifs,0⟩] scope pos) (Hq own.length mi g c m):=
 (YU (g:=gG X.K g) (tc:=gT X.K noE c) (te:=gE X.K noE m) hc Sc hi hg hif he hs).imp λ_ _ _ h=>Pz h
theorem Yu {i:Nat} {y:Str} {py spos:Pos} (hc:X.calm=true) (hsw:EJ (.ListComp elt [⟨target,iter,ifs,0⟩] scope pos) (some (.Name y py)) spos.line X.env=pure true)
  (hN:X.N.Nodup) (hy:X.N[i]?=some y) (hloc:Loc X.env.scope y) (Sc:Jh X scope own N') (hi:GI X E target iter mi)
  (hg:∀cl C s₁ H₁ ex pn,GG (Ct X scope N' cl C s₁ H₁ ex pn) target g) (hif:∀cl C s₁ H₁ ex pn,cN (Ct X scope N' cl C s₁ H₁ ex pn) noE ifs c) (he:∀cl C s₁ H₁ ex pn,GE (Ct X scope N' cl C s₁ H₁ ex pn) noE elt m)
  (hs:∀x,Dz iter X.env x=pure x:=by intro _;rfl) (hf:X.fn y=true∨X.env.scope.names.lookup y=some .local:=by first | exact .inl rfl | exact .inr rfl | assumption) :
  GS X E (.Assign [.Name y py] (.ListComp elt [⟨target,iter,ifs,0⟩] scope pos) spos) (B3 i (E7 (Hq own.length mi g c m))):=by
 refine (YI (g:=gG X.K g) (tc:=gT X.K noE c) (te:=gE X.K noE m) hc hsw hN hy hloc Sc hi hg hif he hs hf).imp λD σ H ⟨ρ,l,S,hl,hs,hm⟩=>?_
 refine Pz (E:=E) (Q:=λx H'=>D.nx (σ.set i (some x)) H') ⟨ρ,l,S,hl,hs,BR.seq (F:=λds S1=>Res.ok (L2.D.ref S1.length) (S1++[Ob.lst ds])) (k:=λd S2=>BR X.K noH ρ H ((tgN i d l S2).bind λe1 S2=>.ok (.nx e1) S2) λfl S'=>Mv X.K E ρ H S' D fl) (BR.lift hm hl .refl λd S2 h=>h) λds S1 hm ρ1 H1 p xs l1 s1 r1 hp hn hp0=>?_⟩
 have l0:∀(n:Nat) a,ρ1[n]?=some a->(ρ1++[p])[n]?=some a:=λn a h=>by rw [AV (AD.mp h).1];exact h
 obtain ⟨s2,at2⟩:=s1.adopt (o:=.lst ds) hn ⟨xs,hp,r1.more l0⟩
 have l2:Le X.K ρ H (ρ1++[p]) H1:=⟨λn a h=>l0 n a (l1.pre n a h),l1.tup,l1.frz,λa o e h=>⟨(l1.oth a o e h).1,λn q=>by
  rcases Fv q with ⟨q,_⟩ | ⟨_,q⟩
  ·exact (l1.oth a o e h).2 n q
  ·exact Bl e hp0 q⟩⟩
 exact hm _ _ _ l2 s2 ((hl.mono l2).set (.ref at2) i)
end
end L2
namespace L2
open PySem PySem.Spec PyProof.Rows PySem.SeqAt
def Ia:D->D->Option Bool
 | .non,.non=>some true
 | .bl a,.bl b=>some (a==b)
 | .int a,.int b=>some (a==b)
 | .str a,.str b=>some (a==b)
 | .non,.int _=>some false
 | .non,.str _=>some false
 | .non,.bl _=>some false
 | .non,.tup _=>some false
 | .int _,.non=>some false
 | .str _,.non=>some false
 | .bl _,.non=>some false
 | .tup _,.non=>some false
 | .int _,.tup _=>some false
 | .tup _,.int _=>some false
 | _,_=>none
def eqL (f:D->D->Option Bool):List D->List D->Option Bool
 | [],[]=>some true
 | [],_ :: _=>some false
 | _ :: _,[]=>some false
 | x :: xs,y :: ys=>match f x y,eqL f xs ys with
  | some a,some b=>some (a&&b)
  | _,_=>none
def eqP:Nat->D->D->Option Bool
 | 0,x,y=>Ia x y
 | n+1,x,y=>match x,y with
  | .tup xs,.tup ys=>eqL (eqP n) xs ys
  | x,y=>Ia x y
theorem IZ {f:D->D->Option Bool} {x y:D} {xs ys:List D} {b:Bool} (h:eqL f (x :: xs) (y :: ys)=some b):∃a c,f x y=some a/\eqL f xs ys=some c/\b=(a&&c):=by
 unfold eqL at h;split at h
 ·rename_i a c h1 h2
  cases h;exact ⟨a,c,h1,h2,rfl⟩
 ·cases h
theorem S9 {f:D->D->Option Bool}:∀ {xs ys:List D} {b:Bool},eqL f xs ys=some b->(∀(j:Nat) x y,xs[j]?=some x->ys[j]?=some y->∃c,f x y=some c) /\
  b=((CT (min xs.length ys.length)).all (λj=>match xs[j]?,ys[j]? with | some x,some y=>(f x y).getD false | _,_=>false)&&xs.length==ys.length)
 | [],[],b,h=>by cases h;exact ⟨λj x y h=>by simp at h,by simp⟩
 | [],y :: ys,b,h=>by cases h;exact ⟨λj x y h=>by simp at h,by simp⟩
 | x :: xs,[],b,h=>by cases h;exact ⟨λj x y _ h=>by simp at h,by simp⟩
 | x :: xs,y :: ys,b,h=>by
  obtain ⟨a,c,h1,h2,rfl⟩:=IZ h;obtain ⟨i1,i2⟩:=S9 h2;refine ⟨λj x' y' e1 e2=>?_,?_⟩
  ·cases j with
   | zero=>simp at e1 e2;subst e1;subst e2;exact ⟨a,h1⟩
   | succ j=>exact i1 j x' y' (by simpa using e1) (by simpa using e2)
  ·rw [i2,Am,Am,show min (xs.length+1) (ys.length+1)=min xs.length ys.length+1 by lia,Qx,Zt,cc]
   simp only [List.getElem?_cons_zero,h1,Uk,Function.comp_def,List.getElem?_cons_succ];rw [Bool.and_assoc]
   congr 1
   congr 1
   rw [Bool.eq_iff_iff];simp
section
variable {K:AA} {ρ:List AF} {H:Hp}
theorem S6 (n k:Nat) (y:D):eqP n (.ref k) y=none:=by cases n <;> cases y <;> rfl
theorem S7 (n:Nat) (ds:List D) (y:D):eqP n (.fro ds) y=none:=by cases n <;> cases y <;> rfl
theorem S8 (n:Nat) (c:AF) (y:D):eqP n (.exc c) y=none:=by cases n <;> cases y <;> rfl
theorem Jx {x x':D} {v:V} (r1:BQ K ρ H x v) (r2:BQ K ρ H x' v):x=x'∨(∃ds ds' vs,x=.tup ds/\x'=.tup ds'/\An K ρ H ds vs/\An K ρ H ds' vs)∨(∀n y,eqP n x y=none)∨∀n y,eqP n x' y=none:=by
 cases r1 with
 | non=>cases r2;exact .inl rfl
 | bl b=>cases r2;exact .inl rfl
 | int b=>cases r2;exact .inl rfl
 | str b=>cases r2;exact .inl rfl
 | fro _ _=>exact .inr (.inr (.inl λn y=>S7 n _ y))
 | ref _=>exact .inr (.inr (.inl λn y=>S6 n _ y))
 | exc _ _=>exact .inr (.inr (.inl λn y=>S8 n _ y))
 | tup u1 u2=>
  cases r2 with
  | fro _ _=>exact .inr (.inr (.inr λn y=>S7 n _ y))
  | ref _=>exact .inr (.inr (.inr λn y=>S6 n _ y))
  | exc _ _=>exact .inr (.inr (.inr λn y=>S8 n _ y))
  | tup w1 w2=>
   rw [u1] at w1;cases w1;exact .inr (.inl ⟨_,_,_,rfl,rfl,u2,w2⟩)
theorem Y7:∀(n:Nat) {x x' y:D} {v:V} {b b':Bool},BQ K ρ H x v->BQ K ρ H x' v->eqP n x y=some b->eqP n x' y=some b'->b=b':=by
 intro n
 induction n with
 | zero=>
  intro x x' y v b b' r1 r2 h h'
  rcases Jx r1 r2 with rfl | ⟨ds,ds',vs,rfl,rfl,_,_⟩ | q | q
  ·rw [h] at h';cases h';rfl
  ·have:eqP 0 (.tup ds) y=eqP 0 (.tup ds') y:=by cases y <;> rfl
   rw [<-this,h] at h';cases h';rfl
  ·rw [q] at h;cases h
  ·rw [q] at h';cases h'
 | succ n ih=>
  intro x x' y v b b' r1 r2 h h'
  have lists:∀ {xs:List D} {vs:List V} {xs' ys:List D} {b b':Bool},An K ρ H xs vs->An K ρ H xs' vs->eqL (eqP n) xs ys=some b->eqL (eqP n) xs' ys=some b'->b=b':=by
   intro xs
   induction xs with
   | nil=>
    intro vs xs' ys b b' q1 q2 g g';cases q1;cases q2;rw [g] at g';cases g';rfl
   | cons d ds ihl=>
    intro vs xs' ys b b' q1 q2 g g'
    cases q1 with
    | cons a1 a2=>
     cases q2 with
     | cons c1 c2=>
      cases ys with
      | nil=>cases g;cases g';rfl
      | cons y ys=>
       obtain ⟨p,q,g1,g2,rfl⟩:=IZ g;obtain ⟨p',q',g1',g2',rfl⟩:=IZ g';rw [ih a1 c1 g1 g1',ihl a2 c2 g2 g2']
  rcases Jx r1 r2 with rfl | ⟨ds,ds',vs,rfl,rfl,q1,q2⟩ | q | q
  ·rw [h] at h';cases h';rfl
  ·by_cases c:∃ys,y=.tup ys
   ·obtain ⟨ys,rfl⟩:=c
    exact lists q1 q2 h h'
   ·have:eqP (n+1) (.tup ds) y=eqP (n+1) (.tup ds') y:=by
     cases y <;> first | rfl | exact (c ⟨_,rfl⟩).elim
    rw [<-this,h] at h';cases h';rfl
  ·rw [q] at h;cases h
  ·rw [q] at h';cases h'
theorem DB {x:D} {b:Bool} (h:Ia x x=some b):b=true:=by
 cases x <;> first | (cases h;done) | (cases h;simp)
theorem M2:∀(n:Nat) {x:D} {b:Bool},eqP n x x=some b->b=true
 | 0,_,_,h=>DB h
 | n+1,x,b,h=>by
  have lists:∀ {xs:List D} {b:Bool},eqL (eqP n) xs xs=some b->b=true:=by
   intro xs
   induction xs with
   | nil=>intro b g;cases g;rfl
   | cons d ds ih=>
    intro b g;obtain ⟨p,q,g1,g2,rfl⟩:=IZ g;rw [M2 n g1,ih g2];rfl
  cases x with
  | tup xs=>exact lists h
  | non=>exact DB (x:=.non) h
  | bl c=>exact DB (x:=.bl c) h
  | int c=>exact DB (x:=.int c) h
  | str c=>exact DB (x:=.str c) h
  | ref c=>exact DB (x:=.ref c) h
  | fro c=>exact DB (x:=.fro c) h
  | exc c=>exact DB (x:=.exc c) h
theorem Iu {x y:D} (hy:(∃f,y=.fro f)∨(∃r,y=.ref r)∨∃c,y=.exc c) (n:Nat):eqP n x y=none:=by
 rcases hy with ⟨f,rfl⟩ | ⟨r,rfl⟩ | ⟨c,rfl⟩ <;> (cases n <;> cases x <;> rfl)
theorem Wp (n:Nat) {x y:D} {v:V} {b:Bool} (h1:BQ K ρ H x v) (h2:BQ K ρ H y v) (h:eqP n x y=some b):b=true:=by
 induction n generalizing x y v b with
 | zero=>
  rcases Jx h1 h2 with rfl | ⟨ds,ds',vs,rfl,rfl,_,_⟩ | q | q
  ·exact M2 0 h
  ·cases h
  ·rw [q] at h;cases h
  ·cases h2 with
   | fro _ _=>rw [Iu (.inl ⟨_,rfl⟩)] at h;cases h
   | ref _=>rw [Iu (.inr (.inl ⟨_,rfl⟩))] at h;cases h
   | exc _ _=>rw [Iu (.inr (.inr ⟨_,rfl⟩))] at h;cases h
   | non=>cases (q 0 .non)
   | bl b=>cases (q 0 (.bl b))
   | int b=>cases (q 0 (.int b))
   | str b=>cases (q 0 (.str b))
   | tup _ _=>cases (q 0 .non)
 | succ n ih=>
  have lists:∀ {xs ys:List D} {vs:List V} {b:Bool},An K ρ H xs vs->An K ρ H ys vs->eqL (eqP n) xs ys=some b->b=true:=by
   intro xs
   induction xs with
   | nil=>intro ys vs b q1 q2 g;cases q1;cases q2;cases g;rfl
   | cons d ds ihl=>
    intro ys vs b q1 q2 g
    cases q1 with
    | cons a1 a2=>
     cases q2 with
     | cons c1 c2=>
      obtain ⟨p,q,g1,g2,rfl⟩:=IZ g;rw [ih a1 c1 g1,ihl a2 c2 g2];rfl
  rcases Jx h1 h2 with rfl | ⟨ds,ds',vs,rfl,rfl,q1,q2⟩ | q | q
  ·exact M2 (n+1) h
  ·exact lists q1 q2 h
  ·rw [q] at h;cases h
  ·cases h2 with
   | fro _ _=>rw [Iu (.inl ⟨_,rfl⟩)] at h;cases h
   | ref _=>rw [Iu (.inr (.inl ⟨_,rfl⟩))] at h;cases h
   | exc _ _=>rw [Iu (.inr (.inr ⟨_,rfl⟩))] at h;cases h
   | non=>cases (q 0 .non)
   | bl b=>cases (q 0 (.bl b))
   | int b=>cases (q 0 (.int b))
   | str b=>cases (q 0 (.str b))
   | tup _ _=>cases (q 0 .non)
end
section
variable {X:Cx} {pins:List (AF×Obj)} {σ:St} {H:Hp} {s:AE} {ρ:List AF}
theorem Eu (A:A2):A.in1.units=A.units+1:=rfl
theorem BZ.at_ {vs:List V} {its:List AC} (r:BZ vs its) {j:Nat} (h:j < its.toArray.size):∃v,vs[j]?=some v/\RelV v its.toArray[j]:=by
 have hj:j < its.length:=by simpa using h
 have hv:j < vs.length:=by rw [r.length];exact hj
 obtain ⟨u,h1,h2⟩:=r.get (i:=j) (x:=vs[j]) (by simp [hv]);refine ⟨vs[j],by simp [hv],?_⟩
 have:its.toArray[j]=u:=by
  have:=AD.mp h1;obtain ⟨_,e⟩:=this;simpa using e
 rw [this];exact h2
theorem Ol {n:Nat} {A:A2} (ih:∀(x y:D) (b:Bool) (xv yv:V) (u v:AC),eqP n x y=some b->BQ X.K ρ H x xv->BQ X.K ρ H y yv->RelV xv u->RelV yv v->EqAt A s u v b)
  {xs ys:List D} {vs ws:List V} {us zs:List AC} {b:Bool} (h:eqL (eqP n) xs ys=some b) (r1:An X.K ρ H xs vs) (r2:An X.K ρ H ys ws) (q1:BZ vs us) (q2:BZ ws zs) :
  ∃e:Nat->Bool,(∀j (h1:j < us.toArray.size) (h2:j < zs.toArray.size),EqAt A s us.toArray[j] zs.toArray[j] (e j))/\b=((CT (min us.toArray.size zs.toArray.size)).all e&&us.toArray.size==zs.toArray.size):=by
 obtain ⟨i1,i2⟩:=S9 h;refine ⟨λj=>match xs[j]?,ys[j]? with | some x,some y=>(eqP n x y).getD false | _,_=>false,λj h1 h2=>?_,?_⟩
 ·obtain ⟨v,e1,rv⟩:=BZ.at_ q1 h1
  obtain ⟨w,e2,rw'⟩:=BZ.at_ q2 h2;obtain ⟨x,e3,rx⟩:=r1.get' e1;obtain ⟨y,e4,ry⟩:=r2.get' e2;obtain ⟨c,hc⟩:=i1 j x y e3 e4;have:=ih x y c v w _ _ hc rx ry rv rw';simp only [e3,e4,hc,Uk];exact this
 ·rw [i2,r1.length,r2.length,q1.length,q2.length]
  simp
theorem Kv {A:A2} {x y:D} {b:Bool} {xv yv:V} {u v:AC} (I:Inv X pins σ H s) (hu:A.units < D0) (h:Ia x y=some b) (r1:BQ X.K ρ H x xv) (r2:BQ X.K ρ H y yv) (q1:RelV xv u) (q2:RelV yv v) :
  EqAt A s u v b/\RcAt A s u v b/\RcNeAt A s u v (!b):=by
 cases r1 with
 | non=>
  cases q1
  cases r2 with
  | non=>cases q2;cases h;exact ⟨EqAt.same _,RcAt.none_none,RcNeAt.none_none⟩
  | bl c=>cases q2;cases h;exact ⟨EqAt.none_bool _,RcAt.none_bool _,RcNeAt.none_bool _⟩
  | int i=>obtain ⟨t,rfl⟩:=q2;cases h;exact ⟨EqAt.none_int _ _,RcAt.none_int _ _,RcNeAt.none_int _ _⟩
  | str z=>obtain ⟨t,rfl⟩:=q2;cases h;exact ⟨EqAt.none_str _ _,RcAt.none_str _ _,RcNeAt.none_str _ _⟩
  | tup a1 a2=>
   cases q2;cases h;obtain ⟨its,_,p,_⟩:=I.tuple (.inl (.inl a1));exact ⟨EqAt.none_tuple p hu,RcAt.none_tuple p hu,RcNeAt.none_tuple p hu⟩
  | _=>cases h
 | bl a=>
  cases q1
  cases r2 with
  | non=>cases q2;cases h;exact ⟨EqAt.bool_none _,RcAt.bool_none _,RcNeAt.bool_none _⟩
  | bl c=>cases q2;cases h;exact ⟨EqAt.bool_bool _ _,RcAt.bool_bool _ _,RcNeAt.bool_bool _ _⟩
  | _=>cases h
 | int a=>
  obtain ⟨t,rfl⟩:=q1
  cases r2 with
  | non=>cases q2;cases h;exact ⟨EqAt.int_none _ _,RcAt.int_none _ _,RcNeAt.int_none _ _⟩
  | int i=>obtain ⟨t',rfl⟩:=q2;cases h;exact ⟨EqAt.int_int _ _ _ _,RcAt.int_int _ _ _ _,RcNeAt.int_int _ _ _ _⟩
  | tup a1 a2=>
   cases q2;cases h;obtain ⟨its,_,p,_⟩:=I.tuple (.inl (.inl a1));exact ⟨EqAt.int_tuple _ _ p hu,RcAt.int_tuple _ _ p hu,RcNeAt.int_tuple _ _ p hu⟩
  | _=>cases h
 | str a=>
  obtain ⟨t,rfl⟩:=q1
  cases r2 with
  | non=>cases q2;cases h;exact ⟨EqAt.str_none _ _,RcAt.str_none _ _,RcNeAt.str_none _ _⟩
  | str i=>obtain ⟨t',rfl⟩:=q2;cases h;exact ⟨EqAt.str_str _ _ _ _,RcAt.str_str _ _ _ _,RcNeAt.str_str _ _ _ _⟩
  | _=>cases h
 | tup a1 a2=>
  cases q1;obtain ⟨its,_,p,_⟩:=I.tuple (.inl (.inl a1))
  cases r2 with
  | non=>cases q2;cases h;exact ⟨EqAt.tuple_none p hu,RcAt.tuple_none p hu,RcNeAt.tuple_none p hu⟩
  | int i=>obtain ⟨t',rfl⟩:=q2;cases h;exact ⟨EqAt.tuple_int _ _ p hu,RcAt.tuple_int _ _ p hu,RcNeAt.tuple_int _ _ p hu⟩
  | _=>cases h
 | _=>cases h
theorem R7 (I:Inv X pins σ H s):∀(n:Nat) (A:A2) (x y:D) (b:Bool) (xv yv:V) (u v:AC),A.units+n < D0->eqP n x y=some b->BQ X.K ρ H x xv->BQ X.K ρ H y yv->RelV xv u->RelV yv v->EqAt A s u v b:=by
 intro n
 induction n with
 | zero=>exact λA x y b xv yv u v hu h r1 r2 q1 q2=>(Kv I (by omega) h r1 r2 q1 q2).1
 | succ n ih=>
  intro A x y b xv yv u v hu h r1 r2 q1 q2
  by_cases ht:∃xs ys,x=.tup xs/\y=.tup ys
  ·obtain ⟨xs,ys,rfl,rfl⟩:=ht
   cases r1 with
   | @tup _ a vs a1 a2=>
    cases r2 with
    | @tup _ c ws b1 b2=>
     cases q1;cases q2
     by_cases hac:a=c
     ·subst hac
      rw [Wp (n+1) (.tup a1 a2) (.tup b1 b2) h];exact EqAt.same _
     ·obtain ⟨its,rv,p,_⟩:=I.tuple (.inl (.inl a1))
      obtain ⟨its2,rw',p2,_⟩:=I.tuple (.inl (.inl b1));obtain ⟨e,he,rfl⟩:=Ol (A:=A.in1) (λx y b xv yv u v g1 g2 g3 g4 g5=>ih A.in1 x y b xv yv u v (by rw [Eu];lia) g1 g2 g3 g4 g5) h a2 b2 rv rw';exact EqAt.of_refs hac (cp p p2 (by lia) he)
  ·have hf:Ia x y=some b:=by
    cases x <;> cases y <;> first | exact h | exact (ht ⟨_,_,rfl,rfl⟩).elim
   exact (Kv I (by lia) hf r1 r2 q1 q2).1
def Rv (d:D) (S:Sto):Option (List D):=match d with
 | .fro ds=>some ds
 | .ref n=>match S[n]? with
  | some (.lst ds)=>some ds
  | _=>none
 | _=>none
def eqB (x y:D) (S:Sto):Option Bool:=match Rv x S,Rv y S with
 | some xs,some ys=>if xs.length=ys.length then eqL (eqP 8) xs ys else some false
 | none,none=>eqP 8 x y
 | some _,none=>match y with
  | .tup _=>some false
  | .non=>some false
  | _=>none
 | none,some _=>match x with
  | .tup _=>some false
  | .non=>some false
  | _=>none
def eqD (neg:Bool) (x y:D) (S:Sto):Res D:=match eqB x y S with
 | some b=>.ok (.bl (if neg then !b else b)) S
 | none=>.bad
theorem KA {K:AA} {S:Sto} {d:D} {x:V} {ds:List D} (hs:Bc K ρ S H) (r:BQ K ρ H d x) (h:Rv d S=some ds):∃p xs,x=.ref p/\An K ρ H ds xs/\SqL K H p xs:=by
 cases r with
 | fro h1 h2=>cases h;exact ⟨_,_,rfl,h2,h1.sq⟩
 | @ref n a hn=>
  obtain ⟨o,ho,ro⟩:=hs.there hn;unfold Rv at h;simp only [ho] at h
  cases o with
  | lst es=>cases h;obtain ⟨vs,e,rr⟩:=ro;exact ⟨_,_,rfl,rr,.inl (.inl e)⟩
  | _=>cases h
 | _=>cases h
theorem Ws {S:Sto} {x y:D} {b:Bool} {xv yv:V} {u v:AC} (I:Inv X pins σ H s) (hu:X.A.units+64 < D0) (hs:Bc X.K ρ S H) (r1:BQ X.K ρ H x xv) (r2:BQ X.K ρ H y yv) (q1:RelV xv u) (q2:RelV yv v) (h:eqB x y S=some b) :
  RcAt X.A s u v b/\RcNeAt X.A s u v (!b):=by
 unfold eqB at h;split at h
 ·rename_i xs ys h1 h2
  obtain ⟨p,vs,rfl,rr,sq⟩:=KA hs r1 h1;obtain ⟨p',vs',rfl,rr',sq'⟩:=KA hs r2 h2;cases q1;cases q2;obtain ⟨its,rv,pl,_⟩:=I.list sq;obtain ⟨its2,rv2,pl2,_⟩:=I.list sq';split at h
  ·rename_i hlen
   obtain ⟨e,he,rfl⟩:=Ol (A:=X.A.in1) (λx y b xv yv u v g1 g2 g3 g4 g5=>R7 I 8 X.A.in1 x y b xv yv u v (by rw [Eu];lia) g1 g2 g3 g4 g5) h rr rr' rv rv2
   have hsz:its.toArray.size=its2.toArray.size:=by
    simp only [Aa];rw [<-rv.length,<-rv2.length,<-rr.length,<-rr'.length];exact hlen
   have e1:((CT (min its.toArray.size its2.toArray.size)).all e&&its.toArray.size==its2.toArray.size)=(CT its.toArray.size).all e:=by
    rw [<-hsz,Nat.min_self,beq_self_eq_true,Bool.and_true]
   rw [e1];exact ⟨RcAt.lists pl.isList pl2.isList hsz (by lia) he,RcNeAt.lists pl.isList pl2.isList hsz (by lia) he⟩
  ·rename_i hlen
   cases h
   have hsz:(its.toArray.size != its2.toArray.size)=true:=by
    simp only [Aa];rw [<-rv.length,<-rv2.length,<-rr.length,<-rr'.length];simpa using hlen
   exact ⟨RcAt.lists_lengths pl.isList pl2.isList hsz (by lia),RcNeAt.lists_lengths pl.isList pl2.isList hsz (by lia)⟩
 ·by_cases ht:∃xs ys,x=.tup xs/\y=.tup ys
  ·obtain ⟨xs,ys,rfl,rfl⟩:=ht
   cases r1 with
   | tup a1 a2=>
    cases r2 with
    | tup b1 b2=>
     cases q1;cases q2;obtain ⟨its,rv,p,_⟩:=I.tuple (.inl (.inl a1));obtain ⟨its2,rw',p2,_⟩:=I.tuple (.inl (.inl b1));obtain ⟨e,he,rfl⟩:=Ol (n:=7) (A:=X.A.in1) (λx y b xv yv u v g1 g2 g3 g4 g5=>R7 I 7 X.A.in1 x y b xv yv u v (by rw [Eu];lia) g1 g2 g3 g4 g5) h a2 b2 rv rw';exact ⟨cp p p2 (by lia) he,RcNeAt.tuples p p2 (by lia) he⟩
  ·have hf:Ia x y=some b:=by
    cases x <;> cases y <;> first | exact h | exact (ht ⟨_,_,rfl,rfl⟩).elim
   exact (Kv I (by lia) hf r1 r2 q1 q2).2
 ·rename_i xs h1 h2
  obtain ⟨p,vs,rfl,rr,sq⟩:=KA hs r1 h1;cases q1;obtain ⟨its,rv,pl,_⟩:=I.list sq;split at h
  ·cases h
   cases r2 with
   | tup b1 b2=>
    cases q2;obtain ⟨its2,rw',p2,_⟩:=I.tuple (.inl (.inl b1));exact ⟨RcAt.list_tuple pl.isList p2 (by lia),RcNeAt.list_tuple pl.isList p2 (by lia)⟩
  ·cases h
   cases r2;cases q2;exact ⟨RcAt.list_none pl.isList (by lia),RcNeAt.list_none pl.isList (by lia)⟩
  ·cases h
 ·rename_i xs h1 h2
  obtain ⟨p,vs,rfl,rr,sq⟩:=KA hs r2 h2;cases q2;obtain ⟨its,rv,pl,_⟩:=I.list sq;split at h
  ·cases h
   cases r1 with
   | tup b1 b2=>
    cases q1;obtain ⟨its2,rw',p2,_⟩:=I.tuple (.inl (.inl b1));exact ⟨RcAt.tuple_list p2 pl.isList (by lia),RcNeAt.tuple_list p2 pl.isList (by lia)⟩
  ·cases h
   cases r1;cases q1;exact ⟨RcAt.none_list pl.isList (by lia),RcNeAt.none_list pl.isList (by lia)⟩
  ·cases h
theorem N6 (hu:X.A.units+64 < D0):OpR X (Bg .Eq) (rD X.K (eqD false)):=by
 intro pins s σ H x y v u Q I rx ry h;obtain ⟨ρ,S,a,b,d,S',hs,ra,rb,hm,k⟩:=h;unfold eqD at hm;split at hm
 ·rename_i c hc
  cases hm;exact (Ws I hu hs ra rb rx ry hc).1 _ _ _ _ ⟨.bl c,H,I,rfl,k ρ H _ .refl hs (.bl _)⟩
 ·cases hm
theorem ZU (hu:X.A.units+64 < D0):OpR X (Bg .NotEq) (rD X.K (eqD true)):=by
 intro pins s σ H x y v u Q I rx ry h;obtain ⟨ρ,S,a,b,d,S',hs,ra,rb,hm,k⟩:=h;unfold eqD at hm;split at hm
 ·rename_i c hc
  cases hm;exact (Ws I hu hs ra rb rx ry hc).2 _ _ _ _ ⟨.bl (!c),H,I,rfl,k ρ H _ .refl hs (.bl _)⟩
 ·cases hm
def JO (x:D):List D->Option Bool
 | []=>some false
 | d :: ds=>match eqP 8 d x,JO x ds with
  | some a,some b=>some (a||b)
  | _,_=>none
def inD (neg:Bool) (x y:D) (S:Sto):Res D:=match Fp y S with
 | some ds=>match JO x ds with
  | some b=>.ok (.bl (if neg then !b else b)) S
  | none=>.bad
 | none=>.bad
theorem SB {x d:D} {ds:List D} {b:Bool} (h:JO x (d :: ds)=some b):∃a c,eqP 8 d x=some a/\JO x ds=some c/\b=(a||c):=by
 unfold JO at h;split at h
 ·rename_i a c h1 h2
  cases h;exact ⟨a,c,h1,h2,rfl⟩
 ·cases h
open Classical in
theorem KJ {x:D} {xv:V} {v:AC} (I:Inv X pins σ H s) {A:A2} (hu:A.units+8 < D0) (rx:BQ X.K ρ H x xv) (qx:RelV xv v):∀ {ds:List D} {vs:List V} {us:List AC} {b:Bool},An X.K ρ H ds vs->BZ vs us->JO x ds=some b ->
  ∃e:AC->Bool,(∀y∈us,EqAt A s y v (e y))/\b=us.any e:=by
 intro ds vs us b r q h
 let e:AC->Bool:=λy=>decide (∃d w,d∈ds/\BQ X.K ρ H d w/\RelV w y/\eqP 8 d x=some true)
 have all:∀ {ds':List D} {vs':List V} {us':List AC} {b':Bool},(∀d∈ds',d∈ds)->An X.K ρ H ds' vs'->BZ vs' us'->JO x ds'=some b'->(∀y∈us',EqAt A s y v (e y))/\b'=us'.any e:=by
  intro ds'
  induction ds' with
  | nil=>intro vs' us' b' _ r q h;cases r;cases q;cases h;exact ⟨(λ_ z=>nomatch z),rfl⟩
  | cons d ds' ih=>
   intro vs' us' b' hsub r q h
   cases r with
   | cons r1 r2=>
    cases q with
    | @cons w y _ _ q1 q2=>
     obtain ⟨a,c,h1,h2,rfl⟩:=SB h;obtain ⟨i1,i2⟩:=ih (λz hz=>hsub z (AZ _ hz)) r2 q2 h2
     have ha:e y=a:=by
      by_cases hq:∃d w,d∈ds/\BQ X.K ρ H d w/\RelV w y/\eqP 8 d x=some true
      ·obtain ⟨d',w',_,g1,g2,g3⟩:=id hq
       rw [RelV.inj g2 q1] at g1;have:=Y7 8 g1 r1 g3 h1;rw [<-this];exact decide_eq_true hq
      ·have:a=false:=by
        cases a with
        | false=>rfl
        | true=>exact (hq ⟨d,_,hsub d A0,r1,q1,h1⟩).elim
       rw [this];exact decide_eq_false hq
     refine ⟨λz hz=>?_,by rw [FB,ha,<-i2]⟩
     rcases Ap.mp hz with rfl | hz
     ·rw [ha]
      exact R7 I 8 A d x a _ _ _ _ hu h1 r1 rx q1 qx
     ·exact i1 z hz
 obtain ⟨e1,e2⟩:=all (λ_ h=>h) r q h;exact ⟨e,e1,e2⟩
theorem dw (hu:X.A.units+64 < D0):OpR X (Bg .In) (rD X.K (inD false)):=by
 intro pins s σ H x y v u Q I rx ry h;obtain ⟨ρ,S,a,b,d,S',hs,ra,rb,hm,k⟩:=h;unfold inD at hm;split at hm
 ·rename_i ds hq
  split at hm
  ·rename_i c hc
   cases hm;obtain ⟨p,xs,rfl,rr,sq⟩:=Lk hs rb hq;cases ry
   rcases sq with sq | sq
   ·obtain ⟨its,rv,pl,_⟩:=I.list sq
    obtain ⟨e,he,rfl⟩:=KJ I (A:=X.A.in1) (by rw [Eu];lia) ra rx rr rv hc;exact in_listAt e pl.isList (λz hz=>he z (by simpa using hz)) ⟨.bl (its.toArray.any e),H,I,rfl,by rw [Hm];exact k ρ H _ .refl hs (.bl _)⟩
   ·obtain ⟨its,rv,pl,_⟩:=I.tuple sq
    obtain ⟨e,he,rfl⟩:=KJ I (A:=X.A.in1) (by rw [Eu];lia) ra rx rr rv hc;exact in_tupleAt e pl (λz hz=>he z (by simpa using hz)) ⟨.bl (its.toArray.any e),H,I,rfl,by rw [Hm];exact k ρ H _ .refl hs (.bl _)⟩
  ·cases hm
 ·cases hm
theorem V1 (hu:X.A.units+64 < D0):OpR X (Bg .NotIn) (rD X.K (inD true)):=by
 intro pins s σ H x y v u Q I rx ry h;obtain ⟨ρ,S,a,b,d,S',hs,ra,rb,hm,k⟩:=h;unfold inD at hm;split at hm
 ·rename_i ds hq
  split at hm
  ·rename_i c hc
   cases hm;obtain ⟨p,xs,rfl,rr,sq⟩:=Lk hs rb hq;cases ry
   rcases sq with sq | sq
   ·obtain ⟨its,rv,pl,_⟩:=I.list sq
    obtain ⟨e,he,rfl⟩:=KJ I (A:=X.A.in1) (by rw [Eu];lia) ra rx rr rv hc;exact notIn_listAt e pl.isList (λz hz=>he z (by simpa using hz)) ⟨.bl (!its.toArray.any e),H,I,rfl,by rw [Hm];exact k ρ H _ .refl hs (.bl _)⟩
   ·obtain ⟨its,rv,pl,_⟩:=I.tuple sq
    obtain ⟨e,he,rfl⟩:=KJ I (A:=X.A.in1) (by rw [Eu];lia) ra rx rr rv hc;exact notIn_tupleAt e pl (λz hz=>he z (by simpa using hz)) ⟨.bl (!its.toArray.any e),H,I,rfl,by rw [Hm];exact k ρ H _ .refl hs (.bl _)⟩
  ·cases hm
 ·cases hm
end
end L2
namespace L2
open PySem PySem.Spec PyProof.Rows
def JA (mo ma:ME):ME:=λe S=>(mo e S).bind λd S1=>match d with
 | .ref n=>match S1[n]? with
  | some (.lst _)=>(ma e S1).bind λy S2=>match S2[n]? with
   | some (.lst xs)=>if xs.length < sizeLine then .ok .non (S2.set n (.lst (xs++[y]))) else .bad
   | _=>.bad
  | _=>.bad
 | _=>.bad
section
variable {X:Cx} {E:EW} {o e:Expr} {apos cpos:Pos} {mo ma:ME}
theorem Sd {K:AA} {ρ:List AF} {S:Sto} {H:Hp} {n:Nat} {x:V} {xs:List D} (s:Bc K ρ S H) (r:BQ K ρ H (.ref n) x) (h:S[n]?=some (.lst xs)):∃a vs,x=.ref a/\ρ[n]?=some a/\H a=some (.lst vs)/\An K ρ H xs vs:=by
 cases r with
 | ref hn=>
  obtain ⟨vs,e,rr⟩:=s.ob n _ _ h hn;exact ⟨_,vs,rfl,hn,e,rr⟩
theorem Fg (ho:GE X E o mo) (ha:GE X E e ma) (hbase:Dw o "append" X.env (Bh o X.env)=Bh o X.env:=by rfl)
  (hfew:((Cb cpos (AO [e] X.env)).all (λx=>!x.1)&&(Q6 cpos (KQ [] X.env)).all (λx=>x.1.isSome)
    &&decide ([e].length+([]:List G4).length+(if ([]:List G4).isEmpty then 0 else 1) < 30))=true:=by rfl)
  (hline:(apos.endLine==cpos.line)=true:=by rfl) (hs:AO [e] X.env=(false,Bh e X.env) :: AO [] X.env:=by rfl) (hplain:(Cb cpos (AO [] X.env)).any (·.1)=false:=by rfl) :
  GE X E (.Call (.Attribute o "append" apos) [e] [] cpos) (JA mo ma):=(Vw G1 PySem.F.slot_list_append PySem.F.type_list_append N8 ho (DF ha FF hs) hbase hfew hline hs hplain).imp λσ H Q ⟨ρ,l,S,hl,hs,hm⟩=>by
 refine ⟨ρ,l,S,hl,hs,hm.seq λx S1 hm ρ1 H1 v l1 s1 r1=>?_⟩
 cases x <;> first | exact hm.elim | skip
 rename_i n;dsimp only at hm;split at hm
 ·rename_i xs0 h0
  obtain ⟨a,vs,rfl,hn,e0,_⟩:=Sd s1 r1 h0;refine ⟨.inl ⟨rfl,vs,.inl (.inl e0)⟩,ρ1,l,S1,hl.mono l1,s1,(hm.later l1).seq λy S2 hm ρ2 H2 u l2 s2 r2=>?_⟩;split at hm
  ·rename_i xs h3
   split at hm
   ·rename_i hz
    have hn2:=l2.pre n a hn;obtain ⟨ws,e3,rr⟩:=s2.ob n _ _ h3 hn2;have le:Le X.K ρ2 H2 ρ2 (upd H2 a (.lst (ws++[u]))):=Le.write hn2 (by rw [e3];trivial);obtain ⟨s3,l3⟩:=s2.write (ho:=.lst (ws++[u])) (o:=.lst (xs++[y])) hn2 ⟨_,BM,(rr.append (.cons r2 .nil)).mono le⟩;exact ⟨a,ws,u,rfl,rfl,e3,by rw [<-rr.length];exact hz,hm ρ2 _ _ (l1.trans (l2.trans l3)) s3 .non⟩
   ·exact hm.elim
  ·exact hm.elim
 ·exact hm.elim
end
def FT {κ β:Type} [DecidableEq κ] (kvs:List (κ×β)) (k:κ):Option β:=(kvs.find? λkv=>decide (kv.1=k)).map (·.2)
def Gr {κ β:Type} [DecidableEq κ] (kvs:List (κ×β)) (k:κ) (v:β):List (κ×β):=
 if (kvs.any λkv=>decide (kv.1=k))=true then kvs.map (λkv=>if kv.1=k then (kv.1,v) else kv) else kvs++[(k,v)]
section
variable {κ:Type} [DecidableEq κ] {K:AA} {ρ:List AF} {H:Hp}
theorem KVR.val (k:κ):∀ {x:List (κ×D)} {y:List (κ×V)},KVR K ρ H x y->(FT x k=none->IG y k=none)/\∀d,FT x k=some d->∃v,IG y k=some v/\BQ K ρ H d v
 | _,_,.nil=>⟨λ_=>rfl,λd h=>by cases h⟩
 | (g,a) :: x,(g',b) :: y,.cons r t=>by
  obtain ⟨r1,r2⟩:=r;dsimp only at r1 r2;subst r1;unfold FT IG;rw [Ba,Ba]
  by_cases e:g=k
  ·simp only [e,decide_true]
   exact ⟨(λh=>nomatch h),(λd h=>by cases h;exact ⟨b,rfl,r2⟩)⟩
  ·simp only [e,decide_false]
   exact KVR.val k t
theorem KVR.any (k:κ):∀ {x:List (κ×D)} {y:List (κ×V)},KVR K ρ H x y->(x.any λkv=>decide (kv.1=k))=y.any λkv=>decide (kv.1=k)
 | _,_,.nil=>rfl
 | (g,a) :: x,(g',b) :: y,.cons r t=>by
  rw [FB,FB,KVR.any k t,show g=g' from r.1]
theorem KVR.repl (k:κ) {d:D} {v:V} (rd:BQ K ρ H d v):∀ {x:List (κ×D)} {y:List (κ×V)},KVR K ρ H x y->KVR K ρ H (x.map λkv=>if kv.1=k then (kv.1,d) else kv) (y.map λkv=>if kv.1=k then (kv.1,v) else kv)
 | _,_,.nil=>.nil
 | (g,a) :: x,(g',b) :: y,.cons r t=>by
  obtain ⟨r1,r2⟩:=r;dsimp only at r1 r2;subst r1;rw [A9,A9];refine .cons ?_ (KVR.repl k rd t)
  by_cases e:g=k
  ·rw [if_pos e,if_pos e];exact ⟨rfl,rd⟩
  ·rw [if_neg e,if_neg e];exact ⟨rfl,r2⟩
theorem KVR.put (k:κ) {d:D} {v:V} (rd:BQ K ρ H d v) {x:List (κ×D)} {y:List (κ×V)} (h:KVR K ρ H x y):KVR K ρ H (Gr x k d) (FE y k v):=by
 unfold Gr FE;rw [KVR.any k h];split
 ·exact KVR.repl k rd h
 ·exact Qw h ⟨rfl,rd⟩
end
def WP:D->Option Key
 | .int i=>some (.inl i)
 | .str x=>some (.inr x)
 | _=>none
def QV:List D->Option (List Key)
 | []=>some []
 | d :: ds=>match WP d,QV ds with
  | some k,some ks=>some (k :: ks)
  | _,_=>none
theorem Ln {K:AA} {ρ:List AF} {H:Hp} {d:D} {v:V} {k:Key} (r:BQ K ρ H d v) (h:WP d=some k):v=kV k:=by
 cases r <;> first | (cases h;done) | (cases h;rfl)
theorem Mo {K:AA} {ρ:List AF} {H:Hp}:∀ {ds:List D} {vs:List V} {ks:List Key},An K ρ H ds vs->QV ds=some ks->vs=ks.map kV
 | _,_,_,.nil,h=>by cases h;rfl
 | _,_,_,.cons r t,h=>by
  unfold QV at h;split at h
  ·rename_i k ks h1 h2
   cases h;rw [Ln r h1,Mo t h2];rfl
  ·cases h
def Nh (x y:D) (S:Sto):Option (Option D):=match x with
 | .ref n=>match S[n]? with
  | some (.dK kvs)=>match WP y with
   | some k=>some (FT kvs k)
   | none=>none
  | some (.dT kvs)=>match y with
   | .tup ds=>match QV ds with
    | some ks=>some (FT kvs ks)
    | none=>none
   | _=>none
  | _=>none
 | _=>none
theorem PF {K:AA} {ρ:List AF} {S:Sto} {H:Hp} {x y:D} {xv yv:V} {o:Option D} (s:Bc K ρ S H) (rx:BQ K ρ H x xv) (ry:BQ K ρ H y yv) (h:Nh x y S=some o) :
  ∃a o',xv=.ref a/\KM H a yv o'/\(o=none->o'=none)/\∀d,o=some d->∃v,o'=some v/\BQ K ρ H d v:=by
 unfold Nh at h;split at h
 ·rename_i n
  cases rx with
  | @ref _ a hn=>
   split at h
   ·rename_i kvs h1
    split at h
    ·rename_i k hk
     cases h;obtain ⟨kvs',e,r⟩:=s.ob n _ _ h1 hn;rw [Ln ry hk];obtain ⟨v1,v2⟩:=KVR.val k r;exact ⟨a,IG kvs' k,rfl,KM.k e,v1,v2⟩
    ·cases h
   ·rename_i kvs h1
    split at h
    ·rename_i ds
     split at h
     ·rename_i ks hk
      cases h;obtain ⟨kvs',e,r⟩:=s.ob n _ _ h1 hn
      cases ry with
      | tup b1 b2=>
       obtain ⟨v1,v2⟩:=KVR.val ks r;rw [Mo b2 hk] at b1;exact ⟨a,IG kvs' ks,rfl,KM.t e b1,v1,v2⟩
     ·cases h
    ·cases h
   ·cases h
 ·cases h
def M3 (x y:D) (S:Sto):Res D:=match Nh x y S with
 | some (some d)=>.ok d S
 | _=>.bad
def Je (neg:Bool) (y x:D) (S:Sto):Res D:=match Nh x y S with
 | some o=>.ok (.bl (if neg then !o.isSome else o.isSome)) S
 | none=>.bad
section
variable {X:Cx} {E:EW} {o i value:Expr} {pos pos':Pos} {mo mi mv:ME}
theorem Y5 (hu:X.A.units+1 < D0) (ho:GE X E o mo) (hi:GE X E i mi) (hs:cM i:=by intro _ _;rfl):GE X E (.Subscript o i pos) (m2 M3 mo mi):=(YT hu ho hi hs).imp λσ H Q h=>by
 refine (JV h:tOp (rD X.K M3) (gE X.K E mo) (gE X.K E mi) σ H Q) |> λt=>?_
 obtain ⟨ρ,l,S,hl,hs,k⟩:=t;refine ⟨ρ,l,S,hl,hs,k.imp λx S1 k ρ1 H1 u l1 s1 r1=>?_⟩;obtain ⟨ρ2,l2,S2,hl2,hs2,k2⟩:=k ρ1 H1 u l1 s1 r1;refine ⟨ρ2,l2,S2,hl2,hs2,k2.imp λy S3 k2 ρ3 H3 v l3 s3 r3=>?_⟩;obtain ⟨ρ4,S4,x4,y4,d,S5,s4,r4,r5,hm,k4⟩:=k2 ρ3 H3 v l3 s3 r3;unfold M3 at hm;split at hm
 ·rename_i d' hd
  cases hm;obtain ⟨a,o',rfl,g,_,g2⟩:=PF s4 r4 r5 hd;obtain ⟨w',rfl,rw'⟩:=g2 _ rfl;exact ⟨a,w',rfl,g,k4 ρ4 H3 w' .refl s4 rw'⟩
 ·cases hm
theorem Xs {σ:St} {H:Hp} {Q:VK} (h:gE X.K E (m2 (Je false) mi mo) σ H Q):dO (gE X.K E mi) (gE X.K E mo) σ H Q:=by
 obtain ⟨ρ,l,S,hl,hs,k⟩:=(JV h:tOp (rD X.K (Je false)) (gE X.K E mi) (gE X.K E mo) σ H Q);refine ⟨ρ,l,S,hl,hs,k.imp λx S1 k ρ1 H1 u l1 s1 r1=>?_⟩;obtain ⟨ρ2,l2,S2,hl2,hs2,k2⟩:=k ρ1 H1 u l1 s1 r1;refine ⟨ρ2,l2,S2,hl2,hs2,k2.imp λy S3 k2 ρ3 H3 v l3 s3 r3=>?_⟩;obtain ⟨ρ4,S4,x4,y4,d,S5,s4,r4,r5,hm,k4⟩:=k2 ρ3 H3 v l3 s3 r3;unfold Je at hm;split at hm
 ·rename_i o' hd
  cases hm;obtain ⟨a,o2,rfl,g,g1,g2⟩:=PF s4 r5 r4 hd;refine ⟨a,o2,rfl,g,?_⟩
  have:o2.isSome=o'.isSome:=by
   cases o' with
   | none=>rw [g1 rfl];rfl
   | some d=>obtain ⟨w',rfl,_⟩:=g2 d rfl;rfl
  rw [this];exact k4 ρ4 H3 _ .refl s4 (.bl _)
 ·cases hm
theorem RV {σ:St} {H:Hp} {Q:VK} (h:gE X.K E (m2 (Je true) mi mo) σ H Q):SZ (gE X.K E mi) (gE X.K E mo) σ H Q:=by
 obtain ⟨ρ,l,S,hl,hs,k⟩:=(JV h:tOp (rD X.K (Je true)) (gE X.K E mi) (gE X.K E mo) σ H Q);refine ⟨ρ,l,S,hl,hs,k.imp λx S1 k ρ1 H1 u l1 s1 r1=>?_⟩;obtain ⟨ρ2,l2,S2,hl2,hs2,k2⟩:=k ρ1 H1 u l1 s1 r1;refine ⟨ρ2,l2,S2,hl2,hs2,k2.imp λy S3 k2 ρ3 H3 v l3 s3 r3=>?_⟩;obtain ⟨ρ4,S4,x4,y4,d,S5,s4,r4,r5,hm,k4⟩:=k2 ρ3 H3 v l3 s3 r3;unfold Je at hm;split at hm
 ·rename_i o' hd
  cases hm;obtain ⟨a,o2,rfl,g,g1,g2⟩:=PF s4 r5 r4 hd;refine ⟨a,o2,rfl,g,?_⟩
  have:o2.isSome=o'.isSome:=by
   cases o' with
   | none=>rw [g1 rfl];rfl
   | some d=>obtain ⟨w',rfl,_⟩:=g2 d rfl;rfl
  rw [this];exact k4 ρ4 H3 _ .refl s4 (.bl _)
 ·cases hm
theorem WG {K:AA} {m:ME} {σ:St} {H:Hp} {Q:Bool->Hp->Prop} (h:gT K E (mB m) σ H Q):gE K E m σ H λx H1=>∃c,x=.bl c/\Q c H1:=by
 obtain ⟨ρ,l,S,hl,hs,hm⟩:=h;refine ⟨ρ,l,S,hl,hs,hm.seq λd S1 hm ρ1 H1 x l1 s1 r1=>?_⟩
 cases d <;> first | exact hm.elim | skip
 cases r1;exact ⟨_,rfl,hm ρ1 H1 l1 s1⟩
theorem bb (hu:X.A.units+1 < D0) (hi:GE X E i mi) (ho:GE X E o mo) (h1:CQ .In o=false:=by rfl):GT X E (.Compare i [.In] [o] pos) (mB (m2 (Je false) mi mo)):=(Vi (au hu hi ho) h1).imp λ_ _ _ h=>Xs (WG h)
theorem UK (hu:X.A.units+1 < D0) (hi:GE X E i mi) (ho:GE X E o mo) (h1:CQ .NotIn o=false:=by rfl):GT X E (.Compare i [.NotIn] [o] pos) (mB (m2 (Je true) mi mo)):=(Vi (T1 hu hi ho) h1).imp λ_ _ _ h=>RV (WG h)
def Ru:ME:=λ_ S=>.ok (.ref S.length) (S++[.dK []])
def WF:ME:=λ_ S=>.ok (.ref S.length) (S++[.dT []])
theorem Wi:GE X E (.Dict [] [] pos) Ru:=(Vv (X:=X) (pos:=pos)).imp λσ H Q ⟨ρ,l,S,hl,hs,k⟩ p hp=>by
 obtain ⟨s2,l2,at2⟩:=hs.alloc (ho:=.dK []) (o:=.dK []) hp ⟨[],BM,.nil⟩;exact k _ _ _ l2 s2 (.ref at2)
theorem Wh:GE X E (.Dict [] [] pos) WF:=(Vu (X:=X) (pos:=pos)).imp λσ H Q ⟨ρ,l,S,hl,hs,k⟩ p hp=>by
 obtain ⟨s2,l2,at2⟩:=hs.alloc (ho:=.dT []) (o:=.dT []) hp ⟨[],BM,.nil⟩;exact k _ _ _ l2 s2 (.ref at2)
def UV (x y v:D) (S:Sto):Option Sto:=match x with
 | .ref n=>match S[n]? with
  | some (.dK kvs)=>match WP y with
   | some k=>if kvs.length < sizeLine then some (S.set n (.dK (Gr kvs k v))) else none
   | none=>none
  | some (.dT kvs)=>match y with
   | .tup ds=>match QV ds with
    | some ks=>if kvs.length < sizeLine then some (S.set n (.dT (Gr kvs ks v))) else none
    | none=>none
   | _=>none
  | _=>none
 | _=>none
def Gq (mo mi mv:ME):MS:=λe S=>(mv e S).lift e λv S1=>(mo e S1).lift e λx S2=>(mi e S2).lift e λy S3=>match UV x y v S3 with
 | some S4=>.ok (.nx e) S4
 | none=>.bad
theorem Ss (hu:X.A.units+1 < D0) (ho:GE X E o mo) (hi:GE X E i mi) (hv:GE X E value mv) (hs:EJ value (some (.Subscript o i pos')) pos.line X.env=pure false:=by rfl):GS X E (.Assign [.Subscript o i pos'] value pos) (Gq mo mi mv):=(YH hu ho hi hv hs).imp λD σ H ⟨ρ,l,S,hl,hs,hm⟩=>by
 refine ⟨ρ,l,S,hl,hs,hm.lift hl .refl λv S1 hm ρ1 H1 vv l1 s1 r1=>⟨ρ1,l,S1,hl.mono l1,s1,(hm.later l1).lift (hl.mono l1) l1 λx S2 hm ρ2 H2 xv l2 s2 r2=>⟨ρ2,l,S2,hl.mono (l1.trans l2),s2,(hm.later l2).lift (hl.mono (l1.trans l2)) (l1.trans l2) λy S3 hm ρ3 H3 yv l3 s3 r3=>?_⟩⟩⟩;have r1':=r1.mono (l2.trans l3);have r2':=r2.mono l3;have hl3:=hl.mono (l1.trans (l2.trans l3));split at hm
 ·rename_i S4 hp
  unfold UV at hp;split at hp
  ·rename_i n
   cases r2' with
   | @ref _ a hn=>
    split at hp
    ·rename_i kvs h4
     split at hp
     ·rename_i ky hk
      split at hp
      ·rename_i hz
       cases hp;obtain ⟨kvs',e,r⟩:=s3.ob n _ _ h4 hn;rw [Ln r3 hk];have le:Le X.K ρ3 H3 ρ3 (upd H3 a (.dK (FE kvs' ky vv))):=Le.write hn (by rw [e];trivial);obtain ⟨s5,l5⟩:=s3.write (ho:=.dK (FE kvs' ky vv)) (o:=.dK (Gr kvs ky v)) hn ⟨_,BM,(KVR.put ky r1' r).mono le⟩;exact ⟨a,_,rfl,Qq.k e (by rw [<-KVR.length r];exact hz),hm ρ3 _ σ (l1.trans (l2.trans (l3.trans l5))) s5 (hl3.mono l5)⟩
      ·cases hp
     ·cases hp
    ·rename_i kvs h4
     split at hp
     ·rename_i ds
      split at hp
      ·rename_i ks hk
       split at hp
       ·rename_i hz
        cases hp;obtain ⟨kvs',e,r⟩:=s3.ob n _ _ h4 hn
        cases r3 with
        | tup b1 b2=>
         rw [Mo b2 hk] at b1;have le:Le X.K ρ3 H3 ρ3 (upd H3 a (.dT (FE kvs' ks vv))):=Le.write hn (by rw [e];trivial);obtain ⟨s5,l5⟩:=s3.write (ho:=.dT (FE kvs' ks vv)) (o:=.dT (Gr kvs ks v)) hn ⟨_,BM,(KVR.put ks r1' r).mono le⟩;exact ⟨a,_,rfl,Qq.t e b1 (by rw [<-KVR.length r];exact hz),hm ρ3 _ σ (l1.trans (l2.trans (l3.trans l5))) s5 (hl3.mono l5)⟩
       ·cases hp
      ·cases hp
     ·cases hp
    ·cases hp
  ·cases hp
 ·exact hm.elim
end
end L2
namespace L2
open PySem PySem.Spec PyProof.Rows
section
variable {X:Cx} {E:EW} {a b c:Expr} {pos:Pos} {ma mb mc:ME}
theorem Ti {K:AA} {f g:D->D->Sto->Res D} {σ:St} {H:Hp} {Q:VK} (h:gE K E (m3 f g ma mb mc) σ H Q):VJ (rD K f) (rD K g) (gE K E ma) (gE K E mb) (gE K E mc) σ H Q:=by
 obtain ⟨ρ,l,S,hl,hs,hm⟩:=h;refine ⟨ρ,l,S,hl,hs,hm.seq λx S1 hm ρ1 H1 u l1 s1 r1=>⟨ρ1,l,S1,hl.mono l1,s1,(hm.later l1).seq λy S2 hm ρ2 H2 v l2 s2 r2=>?_⟩⟩
 cases hf:f x y S2 with
 | bad=>rw [hf] at hm;exact hm.elim
 | err _ _=>rw [hf] at hm;exact hm.elim
 | ok z S3=>
  rw [hf] at hm;dsimp only [okR,Res.bind] at hm;refine ⟨ρ2,S2,x,y,z,S3,s2,r1.mono l2,r2,hf,λρ3 H3 w l3 s3 r3=>?_⟩
  cases z with
  | bl k=>
   cases r3;refine ⟨k,rfl,?_⟩
   cases k with
   | true=>
    rw [if_pos rfl];refine ⟨ρ3,l,S3,hl.mono (l1.trans (l2.trans l3)),s3,BR.seq (hm.later (l2.trans l3)) λw S4 hm ρ4 H4 wv l4 s4 r4=>?_⟩;obtain ⟨d,S',e,k⟩:=hm.okR;exact ⟨ρ4,S4,y,w,d,S',s4,r2.mono (l3.trans l4),r4,e,λρ' H' z l' s' r'=>k ρ' H' z (l1.trans (l2.trans (l3.trans (l4.trans l')))) s' r'⟩
   | false=>rw [if_neg AS];exact hm ρ3 H3 _ (l1.trans (l2.trans l3)) s3 (.bl false)
  | _=>exact hm.elim
theorem Qb {op op':RH} {f g:D->D->Sto->Res D} (ho:OpR X (Bg op) (rD X.K f)) (ho':OpR X (Bg op') (rD X.K g)) (ha:GE X E a ma) (hb:GE X E b mb) (hc:GE X E c mc)
  (hm:lastMarks [op,op'] [b,c]=false:=by with_unfolding_all rfl):GT X E (.Compare a [op,op'] [b,c] pos) (mB (m3 f g ma mb mc)):=(Vj ho ho' ha hb hc hm).imp λ_ _ _ h=>Ti (WG h)
def mNeg (m:ME):ME:=λe S=>(m e S).bind λd S1=>match d with
 | .int i=>.ok (.int (-i)) S1
 | _=>.bad
end
abbrev MO:=Lo->Sto->Res (Option Int)
def gO (K:AA) (E:EW) (m:MO):TO:=λσ H Q=>∃ρ e S,DT K ρ H e σ/\Bc K ρ S H/\BR K (λc=>E c σ) ρ H (m e S) λo S'=>∀ρ' H',Le K ρ H ρ' H'->Bc K ρ' S' H'->Q o H'
abbrev GO (X:Cx) (E:EW) (e:Option Expr) (m:MO):Prop:=PO X e (gO X.K E m)
def QI (m:ME):MO:=λe S=>(m e S).bind λd S1=>match d with
 | .int i=>.ok (some i) S1
 | _=>.bad
def Ie {α:Type} (xs:List α) (lo hi:Option Int):List α:=(xs.drop (HT.sIx xs.length 0 lo)).take (HT.sIx xs.length xs.length hi - HT.sIx xs.length 0 lo)
def U2 (n:Nat) (lo hi:Option Int):Bool:=decide (HT.sIx n 0 lo=0/\HT.sIx n n hi=n)
def RY (d:D) (lo hi:Option Int) (S:Sto):Res D:=match d with
 | .tup ds=>if U2 ds.length lo hi=true then .bad else .ok (.tup (Ie ds lo hi)) S
 | _=>match Rv d S with
  | some ds=>.ok (.ref S.length) (S++[.lst (Ie ds lo hi)])
  | none=>.bad
def Oz (m:ME) (ml mh:MO):ME:=λe S=>(m e S).bind λd S1=>(ml e S1).bind λlo S2=>(mh e S2).bind λhi S3=>okR (RY d lo hi S3)
section
variable {X:Cx} {E:EW} {e:Expr} {lo hi:Option Expr} {pos p2:Pos} {m:ME} {ml mh:MO}
theorem PO.imp {o:Option Expr} {t t':TO} (h:PO X o t) (i:∀σ H Q,t' σ H Q->t σ H Q):PO X o t':=λpins s σ H Q I q=>h pins s σ H Q I (i σ H Q q)
theorem Su (h:GE X E e m):GO X E (some e) (QI m):=PO.imp (YK h) λσ H Q ⟨ρ,l,S,hl,hs,hm⟩=>by
 refine ⟨ρ,l,S,hl,hs,hm.seq λd S1 hm ρ1 H1 x l1 s1 r1=>?_⟩
 cases d <;> first | exact hm.elim | skip
 cases r1;exact ⟨_,rfl,hm ρ1 H1 l1 s1⟩
theorem Qj {K:AA} {ρ:List AF} {H:Hp} {ds:List D} {vs:List V} (r:An K ρ H ds vs) (lo hi:Option Int):An K ρ H (Ie ds lo hi) (M4 vs lo hi):=by
 unfold Ie M4;rw [r.length];exact (r.drop _).take _
theorem Wf (he:GE X E e m) (hl:GO X E lo ml) (hu:GO X E hi mh):GE X E (.Subscript e (.Slice lo hi none p2) pos) (Oz m ml mh):=(Vt (Xy.or aM) he hl hu).imp λσ H Q ⟨ρ,l,S,hl,hs,hm⟩=>by
 refine ⟨ρ,l,S,hl,hs,hm.seq λd S1 hm ρ1 H1 x l1 s1 r1=>⟨ρ1,l,S1,hl.mono l1,s1,(hm.later l1).seq λlo S2 hm ρ2 H2 l2 s2=>⟨ρ2,l,S2,hl.mono (l1.trans l2),s2,(hm.later l2).seq λhi S3 hm ρ3 H3 l3 s3=>?_⟩⟩⟩;obtain ⟨d',S',e,k⟩:=hm.okR;have r3:=r1.mono (l2.trans l3)
 have lst:∀ds,Rv d S3=some ds->Res.ok (.ref S3.length) (S3++[.lst (Ie ds lo hi)])=Res.ok d' S'->dY X.K x lo hi H3 Q:=λds hq e=>by
  cases e;obtain ⟨p,xs,rfl,rr,sq⟩:=KA s3 r3 hq;refine ⟨p,xs,rfl,sq,λq hq=>?_⟩;have le:Le X.K ρ3 H3 (ρ3++[q]) (upd H3 q (.lst (M4 xs lo hi))):=Le.alloc hq;obtain ⟨s4,l4,at4⟩:=s3.alloc (ho:=.lst (M4 xs lo hi)) (o:=.lst (Ie ds lo hi)) hq ⟨_,BM,(Qj rr lo hi).mono le⟩;exact k _ _ _ (l1.trans (l2.trans (l3.trans l4))) s4 (.ref at4)
 cases d with
 | tup ds=>
  unfold RY at e;dsimp only at e;split at e
  ·cases e
  ·rename_i hw
   cases e
   cases r3 with
   | @tup _ a vs h1 h2=>
    refine .inr ⟨a,vs,rfl,.inl (.inl h1),λz=>hw ?_,λq hq=>?_⟩
    ·unfold U2
     rw [h2.length];exact decide_eq_true z
    ·obtain ⟨s4,l4⟩:=ER (ho:=.tup (M4 vs lo hi)) s3 hq
     exact k _ _ _ (l1.trans (l2.trans (l3.trans l4))) s4 (.tup BM ((Qj h2 lo hi).mono l4))
 | non=>cases e
 | bl _=>cases e
 | int _=>cases e
 | str _=>cases e
 | exc _=>cases e
 | fro ds=>exact .inl (lst ds rfl e)
 | ref n=>
  unfold RY at e;dsimp only at e;split at e
  ·rename_i ds hq
   exact .inl (lst ds hq e)
  ·cases e
end
section
variable {X:Cx} {E:EW} {e:Expr} {p pos:Pos} {m:ME} {ml:ML}
def Fs (m:ME):ME:=λe S=>(m e S).bind λd S1=>match Fp d S1 with
 | some ds=>.ok (.tup ds) S1
 | none=>.bad
theorem KG (hg:Gl X "tuple") (hm:X.mg "tuple" = none) (h:GE X E e m) (he:AO [e] X.env=(false,Bh e X.env) :: AO [] X.env:=by rfl):GE X E (.Call (.Name "tuple" p) [e] [] pos) (Fs m):=
 (Kj Ni hg hm fA (DF h FF he) (by decide) (by decide) he rfl).imp λσ H Q ⟨ρ,l,S,hl,hs,hm⟩=>by
 refine ⟨ρ,l,S,hl,hs,hm.seq λd S1 hm ρ1 H1 x l1 s1 r1=>?_⟩
 cases hq:Fp d S1 with
 | none=>rw [hq] at hm;exact hm.elim
 | some ds=>
  rw [hq] at hm
  have newL:∀a vs,x=.ref a->SqL X.K H1 a vs->An X.K ρ1 H1 ds vs->∃p ys,[x]=[.ref p]/\((SqL X.K H1 p ys/\∀l,H1 l=none->Q (.ref l) (upd H1 l (.tup ys)))∨(SqT X.K H1 p ys/\Q (.ref p) H1)):=λa vs e sq rr=>by
   subst e;refine ⟨a,vs,rfl,.inl ⟨sq,λq hq=>?_⟩⟩;obtain ⟨s2,l2⟩:=ER (ho:=.tup vs) s1 hq;exact hm _ _ _ (l1.trans l2) s2 (.tup BM (rr.mono l2))
  cases r1 with
  | @tup _ a vs h1 h2=>cases hq;exact ⟨a,vs,rfl,.inr ⟨.inl (.inl h1),hm ρ1 H1 _ l1 s1 (.tup h1 h2)⟩⟩
  | @fro _ a vs h1 h2=>cases hq;exact newL a vs rfl h1.sq h2
  | @ref n a hn=>
   obtain ⟨o,ho,ro⟩:=s1.there hn;unfold Fp at hq;simp only [ho] at hq
   cases o with
   | lst es=>cases hq;obtain ⟨vs,e,rr⟩:=ro;exact newL a vs rfl (.inl (.inl e)) rr
   | _=>cases hq
  | _=>cases hq
variable {o:Expr} {apos cpos:Pos} {mo ma:ME}
def atL (d:D) (S:Sto):Option (Nat×List D):=match d with
 | .ref n=>match S[n]? with
  | some (.lst xs)=>some (n,xs)
  | _=>none
 | _=>none
theorem NC {K:AA} {ρ:List AF} {S:Sto} {H:Hp} {d:D} {x:V} {n:Nat} {xs:List D} (s:Bc K ρ S H) (r:BQ K ρ H d x) (h:atL d S=some (n,xs)):d=.ref n/\S[n]?=some (.lst xs)/\∃a vs,x=.ref a/\ρ[n]?=some a/\H a=some (.lst vs)/\An K ρ H xs vs:=by
 unfold atL at h;split at h
 ·split at h
  ·rename_i ds hd
   cases h;exact ⟨rfl,hd,Sd s r hd⟩
  ·cases h
 ·cases h
theorem Sg {K:AA} {ρ:List AF} {S:Sto} {H:Hp} {n:Nat} {a:AF} {vs ws:List V} {ys:List D} (s:Bc K ρ S H) (hn:ρ[n]?=some a) (e:H a=some (.lst vs)) (r:An K ρ H ys ws) :
  Bc K ρ (S.set n (.lst ys)) (upd H a (.lst ws))/\Le K ρ H ρ (upd H a (.lst ws)):=by
 have le:Le K ρ H ρ (upd H a (.lst ws)):=Le.write hn (by rw [e];trivial);exact s.write (ho:=.lst ws) (o:=.lst ys) hn ⟨_,BM,r.mono le⟩
end
end L2
namespace L2
open PySem PySem.Spec PyProof.Rows
section
variable {X:Cx} {E:EW}
def HA:List D->Option (List Int)
 | []=>some []
 | .int b :: ds=>(HA ds).map (b :: ·)
 | _ :: _=>none
theorem Ms:∀ {ds:List D} {ns:List Int},HA ds=some ns->ds=ns.map D.int
 | [],_,h=>by cases h;rfl
 | .int b :: ds,ns,h=>by
  unfold HA at h
  cases hq:HA ds with
  | none=>rw [hq] at h;cases h
  | some cs=>rw [hq] at h;cases h;rw [Ms hq];rfl
 | .non :: _,_,h=>by cases h
 | .bl _ :: _,_,h=>by cases h
 | .str _ :: _,_,h=>by cases h
 | .tup _ :: _,_,h=>by cases h
 | .fro _ :: _,_,h=>by cases h
 | .ref _ :: _,_,h=>by cases h
 | .exc _ :: _,_,h=>by cases h
variable {e:Expr} {m:ME} {ml:ML} {p pos:Pos}
def tyD (d:D) (S:Sto):Option String:=match d with
 | .non=>some "NoneType"
 | .bl _=>some "bool"
 | .int _=>some "int"
 | .str _=>some "str"
 | .tup _=>some "tuple"
 | .ref n=>match S[n]? with
  | some (.lst _)=>some "list"
  | some (.dK _)=>some "dict"
  | some (.dT _)=>some "dict"
  | _=>none
 | .fro _=>none
 | .exc _=>none
theorem aB {K:AA} {ρ:List AF} {S:Sto} {H:Hp} {d:D} {x:V} {T:String} (s:Bc K ρ S H) (r:BQ K ρ H d x) (h:tyD d S=some T):KL K H x (.type T):=by
 cases r with
 | non=>cases h;exact .non
 | bl b=>cases h;exact .bl b
 | int i=>cases h;exact .int i
 | str i=>cases h;exact .str i
 | tup h1 _=>cases h;exact .tup h1
 | fro _ _=>cases h
 | exc _ _=>cases h
 | @ref n a hn=>
  obtain ⟨o,ho,ro⟩:=s.there hn;unfold tyD at h;simp only [ho] at h
  cases o with
  | lst es=>cases h;obtain ⟨vs,e,rr⟩:=ro;exact .lst e
  | dK es=>cases h;obtain ⟨vs,e,rr⟩:=ro;exact .dK e
  | dT es=>cases h;obtain ⟨vs,e,rr⟩:=ro;exact .dT e
  | ins _ _=>cases h
def Za (c T:String):Option Bool:=if T==c then some true else if T=="bool"&&c=="int" then some true else if ["NoneType", "bool", "int", "str", "tuple", "list", "dict"].contains T&&["bool", "int", "str", "tuple", "list", "dict"].contains c then some false else none
end
end L2
namespace L2
open PySem PySem.Spec PyProof.Rows
def FG {α:Type} (r r':Res α):Res α:=match r with
 | .bad=>r'
 | r=>r
theorem T4 {α:Type} (r r':Res α):FG r r'=r∨FG r r'=r':=by cases r <;> simp [FG]
def op2 (f g:D->D->Sto->Res D):D->D->Sto->Res D:=λx y S=>FG (f x y S) (g x y S)
theorem WI (f g:D->D->Sto->Res D) (ma mb:ME) (l:Lo) (S:Sto):m2 (op2 f g) ma mb l S=m2 f ma mb l S∨m2 (op2 f g) ma mb l S=m2 g ma mb l S:=by
 unfold m2
 cases ma l S with
 | ok x S1=>
  dsimp only [Res.bind]
  cases mb l S1 with
  | ok y S2=>
   dsimp only [Res.bind];unfold op2
   rcases T4 (f x y S2) (g x y S2) with e | e <;> rw [e] <;> simp
  | err c S2=>exact .inl rfl
  | bad=>exact .inl rfl
 | err c S1=>exact .inl rfl
 | bad=>exact .inl rfl
section
variable {X:Cx} {E:EW} {e o i:Expr} {pos:Pos} {m m1 m2':ME}
theorem bz {m m1 m2:ME} (h1:GE X E e m1) (h2:GE X E e m2) (h:∀l S,m l S=m1 l S∨m l S=m2 l S):GE X E e m:=λpins s σ H Q I ⟨ρ,l,S,hl,hs,a⟩=>by
 rcases h l S with q | q
 ·rw [q] at a;exact h1 pins s σ H Q I ⟨ρ,l,S,hl,hs,a⟩
 ·rw [q] at a;exact h2 pins s σ H Q I ⟨ρ,l,S,hl,hs,a⟩
theorem Wb {t t1 t2:MT} (h1:GT X E e t1) (h2:GT X E e t2) (h:∀l S,t l S=t1 l S∨t l S=t2 l S):GT X E e t:=λpins s σ H Q I ⟨ρ,l,S,hl,hs,a⟩=>by
 rcases h l S with q | q
 ·rw [q] at a;exact h1 pins s σ H Q I ⟨ρ,l,S,hl,hs,a⟩
 ·rw [q] at a;exact h2 pins s σ H Q I ⟨ρ,l,S,hl,hs,a⟩
theorem bn {tg:Expr} {t t1 t2:MI} (h1:GI X E tg e t1) (h2:GI X E tg e t2) (h:∀l S,t l S=t1 l S∨t l S=t2 l S):GI X E tg e t:=λpins s σ H R I ⟨ρ,l,S,hl,hs,a⟩=>by
 rcases h l S with q | q
 ·rw [q] at a;exact h1 pins s σ H R I ⟨ρ,l,S,hl,hs,a⟩
 ·rw [q] at a;exact h2 pins s σ H R I ⟨ρ,l,S,hl,hs,a⟩
theorem ZX {m m1 m2:ME} (h:∀l S,m l S=m1 l S∨m l S=m2 l S) (l:Lo) (S:Sto):mB m l S=mB m1 l S∨mB m l S=mB m2 l S:=by
 unfold mB
 rcases h l S with q | q <;> rw [q] <;> simp
abbrev inA (neg:Bool):=op2 (inD neg) (Je neg)
variable {mi mo:ME}
theorem eW (hu:X.A.units+64 < D0) (hi:GE X E i mi) (ho:GE X E o mo) (h1:CQ .In o=false:=by with_unfolding_all rfl):GT X E (.Compare i [.In] [o] pos) (mB (m2 (inA false) mi mo)):=
 Wb (FI (dw hu) hi ho h1) (bb (by lia) hi ho h1) (ZX λ_ _=>WI _ _ _ _ _ _)
theorem Mt (hu:X.A.units+64 < D0) (hi:GE X E i mi) (ho:GE X E o mo) (h1:CQ .NotIn o=false:=by with_unfolding_all rfl):GT X E (.Compare i [.NotIn] [o] pos) (mB (m2 (inA true) mi mo)):=
 Wb (FI (V1 hu) hi ho h1) (UK (by lia) hi ho h1) (ZX λ_ _=>WI _ _ _ _ _ _)
abbrev ixA:=op2 ixD M3
theorem Ej (hu:X.A.units+64 < D0) (ho:GE X E o mo) (hi:GE X E i mi) (hs:PX i:=by intro _ _;rfl):GE X E (.Subscript o i pos) (m2 ixA mo mi):=
 bz (eY dv ho hi hs) (Y5 (by lia) ho hi hs) λ_ _=>WI _ _ _ _ _ _
def Ho (d:D):Hi:=match d with
 | .tup ds=>Fj ds
 | d=>LC d
def FX (m:ME):MI:=λe S=>(m e S).bind λd S1=>match Ho d S1 with
 | some _=>.ok (Ho d) S1
 | none=>.bad
theorem Gx {tg:Expr} (h:GE X E e m):GI X E tg e (FX m):=bn (bj h) (bi h) λl S=>by
 unfold FX eU Zb
 cases m l S with
 | ok d S1=>
  dsimp only [Res.bind]
  cases d <;> first | exact .inl rfl | exact .inr rfl
 | err c S1=>exact .inl rfl
 | bad=>exact .inl rfl
def Mg (m:ME):ME:=λe S=>(m e S).bind λd S1=>match Fp d S1 with
 | some ds=>.ok (.int ds.length) S1
 | none=>.bad
variable {p:Pos} {ml:ML} {es:List Expr}
theorem R5 (hg:Gl X "len") (hm:X.mg "len" = none) (h:GE X E e m) (he:AO [e] X.env=(false,Bh e X.env) :: AO [] X.env:=by rfl):GE X E (.Call (.Name "len" p) [e] [] pos) (Mg m):=
 (Yz PP aN hg hm PySem.boot_len (Zc h) (by decide) (by decide) he).imp λσ H Q ⟨ρ,l,S,hl,hs,a⟩=>⟨ρ,l,S,hl,hs,by
  have q:mQ eM (QR m) l S=Mg m l S:=by
   unfold mQ QR Mg
   cases m l S with
   | ok d S1=>
    dsimp only [Res.bind]
    cases Fp d S1 <;> rfl
   | err c S1=>rfl
   | bad=>rfl
  rw [q];exact a⟩
theorem Lq {a b:Expr} (hc:X.calm=true) (hg:Gl X "min") (hm:X.mg "min" = none) (h:GA X E [a,b] ml) (he:AO [a,b] X.env=(false,Bh a X.env) :: AO [b] X.env:=by rfl) (hpl:(Cb pos (AO [b] X.env)).any (·.1)=false:=by rfl):GE X E (.Call (.Name "min" p) [a,b] [] pos) (mQ JM ml):=
 Sv (UY hc) ZL hg hm fC h (by decide) (by decide) he hpl
theorem PB {a b:Expr} (hc:X.calm=true) (hg:Gl X "max") (hm:X.mg "max" = none) (h:GA X E [a,b] ml) (he:AO [a,b] X.env=(false,Bh a X.env) :: AO [b] X.env:=by rfl) (hpl:(Cb pos (AO [b] X.env)).any (·.1)=false:=by rfl):GE X E (.Call (.Name "max" p) [a,b] [] pos) (mQ J9 ml):=
 Sv (UZ hc) ZM hg hm fD h (by decide) (by decide) he hpl
theorem Y1 (hg:Gl X "list") (hm:X.mg "list" = none) (h:GE X E e m) (he:AO [e] X.env=(false,Bh e X.env) :: AO [] X.env:=by rfl):GE X E (.Call (.Name "list" p) [e] [] pos) (E7 (mN Sn (QR m))):=
 Ev (Yv PN Xx hg hm Lf (Zc h) (by decide) (by decide) he)
end
end L2
namespace L2
open PySem PySem.Spec PyProof.Rows
abbrev MJ:=Str->Lo->Sto->Res Str
def bO:MJ:=λacc _ S=>if acc.length<=sizeLine then .ok acc S else .bad
def So (m:ME) (r:MJ):MJ:=λacc e S=>(m e S).bind λd S1=>match d with
 | .str y=>if (acc++y).length<=sizeLine then r (acc++y) e S1 else .bad
 | _=>.bad
def gJ (K:AA) (E:EW) (m:MJ) (acc:Str):TE:=λσ H Q=>∃ρ e S,DT K ρ H e σ/\Bc K ρ S H/\BR K (λc=>E c σ) ρ H (m acc e S) λy S'=>∀ρ' H',Le K ρ H ρ' H'->Bc K ρ' S' H'->Q (.str y) H'
def GJ (X:Cx) (E:EW) (es:List Expr) (m:MJ):Prop:=∀(acc:Str) (pins:List (AF×Obj)) (s:AE) (σ:St) (H:Hp) (Q:VK),Inv X pins σ H s->gJ X.K E m acc σ H Q->Ah (AW X.prog X.w) X.A (joinParts acc (evalEach es X.env)) (EP X pins σ Q) X.xe s
def ZW (m:MJ):ME:=λe S=>(m Qs e S).bind λy S1=>.ok (.str y) S1
def eE (m:ME):ME:=λe S=>(m e S).bind λd S1=>match d with
 | .int i=>if i.natAbs.log2 < 1920 then .ok (.str (toString i)) S1 else .bad
 | _=>.bad
section
variable {X:Cx} {E:EW} {e a b:Expr} {es:List Expr} {pos:Pos} {m:ME} {mj:MJ}
theorem bh:GJ X E [] bO:=λacc pins s σ H Q I ⟨ρ,l,S,hl,hs,hm⟩=>by
 unfold bO at hm;split at hm
 ·rename_i hz
  exact joinParts_nil ⟨.str acc,H,I.tok _,⟨_,rfl⟩,hm ρ H .refl hs⟩ hz
 ·exact hm.elim
theorem O7 (h:GE X E e m) (hr:GJ X E es mj):GJ X E (e :: es) (So m mj):=λacc pins s σ H Q I ⟨ρ,l,S,hl,hs,hm⟩=>by
 show Ah _ _ (joinParts acc (Bh e X.env :: evalEach es X.env)) _ _ s;refine joinParts_cons (thn (h pins s σ H (λx H1=>∃y,x=.str y/\(acc++y).length<=sizeLine/\gJ X.K E mj (acc++y) σ H1 Q) I ⟨ρ,l,S,hl,hs,BR.seq hm λd S1 hm ρ1 H1 x l1 s1 r1=>?_⟩) λu s1 ⟨x,H1,I1,rx,y,ex,hz,q⟩=>?_)
 ·cases d <;> first | exact hm.elim | skip
  dsimp only at hm;split at hm
  ·rename_i y hz
   cases r1;exact ⟨y,rfl,hz,ρ1,l,S1,hl.mono l1,s1,hm.go l1 λ_ _ k ρ2 H2 l2 s2=>k ρ2 H2 (l1.trans l2) s2⟩
  ·exact hm.elim
 ·subst ex
  obtain ⟨t,rfl⟩:=rx;exact ⟨hz,hr _ pins s1 σ H1 Q I1 q⟩
theorem Y2 (h:GJ X E (a :: b :: es) mj):GE X E (.JoinedStr (a :: b :: es) pos) (ZW mj):=λpins s σ H Q I ⟨ρ,l,S,hl,hs,hm⟩=>by
 refine JoinedStr_many (h Qs pins s σ H Q I ⟨ρ,l,S,hl,hs,BR.seq hm λy S1 hm ρ1 H1 l1 s1=>hm ρ1 H1 _ l1 s1 (.str y)⟩)
theorem bw (h:GE X E e m):GE X E (.FormattedValue e (-1) none pos) (eE m):=λpins s σ H Q I ⟨ρ,l,S,hl,hs,hm⟩=>by
 refine FormattedValue_plain (thn (h pins s σ H (λx H1=>∃i:Int,x=.int i/\i.natAbs.log2 < 1920/\Q (.str (toString i)) H1) I ⟨ρ,l,S,hl,hs,BR.seq hm λd S1 hm ρ1 H1 x l1 s1 r1=>?_⟩) λu s1 ⟨x,H1,I1,rx,i,ex,hz,q⟩=>?_)
 ·cases d <;> first | exact hm.elim | skip
  dsimp only at hm;split at hm
  ·rename_i hz
   cases r1;exact ⟨_,rfl,hz,hm ρ1 H1 _ l1 s1 (.str _)⟩
  ·exact hm.elim
 ·subst ex
  obtain ⟨t,rfl⟩:=rx;exact wpAny_formatField_int hz ⟨.str (toString i),H1,I1.tok _,⟨_,rfl⟩,q⟩
end
def Sk (mo ma:ME):ME:=λe S=>(mo e S).bind λd S1=>match atL d S1 with
 | some (n,_)=>(ma e S1).bind λy S2=>match atL d S2,atL y S2 with
  | some (_,xs),some (k,ys)=>if k≠n/\xs.length+ys.length<=sizeLine then .ok .non (S2.set n (.lst (xs++ys))) else .bad
  | _,_=>.bad
 | none=>.bad
section
variable {X:Cx} {E:EW} {o e:Expr} {apos cpos:Pos} {mo ma:ME}
theorem UN (ho:GE X E o mo) (ha:GE X E e ma) (hbase:Dw o "extend" X.env (Bh o X.env)=Bh o X.env:=by rfl)
  (hfew:((Cb cpos (AO [e] X.env)).all (λx=>!x.1)&&(Q6 cpos (KQ [] X.env)).all (λx=>x.1.isSome)
    &&decide ([e].length+([]:List G4).length+(if ([]:List G4).isEmpty then 0 else 1) < 30))=true:=by rfl)
  (hline:(apos.endLine==cpos.line)=true:=by rfl) (hs:AO [e] X.env=(false,Bh e X.env) :: AO [] X.env:=by rfl) (hplain:(Cb cpos (AO [] X.env)).any (·.1)=false:=by rfl) :
  GE X E (.Call (.Attribute o "extend" apos) [e] [] cpos) (Sk mo ma):=(Vw G1 PySem.F.slot_list_extend PySem.F.type_list_extend T8 ho (DF ha FF hs) hbase hfew hline hs hplain).imp λσ H Q ⟨ρ,l,S,hl,hs,hm⟩=>by
 refine ⟨ρ,l,S,hl,hs,hm.seq λd S1 hm ρ1 H1 v l1 s1 r1=>?_⟩
 cases hq:atL d S1 with
 | none=>rw [hq] at hm;exact hm.elim
 | some z=>
  obtain ⟨n,xs0⟩:=z;rw [hq] at hm;dsimp only at hm;obtain ⟨rfl,h0,a,vs0,rfl,hn,e0,_⟩:=NC s1 r1 hq;refine ⟨.inl ⟨rfl,vs0,.inl (.inl e0)⟩,ρ1,l,S1,hl.mono l1,s1,(hm.later l1).seq λy S2 hm ρ2 H2 u l2 s2 r2=>?_⟩;split at hm
  ·rename_i n' xs k ys h2 h3
   split at hm
   ·rename_i hz
    obtain ⟨e',h4,a',vs,ea,hn2,e2,rr⟩:=NC s2 (r1.mono l2) h2;cases e';cases ea;obtain ⟨ey,h5,p,ws,rfl,hk,e3,rw'⟩:=NC s2 r2 h3;obtain ⟨s3,l3⟩:=Sg s2 hn2 e2 (rr.append rw');exact ⟨a,p,vs,ws,rfl,rfl,e2,e3,by rw [<-rr.length,<-rw'.length];exact hz.2,hm ρ2 _ _ (l1.trans (l2.trans l3)) s3 .non⟩
   ·exact hm.elim
  ·exact hm.elim
end
def isB (t A:String):Option Bool:=if ["NoneType", "bool", "int", "str", "tuple", "list", "dict"].contains A then Za t A else none
def isN (A:String):Option Bool:=if ["NoneType", "bool", "int", "str", "tuple", "list", "dict"].contains A then some false else none
def mIs (tab:String->Option Bool) (tabC:AF->Option Bool) (m:ME):ME:=λe S=>(m e S).bind λd S1=>match d with
 | .exc C=>match tabC C with
  | some b=>.ok (.bl b) S1
  | none=>.bad
 | d=>match tyD d S1 with
  | some T=>match tab T with
   | some b=>.ok (.bl b) S1
   | none=>.bad
  | none=>.bad
def Xh (sc:GR) (x:Str):Bool:=decide (sc.names.lookup x=some .local)||decide (sc.names.lookup x=some .cell)||decide (sc.names.lookup x=some .free)
def Wy (X:Cx) (scope:GR) (own N':List Str):Bool:=
 decide (scope.kind=.function)&&scope.names.all (λy=>!decide (y.2=.cell))&&scope.names.all (λy=>!decide (y.2=.local)||decide (scope.names.lookup y.1=some .local)) &&
 scope.names.all (λy=>!decide (y.2=.free)||decide (X.env.kindOf y.1=some .cell)||decide (X.env.kindOf y.1=some .free))&&decide (N'.length=own.length+X.N.length) &&
 ((N'.drop own.length).zip X.N).all (λp=>!Xh (G0 scope X.env) p.1||(decide (p.1=p.2)&&Xh X.env.scope p.1&&(decide ((G0 scope X.env).names.lookup p.1=some .cell)||decide ((G0 scope X.env).names.lookup p.1=some .free))&&!decide (X.env.kindOf p.1=some .local))) &&
 (G0 scope X.env).names.all (λy=>(!decide (y.2=.cell)&&!decide (y.2=.free))||scope.names.any (λz=>decide (z=(y.1,GV))))
theorem Pp {sc:GR} {x:Str}:Xh sc x=true↔Vis sc x:=by
 unfold Xh Vis;simp [or_assoc]
theorem Lv {X:Cx} {scope:GR} {own N':List Str} (h:Wy X scope own N'=true):Jh X scope own N':=by
 unfold Wy at h;simp only [Cg] at h;obtain ⟨⟨⟨⟨⟨⟨h1,h2⟩,h3⟩,h4⟩,h5⟩,h6⟩,h7⟩:=h;rw [Hn] at h2 h3 h4 h6 h7;refine ⟨of_decide_eq_true h1,λy hy=>?_,λy hy e=>?_,λy hy e=>?_,of_decide_eq_true h5,λi x e v=>?_,λx hx=>?_⟩
 ·simpa using h2 y hy
 ·have:=h3 y hy
  simpa [e] using this
 ·have:=h4 y hy
  simpa [e] using this
 ·have hlen:=of_decide_eq_true h5
  have hi:own.length+i < N'.length:=(AD.mp e).1
  have hx:i < X.N.length:=by lia
  have hm:(x,X.N[i])∈(N'.drop own.length).zip X.N:=by
   rw [List.mem_iff_getElem?];refine ⟨i,?_⟩;rw [List.getElem?_zip_eq_some];exact ⟨by rw [EL];exact e,by simp [hx]⟩
  have:=h6 _ hm;rw [Pp.mpr v] at this;simp only [Pd,Zv,Cg,Bool.or_eq_true,decide_eq_true_eq,Uz,decide_eq_false_iff_not] at this;obtain ⟨⟨⟨z1,z2⟩,z3⟩,z4⟩:=this;exact ⟨by rw [z1];simp [hx],Pp.mp z2,z3,z4⟩
 ·have key:∀k,(G0 scope X.env).names.lookup x=some k->(k=.cell∨k=.free)->(x,GV)∈scope.names:=λk e hk=>by
   have:=h7 _ (C7 e)
   rcases hk with rfl | rfl
   ·simpa using this
   ·simpa using this
  rcases hx with e | e
  ·exact key _ e (.inl rfl)
  ·exact key _ e (.inr rfl)
structure Dfn (K:AA) (mg:Str->Option AC) (x qual:Str) (st:Cd) (ps:List Str) where
 f:AF
 fd:Cr
 F:Fun K x qual st f fd
 b:Binds K fd ps []
 m:mg x=some (.ref f)
theorem Dfn.kp {K:AA} {mg:Str->Option AC} {x qual:Str} {st:Cd} {ps:List Str} (d:Dfn K mg x qual st ps):EN K (.ref d.f)=true:=d.F.kp
structure Mtd (K:AA) (x qual:Str) (st:Cd) (ps:List Str) where
 f:AF
 fd:Cr
 F:Fun K x qual st f fd
 b:Binds K fd ps []
structure Own (K:AA) (mg:Str->Option AC) (x:Str) (C f:AF):Prop where
 cl:Cls K C
 mk':Mk K C f
 m:mg x=some (.ref C)
structure Xcl (K:AA) (mg:Str->Option AC) (x:Str) (C:AF):Prop where
 xc:XCl K C
 m:mg x=some (.ref C)
abbrev wN:Nat:=1000000
end L2
namespace L2
open PySem PySem.Spec PyProof.Rows
structure XIs (K:AA) (C:AF):Prop where
 cl:(DI K C).isSome=true
 ga:Bt K (.ref C) "__getattribute__" = some (some (.builtin "BaseException.__getattribute__"))
 gn:Bt K (.ref C) "__getattr__" = some none
 ca:Bt K (.ref C) "__class__" = some (some (.builtin "object.__class__"))
 sp:SG K (.builtin "object.__class__") "__get__" = some (some (.builtin "getset_descriptor.__get__"))
 tk:Uh K (.builtin "object.__class__")=some true
 ob:JD K C (.type "object")=some true
 be:JD K C (.type "BaseException")=some true
theorem Nl.inst {h:BY} {a C:AF} {o:Obj} (g:h.get? a=some o) (x:Nl o C):Ut h a o C none:=by
 obtain ⟨x1,x2,vs,x3⟩:=x;refine ⟨g,x1,?_,?_⟩
 ·unfold PySem.W.notCls;rw [x3]
 ·rw [x2];trivial
section
variable {prog:Ai} {w:A7} {A:A2} {E:AC->AE->Prop} {s:AE} {K:AA} {a C:AF} {o:Obj}
theorem US {M:NR} {nameV:AC} {Q:Unit->AE->Prop} (c:XIs K C) (X:K.In s.heap) (g:s.heap.get? a=some o) (x:Nl o C) (h:Q () s):Ah M A (cm "BaseException.__getattribute__" ⟨[.ref a,nameV],[]⟩) Q E s:=by
 have I:=x.inst g;obtain ⟨hh,gg,d,t,os⟩:=s;have L0:=I.type (M:=M);have LI:Ey M hh (isInstance (.ref a) (.type "BaseException")) true:=L0.andThen (PySem.W.looks_mroIn X c.be)
 have k1:builtinKind "BaseException.__getattribute__" = some .slot:=by decide +kernel
 have k2:splitId "BaseException.__getattribute__" = some ("BaseException", "__getattribute__"):=by decide +kernel
 have k3:=PySem.F.args_bexc_ga (.ref a) nameV;simp only [cm,k1,k2];refine AB (LI.at ?_)
 repeat (any_goals (first | assumption | wp_step))
theorem UQ {tk:Tok} {Q:Fin->AE->Prop} (c:XIs K C) (X:K.In s.heap) (g:s.heap.get? a=some o) (x:Nl o C) (h:Q (.done (.ret (.ref C))) s) :
  Ah (AW prog w) A (Builtin.«object.__getattribute__» ⟨[.ref a,.str "__class__" tk],[]⟩) Q E s:=by
 have I:=x.inst g;obtain ⟨hh,gg,d,t,os⟩:=s;have L0:=I.type (M:=AW prog w)
 have hf:Uj K C none "__class__" = some (.bind (.builtin "getset_descriptor.__get__") (.builtin "object.__class__")):=by
  obtain ⟨cd,hcd⟩:=Nn.mp c.cl;unfold Uj;rw [hcd,c.ca];simp only [AU];rw [c.sp];simp only [AU];rw [c.tk];rfl
 have L1:=PySem.W.looks_find (M:=AW prog w) X I hf;unfold Builtin.«object.__getattribute__»;refine AB (AH ?_);dsimp only;refine AB (AH (AB (L0.at (AB (L1.at ?_)))));dsimp only;unfold XJ;dsimp only;refine AB (Eg (Q3 (PySem.W.class_get X I c.ob ?_)));exact AH h
theorem UR {Q:Option AC->AE->Prop} (c:XIs K C) (X:K.In s.heap) (g:s.heap.get? a=some o) (x:Nl o C) (h:Q (some (.ref C)) { s with toks:=s.toks+1 }):Ah (AW prog w) A (getAttr? (.ref a) "__class__") Q E s:=by
 have I:=x.inst g;obtain ⟨hh,gg,d,t,os⟩:=s;have L0:=I.type (M:=AW prog w);have L1:=IC (M:=AW prog w) X c.ga;have L2:=IC (M:=AW prog w) X c.gn;unfold getAttr? getAttrBy? getAttrBy;refine AB (wpAny_mkText (AB (IA (Eg (AB (L0.at (AB (L1.at ?_))))))))
 have hx:(onTheHeap (Ak C)&&ZP "BaseException.__getattribute__"==ZP "object.__getattribute__")=false:=by show (true&&_)=false;decide +kernel
 dsimp only;rw [if_neg (by rw [hx];exact AS)];unfold getAttrByItsOwn hookBefore;refine AB ?_;rw [if_pos (show onTheHeap (Ak C)=true from rfl)];refine L2.at (AB (IA (Eg ?_)));unfold callGetattribute;rw [if_neg (by simp)];unfold boundAndCalled;refine AB (wpAny_of_eq (L6.ga.bind (.ref a)) ?_);refine Q3 (codeAny_call_builtin L6.ga.plain PySem.F.entry_bexc_ga (US c X g x (UQ c X g x ?_)));exact AH (AH h)
theorem QU (c:XIs K C):PySem.W.KitX K (.ref a) (.ref C) (λh=>∃o,h.get? a=some o/\Nl o C) where
 ty:=λM h X ⟨o,g,x⟩=>(x.inst g).type
 it:=λM h X _=>by
  have z:=c.cl;unfold DI at z;split at z
  ·rename_i hk
   intro A' Q' E' s' k q;unfold isType loadHead;exact AB (Q2 (k _ _ (X _ _ hk)) (AH q))
  ·cases z
 ne:=λh tp dd its n sl X htp=>by
  refine Bool.eq_false_iff.mpr λq=>?_
  have e:C=tp:=Ak.inj (beq_iff_eq.mp q);subst e;have z:=c.cl;unfold DI at z;split at z
  ·rename_i hk
   have y:=(X _ _ hk).symm.trans htp;cases y
  ·cases z
 ca:=λX ⟨o,g,x⟩ k=>UR c X g x k
end
def rIs (K:AA) (c:V) (cv:AC):List V->Hp->VK->Prop:=λxs H Q=>(∃x t b,xs=[x,c]/\KL K H x t/\BJ K t cv=some b/\Q (.bl b) H) ∨
 ∃a o u C b,xs=[.ref a,c]/\H a=some (.frz o u)/\Nl o C/\XIs K C/\BJ K (.ref C) cv=some b/\Q (.bl b) H
section
variable {X:Cx} {E:EW} {e ce:Expr} {p pos:Pos} {m:ME} {c:V} {cv:AC} {tab:String->Option Bool} {tabC:AF->Option Bool}
theorem ZE (hv:∀u,RelV c u->u=cv):Gi X (.builtin "isinstance") (rIs X.K c cv):=by
 intro pins s σ H xs us Q I r h
 rcases h with ⟨x,t,b,rfl,ty,e,q⟩ | ⟨a,o,u,C,b,rfl,ha,xo,xc,e,q⟩
 ·obtain ⟨v,w,rfl,r1,r2⟩:=vals2 r
  rw [hv w r2]
  exact UF I r1 ty e λtk=>⟨.bl b,H,I.tok tk,rfl,q⟩
 ·obtain ⟨v,w,rfl,r1,r2⟩:=vals2 r
  rw [hv w r2];cases (show v=Ak a from r1);obtain ⟨g,_⟩:=(show CD X.prog X.w H s.heap a (.frz o u) from I.hok a _ ha)
  exact Bi (QU xc) I.kIn ⟨o,g,xo⟩ e (λz=>nomatch z) λtk=>⟨.bl b,H,I.tok tk,rfl,q⟩
theorem Wg (hv:∀u,RelV c u->u=cv) (ht:∀T b,tab T=some b->BJ X.K (.type T) cv=some b) (hC:∀C b,tabC C=some b->XIs X.K C/\BJ X.K (.ref C) cv=some b)
  (hg:Gl X "isinstance") (hm:X.mg "isinstance" = none) (h:GE X E e m) (hce:PE X ce (tC c))
  (he:AO [e,ce] X.env=(false,Bh e X.env) :: AO [ce] X.env:=by rfl) (he2:AO [ce] X.env=(false,Bh ce X.env) :: AO [] X.env:=by rfl) (hpl:(Cb pos (AO [ce] X.env)).any (·.1)=false:=by rfl) :
  GE X E (.Call (.Name "isinstance" p) [e,ce] [] pos) (mIs tab tabC m):=
 (IQ (ZE hv) hg hm Jj (DF h (DF hce FF he2) he) (by decide) (by decide) he hpl).imp λσ H Q ⟨ρ,l,S,hl,hs,hm⟩=>by
 refine ⟨ρ,l,S,hl,hs,hm.seq λd S1 hm ρ1 H1 x l1 s1 r1=>?_⟩
 have plainD:∀(z:BR X.K (λc=>E c σ) ρ H (match tyD d S1 with | some T=>(match tab T with | some b=>Res.ok (D.bl b) S1 | none=>.bad) | none=>.bad) λd S'=>∀ρ' H' x,Le X.K ρ H ρ' H'->Bc X.K ρ' S' H'->BQ X.K ρ' H' d x->Q x H'),rIs X.K c cv [x,c] H1 Q:=λhm=>by
  cases hq:tyD d S1 with
  | none=>rw [hq] at hm;exact hm.elim
  | some T=>
   rw [hq] at hm;dsimp only at hm
   cases hb:tab T with
   | none=>rw [hb] at hm;exact hm.elim
   | some b=>
    rw [hb] at hm;exact .inl ⟨x,_,b,rfl,aB s1 r1 hq,ht T b hb,hm ρ1 H1 _ l1 s1 (.bl _)⟩
 cases d with
 | exc C=>
  dsimp only at hm
  cases hb:tabC C with
  | none=>rw [hb] at hm;exact hm.elim
  | some b=>
   rw [hb] at hm
   cases r1 with
   | exc g x=>exact .inr ⟨_,_,_,C,b,rfl,g,x,(hC C b hb).1,(hC C b hb).2,hm ρ1 H1 _ l1 s1 (.bl _)⟩
 | _=>exact plainD hm
end
end L2
namespace Srt
open PySem PyProof.Rows
structure Ord (U:Af->Prop) (lt:Af->Af->Bool):Prop where
 asym:∀x y,U x->U y->lt x y=true->lt y x=false
 ntr:∀x y z,U x->U y->U z->lt y x=false->lt z y=false->lt z x=false
theorem Ord.irr {U:Af->Prop} {lt:Af->Af->Bool} (o:Ord U lt) {x:Af} (h:U x):lt x x=false:=by
 cases e:lt x x with
 | false=>rfl
 | true=>exact (o.asym x x h h e).symm.trans e |>.symm▸rfl
def ix (xs:Array Af) (i:Nat):Af:=xs.getD i (.none,.none)
theorem G9 {xs ys:Array Af} {i j:Nat} (h:xs[i]?=ys[j]?):ix xs i=ix ys j:=by
 unfold ix;rw [DX,DX,h]
theorem CW {xs:Array Af} {i:Nat} (h:i < xs.size):xs[i]?=some (ix xs i):=by
 unfold ix;rw [DX,getElem?_pos xs i h];rfl
theorem UD {xs:Array Af} {src d:Nat} (hs:src < xs.size) (hd:d<=src) (k:Nat) :
  ix (Zm xs src d) k=if k=src - d then ix xs src else if src - d < k/\k<=src then ix xs (k - 1) else ix xs k:=by
 have e:=getElem?_bubble hs d hd k;split
 ·rename_i h;rw [if_pos h] at e;exact G9 e
 ·rename_i h
  rw [if_neg h] at e;split
  ·rename_i h2;rw [if_pos h2] at e;exact G9 e
  ·rename_i h2;rw [if_neg h2] at e;exact G9 e
theorem C6 {xs:Array Af} {i j:Nat} (hj:j<=xs.size) (k:Nat) :
  ix (HI xs i j ((j - i) / 2)) k=if i<=k/\k < j then ix xs (i+j - 1 - k) else ix xs k:=by
 have e:=getElem?_mirror_all (i:=i) hj k;split
 ·rename_i h;rw [if_pos h] at e;exact G9 e
 ·rename_i h;rw [if_neg h] at e;exact G9 e
section
variable {prog:Ai} {w:A7} {A:A2} {E:AC->AE->Prop} {s:AE} {a₀:Array Af} {κ:EA} {lt:Af->Af->Bool}
def Hr (prog:Ai) (w:A7) (A:A2) (s:AE) (a₀:Array Af) (κ:EA) (lt:Af->Af->Bool):Prop:=
 ∀x y,x∈a₀->y∈a₀->∀(Q:Bool->AE->Prop) (E:AC->AE->Prop),Q (lt x y) s->Ah (AW prog w) A (keyLt' κ x.1 y.1) Q E s
structure Good (a₀:Array Af) (κ:EA) (st:A8):Prop where
 perm:(AN st).Perm a₀
 kind:kindOf st=κ
 failed:GP st=none
theorem Good.size {st:A8} (g:Good a₀ κ st):(AN st).size=a₀.size:=g.perm.size_eq
theorem Good.mem {st:A8} (g:Good a₀ κ st) {i:Nat} (h:i < a₀.size):ix (AN st) i∈a₀:=by
 have h':i < (AN st).size:=by rw [g.size];exact h
 have e:=CW h';have:=B9 e;exact BD.mp ((Do.mp g.perm).mem_iff.mp (BD.mpr this))
theorem Good.setArr {st:A8} (g:Good a₀ κ st) {xs:Array Af} (hp:xs.Perm (AN st)):Good a₀ κ (setArr st xs):=⟨hp.trans g.perm,g.kind,g.failed⟩
theorem MA {st:A8} {x y:Af} {Q:Option Bool->A8->Prop} (C:Hr prog w A s a₀ κ lt) (g:Good a₀ κ st) (hx:x∈a₀) (hy:y∈a₀) (h:Q (some (lt x y)) st):wpS (AW prog w) A E s (lt' x y) Q st:=by
 rw [lt'_eq];refine AJ (FA ?_);rw [g.kind];refine AJ (wpS_lift (IA ?_));refine C x y hx hy _ _ ⟨rfl,?_⟩;exact AK h
theorem KY {st:A8} {i j:Nat} {Q:Option Bool->A8->Prop} (C:Hr prog w A s a₀ κ lt) (g:Good a₀ κ st) (hi:i < a₀.size) (hj:j < a₀.size) (h:Q (some (lt (ix (AN st) i) (ix (AN st) j))) st) :
  wpS (AW prog w) A E s (cU i j) Q st:=by
 rw [ltAt'_eq];refine AJ (FA ?_);show wpS _ _ _ _ (do let x <-elem' (AN st) i;let y <-elem' (AN st) j;lt' x y) Q st;rw [XO,XO,CW (by rw [g.size];exact hi),CW (by rw [g.size];exact hj)];exact AJ (AK (AJ (AK (MA C g (g.mem hi) (g.mem hj) h))))
def Up (lt:Af->Af->Bool) (xs:Array Af) (lo hi:Nat):Prop:=∀i j,lo<=i->i<=j->j < hi->lt (ix xs j) (ix xs i)=false
def Dn (lt:Af->Af->Bool) (xs:Array Af) (lo hi:Nat):Prop:=∀i j,lo<=i->i<=j->j < hi->lt (ix xs i) (ix xs j)=false
def Out (xs ys:Array Af) (lo hi:Nat):Prop:=∀i,(i < lo∨hi<=i)->ix ys i=ix xs i
theorem Out.refl {xs:Array Af} {lo hi:Nat}:Out xs xs lo hi:=λ_ _=>rfl
theorem Out.trans {xs ys zs:Array Af} {lo hi:Nat} (a:Out xs ys lo hi) (b:Out ys zs lo hi):Out xs zs lo hi:=λi h=>(b i h).trans (a i h)
theorem Up.out {xs ys:Array Af} {lo hi l h:Nat} (u:Up lt xs l h) (o:Out xs ys lo hi) (d:h<=lo∨hi<=l):Up lt ys l h:=λi j h1 h2 h3=>by
 rw [o i (by lia),o j (by lia)];exact u i j h1 h2 h3
theorem Up.grow {st:A8} (O:Ord (·∈a₀) lt) (g:Good a₀ κ st) {lo hi:Nat} (hs:hi < a₀.size) (u:Up lt (AN st) lo hi) (h0:lo < hi) (h:lt (ix (AN st) hi) (ix (AN st) (hi - 1))=false):Up lt (AN st) lo (hi+1):=λi j h1 h2 h3=>by
 by_cases hj:j < hi
 ·exact u i j h1 h2 hj
 ·have:j=hi:=by lia
  subst this
  by_cases hi':i=j
  ·subst hi';exact O.irr (g.mem hs)
  ·exact O.ntr _ _ _ (g.mem (by lia)) (g.mem (show j - 1 < _ by omega)) (g.mem hs) (u i (j - 1) h1 (by lia) (by lia)) h
theorem wpS_binarySort {st:A8} {lo n ok:Nat} {Q:Bool->A8->Prop} (C:Hr prog w A s a₀ κ lt) (O:Ord (·∈a₀) lt) (hn:lo+n<=a₀.size) (hok:ok<=n) (g:Good a₀ κ st) (u:Up lt (AN st) lo (lo+ok))
  (h:∀st',Good a₀ κ st'->Up lt (AN st') lo (lo+n)->Out (AN st) (AN st') lo (lo+n)->AT st'=AT st->Q true st'):wpS (AW prog w) A E s (binarySort' lo n ok) Q st:=by
 rw [binarySort'_eq]
 refine AJ (CV (Bb (I:=λk c st'=>c=(none,())/\Good a₀ κ st'/\Up lt (AN st') lo (lo+min k n)/\Out (AN st) (AN st') lo (lo+n)/\AT st'=AT st)
  (Q:=λc st'=>c=(none,())/\Good a₀ κ st'/\Up lt (AN st') lo (lo+n)/\Out (AN st) (AN st') lo (lo+n)/\AT st'=AT st) ?step ?fin ?init) ?post)
 case post=>
  rintro c st' ⟨rfl,g',u',o',p'⟩;exact AK (h st' g' u' o' p')
 case init=>
  refine ⟨rfl,g,λi j h1 h2 h3=>?_,.refl,rfl⟩
  by_cases h0:ok=0
  ·have:i=j:=by lia
   subst this;exact O.irr (g.mem (by omega))
  ·exact u i j h1 h2 (by lia)
 case fin=>
  rintro c st' ⟨hc,g',u',o',p'⟩;refine ⟨hc,g',?_,o',p'⟩;rwa [show min (max (max ok 1) n) n=n by lia] at u'
 case step=>
  rintro k c st1 hak hkn ⟨rfl,g1,u1,o1,p1⟩;rw [show min k n=k by lia] at u1
  have hk:lo+k < a₀.size:=by lia
  refine AJ (CV (Bb (I:=λx c st2=>st2=st1/\∃l r,c=(none,l,r)/\l<=r/\r<=k/\r - l<=k - x /\
    (∀i,i < l->lt (ix (AN st1) (lo+k)) (ix (AN st1) (lo+i))=false)/\(∀i,r<=i->i < k->lt (ix (AN st1) (lo+k)) (ix (AN st1) (lo+i))=true))
   (Q:=λc st2=>st2=st1/\∃l r,c=(none,l,r)/\l<=k /\
    (∀i,i < l->lt (ix (AN st1) (lo+k)) (ix (AN st1) (lo+i))=false)/\(∀i,l<=i->i < k->lt (ix (AN st1) (lo+k)) (ix (AN st1) (lo+i))=true)) ?istep ?ifin ?iinit) ?ipost)
  case iinit=>exact ⟨rfl,0,k,rfl,by lia,by lia,by lia,λi hi=>by lia,λi h1 h2=>by lia⟩
  case ifin=>
   rintro c st2 ⟨rfl,l,r,rfl,hlr,hrk,hm,hlo,hhi⟩
   have:l=r:=by lia
   subst this;exact ⟨rfl,l,l,rfl,hrk,hlo,hhi⟩
  case istep=>
   rintro x c st2 _ hxk ⟨rfl,l,r,rfl,hlr,hrk,hm,hlo,hhi⟩;dsimp only
   by_cases hge:l ≥ r
   ·rw [if_pos hge]
    have:l=r:=by lia
    subst this;exact AK ⟨rfl,l,l,rfl,hrk,hlo,hhi⟩
   ·rw [if_neg hge]
    refine AJ (KY C g1 hk (by lia) ?_)
    cases hless:lt (ix (AN st2) (lo+k)) (ix (AN st2) (lo+(l+r) / 2)) with
    | true=>
     refine AK ⟨rfl,l,(l+r) / 2,rfl,by lia,by lia,by omega,hlo,λi h1 h2=>?_⟩
     cases e:lt (ix (AN st2) (lo+k)) (ix (AN st2) (lo+i)) with
     | true=>rfl
     | false=>
      have:=O.ntr _ _ _ (g1.mem (show lo+(l+r) / 2 < _ by lia)) (g1.mem (show lo+i < _ by lia)) (g1.mem hk) (u1 (lo+(l+r) / 2) (lo+i) (by lia) (by lia) (by lia)) e;rw [hless] at this;cases this
    | false=>
     refine AK ⟨rfl,(l+r) / 2+1,r,rfl,by lia,by omega,by omega,λi h1=>?_,hhi⟩;exact O.ntr _ _ _ (g1.mem (show lo+i < _ by lia)) (g1.mem (show lo+(l+r) / 2 < _ by lia)) (g1.mem hk) (u1 (lo+i) (lo+(l+r) / 2) (by lia) (by lia) (by lia)) hless
  case ipost=>
   rintro c st2 ⟨rfl,l,r,rfl,hlk,hlo,hhi⟩;show wpS _ _ _ _ (do moveDown' (lo+k) (lo+l);pure (E3 (none,()))) _ _;rw [moveDown'_eq]
   have hks:lo+k < (AN st2).size:=by rw [g1.size];exact hk
   have e:∀i,ix (Zm (AN st2) (lo+k) (lo+k - (lo+l))) i=if i=lo+l then ix (AN st2) (lo+k) else if lo+l < i/\i<=lo+k then ix (AN st2) (i - 1) else ix (AN st2) i:=λi=>by
    rw [UD hks (by lia),show lo+k - (lo+k - (lo+l))=lo+l by lia]
   refine AJ (CZ (AK ⟨rfl,g1.setArr (bubble_perm _ _ _),?_,o1.trans λi hi=>?_,p1⟩))
   ·rw [show min (k+1) n=k+1 by lia]
    intro i j h1 h2 h3;show lt (ix (Zm (AN st2) (lo+k) (lo+k - (lo+l))) j) (ix (Zm (AN st2) (lo+k) (lo+k - (lo+l))) i)=false;rw [e,e]
    repeat' split
    all_goals first
     | (exfalso;lia)
     | exact O.irr (g1.mem hk)
     | (have q:=hlo (i - lo) (by lia);rw [show lo+(i - lo)=i by lia] at q;exact q)
     | (have q:=hhi (j - 1 - lo) (by omega) (by omega);rw [show lo+(j - 1 - lo)=j - 1 by lia] at q;exact O.asym _ _ (g1.mem hk) (g1.mem (by lia)) q)
     | exact u1 _ _ (by omega) (by omega) (by lia)
   ·show ix (Zm (AN st2) (lo+k) (lo+k - (lo+l))) i=ix (AN st2) i
    rw [e,if_neg (by lia),if_neg (by lia)]
end
end Srt
namespace Srt
open PySem PyProof.Rows
section
variable {prog:Ai} {w:A7} {A:A2} {E:AC->AE->Prop} {s:AE} {a₀:Array Af} {κ:EA} {lt:Af->Af->Bool}
theorem G5 {σ:Type} {M:NR} {r:String} {Q:PUnit->σ->Prop} {st:σ} (h:Q ⟨⟩ st):wpS M A E s (liftM (rule r):StateT σ Sem PUnit) Q st:=wpS_lift (wpAny_rule ⟨rfl,h⟩)
theorem Dn.flip {xs:Array Af} {lo hi:Nat} (hs:hi<=xs.size) (d:Dn lt xs lo hi):Up lt (HI xs lo hi ((hi - lo) / 2)) lo hi:=λi j h1 h2 h3=>by
 rw [C6 hs,C6 hs,if_pos (by lia),if_pos (by lia)];exact d _ _ (by omega) (by omega) (by omega)
theorem Dn.part {xs:Array Af} {lo hi m:Nat} (hs:hi<=xs.size) (hm:lo<=m) (hmh:m<=hi) (d:Dn lt xs lo hi) (e:Up lt xs m hi):Dn lt (HI xs m hi ((hi - m) / 2)) lo hi:=λi j h1 h2 h3=>by
 rw [C6 hs,C6 hs]
 by_cases hi':m<=i
 ·rw [if_pos (by lia),if_pos (by lia)]
  exact e _ _ (by omega) (by omega) (by omega)
 ·rw [if_neg (by lia)]
  split
  ·exact d _ _ (by omega) (by lia) (by omega)
  ·exact d _ _ (by omega) (by omega) (by omega)
theorem HX {xs:Array Af} {i j lo hi:Nat} (hj:j<=xs.size) (h1:lo<=i) (h2:j<=hi):Out xs (HI xs i j ((j - i) / 2)) lo hi:=λk hk=>by
 rw [C6 hj,if_neg (by lia)]
theorem Dn.grow {st:A8} (O:Ord (·∈a₀) lt) (g:Good a₀ κ st) {lo hi:Nat} (hs:hi < a₀.size) (u:Dn lt (AN st) lo hi) (h0:lo < hi) (h:lt (ix (AN st) (hi - 1)) (ix (AN st) hi)=false):Dn lt (AN st) lo (hi+1):=λi j h1 h2 h3=>by
 by_cases hj:j < hi
 ·exact u i j h1 h2 hj
 ·have:j=hi:=by lia
  subst this
  by_cases hi':i=j
  ·subst hi';exact O.irr (g.mem hs)
  ·exact O.ntr _ _ _ (g.mem hs) (g.mem (show j - 1 < _ by omega)) (g.mem (by lia)) h (u i (j - 1) h1 (by lia) (by lia))
theorem RN (O:Ord (·∈a₀) lt) {st:A8} (g:Good a₀ κ st) {lo:Nat} (h:lo < a₀.size):Up lt (AN st) lo (lo+1):=λi j h1 h2 h3=>by
 have e1:i=lo:=by lia
 have e2:j=lo:=by lia
 rw [e1,e2];exact O.irr (g.mem h)
theorem XV {st:A8} {lo nrem n:Nat} {Q:Option Nat->A8->Prop} (C:Hr prog w A s a₀ κ lt) (O:Ord (·∈a₀) lt) (h1:1<=n) (h2:n<=nrem) (hn:lo+nrem<=a₀.size) (g:Good a₀ κ st) (u:Up lt (AN st) lo (lo+n))
  (h:∀n,1<=n->n<=nrem->Up lt (AN st) lo (lo+n)->Q (some n) st):wpS (AW prog w) A E s (do
   let mut n:=n
   for _ in [n:nrem] do
    let some smaller <-cU (lo+n) (lo+n - 1) | return none
    if smaller then break
    n:=n+1
   return some n) Q st:=by
 refine AJ (CV (Bb (I:=λx c st'=>st'=st/\c=(none,x)/\Up lt (AN st) lo (lo+x))
  (Q:=λc st'=>st'=st/\∃n,c=(none,n)/\1<=n/\n<=nrem/\Up lt (AN st) lo (lo+n)) ?step ?fin ⟨rfl,rfl,u⟩) ?post)
 case fin=>
  rintro c st' ⟨rfl,rfl,u⟩
  have e:max n nrem=nrem:=by lia
  rw [e] at u ⊢;exact ⟨rfl,nrem,rfl,by lia,AQ _,u⟩
 case step=>
  rintro x c st' hx1 hx2 ⟨rfl,rfl,u⟩;dsimp only;refine AJ (KY C g (by lia) (by lia) ?_)
  cases hq:lt (ix (AN st') (lo+x)) (ix (AN st') (lo+x - 1)) with
  | true=>exact AK ⟨rfl,x,rfl,by lia,by lia,u⟩
  | false=>exact AK ⟨rfl,rfl,Up.grow (hi:=lo+x) O g (by lia) u (by lia) hq⟩
 case post=>
  rintro c st' ⟨rfl,n,rfl,hn1,hn2,u⟩;exact AK (h n hn1 hn2 u)
theorem wpS_countRun {st:A8} {lo nrem:Nat} {Q:Option Nat->A8->Prop} (C:Hr prog w A s a₀ κ lt) (O:Ord (·∈a₀) lt) (h1:1<=nrem) (hn:lo+nrem<=a₀.size) (g:Good a₀ κ st)
  (h:∀st' n,Good a₀ κ st'->1<=n->n<=nrem->Up lt (AN st') lo (lo+n)->Out (AN st) (AN st') lo (lo+nrem)->AT st'=AT st->Q (some n) st'):wpS (AW prog w) A E s (countRun' lo nrem) Q st:=by
 rw [countRun'_eq]
 refine AJ (CV (Bb (I:=λx c st'=>st'=st/\c=(none,x)/\Up lt (AN st) lo (lo+x))
  (Q:=λc st'=>st'=st/\∃n,c=(none,n)/\1<=n/\n<=nrem/\Up lt (AN st) lo (lo+n)/\(n=nrem∨lt (ix (AN st) (lo+n)) (ix (AN st) (lo+n - 1))=true)) ?step ?fin ?init) ?post)
 case init=>
  refine ⟨rfl,rfl,λi j a1 a2 a3=>?_⟩
  have:i=j:=by lia
  subst this;exact O.irr (g.mem (by lia))
 case fin=>
  rintro c st' ⟨rfl,rfl,u⟩
  have e:max 1 nrem=nrem:=by lia
  rw [e] at u ⊢;exact ⟨rfl,nrem,rfl,h1,AQ _,u,.inl rfl⟩
 case step=>
  rintro x c st' hx1 hx2 ⟨rfl,rfl,u⟩;dsimp only;refine AJ (KY C g (by lia) (by lia) ?_)
  cases hq:lt (ix (AN st') (lo+x)) (ix (AN st') (lo+x - 1)) with
  | true=>exact AK ⟨rfl,x,rfl,hx1,by lia,u,.inr hq⟩
  | false=>exact AK ⟨rfl,rfl,Up.grow (hi:=lo+x) O g (by lia) u (by lia) hq⟩
 case post=>
  rintro c st' ⟨rfl,n,rfl,hn1,hn2,u,hd⟩;dsimp only
  by_cases hnn:n=nrem
  ·rw [if_pos (by simpa using hnn)]
   exact AK (h st' n g hn1 hn2 u .refl rfl)
  ·rw [if_neg (by simpa using hnn)]
   have hd':=hd.resolve_left hnn
   have desc:∀(st1:A8),Good a₀ κ st1->Dn lt (AN st1) lo (lo+(n+1))->Out (AN st') (AN st1) lo (lo+nrem)->AT st1=AT st' ->
     wpS (AW prog w) A E s (do
      liftM (rule "list.sort.descending-run")
      let mut n:=n+1
      let mut neq:=0
      for _ in [n:nrem] do
       let some smaller <-cU (lo+n) (lo+n - 1) | return none
       if smaller then
        if neq > 0 then Ld (lo+n - (neq+1)) (lo+n)
        neq:=0
       else
        let some larger <-cU (lo+n - 1) (lo+n) | return none
        if larger then break
        neq:=neq+1
       n:=n+1
      if neq > 0 then Ld (lo+n - (neq+1)) (lo+n)
      Ld lo (lo+n)
      for _ in [n:nrem] do
       let some smaller <-cU (lo+n) (lo+n - 1) | return none
       if smaller then break
       n:=n+1
      return some n) Q st1:=by
    intro st1 g1 d1 o1 p1;refine AJ (G5 ?_)
    refine AJ (CV (Bb (I:=λx c st2=>Good a₀ κ st2/\∃q,c=(none,x,q)/\q+1<=x/\Dn lt (AN st2) lo (lo+x)/\Up lt (AN st2) (lo+x - (q+1)) (lo+x)/\Out (AN st') (AN st2) lo (lo+nrem)/\AT st2=AT st')
     (Q:=λc st2=>Good a₀ κ st2/\∃n q,c=(none,n,q)/\n<=nrem/\q+1<=n/\Dn lt (AN st2) lo (lo+n)/\Up lt (AN st2) (lo+n - (q+1)) (lo+n)/\Out (AN st') (AN st2) lo (lo+nrem)/\AT st2=AT st') ?dstep ?dfin ?dinit) ?dpost)
    case dinit=>
     refine ⟨g1,0,rfl,by lia,d1,?_,o1,p1⟩;have:=RN O g1 (lo:=lo+n) (by lia);rwa [show lo+(n+1) - (0+1)=lo+n by lia,show lo+(n+1)=lo+n+1 by lia]
    case dfin=>
     rintro c st2 ⟨g2,q,rfl,hq,d2,u2,o2,p2⟩
     have e:max (n+1) nrem=nrem:=by lia
     rw [e] at d2 u2 hq ⊢;exact ⟨g2,nrem,q,rfl,AQ _,hq,d2,u2,o2,p2⟩
    case dstep=>
     rintro x c st2 hx1 hx2 ⟨g2,q,rfl,hq,d2,u2,o2,p2⟩;dsimp only;refine AJ (KY C g2 (by lia) (by lia) ?_)
     cases hs:lt (ix (AN st2) (lo+x)) (ix (AN st2) (lo+x - 1)) with
     | true=>
      dsimp only;rw [if_pos rfl];have hlt:=O.asym _ _ (g2.mem (show lo+x < _ by lia)) (g2.mem (show lo+x - 1 < _ by lia)) hs
      by_cases hq0:q > 0
      ·rw [if_pos hq0,Iw]
       have hsz:lo+x<=(AN st2).size:=by rw [g2.size];lia
       have g3:Good a₀ κ (setArr st2 (HI (AN st2) (lo+x - (q+1)) (lo+x) ((lo+x - (lo+x - (q+1))) / 2))):=g2.setArr (Pa _ _ _ _);have d3:=Dn.part (lt:=lt) (lo:=lo) hsz (show lo<=lo+x - (q+1) by lia) (by omega) d2 u2;refine AJ (CZ (AK ⟨g3,0,rfl,by lia,?_,?_,o2.trans (HX hsz (by lia) (by lia)),p2⟩))
       ·refine Dn.grow (hi:=lo+x) O g3 (by lia) d3 (by lia) ?_
        show lt (ix (HI (AN st2) (lo+x - (q+1)) (lo+x) ((lo+x - (lo+x - (q+1))) / 2)) (lo+x - 1)) (ix (HI (AN st2) (lo+x - (q+1)) (lo+x) ((lo+x - (lo+x - (q+1))) / 2)) (lo+x))=false;rw [C6 hsz,C6 hsz,if_pos (by omega),if_neg (by lia)];exact O.ntr _ _ _ (g2.mem (by lia)) (g2.mem (show lo+x - 1 < _ by lia)) (g2.mem (by omega)) hlt (d2 _ _ (by lia) (by omega) (by lia))
       ·have:=RN O g3 (lo:=lo+x) (by lia)
        rwa [show lo+(x+1) - (0+1)=lo+x by lia,show lo+(x+1)=lo+x+1 by lia]
      ·rw [if_neg hq0]
       refine AK ⟨g2,0,rfl,by lia,Dn.grow (hi:=lo+x) O g2 (by lia) d2 (by lia) hlt,?_,o2,p2⟩;have:=RN O g2 (lo:=lo+x) (by lia);rwa [show lo+(x+1) - (0+1)=lo+x by lia,show lo+(x+1)=lo+x+1 by lia]
     | false=>
      dsimp only;rw [if_neg AS];refine AJ (KY C g2 (by lia) (by lia) ?_)
      cases hl:lt (ix (AN st2) (lo+x - 1)) (ix (AN st2) (lo+x)) with
      | true=>exact AK ⟨g2,x,q,rfl,by lia,hq,d2,u2,o2,p2⟩
      | false=>
       refine AK ⟨g2,q+1,rfl,by lia,Dn.grow (hi:=lo+x) O g2 (by lia) d2 (by lia) hl,?_,o2,p2⟩;rw [show lo+(x+1) - (q+1+1)=lo+x - (q+1) by lia];exact Up.grow (hi:=lo+x) O g2 (by lia) u2 (by omega) hs
    case dpost=>
     rintro c st2 ⟨g2,m,q,rfl,hm,hq,d2,u2,o2,p2⟩;dsimp only
     have hsz:lo+m<=(AN st2).size:=by rw [g2.size];lia
     have last:∀st3,Good a₀ κ st3->Dn lt (AN st3) lo (lo+m)->Out (AN st') (AN st3) lo (lo+nrem)->AT st3=AT st'->∀(R:StateT A8 Sem (Option Nat)),R=(do
        let mut n:=m
        for _ in [n:nrem] do
         let some smaller <-cU (lo+n) (lo+n - 1) | return none
         if smaller then break
         n:=n+1
        return some n)->wpS (AW prog w) A E s (do Ld lo (lo+m);R) Q st3:=by
      rintro st3 g3 d3 o3 p3 R rfl
      have hsz3:lo+m<=(AN st3).size:=by rw [g3.size];lia
      rw [Iw];refine AJ (CZ ?_);have g4:Good a₀ κ (setArr st3 (HI (AN st3) lo (lo+m) ((lo+m - lo) / 2))):=g3.setArr (Pa _ _ _ _)
      exact XV C O (by lia) hm hn g4 (Dn.flip hsz3 d3) λk k1 k2 k3=>h _ k g4 k1 k2 k3 (o3.trans (HX hsz3 (by lia) (by lia))) p3
     by_cases hq0:q > 0
     ·rw [if_pos hq0,Iw]
      refine AJ (CZ ?_);exact last _ (g2.setArr (Pa _ _ _ _)) (Dn.part hsz (by lia) (by omega) d2 u2) (o2.trans (HX hsz (by lia) (by lia))) p2 _ rfl
     ·rw [if_neg hq0]
      exact last _ g2 d2 o2 p2 _ rfl
   have hlt:=O.asym _ _ (g.mem (show lo+n < _ by lia)) (g.mem (show lo+n - 1 < _ by omega)) hd'
   by_cases hn0:n > 1
   ·rw [if_pos hn0]
    refine AJ (KY C g (by lia) (by omega) ?_)
    cases hr:lt (ix (AN st') lo) (ix (AN st') (lo+n - 1)) with
    | true=>exact AK (h st' n g hn1 hn2 u .refl rfl)
    | false=>
     dsimp only;rw [if_neg AS,Iw]
     have hsz:lo+n<=(AN st').size:=by rw [g.size];lia
     have g1:Good a₀ κ (setArr st' (HI (AN st') lo (lo+n) ((lo+n - lo) / 2))):=g.setArr (Pa _ _ _ _)
     have al:∀i j,lo<=i->i < lo+n->lo<=j->j < lo+n->lt (ix (AN st') i) (ix (AN st') j)=false:=λi j i1 i2 j1 j2=>by
      have q1:=u j (lo+n - 1) (by omega) (by lia) (by omega);have q2:=u lo i (by lia) (by omega) (by omega);exact O.ntr _ _ _ (g.mem (by lia)) (g.mem (show lo < _ by lia)) (g.mem (by lia)) (O.ntr _ _ _ (g.mem (by lia)) (g.mem (show lo+n - 1 < _ by lia)) (g.mem (by lia)) q1 hr) q2
     refine AJ (CZ ?_);refine desc _ g1 ?_ (HX hsz (by lia) (by lia)) rfl;refine Dn.grow (hi:=lo+n) O g1 (by lia) (λi j a1 a2 a3=>?_) (by lia) ?_
     ·show lt (ix (HI (AN st') lo (lo+n) ((lo+n - lo) / 2)) i) (ix (HI (AN st') lo (lo+n) ((lo+n - lo) / 2)) j)=false
      rw [C6 hsz,C6 hsz,if_pos (by lia),if_pos (by lia)];exact al _ _ (by omega) (by omega) (by omega) (by omega)
     ·show lt (ix (HI (AN st') lo (lo+n) ((lo+n - lo) / 2)) (lo+n - 1)) (ix (HI (AN st') lo (lo+n) ((lo+n - lo) / 2)) (lo+n))=false
      rw [C6 hsz,C6 hsz,if_pos (by omega),if_neg (by lia),show lo+(lo+n) - 1 - (lo+n - 1)=lo by omega];exact O.ntr _ _ _ (g.mem (by lia)) (g.mem (show lo+n - 1 < _ by lia)) (g.mem (by lia)) hlt hr
   ·rw [if_neg hn0]
    have e:n=1:=by lia
    subst e;refine desc _ g (Dn.grow (hi:=lo+1) O g (by lia) (λi j a1 a2 a3=>?_) (by lia) hlt) .refl rfl
    have e1:i=lo:=by lia
    have e2:j=lo:=by lia
    rw [e1,e2];exact O.irr (g.mem (by lia))
end
end Srt
namespace Srt
open PySem PyProof.Rows
def eZ:Bool->Af->Array Af->Nat->Nat->Nat->StateT A8 Sem (Option Nat):=sortPriv% PySem.Builtin.gallop
section
variable {prog:Ai} {w:A7} {A:A2} {E:AC->AE->Prop} {s:AE} {a₀:Array Af} {κ:EA} {lt:Af->Af->Bool}
abbrev BS:=Option (Option Nat)×Nat×Nat
theorem ZF {st:A8} {p:Nat->Bool} {n lo hi:Nat} {F:Nat->BS->StateT A8 Sem (ForInStep BS)} {T:BS->StateT A8 Sem (Option Nat)} {Q:Option Nat->A8->Prop} (hlh:lo<=hi) (hhn:hi<=n)
  (hlo:∀i,i < lo->p i=true) (hhi:∀i,hi<=i->i < n->p i=false) (mono:∀i j,i<=j->j < n->p j=true->p i=true)
  (hF:∀x l h (R:ForInStep BS->A8->Prop),l<=h->h<=n->(l ≥ h->R (.done (none,l,h)) st)->(l < h->p (l+(h - l) / 2)=true->R (.yield (none,l+(h - l) / 2+1,h)) st)->(l < h->p (l+(h - l) / 2)=false->R (.yield (none,l,l+(h - l) / 2)) st) ->
   wpS (AW prog w) A E s (F x (none,l,h)) R st)
  (hT:∀l h,h<=n->(∀i,i < h->p i=true)->(∀i,h<=i->i < n->p i=false)->wpS (AW prog w) A E s (T (none,l,h)) Q st):wpS (AW prog w) A E s (forIn [0:n] (none,lo,hi) F >>= T) Q st:=by
 refine AJ (CV (Bb (I:=λx c st'=>st'=st/\∃l h,c=(none,l,h)/\l<=h/\h<=n/\h - l<=n - x/\(∀i,i < l->p i=true)/\(∀i,h<=i->i < n->p i=false))
  (Q:=λc st'=>st'=st/\∃l h,c=(none,l,h)/\h<=n/\(∀i,i < h->p i=true)/\(∀i,h<=i->i < n->p i=false)) ?step ?fin ⟨rfl,lo,hi,rfl,hlh,hhn,by lia,hlo,hhi⟩) ?post)
 case fin=>
  rintro c st' ⟨rfl,l,h,rfl,h1,h2,h3,h4,h5⟩
  have:l=h:=by lia
  subst this;exact ⟨rfl,l,l,rfl,h2,h4,h5⟩
 case step=>
  rintro x c st' _ hx ⟨rfl,l,h,rfl,h1,h2,h3,h4,h5⟩
  refine hF x l h _ h1 h2 (λhge=>?_) (λhlt hp=>?_) λhlt hp=>?_
  ·have:l=h:=by lia
   subst this;exact ⟨rfl,l,l,rfl,h2,h4,h5⟩
  ·exact ⟨rfl,_,_,rfl,by lia,h2,by omega,λi hi=>mono i (l+(h - l) / 2) (by lia) (by lia) hp,h5⟩
  ·refine ⟨rfl,_,_,rfl,by lia,by lia,by omega,h4,λi hi1 hi2=>?_⟩
   cases e:p i with
   | false=>rfl
   | true=>rw [mono _ i hi1 hi2 e] at hp;cases hp
 case post=>
  rintro c st' ⟨rfl,l,h,rfl,h2,h4,h5⟩;exact hT l h h2 h4 h5
theorem Sw {st:A8} {q:Nat->Bool} {n mx:Nat} {F:Nat->BS->StateT A8 Sem (ForInStep BS)} {T:BS->StateT A8 Sem (Option Nat)} {Q:Option Nat->A8->Prop} (hm:mx<=n) (q0:q 0=true)
  (hF:∀x a b (R:ForInStep BS->A8->Prop),a < b->(b ≥ mx->R (.done (none,a,b)) st)->(b < mx->q b=false->R (.done (none,a,b)) st)->(b < mx->q b=true->R (.yield (none,b,2 * b+1)) st)->wpS (AW prog w) A E s (F x (none,a,b)) R st)
  (hT:∀a b,a < b->q a=true->(a=0∨a < mx)->(b < mx->q b=false)->wpS (AW prog w) A E s (T (none,a,b)) Q st):wpS (AW prog w) A E s (forIn [0:n] (none,0,1) F >>= T) Q st:=by
 refine AJ (CV (Bb (I:=λx c st'=>st'=st/\∃a b,c=(none,a,b)/\a < b/\x+1<=b/\q a=true/\(a=0∨a < mx))
  (Q:=λc st'=>st'=st/\∃a b,c=(none,a,b)/\a < b/\q a=true/\(a=0∨a < mx)/\(b < mx->q b=false)) ?step ?fin ⟨rfl,0,1,rfl,by lia,by lia,q0,.inl rfl⟩) ?post)
 case fin=>
  rintro c st' ⟨rfl,a,b,rfl,h1,h2,h3,h4⟩;exact ⟨rfl,a,b,rfl,h1,h3,h4,λh=>by lia⟩
 case step=>
  rintro x c st' _ hx ⟨rfl,a,b,rfl,h1,h2,h3,h4⟩
  refine hF x a b _ h1 (λhge=>?_) (λhlt hp=>?_) λhlt hp=>?_
  ·exact ⟨rfl,a,b,rfl,h1,h3,h4,λh=>by lia⟩
  ·exact ⟨rfl,a,b,rfl,h1,h3,h4,λ_=>hp⟩
  ·exact ⟨rfl,b,2 * b+1,rfl,by lia,by lia,hp,.inr hlt⟩
 case post=>
  rintro c st' ⟨rfl,a,b,rfl,h1,h3,h4,h5⟩;exact hT a b h1 h3 h4 h5
theorem Dd {st:A8} {left:Bool} {key:Af} {arr:Array Af} {base n hint:Nat} {Q:Option Nat->A8->Prop} (C:Hr prog w A s a₀ κ lt) (g:Good a₀ κ st) (p:Nat->Bool)
  (hkey:key∈a₀) (harr:∀i,i < n->base+i < arr.size/\ix arr (base+i)∈a₀) (hp:∀i,i < n->p i=if left=true then lt (ix arr (base+i)) key else !lt key (ix arr (base+i)))
  (mono:∀i j,i<=j->j < n->p j=true->p i=true) (hh:hint < n)
  (h:∀k,k<=n->(∀i,i < k->p i=true)->(∀i,k<=i->i < n->p i=false)->Q (some k) st):wpS (AW prog w) A E s (eZ left key arr base n hint) Q st:=by
 have bey:∀i,i < n->∀R:Option Bool->A8->Prop,R (some (p i)) st->wpS (AW prog w) A E s (do let x <-elem' arr (base+i);if left=true then lt' x key else do let y <-lt' key x;pure (y.map (!·))) R st:=by
  intro i hi R hR;obtain ⟨h1,h2⟩:=harr i hi;rw [XO,CW h1];refine AJ (AK ?_);rw [hp i hi] at hR
  cases left with
  | true=>exact MA C g h2 hkey hR
  | false=>exact AJ (MA C g hkey h2 (AK hR))
 refine (AJ ?_:wpS _ _ _ _ (eZ left key arr base n hint) Q st);refine bey hint hh _ ?_
 have fin:∀(lo hi:Nat) {F:Nat->BS->StateT A8 Sem (ForInStep BS)} {T:BS->StateT A8 Sem (Option Nat)},lo<=hi->hi<=n->(∀i,i < lo->p i=true)->(∀i,hi<=i->i < n->p i=false) ->
   (∀x l h' (R:ForInStep BS->A8->Prop),l<=h'->h'<=n->(l ≥ h'->R (.done (none,l,h')) st)->(l < h'->p (l+(h' - l) / 2)=true->R (.yield (none,l+(h' - l) / 2+1,h')) st)->(l < h'->p (l+(h' - l) / 2)=false->R (.yield (none,l,l+(h' - l) / 2)) st) ->
    wpS (AW prog w) A E s (F x (none,l,h')) R st)->(∀l h',T (none,l,h')=pure (some h'))->wpS (AW prog w) A E s (forIn [0:n] (none,lo,hi) F >>= T) Q st:=λlo hi F T h1 h2 h3 h4 hF hT=>
  ZF h1 h2 h3 h4 mono hF λl h' q1 q2 q3=>by rw [hT];exact AK (h h' q1 q2 q3)
 cases hq:p hint with
 | true=>
  dsimp only;rw [if_pos rfl]
  refine Sw (q:=λi=>decide (hint+i < n)&&p (hint+i)) (mx:=n - hint) (by lia) (by simp [hq,hh]) (λx a b R hab r1 r2 r3=>?_) λa b hab qa ha hb=>?_
  ·dsimp only
   by_cases hge:b ≥ n - hint
   ·rw [if_pos hge];exact AK (r1 hge)
   ·rw [if_neg hge]
    refine AJ (bey (hint+b) (by lia) _ ?_);have hd:decide (hint+b < n)=true:=decide_eq_true (by lia)
    cases e:p (hint+b) with
    | true=>exact AK (r3 (by lia) (by simp [hd,e]))
    | false=>exact AK (r2 (by lia) (by simp [hd,e]))
  ·dsimp only
   have pa:p (hint+a)=true:=by simp at qa;exact qa.2
   have han:hint+a < n:=by simp at qa;exact qa.1
   refine fin (hint+a+1) (hint+min b (n - hint)) (by omega) (by omega) (λi hi=>mono i (hint+a) (by lia) han pa) (λi h1 h2=>?_) (λx l h' R l1 l2 r1 r2 r3=>?_) λl h'=>rfl
   ·by_cases hbm:b < n - hint
    ·have:=hb hbm
     have hd:decide (hint+b < n)=true:=decide_eq_true (by lia);rw [hd,Zu] at this
     cases e:p i with
     | false=>rfl
     | true=>rw [mono (hint+b) i (by lia) h2 e] at this;cases this
    ·omega
   ·dsimp only
    by_cases hge:l ≥ h'
    ·rw [if_pos hge];exact AK (r1 hge)
    ·rw [if_neg hge]
     refine AJ (bey (l+(h' - l) / 2) (by lia) _ ?_)
     cases e:p (l+(h' - l) / 2) with
     | true=>exact AK (r2 (by lia) e)
     | false=>exact AK (r3 (by lia) e)
 | false=>
  dsimp only;rw [if_neg AS]
  refine Sw (q:=λi=>decide (i<=hint)&&!p (hint - i)) (mx:=hint+1) (by lia) (by simp [hq]) (λx a b R hab r1 r2 r3=>?_) λa b hab qa ha hb=>?_
  ·dsimp only
   by_cases hge:b ≥ hint+1
   ·rw [if_pos hge];exact AK (r1 hge)
   ·rw [if_neg hge]
    refine AJ (bey (hint - b) (by omega) _ ?_);have hd:decide (b<=hint)=true:=decide_eq_true (by lia)
    cases e:p (hint - b) with
    | true=>exact AK (r2 (by lia) (by simp [hd,e]))
    | false=>exact AK (r3 (by lia) (by simp [hd,e]))
  ·dsimp only
   have pa:p (hint - a)=false:=by simp at qa;exact qa.2
   have han:a<=hint:=by simp at qa;exact qa.1
   refine fin (hint+1 - min b (hint+1)) (hint - a) (by omega) (by omega) (λi hi=>?_) (λi h1 h2=>?_) (λx l h' R l1 l2 r1 r2 r3=>?_) λl h'=>rfl
   ·by_cases hbm:b < hint+1
    ·have:=hb hbm
     have hd:decide (b<=hint)=true:=decide_eq_true (by lia);rw [hd,Zu] at this;exact mono i (hint - b) (by omega) (by lia) (by simpa using this)
    ·omega
   ·cases e:p i with
    | false=>rfl
    | true=>rw [mono (hint - a) i h1 h2 e] at pa;cases pa
   ·dsimp only
    by_cases hge:l ≥ h'
    ·rw [if_pos hge];exact AK (r1 hge)
    ·rw [if_neg hge]
     refine AJ (bey (l+(h' - l) / 2) (by lia) _ ?_)
     cases e:p (l+(h' - l) / 2) with
     | true=>exact AK (r2 (by lia) e)
     | false=>exact AK (r3 (by lia) e)
end
end Srt
namespace Srt
open PySem PyProof.Rows
structure MI (R:Af->Af->Prop) (T o ra rb:List Af):Prop where
 perm:(o++(ra++rb)).Perm T
 srt:o.Pairwise R
 low:∀x∈o,∀y∈ra++rb,R x y
 sa:ra.Pairwise R
 sb:rb.Pairwise R
structure FZ (R:Af->Af->Prop) (T r:List Af):Prop where
 perm:r.Perm T
 srt:r.Pairwise R
section
variable {R:Af->Af->Prop} {T o ra rb xs:List Af}
theorem MI.takeA (m:MI R T o (xs++ra) rb) (h:∀x∈xs,∀y∈rb,R x y):MI R T (o++xs) ra rb:=by
 have sa:=BI.mp m.sa;refine ⟨by simpa [At] using m.perm,BI.mpr ⟨m.srt,sa.1,λx hx y hy=>m.low x hx y (by simp [hy])⟩,λx hx y hy=>?_,sa.2.1,m.sb⟩
 rcases Au.mp hx with hx | hx
 ·exact m.low x hx y (by rcases Au.mp hy with h | h <;> simp [h])
 ·rcases Au.mp hy with hy | hy
  ·exact sa.2.2 x hx y hy
  ·exact h x hx y hy
theorem MI.takeB (m:MI R T o ra (xs++rb)) (h:∀x∈xs,∀y∈ra,R x y):MI R T (o++xs) ra rb:=by
 have sb:=BI.mp m.sb;refine ⟨?_,BI.mpr ⟨m.srt,sb.1,λx hx y hy=>m.low x hx y (by simp [hy])⟩,λx hx y hy=>?_,m.sa,sb.2.1⟩
 ·refine List.Perm.trans ?_ m.perm
  rw [At];refine HK o ?_;rw [<-At,<-At];exact NS rb RF
 ·rcases Au.mp hx with hx | hx
  ·exact m.low x hx y (by rcases Au.mp hy with h | h <;> simp [h])
  ·rcases Au.mp hy with hy | hy
   ·exact h x hx y hy
   ·exact sb.2.2 x hx y hy
theorem MI.endA (m:MI R T o ra []):FZ R T (o++ra):=by
 refine ⟨by simpa using m.perm,BI.mpr ⟨m.srt,m.sa,λx hx y hy=>m.low x hx y (by simp [hy])⟩⟩
theorem MI.endB (m:MI R T o [] rb):FZ R T (o++rb):=by
 refine ⟨by simpa using m.perm,BI.mpr ⟨m.srt,m.sb,λx hx y hy=>m.low x hx y (by simp [hy])⟩⟩
theorem MI.last (m:MI R T o ra rb) (h:∀y∈rb,∀x∈ra,R y x):FZ R T (o++(rb++ra)):=by
 refine ⟨(HK o RF).trans m.perm,BI.mpr ⟨m.srt,BI.mpr ⟨m.sb,m.sa,h⟩,λx hx y hy=>m.low x hx y (by rcases Au.mp hy with h | h <;> simp [h])⟩⟩
end
theorem Lr {a:Array Af} {i:Nat} (h:i < a.size):a.toList.drop i=ix a i :: a.toList.drop (i+1):=by
 rw [Gy (by simpa using h)]
 congr 1
 have:=CW h;rw [getElem?_pos a i h] at this;simpa using this
theorem GB {a:Array Af} {i k:Nat} (h:i+k<=a.size):a.toList.drop i=(a.extract i (i+k)).toList++a.toList.drop (i+k):=by
 have e:(a.extract i (i+k)).toList=(a.toList.drop i).take k:=by simp [K7]
 rw [e,<-Nt,DW]
theorem Ll {a:Array Af} {i k:Nat} (h:i+k<=a.size) {x:Af} (hx:x∈(a.extract i (i+k)).toList):∃j,j < k/\x=ix a (i+j):=by
 rw [BD,Lh] at hx;obtain ⟨j,hj,rfl⟩:=hx;refine ⟨j,by lia,?_⟩;have:=CW (xs:=a) (i:=i+j) (by lia);rw [getElem?_pos a _ (by lia)] at this;simpa using this
theorem Hc (a:Array Af) (i:Nat):(a.extract i a.size).toList=a.toList.drop i:=by
 simp [K7];exact By (by simp)
theorem EG {a:Array Af} {i:Nat} {x:Af} (hx:x∈a.toList.drop i):∃j,i<=j/\j < a.size/\x=ix a j:=by
 obtain ⟨k,hk,rfl⟩:=SL.mp hx;simp at hk;refine ⟨i+k,by lia,by omega,?_⟩;have:=CW (xs:=a) (i:=i+k) (by omega);rw [getElem?_pos a _ (by omega)] at this;simpa using this
section
variable {prog:Ai} {w:A7} {A:A2} {E:AC->AE->Prop} {s:AE} {a₀:Array Af} {κ:EA} {lt:Af->Af->Bool}
theorem BL {st:A8} {a:Array Af} {i:Nat} {Q:Af->A8->Prop} (h:i < a.size) (hq:Q (ix a i) st):wpS (AW prog w) A E s (elem' a i) Q st:=by
 rw [XO,CW h];exact AK hq
def mLo:Array Af->Array Af->StateT A8 Sem (Array Af):=sortPriv% PySem.Builtin.mergeLo
def mHi:Array Af->Array Af->StateT A8 Sem (Array Af):=sortPriv% PySem.Builtin.mergeHi
structure Hw (a₀:Array Af) (κ:EA) (st st':A8):Prop where
 good:Good a₀ κ st'
 arr:AN st'=AN st
 pend:AT st'=AT st
theorem Hw.gal {st st':A8} (h:Hw a₀ κ st st') (n:Nat):Hw a₀ κ st (Ex (kindOf st') (AN st') (AT st') n (GP st')):=⟨⟨h.good.perm,h.good.kind,h.good.failed⟩,h.arr,h.pend⟩
abbrev Rl (lt:Af->Af->Bool) (x y:Af):Prop:=lt y x=false
theorem Px (O:Ord (·∈a₀) lt) {a:Array Af} (ma:∀i,i < a.size->ix a i∈a₀) (sa:a.toList.Pairwise (Rl lt)):∀i j,i<=j->j < a.size->Rl lt (ix a i) (ix a j):=λi j hij hj=>by
 by_cases e:i=j
 ·subst e;exact O.irr (ma i hj)
 ·have hd:=Lr (a:=a) (i:=i) (by lia)
  have:=sa.sublist (List.drop_sublist i a.toList);rw [hd] at this;refine (List.pairwise_cons.mp this).1 _ ?_;rw [show a.toList.drop (i+1)=(a.extract (i+1) (i+1+(j - (i+1)))).toList++a.toList.drop (i+1+(j - (i+1))) from GB (by lia),show i+1+(j - (i+1))=j by lia,Lr hj];simp
theorem O3 {a:Array Af} (ma:∀x∈a.toList,x∈a₀):∀i,i < a.size->ix a i∈a₀:=λi hi=>ma _ (BD.mpr (B9 (CW hi)))
theorem Li {st:A8} {n:Nat} {Q:Unit->A8->Prop} (h:Q () (Ex (kindOf st) (AN st) (AT st) n (GP st))):wpS (AW prog w) A E s ((sortPriv% PySem.Builtin.setMinGallop) n) Q st:=CZ h
abbrev L7:=Option (Array Af)×Array Af×Nat×Nat×Nat×Nat×Nat
theorem XT {st:A8} {a b:Array Af} {Q:Array Af->A8->Prop} (C:Hr prog w A s a₀ κ lt) (O:Ord (·∈a₀) lt) (g:Good a₀ κ st)
  (ma:∀x∈a.toList,x∈a₀) (mb:∀x∈b.toList,x∈a₀) (sa:a.toList.Pairwise (Rl lt)) (sb:b.toList.Pairwise (Rl lt)) (na:0 < a.size) (nb:0 < b.size)
  (h0:∀x∈a.toList,Rl lt (ix b 0) x) (h1:∀y∈b.toList,Rl lt y (ix a (a.size - 1)))
  (h:∀r st',Hw a₀ κ st st'->FZ (Rl lt) (a.toList++b.toList) r.toList->Q r st'):wpS (AW prog w) A E s (mLo a b) Q st:=by
 have ia0:=O3 ma;have ib0:=O3 mb;have ua:=Px O ia0 sa;have ub:=Px O ib0 sb
 have tr:∀x y z:Af,x∈a₀->y∈a₀->z∈a₀->Rl lt x y->Rl lt y z->Rl lt x z:=λx y z hx hy hz h1 h2=>O.ntr x y z hx hy hz h1 h2
 let M (out:Array Af) (ia ib:Nat):Prop:=MI (Rl lt) (a.toList++b.toList) out.toList (a.toList.drop ia) (b.toList.drop ib)
 have tA:∀out ia ib,M out ia ib->ia < a.size->(∀j,ib<=j->j < b.size->Rl lt (ix a ia) (ix b j))->M (out.push (ix a ia)) (ia+1) ib:=λout ia ib m hia hr=>by
  have m':MI (Rl lt) (a.toList++b.toList) out.toList ([ix a ia]++a.toList.drop (ia+1)) (b.toList.drop ib):=by rw [Cj,<-Lr hia];exact m
  have:=m'.takeA λx hx y hy=>by
   obtain ⟨j,j1,j2,rfl⟩:=EG hy;rw [Ab.mp hx];exact hr j j1 j2
  simpa [M] using this
 have tB:∀out ia ib,M out ia ib->ib < b.size->(∀j,ia<=j->j < a.size->Rl lt (ix b ib) (ix a j))->M (out.push (ix b ib)) ia (ib+1):=λout ia ib m hib hr=>by
  have m':MI (Rl lt) (a.toList++b.toList) out.toList (a.toList.drop ia) ([ix b ib]++b.toList.drop (ib+1)):=by rw [Cj,<-Lr hib];exact m
  have:=m'.takeB λx hx y hy=>by
   obtain ⟨j,j1,j2,rfl⟩:=EG hy;rw [Ab.mp hx];exact hr j j1 j2
  simpa [M] using this
 have sA:∀out ia ib k,M out ia ib->ia+k<=a.size->(∀i j,i < k->ib<=j->j < b.size->Rl lt (ix a (ia+i)) (ix b j))->M (out++a.extract ia (ia+k)) (ia+k) ib:=λout ia ib k m hk hr=>by
  have m':MI (Rl lt) (a.toList++b.toList) out.toList ((a.extract ia (ia+k)).toList++a.toList.drop (ia+k)) (b.toList.drop ib):=by rw [<-GB hk];exact m
  have:=m'.takeA λx hx y hy=>by
   obtain ⟨j,j1,j2,rfl⟩:=EG hy;obtain ⟨i,i1,rfl⟩:=Ll hk hx;exact hr i j i1 j1 j2
  show MI _ _ (out++a.extract ia (ia+k)).toList _ _;rw [A4];exact this
 have sB:∀out ia ib k,M out ia ib->ib+k<=b.size->(∀i j,i < k->ia<=j->j < a.size->Rl lt (ix b (ib+i)) (ix a j))->M (out++b.extract ib (ib+k)) ia (ib+k):=λout ia ib k m hk hr=>by
  have m':MI (Rl lt) (a.toList++b.toList) out.toList (a.toList.drop ia) ((b.extract ib (ib+k)).toList++b.toList.drop (ib+k)):=by rw [<-GB hk];exact m
  have:=m'.takeB λx hx y hy=>by
   obtain ⟨j,j1,j2,rfl⟩:=EG hy;obtain ⟨i,i1,rfl⟩:=Ll hk hx;exact hr i j i1 j1 j2
  show MI _ _ (out++b.extract ib (ib+k)).toList _ _;rw [A4];exact this
 have eB:∀out ia ib,M out ia ib->ib=b.size->FZ (Rl lt) (a.toList++b.toList) (out++a.extract ia a.size++b.extract ib b.size).toList:=λout ia ib m e=>by
  subst e
  have m':MI (Rl lt) (a.toList++b.toList) out.toList (a.toList.drop ia) []:=by
   have:b.toList.drop b.size=[]:=by simp
   rw [<-this];exact m
  rw [A4,A4,Hc,Hc,show b.toList.drop b.size=[] by simp,Ax];exact m'.endA
 have eA:∀out ia ib,M out ia ib->ia=a.size->FZ (Rl lt) (a.toList++b.toList) (out++a.extract ia a.size++b.extract ib b.size).toList:=λout ia ib m e=>by
  subst e
  have m':MI (Rl lt) (a.toList++b.toList) out.toList [] (b.toList.drop ib):=by
   have:a.toList.drop a.size=[]:=by simp
   rw [<-this];exact m
  rw [A4,A4,Hc,Hc,show a.toList.drop a.size=[] by simp,Ax];exact m'.endB
 have eL:∀out ia ib,M out ia ib->ia+1=a.size->FZ (Rl lt) (a.toList++b.toList) (out++b.extract ib b.size++a.extract ia a.size).toList:=λout ia ib m e=>by
  have:=m.last λy hy x hx=>by
   obtain ⟨j,j1,j2,rfl⟩:=EG hx;obtain ⟨i,i1,i2,rfl⟩:=EG hy
   have:j=a.size - 1:=by lia
   subst this;exact h1 _ (BD.mpr (B9 (CW i2)))
  rw [A4,A4,Hc,Hc,At];exact this
 have m0:M #[] 0 0:=⟨by simp,by simp,by simp,by simpa using sa,by simpa using sb⟩
 have m1:M #[ix b 0] 0 1:=by
  have:=tB #[] 0 0 m0 nb λj _ hj=>h0 _ (BD.mpr (B9 (CW hj)))
  simpa using this
 refine (AJ (G5 ?_):wpS _ _ _ _ (mLo a b) Q st);refine AJ (BL nb ?_)
 by_cases c1:1=b.size
 ·refine (show wpS (AW prog w) A E s (if (1==b.size)=true then _ else _) Q st from ?_)
  rw [if_pos (by simpa using c1)];exact AK (h _ st ⟨g,rfl,rfl⟩ (eB _ _ _ m1 c1))
 refine (show wpS (AW prog w) A E s (if (1==b.size)=true then _ else _) Q st from ?_);rw [if_neg (by simpa using c1)]
 by_cases c2:0+1=a.size
 ·rw [if_pos (by simpa using c2)]
  exact AK (h _ st ⟨g,rfl,rfl⟩ (eL _ _ _ m1 c2))
 rw [if_neg (by simpa using c2)];refine AJ (FA ?_)
 refine AJ (CV (Bb (I:=λx c st'=>Hw a₀ κ st st'/\∃out ia ib mg,c=(none,out,ia,ib,mg)/\M out ia ib/\ia+1 < a.size/\ib < b.size/\1+x<=ia+ib)
  (Q:=λc st'=>Hw a₀ κ st st'/\∃r z,c=(some r,z)/\FZ (Rl lt) (a.toList++b.toList) r.toList) ?step ?fin ?init) ?post)
 case init=>exact ⟨⟨g,rfl,rfl⟩,_,_,_,_,rfl,m1,by lia,by lia,by lia⟩
 case fin=>
  rintro c st' ⟨_,out,ia,ib,mg,_,_,k1,k2,k3⟩
  lia
 case post=>
  rintro c st' ⟨s1,r,z,rfl,f⟩;exact AK (h r st' s1 f)
 case step=>
  rintro x c st1 _ _ ⟨s1,out,ia,ib,mg,rfl,m,k1,k2,k3⟩
  refine AJ (CV (Bb (I:=λy c st'=>st'=st1/\∃out' ia' ib' ac bc,c=(none,out',ia',ib',ac,bc)/\M out' ia' ib'/\ia'+1 < a.size/\ib' < b.size/\ia+ib+y<=ia'+ib')
   (Q:=λc st'=>st'=st1/\((∃r z,c=(some r,z)/\FZ (Rl lt) (a.toList++b.toList) r.toList)∨∃out' ia' ib' ac bc,c=(none,out',ia',ib',ac,bc)/\M out' ia' ib'/\ia'+1 < a.size/\ib' < b.size/\ia+ib+1<=ia'+ib')) ?step1 ?fin1 ?init1) ?post1)
  case init1=>exact ⟨rfl,out,ia,ib,0,0,rfl,m,k1,k2,by lia⟩
  case fin1=>
   rintro c st' ⟨rfl,out',ia',ib',ac,bc,rfl,m',q1,q2,q3⟩;exact ⟨rfl,.inr ⟨out',ia',ib',ac,bc,rfl,m',q1,q2,by lia⟩⟩
  case step1=>
   rintro y c st' _ _ ⟨rfl,out',ia',ib',ac,bc,rfl,m',q1,q2,q3⟩;refine AJ (BL (i:=ib') q2 ?_);refine AJ (BL (i:=ia') (show ia' < a.size by lia) ?_);refine AJ (MA C s1.good (ib0 _ q2) (ia0 _ (by lia)) ?_)
   cases e:lt (ix b ib') (ix a ia') with
   | true=>
    refine AJ (BL q2 ?_);have r0:Rl lt (ix b ib') (ix a ia'):=O.asym _ _ (ib0 _ q2) (ia0 _ (by lia)) e
    have m2:=tB out' ia' ib' m' q2 λj j1 j2=>tr _ _ _ (ib0 _ q2) (ia0 _ (by lia)) (ia0 _ j2) r0 (ua ia' j j1 j2)
    refine (show wpS (AW prog w) A E s (if (ib'+1==b.size)=true then _ else _) _ st' from ?_)
    by_cases d:ib'+1=b.size
    ·rw [if_pos (by simpa using d)]
     exact AK ⟨rfl,.inl ⟨_,_,rfl,eB _ _ _ m2 d⟩⟩
    ·rw [if_neg (by simpa using d)]
     split
     ·exact AK ⟨rfl,.inr ⟨_,ia',ib'+1,_,_,rfl,m2,by omega,by lia,by lia⟩⟩
     ·exact AK ⟨rfl,_,ia',ib'+1,_,_,rfl,m2,by omega,by lia,by lia⟩
   | false=>
    refine AJ (BL (show ia' < a.size by lia) ?_)
    have m2:=tA out' ia' ib' m' (by lia) λj j1 j2=>tr _ _ _ (ia0 _ (by lia)) (ib0 _ q2) (ib0 _ j2) e (ub ib' j j1 j2)
    refine (show wpS (AW prog w) A E s (if (ia'+1+1==a.size)=true then _ else _) _ st' from ?_)
    by_cases d:ia'+1+1=a.size
    ·rw [if_pos (by simpa using d)]
     exact AK ⟨rfl,.inl ⟨_,_,rfl,eL _ _ _ m2 d⟩⟩
    ·rw [if_neg (by simpa using d)]
     split
     ·exact AK ⟨rfl,.inr ⟨_,ia'+1,ib',_,_,rfl,m2,by lia,by omega,by lia⟩⟩
     ·exact AK ⟨rfl,_,ia'+1,ib',_,_,rfl,m2,by lia,by omega,by lia⟩
  case post1=>
   rintro c st' ⟨rfl,⟨r,z,rfl,f⟩ | ⟨out',ia',ib',ac,bc,rfl,m',q1,q2,q3⟩⟩
   ·exact AK ⟨s1,_,_,rfl,f⟩
   refine AJ (G5 ?_)
   refine AJ (CV (Bb (I:=λy c st2=>Hw a₀ κ st st2/\∃out2 ia2 ib2 mg2 ac bc,c=(none,out2,ia2,ib2,mg2,ac,bc)/\M out2 ia2 ib2/\ia2+1 < a.size/\ib2 < b.size/\ia+ib+1<=ia2+ib2)
    (Q:=λc st2=>Hw a₀ κ st st2/\((∃r z,c=(some r,z)/\FZ (Rl lt) (a.toList++b.toList) r.toList)∨∃out2 ia2 ib2 mg2 ac bc,c=(none,out2,ia2,ib2,mg2,ac,bc)/\M out2 ia2 ib2/\ia2+1 < a.size/\ib2 < b.size/\ia+ib+1<=ia2+ib2)) ?step2 ?fin2 ?init2) ?post2)
   case init2=>exact ⟨s1,out',ia',ib',mg+1,ac,bc,rfl,m',q1,q2,q3⟩
   case fin2=>
    rintro c st2 ⟨s2,out2,ia2,ib2,mg2,ac2,bc2,rfl,m2,p1,p2,p3⟩;exact ⟨s2,.inr ⟨out2,ia2,ib2,mg2,ac2,bc2,rfl,m2,p1,p2,p3⟩⟩
   case post2=>
    rintro c st2 ⟨s2,⟨r,z,rfl,f⟩ | ⟨out2,ia2,ib2,mg2,ac2,bc2,rfl,m2,p1,p2,p3⟩⟩
    ·exact AK ⟨s2,_,_,rfl,f⟩
    ·exact AJ (Li (AK ⟨s2.gal _,out2,ia2,ib2,mg2+1,rfl,m2,p1,p2,by lia⟩))
   case step2=>
    rintro y c st2 _ _ ⟨s2,out2,ia2,ib2,mg2,ac2,bc2,rfl,m2,p1,p2,p3⟩
    let P:ForInStep L7->A8->Prop:=λr st'=>match r with
     | .done c'=>Hw a₀ κ st st'/\((∃r z,c'=(some r,z)/\FZ (Rl lt) (a.toList++b.toList) r.toList)∨∃out2 ia2 ib2 mg2 ac bc,c'=(none,out2,ia2,ib2,mg2,ac,bc)/\M out2 ia2 ib2/\ia2+1 < a.size/\ib2 < b.size/\ia+ib+1<=ia2+ib2)
     | .yield c'=>Hw a₀ κ st st'/\∃out2 ia2 ib2 mg2 ac bc,c'=(none,out2,ia2,ib2,mg2,ac,bc)/\M out2 ia2 ib2/\ia2+1 < a.size/\ib2 < b.size/\ia+ib+1<=ia2+ib2
    refine CV (Q:=P) ?_ λr st' h=>by cases r <;> exact h
    refine (show wpS (AW prog w) A E s (if mg2 > 1 then _ else _) P st2 from ?_);split
    all_goals
     refine AJ (Li ?_);refine AJ (BL (i:=ib2) p2 ?_);refine AJ (Dd (base:=ia2) (n:=a.size - ia2) (hint:=0) (arr:=a) (key:=ix b ib2) (left:=false) C (s2.gal _).good (λi=>!lt (ix b ib2) (ix a (ia2+i))) (ib0 _ p2) (λi hi=>⟨by lia,ia0 _ (by lia)⟩) (λi hi=>rfl) (λi j hij hj e=>?_) (by lia) λk hk k1 k2=>?_)
     ·have e':lt (ix b ib2) (ix a (ia2+j))=false:=by simpa using e
      have:=tr _ _ _ (ia0 _ (by lia)) (ia0 _ (by lia)) (ib0 _ p2) (ua (ia2+i) (ia2+j) (by lia) (by lia)) e';simpa using this
     ·have far:∀j,ia2+k<=j->j < a.size->Rl lt (ix b ib2) (ix a j):=λj j1 j2=>by
       have:=k2 (j - ia2) (by lia) (by lia);rw [show ia2+(j - ia2)=j by lia] at this;exact O.asym _ _ (ib0 _ p2) (ia0 _ j2) (by simpa using this)
      have m5:=sA out2 ia2 ib2 k m2 (by lia) λi j hi j1 j2=>tr _ _ _ (ia0 _ (by lia)) (ib0 _ p2) (ib0 _ j2) (by simpa using k1 i hi) (ub ib2 j j1 j2)
      refine (show wpS (AW prog w) A E s (if k > 0 then _ else _) P _ from ?_)
      by_cases hk0:k > 0
      ·rw [if_pos hk0]
       refine (show wpS (AW prog w) A E s (if (ia2+k+1==a.size)=true then _ else _) P _ from ?_)
       by_cases d1:ia2+k+1=a.size
       ·rw [if_pos (by simpa using d1)]
        exact AK ⟨s2.gal _,.inl ⟨_,_,rfl,eL _ _ _ m5 d1⟩⟩
       rw [if_neg (by simpa using d1)]
       by_cases d2:ia2+k=a.size
       ·rw [if_pos (by simpa using d2)]
        exact AK ⟨s2.gal _,.inl ⟨_,_,rfl,eA _ _ _ m5 d2⟩⟩
       rw [if_neg (by simpa using d2)]
       have c1:ia2+k+1 < a.size:=by lia
       have c3:ia+ib+1<=ia2+k+ib2:=by lia
       have m4:=tB _ _ _ m5 p2 far;refine AJ (BL (i:=ib2) p2 ?_);refine (show wpS (AW prog w) A E s (if (ib2+1==b.size)=true then _ else _) P _ from ?_)
       by_cases d:ib2+1=b.size
       ·rw [if_pos (by simpa using d)]
        exact AK ⟨s2.gal _,.inl ⟨_,_,rfl,eB _ _ _ m4 d⟩⟩
       rw [if_neg (by simpa using d)];refine AJ (BL (i:=ia2+k) (by lia) ?_);refine AJ (Dd (base:=ib2+1) (n:=b.size - (ib2+1)) (hint:=0) (arr:=b) (key:=ix a (ia2+k)) (left:=true) C (s2.gal _).good (λi=>lt (ix b (ib2+1+i)) (ix a (ia2+k))) (ia0 _ (by lia)) (λi hi=>⟨by lia,ib0 _ (by lia)⟩) (λi hi=>rfl) (λi j hij hj e=>?_) (by lia) λk3 hk3 k4 k5=>?_)
       ·cases e2:lt (ix b (ib2+1+i)) (ix a (ia2+k)) with
        | true=>rfl
        | false=>
         have:=tr _ _ _ (ia0 _ (by lia)) (ib0 _ (by lia)) (ib0 _ (by lia)) e2 (ub (ib2+1+i) (ib2+1+j) (by lia) (by lia));exact nomatch (show true=false from (show lt (ix b (ib2+1+j)) (ix a (ia2+k))=true from e).symm.trans this)
       ·have far2:∀j,ib2+1+k3<=j->j < b.size->Rl lt (ix a (ia2+k)) (ix b j):=λj j1 j2=>by
         have:=k5 (j - (ib2+1)) (by lia) (by omega);rwa [show ib2+1+(j - (ib2+1))=j by lia] at this
        have m6:=sB _ (ia2+k) (ib2+1) k3 m4 (by lia) λi j hi j1 j2=>tr _ _ _ (ib0 _ (by lia)) (ia0 _ (by lia)) (ia0 _ j2) (O.asym _ _ (ib0 _ (by lia)) (ia0 _ (by lia)) (k4 i hi)) (ua (ia2+k) j j1 j2)
        refine (show wpS (AW prog w) A E s (if k3 > 0 then _ else _) P _ from ?_)
        by_cases hk3:k3 > 0
        ·rw [if_pos hk3]
         refine (show wpS (AW prog w) A E s (if (ib2+1+k3==b.size)=true then _ else _) P _ from ?_)
         by_cases d2:ib2+1+k3=b.size
         ·rw [if_pos (by simpa using d2)]
          exact AK ⟨s2.gal _,.inl ⟨_,_,rfl,eB _ _ _ m6 d2⟩⟩
         rw [if_neg (by simpa using d2)];have m7:=tA _ _ _ m6 (by lia) far2;refine AJ (BL (i:=ia2+k) (by lia) ?_);refine (show wpS (AW prog w) A E s (if (ia2+k+1+1==a.size)=true then _ else _) P _ from ?_)
         by_cases d3:ia2+k+1+1=a.size
         ·rw [if_pos (by simpa using d3)]
          exact AK ⟨s2.gal _,.inl ⟨_,_,rfl,eL _ _ _ m7 d3⟩⟩
         rw [if_neg (by simpa using d3)];split
         ·exact AK ⟨s2.gal _,.inr ⟨_,ia2+k+1,ib2+1+k3,_,_,_,rfl,m7,by lia,by lia,by lia⟩⟩
         ·exact AK ⟨s2.gal _,_,ia2+k+1,ib2+1+k3,_,_,_,rfl,m7,by lia,by lia,by lia⟩
        ·rw [if_neg hk3]
         have:k3=0:=by lia
         subst this;have m7:=tA _ _ _ m4 (by lia) far2;refine AJ (BL (i:=ia2+k) (by lia) ?_);refine (show wpS (AW prog w) A E s (if (ia2+k+1+1==a.size)=true then _ else _) P _ from ?_)
         by_cases d3:ia2+k+1+1=a.size
         ·rw [if_pos (by simpa using d3)]
          exact AK ⟨s2.gal _,.inl ⟨_,_,rfl,eL _ _ _ m7 d3⟩⟩
         rw [if_neg (by simpa using d3)];split
         ·exact AK ⟨s2.gal _,.inr ⟨_,ia2+k+1,ib2+1,_,_,_,rfl,m7,by lia,by lia,by lia⟩⟩
         ·exact AK ⟨s2.gal _,_,ia2+k+1,ib2+1,_,_,_,rfl,m7,by lia,by lia,by lia⟩
      ·rw [if_neg hk0]
       have:k=0:=by lia
       subst this
       have c1:ia2+1 < a.size:=by omega
       have c3:ia+ib+1<=ia2+ib2:=by omega
       have m4:=tB _ _ _ m2 p2 far;refine AJ (BL (i:=ib2) p2 ?_);refine (show wpS (AW prog w) A E s (if (ib2+1==b.size)=true then _ else _) P _ from ?_)
       by_cases d:ib2+1=b.size
       ·rw [if_pos (by simpa using d)]
        exact AK ⟨s2.gal _,.inl ⟨_,_,rfl,eB _ _ _ m4 d⟩⟩
       rw [if_neg (by simpa using d)];refine AJ (BL (i:=ia2) (by lia) ?_);refine AJ (Dd (base:=ib2+1) (n:=b.size - (ib2+1)) (hint:=0) (arr:=b) (key:=ix a ia2) (left:=true) C (s2.gal _).good (λi=>lt (ix b (ib2+1+i)) (ix a ia2)) (ia0 _ (by lia)) (λi hi=>⟨by lia,ib0 _ (by lia)⟩) (λi hi=>rfl) (λi j hij hj e=>?_) (by lia) λk3 hk3 k4 k5=>?_)
       ·cases e2:lt (ix b (ib2+1+i)) (ix a ia2) with
        | true=>rfl
        | false=>
         have:=tr _ _ _ (ia0 _ (by lia)) (ib0 _ (by lia)) (ib0 _ (by lia)) e2 (ub (ib2+1+i) (ib2+1+j) (by lia) (by lia));exact nomatch (show true=false from (show lt (ix b (ib2+1+j)) (ix a ia2)=true from e).symm.trans this)
       ·have far2:∀j,ib2+1+k3<=j->j < b.size->Rl lt (ix a ia2) (ix b j):=λj j1 j2=>by
         have:=k5 (j - (ib2+1)) (by lia) (by omega);rwa [show ib2+1+(j - (ib2+1))=j by lia] at this
        have m6:=sB _ ia2 (ib2+1) k3 m4 (by lia) λi j hi j1 j2=>tr _ _ _ (ib0 _ (by lia)) (ia0 _ (by lia)) (ia0 _ j2) (O.asym _ _ (ib0 _ (by lia)) (ia0 _ (by lia)) (k4 i hi)) (ua ia2 j j1 j2)
        refine (show wpS (AW prog w) A E s (if k3 > 0 then _ else _) P _ from ?_)
        by_cases hk3:k3 > 0
        ·rw [if_pos hk3]
         refine (show wpS (AW prog w) A E s (if (ib2+1+k3==b.size)=true then _ else _) P _ from ?_)
         by_cases d2:ib2+1+k3=b.size
         ·rw [if_pos (by simpa using d2)]
          exact AK ⟨s2.gal _,.inl ⟨_,_,rfl,eB _ _ _ m6 d2⟩⟩
         rw [if_neg (by simpa using d2)];have m7:=tA _ _ _ m6 (by lia) far2;refine AJ (BL (i:=ia2) (by lia) ?_);refine (show wpS (AW prog w) A E s (if (ia2+1+1==a.size)=true then _ else _) P _ from ?_)
         by_cases d3:ia2+1+1=a.size
         ·rw [if_pos (by simpa using d3)]
          exact AK ⟨s2.gal _,.inl ⟨_,_,rfl,eL _ _ _ m7 d3⟩⟩
         rw [if_neg (by simpa using d3)];split
         ·exact AK ⟨s2.gal _,.inr ⟨_,ia2+1,ib2+1+k3,_,_,_,rfl,m7,by lia,by lia,by lia⟩⟩
         ·exact AK ⟨s2.gal _,_,ia2+1,ib2+1+k3,_,_,_,rfl,m7,by lia,by lia,by lia⟩
        ·rw [if_neg hk3]
         have:k3=0:=by lia
         subst this;have m7:=tA _ _ _ m4 (by lia) far2;refine AJ (BL (i:=ia2) (by lia) ?_);refine (show wpS (AW prog w) A E s (if (ia2+1+1==a.size)=true then _ else _) P _ from ?_)
         by_cases d3:ia2+1+1=a.size
         ·rw [if_pos (by simpa using d3)]
          exact AK ⟨s2.gal _,.inl ⟨_,_,rfl,eL _ _ _ m7 d3⟩⟩
         rw [if_neg (by simpa using d3)];split
         ·exact AK ⟨s2.gal _,.inr ⟨_,ia2+1,ib2+1,_,_,_,rfl,m7,by lia,by lia,by lia⟩⟩
         ·exact AK ⟨s2.gal _,_,ia2+1,ib2+1,_,_,_,rfl,m7,by lia,by lia,by lia⟩
end
end Srt
namespace Srt
open PySem PyProof.Rows
theorem MI.last2 {R:Af->Af->Prop} {T o ra rb:List Af} (m:MI R T o ra rb) (h:∀x∈ra,∀y∈rb,R x y):FZ R T (o++(ra++rb)):=by
 refine ⟨m.perm,BI.mpr ⟨m.srt,BI.mpr ⟨m.sa,m.sb,h⟩,λx hx y hy=>m.low x hx y hy⟩⟩
theorem FZ.rev {lt:Af->Af->Bool} {T r:List Af} (f:FZ (λx y=>Rl lt y x) T r):FZ (Rl lt) T r.reverse:=⟨r.reverse_perm.trans f.perm,Ik.mpr f.srt⟩
theorem SY {a:Array Af} {i:Nat} (h:i < a.size):(a.toList.take (i+1)).reverse=ix a i :: (a.toList.take i).reverse:=by
 have:=CW h;rw [getElem?_pos a i h] at this;rw [K6,show a.toList[i]?=some (ix a i) by simpa using CW h];simp
theorem Py {a:Array Af} {i n:Nat} (h:i<=n) (hn:n<=a.size):(a.toList.take n).reverse=(a.extract i n).toList.reverse++(a.toList.take i).reverse:=by
 have e:(a.extract i n).toList=(a.toList.take n).drop i:=by simp [K7,List.drop_take]
 rw [e,<-List.reverse_append]
 congr 1
 have:=DW i (a.toList.take n);rw [List.take_take,show min i n=i by lia] at this;exact this.symm
theorem EF {a:Array Af} {n:Nat} {x:Af} (hx:x∈(a.toList.take n).reverse):∃j,j < n/\j < a.size/\x=ix a j:=by
 rw [XG] at hx;obtain ⟨k,hk,rfl⟩:=SL.mp hx;simp at hk;refine ⟨k,by lia,by lia,?_⟩;have:=CW (xs:=a) (i:=k) (by lia);rw [getElem?_pos a _ (by lia)] at this;simpa using this
theorem QP {a:Array Af} {i n:Nat} {x:Af} (hx:x∈(a.extract i n).toList.reverse):∃j,i<=j/\j < n/\j < a.size/\x=ix a j:=by
 rw [XG,BD,Lh] at hx;obtain ⟨j,hj,rfl⟩:=hx;refine ⟨i+j,by lia,by omega,by omega,?_⟩;have:=CW (xs:=a) (i:=i+j) (by omega);rw [getElem?_pos a _ (by omega)] at this;simpa using this
theorem Fh (a:Array Af) (n:Nat):(a.extract 0 n).toList=a.toList.take n:=by simp [K7]
section
variable {prog:Ai} {w:A7} {A:A2} {E:AC->AE->Prop} {s:AE} {a₀:Array Af} {κ:EA} {lt:Af->Af->Bool}
theorem XU {st:A8} {a b:Array Af} {Q:Array Af->A8->Prop} (C:Hr prog w A s a₀ κ lt) (O:Ord (·∈a₀) lt) (g:Good a₀ κ st)
  (ma:∀x∈a.toList,x∈a₀) (mb:∀x∈b.toList,x∈a₀) (sa:a.toList.Pairwise (Rl lt)) (sb:b.toList.Pairwise (Rl lt)) (pa:0 < a.size) (pb:0 < b.size)
  (h0:∀x∈a.toList,Rl lt (ix b 0) x) (h1:∀y∈b.toList,Rl lt y (ix a (a.size - 1)))
  (h:∀r st',Hw a₀ κ st st'->FZ (Rl lt) (a.toList++b.toList) r.toList->Q r st'):wpS (AW prog w) A E s (mHi a b) Q st:=by
 have ia0:=O3 ma;have ib0:=O3 mb;have ua:=Px O ia0 sa;have ub:=Px O ib0 sb
 have tr:∀x y z:Af,x∈a₀->y∈a₀->z∈a₀->Rl lt x y->Rl lt y z->Rl lt x z:=λx y z hx hy hz h1 h2=>O.ntr x y z hx hy hz h1 h2
 let M (out:Array Af) (na nb:Nat):Prop:=MI (λx y=>Rl lt y x) (a.toList++b.toList) out.toList (a.toList.take na).reverse (b.toList.take nb).reverse
 have tA0:∀out na nb,M out (na+1) nb->na < a.size->nb<=b.size->(∀j,j < nb->Rl lt (ix b j) (ix a na))->M (out.push (ix a na)) na nb:=λout na nb m hna hnb hr=>by
  have m':MI (λx y=>Rl lt y x) (a.toList++b.toList) out.toList ([ix a na]++(a.toList.take na).reverse) (b.toList.take nb).reverse:=by rw [Cj,<-SY hna];exact m
  have:=m'.takeA λx hx y hy=>by
   obtain ⟨j,j1,j2,rfl⟩:=EF hy;rw [Ab.mp hx];exact hr j j1
  simpa [M] using this
 have tB0:∀out na nb,M out na (nb+1)->nb < b.size->na<=a.size->(∀j,j < na->Rl lt (ix a j) (ix b nb))->M (out.push (ix b nb)) na nb:=λout na nb m hnb hna hr=>by
  have m':MI (λx y=>Rl lt y x) (a.toList++b.toList) out.toList (a.toList.take na).reverse ([ix b nb]++(b.toList.take nb).reverse):=by rw [Cj,<-SY hnb];exact m
  have:=m'.takeB λx hx y hy=>by
   obtain ⟨j,j1,j2,rfl⟩:=EF hy;rw [Ab.mp hx];exact hr j j1
  simpa [M] using this
 have tA:∀out na nb,M out na nb->0 < na->na<=a.size->nb<=b.size->(∀j,j < nb->Rl lt (ix b j) (ix a (na - 1)))->M (out.push (ix a (na - 1))) (na - 1) nb:=λout na nb m h0 hna hnb hr=>
  tA0 out (na - 1) nb (by rw [show na - 1+1=na by lia];exact m) (by omega) hnb hr
 have tB:∀out na nb,M out na nb->0 < nb->nb<=b.size->na<=a.size->(∀j,j < na->Rl lt (ix a j) (ix b (nb - 1)))->M (out.push (ix b (nb - 1))) na (nb - 1):=λout na nb m h0 hnb hna hr=>
  tB0 out na (nb - 1) (by rw [show nb - 1+1=nb by lia];exact m) (by omega) hna hr
 have sA:∀out na nb k,M out na nb->k<=na->na<=a.size->nb<=b.size->(∀i j,k<=i->i < na->j < nb->Rl lt (ix b j) (ix a i))->M (out++(a.extract k na).reverse) k nb:=λout na nb k m hk hna hnb hr=>by
  have m':MI (λx y=>Rl lt y x) (a.toList++b.toList) out.toList ((a.extract k na).toList.reverse++(a.toList.take k).reverse) (b.toList.take nb).reverse:=by rw [<-Py hk hna];exact m
  have:=m'.takeA λx hx y hy=>by
   obtain ⟨j,j1,j2,rfl⟩:=EF hy;obtain ⟨i,i1,i2,i3,rfl⟩:=QP hx;exact hr i j i1 i2 j1
  show MI _ _ (out++(a.extract k na).reverse).toList _ _;rw [A4,Dm];exact this
 have sB:∀out na nb k,M out na nb->k<=nb->nb<=b.size->na<=a.size->(∀i j,k<=i->i < nb->j < na->Rl lt (ix a j) (ix b i))->M (out++(b.extract k nb).reverse) na k:=λout na nb k m hk hnb hna hr=>by
  have m':MI (λx y=>Rl lt y x) (a.toList++b.toList) out.toList (a.toList.take na).reverse ((b.extract k nb).toList.reverse++(b.toList.take k).reverse):=by rw [<-Py hk hnb];exact m
  have:=m'.takeB λx hx y hy=>by
   obtain ⟨j,j1,j2,rfl⟩:=EF hy;obtain ⟨i,i1,i2,i3,rfl⟩:=QP hx;exact hr i j i1 i2 j1
  show MI _ _ (out++(b.extract k nb).reverse).toList _ _;rw [A4,Dm];exact this
 have eA:∀out na nb,M out na nb->na=0->FZ (Rl lt) (a.toList++b.toList) (a.extract 0 na++b.extract 0 nb++out.reverse).toList:=λout na nb m e=>by
  subst e
  have m':MI (λx y=>Rl lt y x) (a.toList++b.toList) out.toList [] (b.toList.take nb).reverse:=by simpa [M] using m
  have:=m'.endB.rev;rw [A4,A4,Fh,Fh,Dm];simpa using this
 have eB:∀out na nb,M out na nb->nb=0->FZ (Rl lt) (a.toList++b.toList) (a.extract 0 na++b.extract 0 nb++out.reverse).toList:=λout na nb m e=>by
  subst e
  have m':MI (λx y=>Rl lt y x) (a.toList++b.toList) out.toList (a.toList.take na).reverse []:=by simpa [M] using m
  have:=m'.endA.rev;rw [A4,A4,Fh,Fh,Dm];simpa using this
 have eF:∀out na nb,M out na nb->nb=1->FZ (Rl lt) (a.toList++b.toList) (b.extract 0 nb++a.extract 0 na++out.reverse).toList:=λout na nb m e=>by
  have:=m.last2 λx hx y hy=>by
   obtain ⟨j,j1,j2,rfl⟩:=EF hx;obtain ⟨i,i1,i2,rfl⟩:=EF hy
   have:i=0:=by lia
   subst this;exact h0 _ (BD.mpr (B9 (CW j2)))
  have:=this.rev;rw [A4,A4,Fh,Fh,Dm];simpa using this
 have m0:M #[] a.size b.size:=by
  refine ⟨?_,by simp,by simp,?_,?_⟩
  ·rw [By (by simp),By (by simp)]
   simpa using List.Perm.append a.toList.reverse_perm b.toList.reverse_perm
  ·rw [By (by simp)];exact Ik.mpr sa
  ·rw [By (by simp)];exact Ik.mpr sb
 have m1:M #[ix a (a.size - 1)] (a.size - 1) b.size:=by
  have:=tA #[] a.size b.size m0 pa (AQ _) (AQ _) λj hj=>h1 _ (BD.mpr (B9 (CW hj)))
  simpa using this
 refine (AJ (G5 ?_):wpS _ _ _ _ (mHi a b) Q st);refine AJ (BL (i:=a.size - 1) (by omega) ?_)
 by_cases c1:a.size - 1=0
 ·refine (show wpS (AW prog w) A E s (if (a.size - 1==0)=true then _ else _) Q st from ?_)
  rw [if_pos (by simpa using c1)];exact AK (h _ st ⟨g,rfl,rfl⟩ (eA _ _ _ m1 c1))
 refine (show wpS (AW prog w) A E s (if (a.size - 1==0)=true then _ else _) Q st from ?_);rw [if_neg (by simpa using c1)]
 by_cases c2:b.size=1
 ·rw [if_pos (by simpa using c2)]
  exact AK (h _ st ⟨g,rfl,rfl⟩ (eF _ _ _ m1 c2))
 rw [if_neg (by simpa using c2)];refine AJ (FA ?_)
 refine AJ (CV (Bb (I:=λx c st'=>Hw a₀ κ st st'/\∃out na nb mg,c=(none,na,nb,out,mg)/\M out na nb/\0 < na/\1 < nb/\na<=a.size/\nb<=b.size/\na+nb+1+x<=a.size+b.size)
  (Q:=λc st'=>Hw a₀ κ st st'/\∃r z,c=(some r,z)/\FZ (Rl lt) (a.toList++b.toList) r.toList) ?step ?fin ?init) ?post)
 case init=>exact ⟨⟨g,rfl,rfl⟩,_,a.size - 1,b.size,_,rfl,m1,by lia,by lia,by omega,by lia,by lia⟩
 case fin=>
  rintro c st' ⟨_,out,na,nb,mg,_,_,k1,k2,k3,k4,k5⟩
  lia
 case post=>
  rintro c st' ⟨s1,r,z,rfl,f⟩;exact AK (h r st' s1 f)
 case step=>
  rintro x c st1 _ _ ⟨s1,out,na,nb,mg,rfl,m,k1,k2,k3,k4,k5⟩
  refine AJ (CV (Bb (I:=λy c st'=>st'=st1/\∃out' na' nb' ac bc,c=(none,na',nb',out',ac,bc)/\M out' na' nb'/\0 < na'/\1 < nb'/\na'<=a.size/\nb'<=b.size/\na'+nb'+y<=na+nb)
   (Q:=λc st'=>st'=st1/\((∃r z,c=(some r,z)/\FZ (Rl lt) (a.toList++b.toList) r.toList)∨∃out' na' nb' ac bc,c=(none,na',nb',out',ac,bc)/\M out' na' nb'/\0 < na'/\1 < nb'/\na'<=a.size/\nb'<=b.size/\na'+nb'+1<=na+nb)) ?step1 ?fin1 ?init1) ?post1)
  case init1=>exact ⟨rfl,out,na,nb,0,0,rfl,m,k1,k2,k3,k4,by lia⟩
  case fin1=>
   rintro c st' ⟨rfl,out',na',nb',ac,bc,rfl,m',q1,q2,q3,q4,q5⟩;exact ⟨rfl,.inr ⟨out',na',nb',ac,bc,rfl,m',q1,q2,q3,q4,by lia⟩⟩
  case step1=>
   rintro y c st' _ _ ⟨rfl,out',na',nb',ac,bc,rfl,m',q1,q2,q3,q4,q5⟩;refine AJ (BL (i:=nb' - 1) (by lia) ?_);refine AJ (BL (i:=na' - 1) (by lia) ?_);refine AJ (MA C s1.good (ib0 _ (by lia)) (ia0 _ (by lia)) ?_)
   cases e:lt (ix b (nb' - 1)) (ix a (na' - 1)) with
   | true=>
    refine AJ (BL (i:=na' - 1) (by lia) ?_);have r0:Rl lt (ix b (nb' - 1)) (ix a (na' - 1)):=O.asym _ _ (ib0 _ (by lia)) (ia0 _ (by lia)) e
    have m2:=tA out' na' nb' m' q1 q3 q4 λj j1=>tr _ _ _ (ib0 _ (by lia)) (ib0 _ (by lia)) (ia0 _ (by lia)) (ub j (nb' - 1) (by lia) (by lia)) r0
    refine (show wpS (AW prog w) A E s (if (na' - 1==0)=true then _ else _) _ st' from ?_)
    by_cases d:na' - 1=0
    ·rw [if_pos (by simpa using d)]
     exact AK ⟨rfl,.inl ⟨_,_,rfl,eA _ _ _ m2 d⟩⟩
    ·rw [if_neg (by simpa using d)]
     split
     ·exact AK ⟨rfl,.inr ⟨_,na' - 1,nb',_,_,rfl,m2,by lia,by omega,by lia,by omega,by lia⟩⟩
     ·exact AK ⟨rfl,_,na' - 1,nb',_,_,rfl,m2,by lia,by omega,by lia,by omega,by lia⟩
   | false=>
    refine AJ (BL (i:=nb' - 1) (by lia) ?_)
    have m2:=tB out' na' nb' m' (by lia) q4 q3 λj j1=>tr _ _ _ (ia0 _ (by lia)) (ia0 _ (by lia)) (ib0 _ (by lia)) (ua j (na' - 1) (by lia) (by lia)) e
    refine (show wpS (AW prog w) A E s (if (nb' - 1==1)=true then _ else _) _ st' from ?_)
    by_cases d:nb' - 1=1
    ·rw [if_pos (by simpa using d)]
     exact AK ⟨rfl,.inl ⟨_,_,rfl,eF _ _ _ m2 d⟩⟩
    ·rw [if_neg (by simpa using d)]
     split
     ·exact AK ⟨rfl,.inr ⟨_,na',nb' - 1,_,_,rfl,m2,by omega,by lia,by omega,by lia,by lia⟩⟩
     ·exact AK ⟨rfl,_,na',nb' - 1,_,_,rfl,m2,by omega,by lia,by omega,by lia,by lia⟩
  case post1=>
   rintro c st' ⟨rfl,⟨r,z,rfl,f⟩ | ⟨out',na',nb',ac,bc,rfl,m',q1,q2,q3,q4,q5⟩⟩
   ·exact AK ⟨s1,_,_,rfl,f⟩
   refine AJ (G5 ?_)
   refine AJ (CV (Bb (I:=λy c st2=>Hw a₀ κ st st2/\∃out2 na2 nb2 mg2 ac bc,c=(none,na2,nb2,out2,mg2,ac,bc)/\M out2 na2 nb2/\0 < na2/\1 < nb2/\na2<=a.size/\nb2<=b.size/\na2+nb2+1<=na+nb)
    (Q:=λc st2=>Hw a₀ κ st st2/\((∃r z,c=(some r,z)/\FZ (Rl lt) (a.toList++b.toList) r.toList)∨∃out2 na2 nb2 mg2 ac bc,c=(none,na2,nb2,out2,mg2,ac,bc)/\M out2 na2 nb2/\0 < na2/\1 < nb2/\na2<=a.size/\nb2<=b.size/\na2+nb2+1<=na+nb)) ?step2 ?fin2 ?init2) ?post2)
   case init2=>exact ⟨s1,out',na',nb',mg+1,ac,bc,rfl,m',q1,q2,q3,q4,q5⟩
   case fin2=>
    rintro c st2 ⟨s2,out2,na2,nb2,mg2,ac2,bc2,rfl,m2,p1⟩;exact ⟨s2,.inr ⟨out2,na2,nb2,mg2,ac2,bc2,rfl,m2,p1⟩⟩
   case post2=>
    rintro c st2 ⟨s2,⟨r,z,rfl,f⟩ | ⟨out2,na2,nb2,mg2,ac2,bc2,rfl,m2,p1,p2,p3,p4,p5⟩⟩
    ·exact AK ⟨s2,_,_,rfl,f⟩
    ·exact AJ (Li (AK ⟨s2.gal _,out2,na2,nb2,mg2+1,rfl,m2,p1,p2,p3,p4,by lia⟩))
   case step2=>
    rintro y c st2 _ _ ⟨s2,out2,na2,nb2,mg2,ac2,bc2,rfl,m2,p1,p2,p3,p4,p5⟩
    let P:ForInStep (Option (Array Af)×Nat×Nat×Array Af×Nat×Nat×Nat)->A8->Prop:=λr st'=>match r with
     | .done c'=>Hw a₀ κ st st'/\((∃r z,c'=(some r,z)/\FZ (Rl lt) (a.toList++b.toList) r.toList)∨∃out2 na2 nb2 mg2 ac bc,c'=(none,na2,nb2,out2,mg2,ac,bc)/\M out2 na2 nb2/\0 < na2/\1 < nb2/\na2<=a.size/\nb2<=b.size/\na2+nb2+1<=na+nb)
     | .yield c'=>Hw a₀ κ st st'/\∃out2 na2 nb2 mg2 ac bc,c'=(none,na2,nb2,out2,mg2,ac,bc)/\M out2 na2 nb2/\0 < na2/\1 < nb2/\na2<=a.size/\nb2<=b.size/\na2+nb2+1<=na+nb
    refine CV (Q:=P) ?_ λr st' h=>by cases r <;> exact h
    refine (show wpS (AW prog w) A E s (if mg2 > 1 then _ else _) P st2 from ?_);split
    all_goals
     refine AJ (Li ?_);refine AJ (BL (i:=nb2 - 1) (by lia) ?_);refine AJ (Dd (base:=0) (n:=na2) (hint:=na2 - 1) (arr:=a) (key:=ix b (nb2 - 1)) (left:=false) C (s2.gal _).good (λi=>!lt (ix b (nb2 - 1)) (ix a (0+i))) (ib0 _ (by lia)) (λi hi=>⟨by lia,ia0 _ (by lia)⟩) (λi hi=>rfl) (λi j hij hj e=>?_) (by lia) λk hk k1 k2=>?_)
     ·have e':lt (ix b (nb2 - 1)) (ix a (0+j))=false:=by simpa using e
      have:=tr _ _ _ (ia0 _ (by lia)) (ia0 _ (by lia)) (ib0 _ (by lia)) (ua (0+i) (0+j) (by lia) (by lia)) e';simpa using this
     ·have near:∀j,j < k->Rl lt (ix a j) (ix b (nb2 - 1)):=λj j1=>by
       have:=k1 j j1;rw [Em] at this;simpa using this
      have m5:=sA out2 na2 nb2 k m2 hk p3 p4 λi j i1 i2 j1=>by
       have:=k2 i i1 i2;rw [Em] at this;exact tr _ _ _ (ib0 _ (by lia)) (ib0 _ (by lia)) (ia0 _ (by lia)) (ub j (nb2 - 1) (by lia) (by lia)) (O.asym _ _ (ib0 _ (by lia)) (ia0 _ (by lia)) (by simpa using this))
      refine (show wpS (AW prog w) A E s (if na2 - k > 0 then _ else _) P _ from ?_)
      by_cases hk0:na2 - k > 0
      ·rw [if_pos hk0]
       refine (show wpS (AW prog w) A E s (if (k==0)=true then _ else _) P _ from ?_)
       by_cases d1:k=0
       ·rw [if_pos (by simpa using d1)]
        exact AK ⟨s2.gal _,.inl ⟨_,_,rfl,eA _ _ _ m5 d1⟩⟩
       rw [if_neg (by simpa using d1)];have m4:=tB _ _ _ m5 (by lia) p4 (by lia) near;refine AJ (BL (i:=nb2 - 1) (by lia) ?_);refine (show wpS (AW prog w) A E s (if (nb2 - 1==1)=true then _ else _) P _ from ?_)
       by_cases d:nb2 - 1=1
       ·rw [if_pos (by simpa using d)]
        exact AK ⟨s2.gal _,.inl ⟨_,_,rfl,eF _ _ _ m4 d⟩⟩
       rw [if_neg (by simpa using d)];refine AJ (BL (i:=k - 1) (by omega) ?_);refine AJ (Dd (base:=0) (n:=nb2 - 1) (hint:=nb2 - 1 - 1) (arr:=b) (key:=ix a (k - 1)) (left:=true) C (s2.gal _).good (λi=>lt (ix b (0+i)) (ix a (k - 1))) (ia0 _ (by omega)) (λi hi=>⟨by lia,ib0 _ (by lia)⟩) (λi hi=>rfl) (λi j hij hj e=>?_) (by lia) λk3 hk3 k4 k5=>?_)
       ·cases e2:lt (ix b (0+i)) (ix a (k - 1)) with
        | true=>rfl
        | false=>
         have:=tr _ _ _ (ia0 _ (by lia)) (ib0 _ (by lia)) (ib0 _ (by lia)) e2 (ub (0+i) (0+j) (by lia) (by lia));exact nomatch (show true=false from (show lt (ix b (0+j)) (ix a (k - 1))=true from e).symm.trans this)
       ·have near2:∀j,j < k3->Rl lt (ix b j) (ix a (k - 1)):=λj j1=>by
         have:=k4 j j1;rw [Em] at this;exact O.asym _ _ (ib0 _ (by lia)) (ia0 _ (by omega)) this
        have m6:=sB _ k (nb2 - 1) k3 m4 hk3 (by lia) (by lia) λi j i1 i2 j1=>by
         have:=k5 i i1 i2;rw [Em] at this;exact tr _ _ _ (ia0 _ (by lia)) (ia0 _ (by lia)) (ib0 _ (by lia)) (ua j (k - 1) (by lia) (by lia)) this
        refine (show wpS (AW prog w) A E s (if nb2 - 1 - k3 > 0 then _ else _) P _ from ?_)
        by_cases hk4:nb2 - 1 - k3 > 0
        ·rw [if_pos hk4]
         refine (show wpS (AW prog w) A E s (if (k3==1)=true then _ else _) P _ from ?_)
         by_cases d2:k3=1
         ·rw [if_pos (by simpa using d2)]
          exact AK ⟨s2.gal _,.inl ⟨_,_,rfl,eF _ _ _ m6 d2⟩⟩
         rw [if_neg (by simpa using d2)]
         by_cases d4:k3=0
         ·rw [if_pos (by simpa using d4)]
          exact AK ⟨s2.gal _,.inl ⟨_,_,rfl,eB _ _ _ m6 d4⟩⟩
         rw [if_neg (by simpa using d4)];have m7:=tA _ _ _ m6 (by lia) (by lia) (by lia) near2;refine AJ (BL (i:=k - 1) (by lia) ?_);refine (show wpS (AW prog w) A E s (if (k - 1==0)=true then _ else _) P _ from ?_)
         by_cases d3:k - 1=0
         ·rw [if_pos (by simpa using d3)]
          exact AK ⟨s2.gal _,.inl ⟨_,_,rfl,eA _ _ _ m7 d3⟩⟩
         rw [if_neg (by simpa using d3)];split
         ·exact AK ⟨s2.gal _,.inr ⟨_,k - 1,k3,_,_,_,rfl,m7,by lia,by lia,by lia,by lia,by lia⟩⟩
         ·exact AK ⟨s2.gal _,_,k - 1,k3,_,_,_,rfl,m7,by lia,by lia,by lia,by lia,by lia⟩
        ·rw [if_neg hk4]
         have:k3=nb2 - 1:=by lia
         subst this;have m7:=tA _ _ _ m4 (by lia) (by lia) (by lia) near2;refine AJ (BL (i:=k - 1) (by lia) ?_);refine (show wpS (AW prog w) A E s (if (k - 1==0)=true then _ else _) P _ from ?_)
         by_cases d3:k - 1=0
         ·rw [if_pos (by simpa using d3)]
          exact AK ⟨s2.gal _,.inl ⟨_,_,rfl,eA _ _ _ m7 d3⟩⟩
         rw [if_neg (by simpa using d3)];split
         ·exact AK ⟨s2.gal _,.inr ⟨_,k - 1,nb2 - 1,_,_,_,rfl,m7,by lia,by lia,by lia,by lia,by lia⟩⟩
         ·exact AK ⟨s2.gal _,_,k - 1,nb2 - 1,_,_,_,rfl,m7,by lia,by lia,by lia,by lia,by lia⟩
      ·rw [if_neg hk0]
       have:k=na2:=by lia
       subst this;have m4:=tB _ _ _ m2 (by lia) p4 (by omega) near;refine AJ (BL (i:=nb2 - 1) (by lia) ?_);refine (show wpS (AW prog w) A E s (if (nb2 - 1==1)=true then _ else _) P _ from ?_)
       by_cases d:nb2 - 1=1
       ·rw [if_pos (by simpa using d)]
        exact AK ⟨s2.gal _,.inl ⟨_,_,rfl,eF _ _ _ m4 d⟩⟩
       rw [if_neg (by simpa using d)];refine AJ (BL (i:=k - 1) (by lia) ?_);refine AJ (Dd (base:=0) (n:=nb2 - 1) (hint:=nb2 - 1 - 1) (arr:=b) (key:=ix a (k - 1)) (left:=true) C (s2.gal _).good (λi=>lt (ix b (0+i)) (ix a (k - 1))) (ia0 _ (by lia)) (λi hi=>⟨by lia,ib0 _ (by lia)⟩) (λi hi=>rfl) (λi j hij hj e=>?_) (by lia) λk3 hk3 k4 k5=>?_)
       ·cases e2:lt (ix b (0+i)) (ix a (k - 1)) with
        | true=>rfl
        | false=>
         have:=tr _ _ _ (ia0 _ (by lia)) (ib0 _ (by lia)) (ib0 _ (by lia)) e2 (ub (0+i) (0+j) (by lia) (by lia));exact nomatch (show true=false from (show lt (ix b (0+j)) (ix a (k - 1))=true from e).symm.trans this)
       ·have near2:∀j,j < k3->Rl lt (ix b j) (ix a (k - 1)):=λj j1=>by
         have:=k4 j j1;rw [Em] at this;exact O.asym _ _ (ib0 _ (by lia)) (ia0 _ (by lia)) this
        have m6:=sB _ k (nb2 - 1) k3 m4 hk3 (by lia) (by omega) λi j i1 i2 j1=>by
         have:=k5 i i1 i2;rw [Em] at this;exact tr _ _ _ (ia0 _ (by lia)) (ia0 _ (by lia)) (ib0 _ (by lia)) (ua j (k - 1) (by lia) (by lia)) this
        refine (show wpS (AW prog w) A E s (if nb2 - 1 - k3 > 0 then _ else _) P _ from ?_)
        by_cases hk4:nb2 - 1 - k3 > 0
        ·rw [if_pos hk4]
         refine (show wpS (AW prog w) A E s (if (k3==1)=true then _ else _) P _ from ?_)
         by_cases d2:k3=1
         ·rw [if_pos (by simpa using d2)]
          exact AK ⟨s2.gal _,.inl ⟨_,_,rfl,eF _ _ _ m6 d2⟩⟩
         rw [if_neg (by simpa using d2)]
         by_cases d4:k3=0
         ·rw [if_pos (by simpa using d4)]
          exact AK ⟨s2.gal _,.inl ⟨_,_,rfl,eB _ _ _ m6 d4⟩⟩
         rw [if_neg (by simpa using d4)];have m7:=tA _ _ _ m6 (by omega) (by omega) (by lia) near2;refine AJ (BL (i:=k - 1) (by lia) ?_);refine (show wpS (AW prog w) A E s (if (k - 1==0)=true then _ else _) P _ from ?_)
         by_cases d3:k - 1=0
         ·rw [if_pos (by simpa using d3)]
          exact AK ⟨s2.gal _,.inl ⟨_,_,rfl,eA _ _ _ m7 d3⟩⟩
         rw [if_neg (by simpa using d3)];split
         ·exact AK ⟨s2.gal _,.inr ⟨_,k - 1,k3,_,_,_,rfl,m7,by lia,by lia,by lia,by lia,by lia⟩⟩
         ·exact AK ⟨s2.gal _,_,k - 1,k3,_,_,_,rfl,m7,by lia,by lia,by lia,by lia,by lia⟩
        ·rw [if_neg hk4]
         have:k3=nb2 - 1:=by lia
         subst this;have m7:=tA _ _ _ m4 (by omega) (by omega) (by lia) near2;refine AJ (BL (i:=k - 1) (by lia) ?_);refine (show wpS (AW prog w) A E s (if (k - 1==0)=true then _ else _) P _ from ?_)
         by_cases d3:k - 1=0
         ·rw [if_pos (by simpa using d3)]
          exact AK ⟨s2.gal _,.inl ⟨_,_,rfl,eA _ _ _ m7 d3⟩⟩
         rw [if_neg (by simpa using d3)];split
         ·exact AK ⟨s2.gal _,.inr ⟨_,k - 1,nb2 - 1,_,_,_,rfl,m7,by lia,by lia,by lia,by lia,by lia⟩⟩
         ·exact AK ⟨s2.gal _,_,k - 1,nb2 - 1,_,_,_,rfl,m7,by lia,by lia,by lia,by lia,by lia⟩
end
end Srt
namespace Srt
open PySem PyProof.Rows
def wr (arr:Array Af) (sa:Nat) (l:List (Af×Nat)):Array Af:=l.foldl (λa (x:Af×Nat)=>match x with | (p,j)=>a.setIfInBounds (sa+j) p) arr
theorem OY (sa:Nat):∀(l:List Af) (k:Nat) (arr:Array Af),sa+k+l.length<=arr.size->(wr arr sa (l.zipIdx k)).toList=arr.toList.take (sa+k)++l++arr.toList.drop (sa+k+l.length)
 | [],k,arr,h=>by simp [wr]
 | x :: l,k,arr,h=>by
  rw [Am] at h;have e:wr arr sa ((x :: l).zipIdx k)=wr (arr.setIfInBounds (sa+k) x) sa (l.zipIdx (k+1)):=rfl;rw [e,OY sa l (k+1) _ (by simp;lia)]
  have hk:sa+k < arr.toList.length:=by simp;lia
  rw [NV,Am,show sa+(k+1)=sa+k+1 by lia];rw [K6,List.take_set_of_le (AQ _),A3 hk,List.drop_set_of_lt (by lia)];simp [show sa+k+1+l.length=sa+k+(l.length+1) by lia]
theorem ix_list (a:Array Af) (i:Nat):ix a i=(a.toList[i]?).getD (.none,.none):=by
 unfold ix;rw [DX];simp
theorem WQ {arr m:Array Af} {sa:Nat} (h:sa+m.size<=arr.size) (i:Nat):ix (wr arr sa m.toList.zipIdx) i=if i < sa then ix arr i else if i < sa+m.size then ix m (i - sa) else ix arr i:=by
 have e:=OY sa m.toList 0 arr (by simpa using h);rw [ix_list,show m.toList.zipIdx=m.toList.zipIdx 0 from rfl,e,RE]
 have hl:(arr.toList.take sa).length=sa:=by simp;lia
 split
 ·rename_i h1
  rw [At,AV (by lia),Pc h1,ix_list]
 ·rename_i h1
  split
  ·rename_i h2
   rw [At,Aw (by lia),hl,AV (by simp;lia),ix_list]
  ·rename_i h2
   rw [Aw (by simp;lia),EL,ix_list]
   congr 2
   simp
   lia
theorem YO {arr m:Array Af} {sa:Nat} (h:sa+m.size<=arr.size) (hp:m.toList.Perm (arr.extract sa (sa+m.size)).toList):(wr arr sa m.toList.zipIdx).Perm arr:=by
 rw [Do];have e:=OY sa m.toList 0 arr (by simpa using h);rw [show m.toList.zipIdx=m.toList.zipIdx 0 from rfl,e,RE]
 have e2:arr.toList=arr.toList.take sa++(arr.extract sa (sa+m.size)).toList++arr.toList.drop (sa+m.toList.length):=by
  rw [At,BN,<-GB h,DW]
 conv=>rhs;rw [e2]
 exact NS _ (HK _ hp)
theorem Rx {a:Array Af} {lo hi i:Nat} (h:hi<=a.size) (hi':i < hi - lo):ix (a.extract lo hi) i=ix a (lo+i):=by
 apply G9
 rw [Array.getElem?_extract];simp
 lia
section
variable {prog:Ai} {w:A7} {A:A2} {E:AC->AE->Prop} {s:AE} {a₀:Array Af} {κ:EA} {lt:Af->Af->Bool}
theorem U9 {a:Array Af} {lo hi:Nat} (h:hi<=a.size) (u:Up lt a lo hi):(a.extract lo hi).toList.Pairwise (Rl lt):=by
 rw [OV];intro i j hi' hj hij;simp at hi' hj
 have e:∀k (hk:k < (a.extract lo hi).toList.length),(a.extract lo hi).toList[k]=ix a (lo+k):=λk hk=>by
  have hk':k < (a.extract lo hi).size:=by rw [BN] at hk;exact hk
  have:=CW hk';rw [getElem?_pos (a.extract lo hi) k hk'] at this
  have hs:(a.extract lo hi).size=hi - lo:=by simp;lia
  rw [<-Rx h (by lia)];simpa using this
 rw [e,e];exact u _ _ (by lia) (by lia) (by omega)
theorem XS {st st1:A8} {Q:PUnit->A8->Prop} (h:Q ⟨⟩ st1):wpS (AW prog w) A E s (set st1:StateT A8 Sem PUnit) Q st:=AK h
theorem Pm {st:A8} {i sa na pw sb nb pw2:Nat} {Q:Bool->A8->Prop} (C:Hr prog w A s a₀ κ lt) (O:Ord (·∈a₀) lt) (g:Good a₀ κ st)
  (e1:(AT st)[i]?=some (sa,na,pw)) (e2:(AT st)[i+1]?=some (sb,nb,pw2)) (hab:sb=sa+na) (hna:1<=na) (hnb:1<=nb) (hs:sb+nb<=a₀.size)
  (ua:Up lt (AN st) sa (sa+na)) (ub:Up lt (AN st) sb (sb+nb))
  (h:∀st',Good a₀ κ st'->AT st'=((AT st).setIfInBounds i (sa,na+nb,pw)).eraseIdxIfInBounds (i+1)->Up lt (AN st') sa (sa+(na+nb))->Out (AN st) (AN st') sa (sa+(na+nb))->Q true st') :
  wpS (AW prog w) A E s (mergeAt' i) Q st:=by
 subst hab;have hsz:=g.size
 have mem:∀j,j < a₀.size->ix (AN st) j∈a₀:=λj hj=>g.mem hj
 have tr:∀x y z:Af,x∈a₀->y∈a₀->z∈a₀->Rl lt x y->Rl lt y z->Rl lt x z:=λx y z hx hy hz h1 h2=>O.ntr x y z hx hy hz h1 h2
 refine (AJ (FA ?_):wpS _ _ _ _ (mergeAt' i) Q st);rw [show (sortPriv% PySem.Builtin.SortState.pending) st=AT st from rfl,e1,e2];refine AJ (XS ?_);generalize hst1:((sortPriv% PySem.Builtin.SortState.mk) (kindOf st) (AN st) (((AT st).setIfInBounds i (sa,na+nb,pw)).eraseIdxIfInBounds (i+1)) (gallopOf st) (GP st))=st1
 have g1:Good a₀ κ st1:=by subst hst1;exact ⟨g.perm,g.kind,g.failed⟩
 have a1:AN st1=AN st:=by subst hst1;rfl
 have p1:AT st1=((AT st).setIfInBounds i (sa,na+nb,pw)).eraseIdxIfInBounds (i+1):=by subst hst1;rfl
 refine AJ (BL (a:=AN st) (i:=sa+na) (by lia) ?_);refine AJ (Dd (base:=sa) (n:=na) (hint:=0) (arr:=AN st) (key:=ix (AN st) (sa+na)) (left:=false) C g1 (λj=>!lt (ix (AN st) (sa+na)) (ix (AN st) (sa+j))) (mem _ (by lia)) (λj hj=>⟨by lia,mem _ (by lia)⟩) (λj hj=>rfl) (λx y hxy hy e=>?_) (by lia) λk hk k1 k2=>?_)
 ·have e':lt (ix (AN st) (sa+na)) (ix (AN st) (sa+y))=false:=by simpa using e
  have:=tr _ _ _ (mem _ (by lia)) (mem _ (by lia)) (mem _ (by lia)) (ua (sa+x) (sa+y) (by lia) (by lia) (by lia)) e';simpa using this
 have low:∀j,sa<=j->j < sa+k->Rl lt (ix (AN st) j) (ix (AN st) (sa+na)):=λj j1 j2=>by
  have:=k1 (j - sa) (by lia);rw [show sa+(j - sa)=j by lia] at this;simpa using this
 have lowb:∀i j,sa<=i->i < sa+k->sa+na<=j->j < sa+na+nb->Rl lt (ix (AN st) i) (ix (AN st) j):=λi j i1 i2 j1 j2=>tr _ _ _ (mem _ (by lia)) (mem _ (by lia)) (mem _ (by lia)) (low i i1 i2) (ub _ _ (by lia) (by omega) (by omega))
 have whole:(∀j,sa<=j->j < sa+na->Rl lt (ix (AN st) j) (ix (AN st) (sa+na)))->Up lt (AN st) sa (sa+(na+nb)):=λhh x y h1 h2 h3=>by
  by_cases c1:y < sa+na
  ·exact ua x y h1 h2 c1
  by_cases c2:x < sa+na
  ·exact tr _ _ _ (mem _ (by lia)) (mem _ (by lia)) (mem _ (by lia)) (hh x h1 c2) (ub _ _ (by lia) (by lia) (by lia))
  ·exact ub x y (by lia) h2 (by lia)
 refine (show wpS (AW prog w) A E s (if (na - k==0)=true then _ else _) Q st1 from ?_)
 by_cases c1:na - k=0
 ·rw [if_pos (by simpa using c1)]
  refine AK (h st1 g1 p1 ?_ (by rw [a1];exact .refl));rw [a1]
  exact whole λj j1 j2=>low j j1 (by lia)
 rw [if_neg (by simpa using c1)];refine AJ (BL (a:=AN st) (i:=sa+k+(na - k) - 1) (by omega) ?_);rw [show sa+k+(na - k) - 1=sa+na - 1 by lia];refine AJ (Dd (base:=sa+na) (n:=nb) (hint:=nb - 1) (arr:=AN st) (key:=ix (AN st) (sa+na - 1)) (left:=true) C g1 (λj=>lt (ix (AN st) (sa+na+j)) (ix (AN st) (sa+na - 1))) (mem _ (by lia)) (λj hj=>⟨by lia,mem _ (by lia)⟩) (λj hj=>rfl) (λx y hxy hy e=>?_) (by omega) λk3 hk3 k4 k5=>?_)
 ·cases e2:lt (ix (AN st) (sa+na+x)) (ix (AN st) (sa+na - 1)) with
  | true=>rfl
  | false=>
   have:=tr _ _ _ (mem _ (by lia)) (mem _ (by lia)) (mem _ (by lia)) e2 (ub (sa+na+x) (sa+na+y) (by lia) (by lia) (by lia));exact nomatch (show true=false from (show lt (ix (AN st) (sa+na+y)) (ix (AN st) (sa+na - 1))=true from e).symm.trans this)
 have high:∀j,sa+na+k3<=j->j < sa+na+nb->Rl lt (ix (AN st) (sa+na - 1)) (ix (AN st) j):=λj j1 j2=>by
  have:=k5 (j - (sa+na)) (by lia) (by lia);rwa [show sa+na+(j - (sa+na))=j by lia] at this
 refine (show wpS (AW prog w) A E s (if (k3==0)=true then _ else _) Q st1 from ?_)
 by_cases c2:k3=0
 ·rw [if_pos (by simpa using c2)]
  refine AK (h st1 g1 p1 ?_ (by rw [a1];exact .refl));rw [a1]
  exact whole λj j1 j2=>tr _ _ _ (mem _ (by lia)) (mem _ (by lia)) (mem _ (by lia)) (ua j (sa+na - 1) (by omega) (by lia) (by lia)) (high _ (by lia) (by lia))
 rw [if_neg (by simpa using c2)]
 let x:=(AN st).extract (sa+k) (sa+na)
 let y:=(AN st).extract (sa+na) (sa+na+k3)
 have xs:x.size=na - k:=by simp [x];lia
 have ys:y.size=k3:=by simp [y];lia
 have ixx:∀j,j < na - k->ix x j=ix (AN st) (sa+k+j):=λj hj=>Rx (by lia) (by lia)
 have ixy:∀j,j < k3->ix y j=ix (AN st) (sa+na+j):=λj hj=>Rx (by lia) (by lia)
 have memx:∀z∈x.toList,∃j,j < na - k/\z=ix (AN st) (sa+k+j):=λz hz=>by
  have hz:z∈((AN st).extract (sa+k) (sa+k+(na - k))).toList:=by rw [show sa+k+(na - k)=sa+na by lia];exact hz
  exact Ll (by lia) hz
 have memy:∀z∈y.toList,∃j,j < k3/\z=ix (AN st) (sa+na+j):=λz hz=>Ll (by lia) hz
 have fin:∀(r:Array Af) (st':A8),Hw a₀ κ st1 st'->FZ (Rl lt) (x.toList++y.toList) r.toList->∀st2:A8,AN st2=wr (AN st') (sa+k) r.toList.zipIdx->kindOf st2=kindOf st'->GP st2=GP st'->AT st2=AT st'->Q true st2:=by
  intro r st' sm f st2 q1 q2 q3 q4
  have hr:r.size=na - k+k3:=by
   have:=f.perm.length_eq;simp only [AR,BN] at this
   lia
  have ha:AN st'=AN st:=sm.arr.trans a1;rw [ha] at q1
  have hb:sa+k+r.size<=(AN st).size:=by lia
  have mm:∀t,t < r.size->∃t',ix r t=ix (AN st) t'/\sa+k<=t'/\t' < sa+na+k3:=λt ht=>by
   have:ix r t∈r.toList:=BD.mpr (B9 (CW ht))
   rcases Au.mp (f.perm.mem_iff.mp this) with h | h
   ·obtain ⟨j,j1,e⟩:=memx _ h
    exact ⟨_,e,by lia,by lia⟩
   ·obtain ⟨j,j1,e⟩:=memy _ h
    exact ⟨_,e,by lia,by lia⟩
  have rs:=Px O (a:=r) (λt ht=>by
   obtain ⟨t',e,_,_⟩:=mm t ht;rw [e]
   exact mem _ (by lia)) f.srt
  refine h st2 ⟨?_,?_,?_⟩ (q4.trans (sm.pend.trans p1)) ?_ ?_
  ·rw [q1]
   refine (YO hb (f.perm.trans ?_)).trans g.perm
   have:(AN st).toList.drop (sa+k)=x.toList++(AN st).toList.drop (sa+na):=by
    have:=GB (a:=AN st) (i:=sa+k) (k:=na - k) (by lia);rw [show sa+k+(na - k)=sa+na by lia] at this;exact this
   have h2:(AN st).toList.drop (sa+na)=y.toList++(AN st).toList.drop (sa+na+k3):=GB (by lia);have h3:(AN st).toList.drop (sa+k)=((AN st).extract (sa+k) (sa+k+r.size)).toList++(AN st).toList.drop (sa+k+r.size):=GB hb;rw [this,h2,<-At,show sa+k+r.size=sa+na+k3 by lia] at h3;rw [show sa+k+r.size=sa+na+k3 by lia];exact SM (List.append_cancel_right h3)
  ·rw [q2];exact sm.good.kind
  ·rw [q3];exact sm.good.failed
  ·rw [q1]
   intro i j h1 h2 h3;show Rl lt _ _;rw [WQ hb,WQ hb]
   by_cases i1:i < sa+k
   ·rw [if_pos i1]
    by_cases j1:j < sa+k
    ·rw [if_pos j1];exact ua i j h1 h2 (by lia)
    rw [if_neg j1]
    by_cases j2:j < sa+k+r.size
    ·rw [if_pos j2]
     obtain ⟨t,e,t1,t2⟩:=mm (j - (sa+k)) (by omega);rw [e]
     by_cases t3:t < sa+na
     ·exact ua i t h1 (by lia) t3
     ·exact lowb i t h1 i1 (by lia) (by lia)
    ·rw [if_neg j2];exact lowb i j h1 i1 (by lia) (by lia)
   rw [if_neg i1,if_neg (show ¬j < sa+k by lia)]
   by_cases i2:i < sa+k+r.size
   ·rw [if_pos i2]
    by_cases j2:j < sa+k+r.size
    ·rw [if_pos j2];exact rs _ _ (by lia) (by omega)
    ·rw [if_neg j2]
     obtain ⟨t,e,t1,t2⟩:=mm (i - (sa+k)) (by omega);rw [e]
     by_cases t3:t < sa+na
     ·exact tr _ _ _ (mem _ (by lia)) (mem _ (by lia)) (mem _ (by lia)) (ua t (sa+na - 1) (by lia) (by lia) (by lia)) (high j (by lia) (by lia))
     ·exact ub t j (by lia) (by lia) (by lia)
   ·rw [if_neg i2,if_neg (show ¬j < sa+k+r.size by lia)]
    exact ub i j (by lia) h2 (by lia)
  ·rw [q1]
   intro i hi;rw [WQ hb]
   by_cases i1:i < sa+k
   ·rw [if_pos i1]
   ·rw [if_neg i1,if_neg (by lia)]
 have args:∀ {P:Prop},((∀z∈x.toList,z∈a₀)->(∀z∈y.toList,z∈a₀)->x.toList.Pairwise (Rl lt)->y.toList.Pairwise (Rl lt)->0 < x.size->0 < y.size->(∀z∈x.toList,Rl lt (ix y 0) z)->(∀z∈y.toList,Rl lt z (ix x (x.size - 1)))->P)->P:=by
  intro P hP
  refine hP (λz hz=>?_) (λz hz=>?_) (U9 (by lia) λi j h1 h2 h3=>ua i j (by lia) h2 h3) (U9 (by lia) λi j h1 h2 h3=>ub i j h1 h2 (by lia)) (by lia) (by lia) (λz hz=>?_) λz hz=>?_
  ·obtain ⟨j,j1,rfl⟩:=memx z hz
   exact mem _ (by lia)
  ·obtain ⟨j,j1,rfl⟩:=memy z hz
   exact mem _ (by lia)
  ·obtain ⟨j,j1,rfl⟩:=memx z hz
   rw [ixy 0 (by lia)];have:=k2 (k+j) (by lia) (by lia);rw [show sa+(k+j)=sa+k+j by lia] at this;exact O.asym _ _ (mem _ (by lia)) (mem _ (by lia)) (by simpa using this)
  ·obtain ⟨j,j1,rfl⟩:=memy z hz
   rw [xs,ixx _ (by lia),show sa+k+(na - k - 1)=sa+na - 1 by lia];exact O.asym _ _ (mem _ (by lia)) (mem _ (by lia)) (k4 j j1)
 refine (show wpS (AW prog w) A E s (if na - k<=k3 then mLo x y >>= _ else mHi x y >>= _) Q st1 from ?_);split
 ·refine AJ (args λb1 b2 b3 b4 b5 b6 b7 b8=>XT C O g1 b1 b2 b3 b4 b5 b6 b7 b8 λr st' sm f=>?_)
  refine AJ (CZ (AJ (FA (AK ?_))));have q:=fin r st' sm f (setArr st' (wr (AN st') (sa+k) r.toList.zipIdx)) rfl rfl rfl rfl;rw [<-show (GP st').isNone=true by rw [sm.good.failed];rfl] at q;exact q
 ·refine AJ (args λb1 b2 b3 b4 b5 b6 b7 b8=>XU C O g1 b1 b2 b3 b4 b5 b6 b7 b8 λr st' sm f=>?_)
  refine AJ (CZ (AJ (FA (AK ?_))));have q:=fin r st' sm f (setArr st' (wr (AN st') (sa+k) r.toList.zipIdx)) rfl rfl rfl rfl;rw [<-show (GP st').isNone=true by rw [sm.good.failed];rfl] at q;exact q
end
end Srt
namespace Srt
open PySem PyProof.Rows
theorem Yo {c:Prop} [Decidable c] {z:Nat} (h:1 < z):(if c then z - 2 - 1 else z - 2)+1 < z:=by split <;> omega
def Stk (lt:Af->Af->Bool) (arr:Array Af):List (Nat×Nat×Nat)->Nat->Nat->Prop
 | [],lo,hi=>lo=hi
 | (s,n,_) :: r,lo,hi=>s=lo/\1<=n/\Up lt arr s (s+n)/\Stk lt arr r (s+n) hi
section
variable {lt:Af->Af->Bool} {arr arr':Array Af}
theorem Stk.le:∀ {l:List (Nat×Nat×Nat)} {lo hi:Nat},Stk lt arr l lo hi->lo+l.length<=hi
 | [],lo,hi,h=>by cases h;simp
 | (s,n,_) :: r,lo,hi,⟨h1,h2,_,h4⟩=>by
  have:=Stk.le h4;rw [Am]
  lia
theorem Stk.app:∀ {l r:List (Nat×Nat×Nat)} {lo hi:Nat},Stk lt arr (l++r) lo hi↔∃mid,Stk lt arr l lo mid/\Stk lt arr r mid hi
 | [],r,lo,hi=>⟨λh=>⟨lo,rfl,h⟩,λ⟨_,e,h⟩=>by cases e;exact h⟩
 | (s,n,_) :: l,r,lo,hi=>by
  constructor
  ·rintro ⟨h1,h2,h3,h4⟩
   obtain ⟨mid,a,b⟩:=Stk.app.mp h4;exact ⟨mid,⟨h1,h2,h3,a⟩,b⟩
  ·rintro ⟨mid,⟨h1,h2,h3,h4⟩,b⟩
   exact ⟨h1,h2,h3,Stk.app.mpr ⟨mid,h4,b⟩⟩
theorem Stk.pw {f:Nat×Nat×Nat->Nat×Nat×Nat} (hf:∀x,(f x).1=x.1/\(f x).2.1=x.2.1):∀ {l:List (Nat×Nat×Nat)} {lo hi:Nat} (i:Nat),Stk lt arr l lo hi->Stk lt arr (l.modify i f) lo hi
 | [],lo,hi,i,h=>by cases i <;> exact h
 | (s,n,p) :: r,lo,hi,0,h=>by
  obtain ⟨e1,e2⟩:=hf (s,n,p);show Stk lt arr (f (s,n,p) :: r) lo hi;generalize f (s,n,p)=q at e1 e2;obtain ⟨s',n',p'⟩:=q;dsimp only at e1 e2;subst e1 e2;exact h
 | (s,n,p) :: r,lo,hi,i+1,⟨h1,h2,h3,h4⟩=>⟨h1,h2,h3,Stk.pw hf i h4⟩
theorem Stk.out:∀ {l:List (Nat×Nat×Nat)} {lo hi x y:Nat},Stk lt arr l lo hi->Out arr arr' x y->(hi<=x∨y<=lo)->Stk lt arr' l lo hi
 | [],lo,hi,x,y,h,o,d=>h
 | (s,n,_) :: r,lo,hi,x,y,⟨h1,h2,h3,h4⟩,o,d=>by
  have:=h4.le;exact ⟨h1,h2,h3.out o (by lia),Stk.out h4 o (by lia)⟩
end
section
variable {prog:Ai} {w:A7} {A:A2} {E:AC->AE->Prop} {s:AE} {a₀:Array Af} {κ:EA} {lt:Af->Af->Bool}
theorem Out.wide {xs ys:Array Af} {l h l' h':Nat} (o:Out xs ys l h) (h1:l'<=l) (h2:h<=h'):Out xs ys l' h':=λi hi=>o i (by lia)
theorem HN {st:A8} {i hi:Nat} {Q:Bool->A8->Prop} (C:Hr prog w A s a₀ κ lt) (O:Ord (·∈a₀) lt) (g:Good a₀ κ st) (k:Stk lt (AN st) (AT st).toList 0 hi) (hs:hi<=a₀.size) (hi1:i+1 < (AT st).size)
  (h:∀st',Good a₀ κ st'->Stk lt (AN st') (AT st').toList 0 hi->(AT st').size+1=(AT st).size->Out (AN st) (AN st') 0 hi->Q true st'):wpS (AW prog w) A E s (mergeAt' i) Q st:=by
 obtain ⟨sa,na,pw,e1⟩:∃sa na pw,(AT st)[i]?=some (sa,na,pw):=⟨_,_,_,getElem?_pos (AT st) i (by lia)⟩
 obtain ⟨sb,nb,pw2,e2⟩:∃sa na pw,(AT st)[i+1]?=some (sa,na,pw):=⟨_,_,_,getElem?_pos (AT st) (i+1) hi1⟩
 obtain ⟨l,r,el,hl⟩:∃l r,(AT st).toList=l++(sa,na,pw) :: (sb,nb,pw2) :: r/\l.length=i:=by
  have a1:(AT st).toList[i]?=some (sa,na,pw):=by simpa using e1
  have a2:(AT st).toList[i+1]?=some (sb,nb,pw2):=by simpa using e2
  obtain ⟨b1,c1⟩:=AD.mp a1;obtain ⟨b2,c2⟩:=AD.mp a2;refine ⟨(AT st).toList.take i,(AT st).toList.drop (i+2),?_,by rw [CH];lia⟩
  conv=>lhs;rw [<-DW i (AT st).toList,Gy b1,Gy b2,c1,c2]
 rw [el] at k;obtain ⟨mid,k1,⟨q1,q2,q3,⟨q4,q5,q6,q7⟩⟩⟩:=Stk.app.mp k;have hle:=q7.le;have hle1:=k1.le
 refine Pm C O g e1 e2 q4 q2 q5 (by lia) q3 q6 λst' g' p' u' o'=>?_
 have pl:(AT st').toList=l++(sa,na+nb,pw) :: r:=by
  rw [p',Array.toList_eraseIdxIfInBounds,NV,el];rw [List.set_append_right _ _ (by lia),hl,cu,List.set_cons_zero,List.eraseIdx_append_of_length_le (by lia),show i+1 - l.length=1 by lia];rfl
 refine h st' g' ?_ ?_ (o'.wide (by lia) (by lia))
 ·rw [pl]
  refine Stk.app.mpr ⟨mid,k1.out o' (.inl (by lia)),q1,by lia,u',?_⟩
  have e:sb+nb=sa+(na+nb):=by lia
  rw [e] at q7;exact q7.out o' (.inr (by lia))
 ·have z1:=congrArg FQ pl
  have z2:=congrArg FQ el;simp at z1 z2
  lia
theorem wpS_sortRuns {st:A8} {Q:Unit->A8->Prop} (C:Hr prog w A s a₀ κ lt) (O:Ord (·∈a₀) lt) (g:Good a₀ κ st) (hp:AT st = #[])
  (h:∀st',Good a₀ κ st'->Up lt (AN st') 0 a₀.size->Q () st'):wpS (AW prog w) A E s sortRuns' Q st:=by
 rw [sortRuns'_eq];refine AJ (FA ?_);dsimp only;rw [g.size];generalize minRun' a₀.size a₀.size 0=mr
 refine AJ (CV (Bb (I:=λx c st'=>∃lo,c=(none,lo)/\Good a₀ κ st'/\Stk lt (AN st') (AT st').toList 0 lo/\lo<=a₀.size/\min x a₀.size<=lo)
  (Q:=λc st'=>c=(none,a₀.size)/\Good a₀ κ st'/\Stk lt (AN st') (AT st').toList 0 a₀.size) ?step ?fin ?init) ?post)
 case init=>exact ⟨0,rfl,g,by rw [hp];rfl,by lia,by lia⟩
 case fin=>
  rintro c st' ⟨lo,rfl,g',k',h1,h2⟩
  have:lo=a₀.size:=by lia
  subst this;exact ⟨rfl,g',k'⟩
 case step=>
  rintro x c st1 _ hx ⟨lo,rfl,g1,k1,h1,h2⟩;dsimp only
  by_cases hge:lo ≥ a₀.size
  ·rw [if_pos hge]
   have:lo=a₀.size:=by lia
   subst this;exact AK ⟨rfl,g1,k1⟩
  rw [if_neg hge];refine AJ (wpS_countRun C O (by lia) (by lia) g1 λst2 n g2 n1 n2 u2 o2 p2=>?_);dsimp only
  have k2:Stk lt (AN st2) (AT st2).toList 0 lo:=by
   rw [p2];exact k1.out o2 (.inl (AQ _))
  by_cases hm:n < mr
  ·rw [if_pos hm]
   refine AJ (G5 ?_);refine AJ (wpS_binarySort C O (by lia) (by omega) g2 u2 λst3 g3 u3 o3 p3=>?_)
   have k3:Stk lt (AN st3) (AT st3).toList 0 lo:=by
    rw [p3];exact k2.out o3 (.inl (AQ _))
   rw [if_neg (by simp)];refine AJ (FA ?_)
   cases hb:(AT st3).back? with
   | none=>
    dsimp only;refine AJ (CZ (AK ⟨lo+min (a₀.size - lo) mr,rfl,⟨g3.perm,g3.kind,g3.failed⟩,?_,by lia,by lia⟩));show Stk lt (AN st3) ((AT st3).push (lo,min (a₀.size - lo) mr,0)).toList 0 (lo+min (a₀.size - lo) mr);rw [Gz];exact Stk.app.mpr ⟨lo,k3,rfl,by omega,u3,rfl⟩
   | some t=>
    obtain ⟨s1,n1,z⟩:=t;dsimp only;generalize power' a₀.size (2 * s1+n1) (2 * s1+n1+n1+min (a₀.size - lo) mr) a₀.size=pw
    refine AJ (CV (Bb (I:=λ_ c st4=>c=(none,())/\Good a₀ κ st4/\Stk lt (AN st4) (AT st4).toList 0 lo/\Up lt (AN st4) lo (lo+min (a₀.size - lo) mr))
     (Q:=λc st4=>c=(none,())/\Good a₀ κ st4/\Stk lt (AN st4) (AT st4).toList 0 lo/\Up lt (AN st4) lo (lo+min (a₀.size - lo) mr)) ?_ (λc st4 h=>h) ⟨rfl,g3,k3,u3⟩) ?_)
    ·rintro x' c' st4 _ _ ⟨rfl,g4,k4,u4⟩
     refine AJ (FA ?_)
     by_cases hz:(AT st4).size > 1
     ·rw [if_pos hz]
      obtain ⟨s2,n2,older,e2⟩:∃s2 n2 older,(AT st4)[(AT st4).size - 2]?=some (s2,n2,older):=⟨_,_,_,getElem?_pos (AT st4) ((AT st4).size - 2) (by lia)⟩
      rw [e2];dsimp only
      by_cases ho:older<=pw
      ·rw [if_pos ho]
       exact AK ⟨rfl,g4,k4,u4⟩
      ·rw [if_neg ho]
       refine AJ (HN C O g4 k4 (by omega) (by lia) λst5 g5 k5 _ o5=>?_);exact AK ⟨rfl,g5,k5,u4.out o5 (.inr (by lia))⟩
     ·rw [if_neg hz]
      exact AK ⟨rfl,g4,k4,u4⟩
    ·rintro c' st4 ⟨rfl,g4,k4,u4⟩
     dsimp only;refine AJ (CZ (AJ (CZ (AK ⟨lo+min (a₀.size - lo) mr,rfl,⟨g4.perm,g4.kind,g4.failed⟩,?_,by lia,by lia⟩))));show Stk lt (AN st4) ((((AT st4).modify ((AT st4).size - 1) λx=>(x.fst,x.2.fst,pw))).push (lo,min (a₀.size - lo) mr,0)).toList 0 (lo+min (a₀.size - lo) mr);rw [Gz,SO];exact Stk.app.mpr ⟨lo,Stk.pw (f:=λx=>(x.fst,x.2.fst,pw)) (λx=>⟨rfl,rfl⟩) _ k4,rfl,by omega,u4,rfl⟩
  ·rw [if_neg hm]
   refine AJ (FA ?_)
   cases hb:(AT st2).back? with
   | none=>
    dsimp only;refine AJ (CZ (AK ⟨lo+n,rfl,⟨g2.perm,g2.kind,g2.failed⟩,?_,by lia,by lia⟩));show Stk lt (AN st2) ((AT st2).push (lo,n,0)).toList 0 (lo+n);rw [Gz];exact Stk.app.mpr ⟨lo,k2,rfl,by omega,u2,rfl⟩
   | some t=>
    obtain ⟨s1,n1,z⟩:=t;dsimp only;generalize power' a₀.size (2 * s1+n1) (2 * s1+n1+n1+n) a₀.size=pw
    refine AJ (CV (Bb (I:=λ_ c st4=>c=(none,())/\Good a₀ κ st4/\Stk lt (AN st4) (AT st4).toList 0 lo/\Up lt (AN st4) lo (lo+n))
     (Q:=λc st4=>c=(none,())/\Good a₀ κ st4/\Stk lt (AN st4) (AT st4).toList 0 lo/\Up lt (AN st4) lo (lo+n)) ?_ (λc st4 h=>h) ⟨rfl,g2,k2,u2⟩) ?_)
    ·rintro x' c' st4 _ _ ⟨rfl,g4,k4,u4⟩
     refine AJ (FA ?_)
     by_cases hz:(AT st4).size > 1
     ·rw [if_pos hz]
      obtain ⟨s2,n2,older,e2⟩:∃s2 n2 older,(AT st4)[(AT st4).size - 2]?=some (s2,n2,older):=⟨_,_,_,getElem?_pos (AT st4) ((AT st4).size - 2) (by lia)⟩
      rw [e2];dsimp only
      by_cases ho:older<=pw
      ·rw [if_pos ho]
       exact AK ⟨rfl,g4,k4,u4⟩
      ·rw [if_neg ho]
       refine AJ (HN C O g4 k4 (by omega) (by lia) λst5 g5 k5 _ o5=>?_);exact AK ⟨rfl,g5,k5,u4.out o5 (.inr (by lia))⟩
     ·rw [if_neg hz]
      exact AK ⟨rfl,g4,k4,u4⟩
    ·rintro c' st4 ⟨rfl,g4,k4,u4⟩
     dsimp only;refine AJ (CZ (AJ (CZ (AK ⟨lo+n,rfl,⟨g4.perm,g4.kind,g4.failed⟩,?_,by lia,by lia⟩))));show Stk lt (AN st4) ((((AT st4).modify ((AT st4).size - 1) λx=>(x.fst,x.2.fst,pw))).push (lo,n,0)).toList 0 (lo+n);rw [Gz,SO];exact Stk.app.mpr ⟨lo,Stk.pw (f:=λx=>(x.fst,x.2.fst,pw)) (λx=>⟨rfl,rfl⟩) _ k4,rfl,by omega,u4,rfl⟩
 case post=>
  rintro c st1 ⟨rfl,g1,k1⟩;dsimp only
  refine AJ (CV (Bb (I:=λx c st4=>c=(none,())/\Good a₀ κ st4/\Stk lt (AN st4) (AT st4).toList 0 a₀.size/\((AT st4).size<=1∨(AT st4).size+x<=a₀.size))
   (Q:=λc st4=>c=(none,())/\Good a₀ κ st4/\Stk lt (AN st4) (AT st4).toList 0 a₀.size/\(AT st4).size<=1) ?_ ?_ ?_) ?_)
  ·rintro x c st4 _ _ ⟨rfl,g4,k4,d⟩
   refine AJ (FA ?_)
   by_cases hz:(AT st4).size<=1
   ·rw [if_pos hz]
    exact AK ⟨rfl,g4,k4,hz⟩
   ·rw [if_neg hz]
    refine AJ (HN C O g4 k4 (AQ _) (Yo (by lia)) λst5 g5 k5 z5 o5=>?_);exact AK ⟨rfl,g5,k5,.inr (by lia)⟩
  ·rintro c st4 ⟨rfl,g4,k4,d⟩
   exact ⟨rfl,g4,k4,by lia⟩
  ·refine ⟨rfl,g1,k1,.inr ?_⟩
   have:=k1.le;simp at this;omega
  ·rintro c st4 ⟨rfl,g4,k4,d⟩
   refine AK (h st4 g4 ?_);generalize hl:(AT st4).toList=l at k4
   have hd:l.length<=1:=by rw [<-hl];simpa using d
   match l,k4,hd with
   | [],k4,_=>exact λi j h1 h2 h3=>by have:(0:Nat)=a₀.size:=k4;lia
   | [(s,n,_)],⟨e1,_,u,e2⟩,_=>
    have e2:s+n=a₀.size:=e2;rw [e2,e1] at u;exact u
end
end Srt
namespace Srt
open PySem PyProof.Rows
def ltL:List Int->List Int->Bool
 | [],[]=>false
 | [],_ :: _=>true
 | _ :: _,[]=>false
 | x :: xs,y :: ys=>if x=y then ltL xs ys else decide (x < y)
theorem Mi:∀x y,ltL x y=true->ltL y x=false
 | [],[],h=>by cases h
 | [],_ :: _,_=>rfl
 | _ :: _,[],h=>by cases h
 | x :: xs,y :: ys,h=>by
  unfold ltL at h ⊢
  by_cases e:x=y
  ·rw [if_pos e] at h;rw [if_pos e.symm];exact Mi xs ys h
  ·rw [if_neg e] at h;rw [if_neg (Bv e)];simp at h ⊢;lia
theorem O0:∀x y z,ltL y x=false->ltL z y=false->ltL z x=false
 | [],y,[],_,_=>rfl
 | [],[],_ :: _,_,_=>rfl
 | [],_ :: _,_ :: _,_,_=>rfl
 | x :: xs,[],z,h,_=>by cases h
 | _,y :: ys,[],_,h=>by cases h
 | x :: xs,y :: ys,z :: zs,h1,h2=>by
  unfold ltL at h1 h2 ⊢
  by_cases e1:y=x
  ·rw [if_pos e1] at h1
   subst e1
   by_cases e2:z=y
   ·rw [if_pos e2] at h2 ⊢
    exact O0 xs ys zs h1 h2
   ·rw [if_neg e2] at h2 ⊢;exact h2
  ·rw [if_neg e1] at h1
   by_cases e2:z=y
   ·subst e2;rw [if_neg e1];exact h1
   ·rw [if_neg e2] at h2
    by_cases e3:z=x
    ·subst e3;simp at h1 h2;lia
    ·rw [if_neg e3];simp at h1 h2 ⊢;lia
theorem Sm:∀x y,ltL x y=false->ltL y x=false->x=y
 | [],[],_,_=>rfl
 | [],_ :: _,h,_=>by cases h
 | _ :: _,[],_,h=>by cases h
 | x :: xs,y :: ys,h1,h2=>by
  unfold ltL at h1 h2
  by_cases e:x=y
  ·rw [if_pos e] at h1;rw [if_pos e.symm] at h2;rw [e,Sm xs ys h1 h2]
  ·rw [if_neg e] at h1;rw [if_neg (Bv e)] at h2;simp at h1 h2;lia
def ltK (f:AC->List Int) (x y:Af):Bool:=ltL (f x.1) (f y.1)
theorem YY (f:AC->List Int) (U:Af->Prop):Ord U (ltK f):=⟨λx y _ _ h=>Mi _ _ h,λx y z _ _ _ h1 h2=>O0 _ _ _ h1 h2⟩
section
variable {prog:Ai} {w:A7} {A:A2} {E:AC->AE->Prop} {s:AE}
theorem Rh {a b:Int} {t u:Tok} (o:Bool) {Q:Bool->AE->Prop} (h:Q (decide (a < b)) s):Ah (AW prog w) A (oneLt' o (.int a t) (.int b u)) Q E s:=by
 cases o with
 | true=>exact oneLt_int h
 | false=>
  rw [oneLt'_eq];simp only [CI,if_false];exact AB (wpAny_lt_int (B7 h))
def SD (s:AE) (v:AC) (ns:List Int):Prop:=∃a its,v=.ref a/\s.heap.IsTuple a its/\EK its.toList ns
def eh (o:Bool):(AC×AC)×Nat->Option Bool×Unit->Sem (ForInStep (Option Bool×Unit)):=λe _=>match e with
 | ((p,q),i)=>eqBool p q >>= λc=>if (!c)=true then oneLt' (o&&i==0) p q >>= λb=>pure (.done (some b,())) else pure (.yield (none,()))
theorem WO (o:Bool) (x y:AC):keyLt' (cR o) x y=(GX x >>= λr=>GX y >>= λq=>forIn (r.toList.zip q.toList).zipIdx ((none,()):Option Bool×Unit) (eh o) >>= λz=>match z.1 with
  | some b=>pure b
  | none=>pure (decide (r.size < q.size))):=by kernel_rfl
theorem W1 (o:Bool) {n0:Nat}:∀ {is js:List AC} {ns ms:List Int} (k:Nat) {Q:Bool->AE->Prop},EK is ns->EK js ms->Q (ltL ns ms) s ->
  Ah (AW prog w) A (forIn ((is.zip js).zipIdx k) ((none,()):Option Bool×Unit) (eh o) >>= λz=>match z.1 with
   | some b=>pure b
   | none=>pure (decide (n0+is.length < n0+js.length))) Q E s:=by
 intro is
 induction is with
 | nil=>
  intro js ns ms k Q h1 h2 hq;cases h1;rw [List.zip_nil_left,XR,Nr];refine AB (AH (AH ?_))
  cases h2 with
  | nil=>simpa [ltL] using hq
  | cons m t h=>simpa [ltL] using hq
 | cons v is ih=>
  intro js ns ms k Q h1 h2 hq
  cases h1 with
  | cons n t h1=>
   cases h2 with
   | nil=>
    rw [List.zip_nil_right,XR,Nr];refine AB (AH (AH ?_));rw [decide_eq_false (by rw [Am,Fb];lia)];exact hq
   | cons m u h2=>
    rw [List.zip_cons_cons,List.zipIdx_cons,IE];rw [bind_assoc];unfold ltL at hq;refine AB ?_;refine AB (cj ?_)
    by_cases e:n=m
    ·rw [if_pos e] at hq
     rw [if_neg (by simp [e])];refine AH ?_;have:=ih (k+1) h1 h2 hq;simpa [Nat.add_lt_add_iff_left] using this
    ·rw [if_neg e] at hq
     rw [if_pos (by simp [e])];refine AB (Rh _ (AH ?_));exact AB (AH (AH hq))
end
end Srt
namespace Srt
open PySem PyProof.Rows
section
variable {prog:Ai} {w:A7} {A:A2} {E:AC->AE->Prop} {s:AE}
theorem Kb {v:AC} {ns:List Int} (h:SD s v ns):∃its:Array AC,EK its.toList ns/\s.TypeIs v "tuple"/\∀(E:AC->AE->Prop) (Q:Array AC->AE->Prop),Q its s->Ah (AW prog w) A (GX v) Q E s:=by
 obtain ⟨a,its,rfl,⟨o,ho,hc,n,hd⟩,hi⟩:=h;exact ⟨its,hi,⟨o,ho,hc⟩,λE Q q=>listItems_at ho hd q⟩
theorem ZC {x y:AC} {ns ms:List Int} (o:Bool) (hx:SD s x ns) (hy:SD s y ms) {Q:Bool->AE->Prop} (h:Q (ltL ns ms) s):Ah (AW prog w) A (keyLt' (cR o) x y) Q E s:=by
 obtain ⟨r,hr,_,wr⟩:=Kb (prog:=prog) (w:=w) (A:=A) hx;obtain ⟨q,hq,_,wq⟩:=Kb (prog:=prog) (w:=w) (A:=A) hy;rw [WO];refine AB (wr E _ (AB (wq E _ ?_)));have:=W1 (prog:=prog) (w:=w) (A:=A) (E:=E) (n0:=0) o 0 hr hq h;simp only [Em,BN] at this;exact this
theorem UO {v:AC} {n:Int} {ns:List Int} (h:SD s v (n :: ns)) {Q:Option AC->AE->Prop} (hq:∀t,Q (some (.int n t)) s):Ah (AW prog w) A (TR v) Q E s:=by
 obtain ⟨r,hr,ty,wr⟩:=Kb (prog:=prog) (w:=w) (A:=A) h;refine (AB (wpAny_typeOf ty ?_):Ah _ _ (TR v) Q E s);refine (show Ah (AW prog w) A (if (E0 "tuple" != E0 "tuple")=true then _ else _) Q E s from ?_);rw [if_neg (by simp)];refine AB (wr E _ (AH ?_));generalize hl:r.toList=l at hr
 cases hr with
 | cons _ t h2=>
  have:r[0]?=some (.int n t):=by
   rw [<-Array.getElem?_toList,hl];rfl
  rw [this];exact hq t
theorem Mw:∀ {vs:List AC},(∀v∈vs,∃n ns,SD s v (n :: ns))->∀ {Q:List (Option AC)->AE->Prop},(∀is ns,EK is ns->is.length=vs.length->Q (is.map some) s)->Ah (AW prog w) A (vs.mapM TR) Q E s
 | [],_,Q,h=>by
  rw [List.mapM_nil];exact AH (h [] [] .nil rfl)
 | v :: vs,hv,Q,h=>by
  obtain ⟨n,ns,hn⟩:=hv v A0;rw [List.mapM_cons];refine AB (UO hn λt=>AB (Mw (λv hv'=>hv v (AZ _ hv')) λis ms h1 h2=>AH ?_));exact h (.int n t :: is) (n :: ms) (.cons n t h1) (by rw [Am,h2,Am])
theorem Oq {is:List AC} {ns:List Int} (h:EK is ns) (h0:is≠[]):oneTypeOnly' is.toArray=pure (some (.type "int")):=by
 rw [oneTypeOnly'_eq,Uv,mapM_typeOf_ints h];simp only [map_pure,pure_bind]
 cases is with
 | nil=>exact absurd rfl h0
 | cons v is=>
  have e0:(Nq (λ_=>E0 "int") (v :: is)).toArray[0]?=some (E0 "int"):=by simp
  have e1:((Nq (λ_=>E0 "int") (v :: is)).toArray.all λx=>x==E0 "int")=true:=by
   simp only [List.all_toArray,cc,Hn]
   exact λ_ _=>rfl
  rw [e0];simp only [e1,if_true]
theorem WM {vs:List AC} (hv:∀v∈vs,∃n ns,SD s v (n :: ns)) (h0:vs≠[]) {Q:EA->AE->Prop} (h:Q (cR true) s):Ah (AW prog w) A (keyKind' vs.toArray) Q E s:=by
 rw [keyKind'_eq,Uv];refine AB ?_;rw [map_eq_pure_bind];refine AB (Mw hv λis ns h1 h2=>AH ?_)
 have hall:((is.map some).toArray.all λx=>x.isSome)=true:=by simp
 rw [if_pos hall];refine AB (wpAny_rule ?_)
 have hf:(is.map some).toArray.filterMap id=is.toArray:=by simp
 rw [hf,Oq h1 (by intro e;subst e;cases vs with | nil=>exact h0 rfl | cons=>simp at h2)];refine AB (AH (AH ?_));exact h
end
end Srt
namespace Srt
open PySem PyProof.Rows
section
variable {prog:Ai} {w:A7} {A:A2} {E:AC->AE->Prop} {s:AE}
theorem Et {vs:List AC} {x:Af} (h:x∈Hx vs):x.1∈vs/\x.1=x.2:=by
 have:x∈(Hx vs).toList:=BD.mpr h;rw [pairsOf_toList] at this;exact ⟨(mem_zip_self this).2,(mem_zip_self this).1⟩
theorem T3 (vs:List AC):(Hx vs).map (·.2)=vs.toArray:=by
 apply dA
 rw [HM,pairsOf_toList];simp [List.map_snd_zip]
def PR (prog:Ai) (w:A7) (A:A2) (s:AE) (vs:List AC) (f:AC->List Int):Prop:=
 ∃κ:EA,(∀(Q:EA->AE->Prop) (E:AC->AE->Prop),Q κ s->Ah (AW prog w) A (keyKind' vs.toArray) Q E s)/\Hr prog w A s (Hx vs) κ (ltK f)
theorem Nf {a:AF} {vs:List AC} {n:Nat} {P:Fin->AE->Prop} {f:AC->List Int} (ho:s.heap.get? a=some (Gk "list" vs.toArray n)) (hz:vs.length<=sizeLine)
  (hk:2<=vs.length->∀s':AE,(∀b o,b≠a->s.heap.get? b=some o->s'.heap.get? b=some o)->PR prog w A s' vs f)
  (h:∀out:Array AC,out.toList.Perm vs->out.toList.Pairwise (λx y=>ltL (f y) (f x)=false)->P (.done (.ret .none)) { s with heap:=Zj s.heap a vs out }) :
  Ah (AW prog w) A (Builtin.«list.sort» ⟨[.ref a],[]⟩) P E s:=by
 have ha:a < s.heap.objs.size:=Ae ho
 have hsz:vs.toArray.size=vs.length:=by simp
 obtain ⟨e1,ho1⟩:∃e1,(s.heap.update a (Gn λ_=>#[])).get? a=some (Gk "list" #[] e1):=⟨_,get?_update_seq ho (λ_=>#[])⟩
 have ho6:(((s.heap.update a (Gn λ_=>#[])).push (Gk "tuple" vs.toArray 0)).push (Gk "list" #[] 0)).get? a=some (Gk "list" #[] e1):=
  AM _ (AM _ ho1)
 have old:∀b o,b≠a->s.heap.get? b=some o->(((s.heap.update a (Gn λ_=>#[])).push (Gk "tuple" vs.toArray 0)).push (Gk "list" #[] 0)).get? b=some o:=λb o hb hg=>
  AM _ (AM _ (by rw [TY _ _ _ _ hb];exact hg))
 have fin:∀st':A8,(AN st').Perm (Hx vs)->(AN st').toList.Pairwise (Rl (ltK f))->P (.done (.ret .none)) { s with heap:=Zj s.heap a vs ((AN st').map (·.2)) }:=by
  intro st' hp hs
  have hmem:∀x∈(AN st').toList,x.1=x.2:=λx hx=>by
   have:x∈(Hx vs).toList:=(Do.mp hp).mem_iff.mp hx;exact (Et (BD.mp this)).2
  refine h _ ?_ ?_
  ·have:=(Do.mp hp).map (·.2)
   rw [<-HM,<-HM,T3] at this;simpa using this
  ·rw [HM,Bz]
   refine hs.imp_of_mem λ{x y} hx hy r=>?_
   rw [<-hmem x hx,<-hmem y hy];exact r
 have last:∀st':A8,(AN st').Perm (Hx vs)->GP st'=none->(AN st').toList.Pairwise (Rl (ltK f))->(((AN st').map (·.2)).size<=sizeLine+1):=λst' hp _ _=>by
  rw [Array.size_map,hp.size_eq,pairsOf_size]
  lia
 rw [list_sort_plain];refine AB (listItems_at ho rfl (AB (TQ ho rfl (AB (XN ho1 rfl (AB (wpAny_newTuple (AB (wpAny_newList (Eg ?_)))))) ) (by rw [hsz];exact hz) (Cv _))));show Ah (AW prog w) A _ P E { s with heap:=((s.heap.update a (Gn λ_=>#[])).push (Gk "tuple" vs.toArray 0)).push (Gk "list" #[] 0) };dsimp only
 by_cases h2:vs.toArray.size < 2
 ·rw [if_pos h2,if_pos h2]
  refine AB (AH ?_);rw [StateT.run_pure]
  have hs0:(AN (Ex Q5 (vs.toArray.zip vs.toArray) #[] 7 none)).toList.Pairwise (Rl (ltK f)):=by
   have:(AN (Ex Q5 (vs.toArray.zip vs.toArray) #[] 7 none)).toList.length < 2:=by
    rw [BN];show (Hx vs).size < 2;rw [pairsOf_size];omega
   generalize (AN (Ex Q5 (vs.toArray.zip vs.toArray) #[] 7 none)).toList=l at this
   match l,this with
   | [],_=>exact .nil
   | [x],_=>exact Hk _ _
   | _ :: _ :: _,h=>simp at h;lia
  refine AB (AH (AB (XN ho6 rfl (AB (TQ ho6 rfl ?_ (Cv _) (last (Ex Q5 (vs.toArray.zip vs.toArray) #[] 7 none) (KO _) rfl hs0))))));simp only [bne_self_eq_false,CI,if_false];exact AH (fin (Ex Q5 (vs.toArray.zip vs.toArray) #[] 7 none) (KO _) hs0)
 ·rw [if_neg h2,if_neg h2]
  obtain ⟨κ,kk,C⟩:=hk (by lia) { s with heap:=((s.heap.update a (Gn λ_=>#[])).push (Gk "tuple" vs.toArray 0)).push (Gk "list" #[] 0) } old;refine AB (kk _ _ ?_)
  refine AB (DY (Srt.wpS_sortRuns (a₀:=Hx vs) (st:=Ex κ (vs.toArray.zip vs.toArray) #[] 7 none)
   (Q:=λ_ st'=>(AN st').Perm (Hx vs)/\GP st'=none/\(AN st').toList.Pairwise (Rl (ltK f))) C (YY f _) ⟨KO _,rfl,rfl⟩ rfl λst' g u=>⟨g.perm,g.failed,?_⟩) ?_ λ_ _ e=>e)
  ·have:=U9 (a:=AN st') (lo:=0) (hi:=(AN st').size) (AQ _) (by rw [g.size];exact u)
   rwa [Hc,List.drop_zero] at this
  rintro ⟨⟨⟩,st'⟩ s' ⟨rfl,hp,hf,hs⟩;refine AB (XN ho6 rfl (AB (TQ ho6 rfl ?_ (Cv _) (last st' hp hf hs))));rw [hf];simp only [bne_self_eq_false,CI,if_false];exact AH (fin st' hp hs)
theorem Tk {vs:List AC} {f:AC->List Int} (h:∀v∈vs,SD s v (f v)/\f v≠[]) (h0:vs≠[]):PR prog w A s vs f:=
 ⟨cR true,λQ E q=>WM (λv hv=>by
  obtain ⟨h1,h2⟩:=h v hv
  cases e:f v with
  | nil=>exact absurd e h2
  | cons n ns=>exact ⟨n,ns,by rw [<-e];exact h1⟩) h0 q,λx y hx hy Q E q=>ZC true (h _ (Et hx).1).1 (h _ (Et hy).1).1 q⟩
def V0 (v:AC):List Int:=[numOf v]
theorem Tn {vs:List AC} {ns:List Int} (h:EK vs ns) (h2:2<=vs.length):PR prog w A s vs V0:=by
 refine ⟨oneType',λQ E q=>?_,λx y hx hy Q E q=>?_⟩
 ·match vs,h2,h with
  | v :: u :: r,_,h=>rw [keyKind_ints h];exact AH q
 ·obtain ⟨n,t,e1⟩:=h.all _ (Et hx).1
  obtain ⟨m,u,e2⟩:=h.all _ (Et hy).1;rw [keyLt'_oneType,e1,e2];refine oneLt_int ?_
  have:ltK V0 x y=decide (n < m):=by
   unfold ltK V0;rw [e1,e2];show (if n=m then false else decide (n < m))=_;split
   ·rename_i e;simp [e]
   ·rfl
  rw [<-this];exact q
end
end Srt
namespace Srt
open PySem PyProof.Rows
def Nj (h:BY) (d:AF) (es:Array K9) (ep:Nat):Prop:=∃o,h.get? d=some o/\o.ExactDict/\o.data=.dict es ep
theorem Nj.at' {h h':BY} {d:AF} {es:Array K9} {ep:Nat} (x:Nj h d es ep) (e:∀o,h.get? d=some o->h'.get? d=some o):Nj h' d es ep:=let ⟨o,ho,r⟩:=x;⟨o,e _ ho,r⟩
theorem Nj.ty {s:AE} {d:AF} {es:Array K9} {ep:Nat} (x:Nj s.heap d es ep):s.TypeIs (.ref d) "dict":=let ⟨o,ho,hc,_⟩:=x;⟨o,ho,hc.1⟩
section
variable {prog:Ai} {w:A7} {A:A2} {E:AC->AE->Prop} {s:AE} {d it:AF} {es:Array K9} {ep i:Nat}
theorem Vf {Q:AC->AE->Prop} (hd:(d==Ca)=false) (hm:Nj s.heap d es ep)
  (kq:Q (.ref s.heap.objs.size) { s with heap:=s.heap.push { cls:=.type "dict_keyiterator",data:=.fields #[.ref d,.int 0 0,.int es.size 0,.int ep 0] } }):Ah (AW prog w) A (pyIter (.ref d)) Q E s:=by
 have hT:=hm.ty;obtain ⟨o,ho,hc,hdat⟩:=hm;refine wpAny_pyIter_slot hT OT (Fi OT hT PySem.F.entry_dict_iter ?_ (PySem.F.args_dict_iter_1 _));unfold Builtin.«dict.__iter__»;refine AB ?_;unfold fH;refine AB (wpAny_notOrdered_dict hT (show Ah _ _ (pure (Ak d)) _ _ s from AH ?_));refine (show Ah _ _ (L9 d >>= _) _ _ s from ?_);unfold L9;rw [if_neg (by simp [hd])];refine AB (AH (AB (NI ho hdat (AB (Pf ho hdat (AB (B8 (AH ⟨_,rfl, "dict_keyiterator",_,⟨_,A5 _ rfl,rfl⟩,Bp.lookup,?_⟩))))))));simpa [EM] using kq
theorem Ve {Q:Option AC->AE->Prop} (ki:s.heap.IsKeyIter it d i es.size ep) (hm:Nj s.heap d es ep) (hi:i < es.size)
  (kq:∀h',h'.IsKeyIter it d (i+1) es.size ep->GK it s.heap h'->Q (some es[i].key) { s with heap:=h' }):Ah (AW prog w) A (Ur (.ref it)) Q E s:=by
 obtain ⟨o,ho,hc,hd⟩:=id ki;obtain ⟨od,hod,hcd,hdd⟩:=hm;unfold Ur;refine AB (IA (Iv (name:=Q9 "__next__") ki.typeIs Bp (Fi Bp ki.typeIs JE (AB (AH (AB (AB ?_)))) (Ix _))))
 first | refine AB (DU ki.typeIs (AH (AB (KP ho hd ?_)))) | refine AB (Ef ki.typeIs (AH (AB (KP ho hd ?_))))
 simp only [show Hz "dict_keyiterator" = false by decide,CI,if_false];refine (show Ah _ _ (if (Ak d==BP)=true then _ else _) _ _ s from ?_);rw [if_neg (λz:(Ak d==BP)=true=>AS z)];refine AB (AH (AB (NI hod hdd ?_)));rw [if_neg (by simp)];refine AB (AH (AB (Pf hod hdd ?_)));rw [if_neg (by simp)];refine AH ?_;simp only [show ¬((i:Int) < 0) by lia,if_false,B1,Array.getElem?_eq_getElem hi];refine AB ?_
 first | refine AB (DU ki.typeIs (AH (AB (Jn ki.typeIs ?_)))) | refine AB (Ef ki.typeIs (AH (AB (Jn ki.typeIs ?_))))
 refine (show Ah _ _ (XM (.ref it) 1 (EM ((i:Int)+1)) >>= _) _ _ s from ?_);have ki':(s.heap.update it (CL (·.setIfInBounds 1 (EM ((i:Int)+1))))).IsKeyIter it d (i+1) es.size ep:=⟨_,E2 _ ho (E9 (CJ hd _)),(LR ..).trans hc,by rw [CJ hd];simp [EM]⟩;refine AB (HG ho hd (by simp) (AB (Eg (AB (Jn (s:={ s with heap:=s.heap.update it (CL (·.setIfInBounds 1 (EM ((i:Int)+1)))) }) ki'.typeIs ?_)))));exact (show Ah _ _ (pure es[i].key) _ _ _ from AH (AH ⟨_,rfl,AH (kq _ ki' (NT ..))⟩))
theorem X7 {Q:Option AC->AE->Prop} (h0:A.handled=none) (ki:s.heap.IsKeyIter it d i es.size ep) (hm:Nj s.heap d es ep) (hi:es.size<=i)
  (kq:∀h',BY.ExtBut it s.heap h'->Q none { s with heap:=h' }):Ah (AW prog w) A (Ur (.ref it)) Q E s:=by
 obtain ⟨o,ho,hc,hd⟩:=id ki;obtain ⟨od,hod,hcd,hdd⟩:=hm;unfold Ur;refine AB (IA (Iv (name:=Q9 "__next__") ki.typeIs Bp (Fi Bp ki.typeIs JE (AB (AH (AB (AB ?_)))) (Ix _))))
 first | refine AB (DU ki.typeIs (AH (AB (KP ho hd ?_)))) | refine AB (Ef ki.typeIs (AH (AB (KP ho hd ?_))))
 simp only [show Hz "dict_keyiterator" = false by decide,CI,if_false];refine (show Ah _ _ (if (Ak d==BP)=true then _ else _) _ _ s from ?_);rw [if_neg (λz:(Ak d==BP)=true=>AS z)];refine AB (AH (AB (NI hod hdd ?_)));rw [if_neg (by simp)];refine AB (AH (AB (Pf hod hdd ?_)));rw [if_neg (by simp)];refine AH ?_;simp only [show ¬((i:Int) < 0) by lia,if_false,B1,Array.getElem?_eq_none hi];refine AB ?_
 first | refine AB (DU ki.typeIs (AH (show Ah _ _ (XM (.ref it) 0 .none >>= _) _ _ s from ?_))) | refine AB (Ef ki.typeIs (AH (show Ah _ _ (XM (.ref it) 0 .none >>= _) _ _ s from ?_)))
 refine AB (HG ho hd (by simp) (show Ah _ _ (newExc (.type "StopIteration") [] >>= _) _ _ _ from AB ?_));simp only [newExc,newTuple];refine AB (B8 (AB (m:=firstArgMember _ _) (wpAny_of_eq (a:=BP) (by first | rfl | (simp only [firstArgMember];rfl)) (B8 ?_ (by size_fits)))) (by size_fits));simp only [raiseNew];refine AB (wpAny_handled ?_);rw [show A.in1.handled=none from h0];refine AB (AH (wpAny_throw ?_));refine AB (wpAny_isInstance (T:="StopIteration") (b:=true) ⟨_,A5 _ rfl,rfl⟩ isSubtype_stop (AH ?_));exact kq _ (((NT ..).extBut.push _).push _)
theorem Tv (h0:A.handled=none) (I:AF) (hne:d≠I):Walks prog w A I [I,d] [I] es.size (λi v=>∃h:i < es.size,v=es[i].key) (λi h=>h.IsKeyIter I d i es.size ep/\Nj h d es ep) where
 sub:=λx hx=>by simp at hx;simp [hx]
 frame:=λ_ _ _ st keep=>⟨st.1.at λo e=>keep I (by simp) o e,st.2.at' λo e=>keep d (by simp) o e⟩
 item:=λi s Q E hi st kq=>Ve st.1 st.2 hi λh' ki' hs'=>kq _ h' s.toks ⟨hi,rfl⟩ ⟨ki',st.2.at' λo e=>hs'.extBut d o hne e⟩ λb o hb e=>hs'.extBut b o (λh=>hb (by simp [h])) e
 done:=λs Q E st kq=>X7 h0 st.1 st.2 (AQ _) λh' he'=>kq h' s.toks λb o hb e=>he' b o (λh=>hb (by simp [h])) e
 self:=λ_ _ _ _ st kq=>wpAny_pyIter_keyiter st.1 kq
theorem Se (lo:(d==Ca)=false):PySem.W.KdlSrc prog w "dict" d d es.size (λi v=>∃h:i < es.size,v=es[i].key) (λh=>Nj h d es ep) where
 type:=λ_ hm=>hm.ty
 there:=λ_ hm=>⟨let ⟨_,ho,_⟩:=hm;Ae ho,let ⟨_,ho,_⟩:=hm;Ae ho⟩
 keep:=λ_ _ hm hk=>hm.at' λo e=>hk d (.inl rfl) o e
 notList:=by decide
 notTuple:=by decide
 hint:=λ_ _ _ _ hm hq=>PySem.W.kdl_hint_dict hm.ty hq
 iter:=λ_ _ h0 hm=>⟨_,_,(λ_ _ hq=>Vf lo hm hq),Tv h0 _ (Ay (let ⟨_,ho,_⟩:=hm;Ae ho)),⟨⟨_,A5 _ rfl,rfl,rfl⟩,hm.at' λo e=>AM _ e⟩⟩
end
end Srt
namespace L2
open PySem PySem.Spec PyProof.Rows
open Srt (ltL)
theorem QG {α β:Type} {R:α->β->Prop} {l2 l2':List β} (p:l2.Perm l2'):∀ {l1:List α},El R l1 l2->∃l1',El R l1' l2'/\l1'.Perm l1:=by
 induction p with
 | nil=>intro l1 h;cases h;exact ⟨[],.nil,.refl _⟩
 | cons x _ ih=>
  intro l1 h
  cases h with
  | cons r t=>
   obtain ⟨l',h1,h2⟩:=ih t;exact ⟨_ :: l',.cons r h1,h2.cons _⟩
 | swap x y l=>
  intro l1 h
  cases h with
  | cons r t=>
   cases t with
   | cons r2 t=>exact ⟨_ :: _ :: _,.cons r2 (.cons r t),List.Perm.swap _ _ _⟩
 | trans _ _ ih1 ih2=>
  intro l1 h;obtain ⟨a,h1,h2⟩:=ih1 h;obtain ⟨b,h3,h4⟩:=ih2 h1;exact ⟨b,h3,h4.trans h2⟩
theorem Jz {α β γ:Type} {R:α->β->Prop} {f:α->γ} {g:β->γ}:∀ {l1:List α} {l2:List β},El R l1 l2->(∀a∈l1,∀b,R a b->g b=f a)->l2.map g=l1.map f
 | _,_,.nil,_=>rfl
 | _,_,.cons r t,h=>by rw [A9,A9,h _ A0 _ r,Jz t λa ha=>h a (AZ _ ha)]
theorem MY {α β:Type} {R:α->β->Prop}:∀ {l1:List α} {l2:List β} {b:β},El R l1 l2->b∈l2->∃a∈l1,R a b
 | _,_,_,.nil,h=>nomatch h
 | _,_,b,.cons r t,h=>by
  rcases Ap.mp h with h | h
  ·subst h;exact ⟨_,A0,r⟩
  ·obtain ⟨a,ha,e⟩:=MY t h
   exact ⟨a,AZ _ ha,e⟩
def Nd:V->Int
 | .int n=>n
 | _=>0
def Tu (H:Hp):AC->List Int
 | .int n _=>[n]
 | .ref b=>match H b with
  | some (.tup xs)=>xs.map Nd
  | _=>[]
 | _=>[]
theorem Km (r:List Int):(r.map V.int).map Nd=r:=by
 rw [Be];exact (B0 λa _=>rfl).trans (List.map_id' r)
def ej (K:AA) (H:Hp) (p:AF) (G:List V->Prop):Prop:=
 (∃vs,(SqL K H p vs∨SqT K H p vs)/\G vs)∨(∃kvs,H p=some (.dK kvs)/\G (kvs.map λx=>kV x.1)) ∨
  ∃kvs,H p=some (.dT kvs)/\∀bs:List AF,El (λ(k:List Key×V) b=>H b=some (.tup (k.1.map kV))) kvs bs->G (bs.map V.ref)
def OO (H:Hp) (f:V->List Int) (vs:List V):Prop:=(∀v∈vs,∃n,v=.int n/\f v=[n])∨∀v∈vs,∃b,v=.ref b/\H b=some (.tup ((f v).map V.int))/\f v≠[]
def dX (K:AA):List V->Hp->VK->Prop:=λxs H Q=>∃p,xs=[.ref p]/\ej K H p λvs=>∃f:V->List Int,OO H f vs /\
 ∀out,out.Perm vs->out.Pairwise (λx y=>ltL (f y) (f x)=false)->∀l,H l=none->Q (.ref l) (upd H l (.lst out))
theorem OO.rel {H:Hp} {f:V->List Int} {vs:List V} (h:OO H f vs):∀v∈vs,∀u,RelV v u->Tu H u=f v:=λv hv u r=>by
 rcases h with h | h
 ·obtain ⟨n,rfl,e⟩:=h v hv
  obtain ⟨t,rfl⟩:=r;exact e.symm
 ·obtain ⟨b,rfl,e,_⟩:=h v hv
  cases r;show (match H b with | some (.tup xs)=>xs.map Nd | _=>[])=_;rw [e];exact Km _
theorem P2 {X:Cx} {pins:List (AF×Obj)} {s:AE} {σ:St} {H:Hp} {p:AF} {G:List V->Prop} (hc:X.calm=true) (I:Inv X pins σ H s) (h:ej X.K H p G) :
  ∃vs its,G vs/\BZ vs its/\its.length<=sizeLine/\∀(R:List AC->AE->Prop) (E:AC->AE->Prop),(∀(g:BY) (tk:Nat),(∀b o,s.heap.get? b=some o->g.get? b=some o)->R its { s with heap:=g,toks:=tk })->Ah (AW X.prog X.w) X.A.in1 (collect (.ref p)) R E s:=by
 have hh:X.A.handled=none:=I.ok.hd hc
 rcases h with ⟨vs,sq,g⟩ | ⟨kvs,e,g⟩ | ⟨kvs,e,g⟩
 ·rcases sq with sq | sq
  ·obtain ⟨its,rv,pl,hz⟩:=I.list sq
   refine ⟨vs,its,g,rv,by rw [<-rv.length];exact hz,λR E k=>collect_list pl.isList (k _ s.toks λb o e=>?_) (by rw [<-rv.length];exact hz)⟩;rw [TY _ _ _ _ (Ay (Ae e))];exact AM _ e
  ·obtain ⟨its,rv,⟨o,ho,hcl,n,hd⟩,hz⟩:=I.tuple sq
   have hz':its.length<=sizeLine:=by rw [<-rv.length];exact hz
   exact ⟨vs,its,g,rv,hz',λR E k=>wpAny_collect_seq p (.inr rfl) ho hcl hd (λh' kp=>by simpa using k h' s.toks kp) (by simpa using hz')⟩
 ·obtain ⟨hz,sm,us,kv,o,es,ep,g1,g2,g3,g5,g6,_⟩:=(show CD X.prog X.w H s.heap p (.dK kvs) from I.hok p _ e)
  have hlen:es.size=kvs.length:=by
   have a1:=g6.length;have a2:kvs.length=us.length:=DK kv;rw [BN] at a1
   lia
  have hv:BZ (kvs.map λx=>kV x.1) (es.toList.map (·.key)):=by
   have key:∀ {l:List K9} {us:List (Key×AC)} {kvs:List (Key×V)},Pairs (Ch X.prog X.w) l us->KV kvs us->BZ (kvs.map λx=>kV x.1) (l.map (·.key)):=by
    intro l us kvs hp
    induction hp generalizing kvs with
    | nil=>intro h;cases h;exact .nil
    | cons q1 q2 _ ih=>
     intro h
     cases h with
     | cons r t=>
      refine .cons ?_ (ih t);dsimp only;rw [r.1]
      rcases CY q1 with ⟨i,t,e1,e2⟩ | ⟨x,t,e1,e2⟩
      ·rw [e1,e2];exact ⟨t,rfl⟩
      ·rw [e1,e2];exact ⟨t,rfl⟩
   exact key g6 kv
  refine ⟨_,es.toList.map (·.key),g,hv,by rw [AG,BN,hlen];exact hz,λR E k=>?_⟩
  refine Qu (Srt.Se (es:=es) (ep:=ep) sm) hh ⟨o,g1,g2,g3⟩ (by rw [hlen];exact hz) λg' tk acc kp ac=>?_
  have:acc.toList=es.toList.map (·.key):=by
   apply K8
   intro j
   by_cases hj:j < es.size
   ·have hj2:j < acc.size:=by rw [ac.1];exact hj
    obtain ⟨_,e2⟩:=ac.2 j acc[j] (by simp [hj2]);simp [hj,hj2,e2]
   ·have hj2:¬j < acc.size:=by rw [ac.1];exact hj
    simp [hj,hj2]
  rw [this];exact k g' tk kp
 ·obtain ⟨hz,sm,xs,rr,o,es,ep,g1,g2,g3,g4,_⟩:=(show CD X.prog X.w H s.heap p (.dT kvs) from I.hok p _ e)
  have hlen:es.size=kvs.length:=by
   have a1:=congrArg FQ g4;have a2:kvs.length=xs.length:=DK rr;rw [BN,AG] at a1
   lia
  have hb:El (λ(k:List Key×V) b=>H b=some (.tup (k.1.map kV))) kvs (xs.map (·.2.1)):=by
   have key:∀ {kvs:List (List Key×V)} {xs:List (List Key×AF×AC)},El (λ(p:List Key×V) (q:List Key×AF×AC)=>p.1=q.1/\H q.2.1=some (.tup (p.1.map kV))/\RelV p.2 q.2.2) kvs xs->El (λ(k:List Key×V) b=>H b=some (.tup (k.1.map kV))) kvs (xs.map (·.2.1)):=by
    intro kvs xs h
    induction h with
    | nil=>exact .nil
    | cons r _ ih=>exact .cons r.2.1 ih
   exact key rr
  have hk:es.toList.map (·.key)=(xs.map (·.2.1)).map Ak:=by
   rw [g4,Be,Be];rfl
  have hv:∀l:List AF,BZ (l.map V.ref) (l.map Ak):=λl=>by
   induction l with
   | nil=>exact .nil
   | cons a l ih=>exact .cons rfl ih
  refine ⟨_,(xs.map (·.2.1)).map Ak,g _ hb,hv _,by rw [AG,AG,<-DK rr];exact hz,λR E k=>?_⟩
  refine Qu (Srt.Se (es:=es) (ep:=ep) sm) hh ⟨o,g1,g2,g3⟩ (by rw [hlen];exact hz) λg' tk acc kp ac=>?_
  have:acc.toList=(xs.map (·.2.1)).map Ak:=by
   rw [<-hk]
   apply K8
   intro j
   by_cases hj:j < es.size
   ·have hj2:j < acc.size:=by rw [ac.1];exact hj
    obtain ⟨_,e2⟩:=ac.2 j acc[j] (by simp [hj2]);simp [hj,hj2,e2]
   ·have hj2:¬j < acc.size:=by rw [ac.1];exact hj
    simp [hj,hj2]
  rw [this];exact k g' tk kp
theorem P7 {X:Cx} {s:AE} {H:Hp} {f:V->List Int} {vs:List V} {its:List AC} (I:∀b xs,H b=some (.tup xs)->∃is:List AC,BZ xs is/\cf s.heap b is.toArray) (h:OO H f vs) (rv:BZ vs its) (h2:2<=its.length) {A:A2}:Srt.PR X.prog X.w A s its (Tu H):=by
 rcases id h with hi | ht
 ·have:∃ns,EK its ns:=by
   have key:∀ {vs:List V} {its:List AC},BZ vs its->(∀v∈vs,∃n,v=.int n/\f v=[n])->∃ns,EK its ns:=by
    intro vs its r
    induction r with
    | nil=>exact λ_=>⟨[],.nil⟩
    | cons r _ ih=>
     intro hv
     obtain ⟨ns,hns⟩:=ih λv hv'=>hv v (AZ _ hv')
     obtain ⟨n,rfl,_⟩:=hv _ A0;obtain ⟨t,rfl⟩:=r;exact ⟨n :: ns,.cons n t hns⟩
   exact key rv hi
  obtain ⟨ns,hns⟩:=this;obtain ⟨κ,k1,k2⟩:=Srt.Tn (prog:=X.prog) (w:=X.w) (A:=A) (s:=s) hns h2;refine ⟨κ,k1,λx y hx hy Q E q=>k2 x y hx hy Q E ?_⟩;obtain ⟨n,t,e1⟩:=hns.all _ (Srt.Et hx).1;obtain ⟨m,u,e2⟩:=hns.all _ (Srt.Et hy).1
  have e:Srt.ltK Srt.V0 x y=Srt.ltK (Tu H) x y:=by
   unfold Srt.ltK Srt.V0;rw [e1,e2];rfl
  rw [e];exact q
 ·refine Srt.Tk (λu hu=>?_) (by intro e;subst e;simp at h2)
  obtain ⟨v,hv,r⟩:=MY rv hu;rw [h.rel v hv u r];obtain ⟨b,rfl,e,ne⟩:=ht v hv;cases r;refine ⟨⟨b,?_⟩,ne⟩;obtain ⟨is,r,o,ho,hcl,n,hd⟩:=I b _ e;exact ⟨is.toArray,rfl,⟨o,ho,hcl,n,hd⟩,by simpa using intsAre_of r⟩
theorem UX {X:Cx} (hc:X.calm=true):Gi X (.builtin "sorted") (dX X.K):=by
 intro pins s σ H xs us Q I r h;obtain ⟨p,rfl,src⟩:=h;obtain ⟨u,rfl,rx⟩:=vals1 r;cases rx;obtain ⟨vs,its,⟨f,rows,q⟩,rv,hz,col⟩:=P2 hc I src;refine Calls.call_function_entry kind_sorted plain_sorted entry_sorted (args_sorted1 _) ?_;unfold Builtin.«sorted»;refine AB (m:=checkCount "sorted" 1 1 _) (AH (AB (col _ _ λg tk kp=>?_)));refine AB (wpAny_newList ?_ hz);have I1:Inv X pins σ H { s with heap:=g,toks:=tk }:=I.kept kp;have hl:(g.push (Gk "list" its.toArray 0)).get? g.objs.size=some (Gk "list" its.toArray 0):=A5 _ rfl;refine AB (Eg (Fi slot_list_sort ⟨_,hl,rfl⟩ entry_list_sort (Srt.Nf (f:=Tu H) hl hz (λh2 s' keep=>?_) λout po so=>⟨_,rfl,AH ⟨_,rfl,?_⟩⟩) (args_list_sort _)))
 ·refine P7 (λb xs e=>?_) rows rv h2
  obtain ⟨_,is,r,o,ho,hcl,n,hd⟩:=(show CD X.prog X.w H g b (.tup xs) from I1.hok b _ e);exact ⟨is,r,o,keep b o (Ay (Ae ho)) (AM _ ho),hcl,n,hd⟩
 ·obtain ⟨vo,ro,pv⟩:=QG po.symm rv
  have so':vo.Pairwise (λx y=>ltL (f y) (f x)=false):=by
   have e:out.toList.map (Tu H)=vo.map f:=Jz ro λa ha b rb=>rows.rel a (pv.mem_iff.mp ha) b rb
   have:=(Bz (f:=Tu H) (R:=λx y=>ltL y x=false)).mpr so;rw [e] at this;exact Bz.mp this
  obtain ⟨k,hk⟩:=sortedHeap_at (out:=out) hl
  have hlen:vo.length<=sizeLine:=by rw [pv.length_eq,rv.length];exact hz
  have I2:=I1.laid (a:=g.objs.size) (o:=.lst vo) (t':=tk) (h':=Zj (g.push (Gk "list" its.toArray 0)) g.objs.size its out)
   (λb u z=>by
    have lt:b < g.objs.size:=Ae z;rw [sortedHeap_old (Ay lt) (by rw [size_push'];exact XF lt)]
    exact AM _ z) (AQ _) ⟨hlen,out.toList,k,ro,hk⟩
  exact ⟨.ref g.objs.size,_,I2,rfl,q vo pv so' _ (I1.hok.fresh (AQ _))⟩
end L2
namespace L2
open PySem PySem.Spec PyProof.Rows
open Srt (ltL)
def E5 (ns:List Int):List Int:=ns.mergeSort (λa b=>decide (a<=b))
@[simp] theorem To:E5 []=[]:=by unfold E5;simp
theorem JW (ns:List Int):(E5 ns).Perm ns:=TW ns _
theorem VX (ns:List Int):(E5 ns).Pairwise (·<=·):=by
 have:=Pj (le:=λa b:Int=>decide (a<=b)) (by intro a b c h1 h2;simp at h1 h2 ⊢;lia) (by intro a b;simp;lia) ns
 exact this.imp λh=>by simpa using h
def IK (rs:List (List Int)):List (List Int):=rs.mergeSort (λa b=>!ltL b a)
theorem Fo (rs:List (List Int)):(IK rs).Perm rs:=TW rs _
theorem VY (rs:List (List Int)):(IK rs).Pairwise (λa b=>ltL b a=false):=by
 have:=Pj (le:=λa b:List Int=>!ltL b a) (by intro a b c h1 h2;simp at h1 h2 ⊢;exact Srt.O0 _ _ _ h1 h2) (by
  intro a b
  cases e:ltL b a with
  | false=>simp
  | true=>simp [Srt.Mi _ _ e]) rs
 exact this.imp λh=>by simpa using h
theorem Tl {l l':List (List Int)} (p:l.Perm l') (h:l.Pairwise (λa b=>ltL b a=false)) (h':l'.Pairwise (λa b=>ltL b a=false)):l=l':=
 p.eq_of_pairwise (λa b _ _ h1 h2=>Srt.Sm a b h2 h1) h h'
def WN:Key->D
 | .inl i=>.int i
 | .inr x=>.str x
def Ft (d:D) (S:Sto):Option (List D):=match d with
 | .fro ds=>some ds
 | .tup ds=>some ds
 | .ref n=>match S[n]? with
  | some (.lst ds)=>some ds
  | some (.dK kvs)=>some (kvs.map λx=>WN x.1)
  | some (.dT kvs)=>some (kvs.map λx=>.tup (x.1.map WN))
  | _=>none
 | _=>none
def G7 (r:List Int):D:=.tup (r.map D.int)
def JJ:List D->Option (List (List Int))
 | []=>some []
 | .tup ds :: r=>match HA ds,JJ r with
  | some (n :: ns),some rs=>some ((n :: ns) :: rs)
  | _,_=>none
 | _ :: _=>none
def JI (ds:List D):Option (List D):=match HA ds with
 | some ns=>some ((E5 ns).map D.int)
 | none=>match JJ ds with
  | some rs=>some ((IK rs).map G7)
  | none=>none
def DP (m:ME):ME:=λe S=>(m e S).bind λd S1=>match Ft d S1 with
 | some ds=>match JI ds with
  | some es=>.ok (.ref S1.length) (S1++[.lst es])
  | none=>.bad
 | none=>.bad
section
variable {X:Cx} {E:EW} {e:Expr} {p pos:Pos} {m:ME}
theorem Yl (x y:Int):ltL [y] [x]=decide (y < x):=by
 show (if y=x then false else decide (y < x))=_;split
 ·rename_i e;simp [e]
 ·rfl
def Na (H:Hp):V->List Int
 | .int n=>[n]
 | .ref b=>match H b with
  | some (.tup xs)=>xs.map Nd
  | _=>[]
 | _=>[]
theorem P8 {K:AA} {ρ:List AF} {H:Hp}:∀ {ds:List D} {rs:List (List Int)} {vs:List V},JJ ds=some rs->An K ρ H ds vs->vs.map (Na H)=rs/\∀v∈vs,∃b,v=.ref b/\H b=some (.tup ((Na H v).map V.int))/\Na H v≠[]
 | [],_,_,h,.nil=>by cases h;exact ⟨rfl,λv hv=>nomatch hv⟩
 | .tup ts :: ds,rs,_,h,.cons r t=>by
  unfold JJ at h;split at h
  ·rename_i n ns rs' h1 h2
   cases h;obtain ⟨i1,i2⟩:=P8 h2 t
   cases r with
   | @tup _ b ws hb rr=>
    have:=Ms h1;subst this;have:=rr.ints;subst this
    have e:Na H (.ref b)=n :: ns:=by
     show (match H b with | some (.tup xs)=>xs.map Nd | _=>[])=_;rw [hb];exact Km _
    refine ⟨by rw [A9,e,i1],λv hv=>?_⟩
    rcases Ap.mp hv with hv | hv
    ·subst hv
     refine ⟨b,rfl,?_,?_⟩
     ·rw [e];exact hb
     ·rw [e];exact List.cons_ne_nil _ _
    ·exact i2 v hv
  ·cases h
 | .non :: _,_,_,h,_=>by cases h
 | .bl _ :: _,_,_,h,_=>by cases h
 | .int _ :: _,_,_,h,_=>by cases h
 | .str _ :: _,_,_,h,_=>by cases h
 | .fro _ :: _,_,_,h,_=>by cases h
 | .ref _ :: _,_,_,h,_=>by cases h
 | .exc _ :: _,_,_,h,_=>by cases h
theorem QD {K:AA} {ρ:List AF} {H:Hp}:∀ {vs:List V},(∀v∈vs,∃b,v=.ref b/\H b=some (.tup ((Na H v).map V.int))/\Na H v≠[])->An K ρ H ((vs.map (Na H)).map G7) vs
 | [],_=>.nil
 | v :: vs,h=>by
  obtain ⟨b,e,hb,_⟩:=h v A0;refine .cons ?_ (QD λu hu=>h u (AZ _ hu));subst e;exact .tup hb (An.of_ints _)
theorem VW {K:AA} {ρ:List AF} {H:Hp} {ds es:List D} {vs:List V} (h:JI ds=some es) (r:An K ρ H ds vs) :
  ∃f:V->List Int,OO H f vs/\∀out,out.Perm vs->out.Pairwise (λx y=>ltL (f y) (f x)=false)->An K ρ H es out:=by
 unfold JI at h;split at h
 ·rename_i ns hz
  cases h;have:=Ms hz;subst this;have:=r.ints;subst this;refine ⟨λv=>[Nd v],.inl λv hv=>?_,λout po so=>?_⟩
  ·obtain ⟨n,_,rfl⟩:=BG.mp hv
   exact ⟨n,rfl,rfl⟩
  ·have e1:out=(out.map Nd).map V.int:=by
    rw [Be]
    conv=>lhs;rw [<-JF out]
    refine B0 λv hv=>?_
    obtain ⟨n,_,rfl⟩:=BG.mp (po.mem_iff.mp hv);rfl
   have e2:out.map Nd=E5 ns:=by
    have p1:(out.map Nd).Perm (E5 ns):=by
     have:=po.map Nd;rw [Km] at this;exact this.trans (JW ns).symm
    refine p1.eq_of_pairwise (λa b _ _ h1 h2=>Int.le_antisymm h1 h2) ?_ (VX ns);rw [Bz]
    refine so.imp λ{x y} hxy=>?_
    rw [Yl] at hxy;simp at hxy;exact hxy
   rw [e1,e2];exact An.of_ints _
 ·split at h
  ·rename_i rs hr
   cases h;obtain ⟨i1,i2⟩:=P8 hr r;refine ⟨Na H,.inr i2,λout po so=>?_⟩
   have e2:out.map (Na H)=IK rs:=by
    refine Tl ?_ (Bz.mpr so) (VY rs);have:=po.map (Na H);rw [i1] at this;exact this.trans (Fo rs).symm
   rw [<-e2]
   exact QD λv hv=>i2 v (po.mem_iff.mp hv)
  ·cases h
theorem Mn {K:AA} {ρ:List AF} {H:Hp}:∀ks:List Key,An K ρ H (ks.map WN) (ks.map kV)
 | []=>.nil
 | .inl i :: ks=>.cons (.int i) (Mn ks)
 | .inr x :: ks=>.cons (.str x) (Mn ks)
theorem Mm {K:AA} {ρ:List AF} {H:Hp}:∀ {kvs:List (Key×D)} {kvs':List (Key×V)},KVR K ρ H kvs kvs'->An K ρ H (kvs.map λx=>WN x.1) (kvs'.map λx=>kV x.1)
 | _,_,.nil=>.nil
 | (k,_) :: _,(k',_) :: _,.cons r t=>by
  have e:k=k':=r.1;subst e
  cases k with
  | inl i=>exact .cons (.int i) (Mm t)
  | inr x=>exact .cons (.str x) (Mm t)
theorem QT {K:AA} {ρ:List AF} {H:Hp}:∀ {kvs:List (List Key×D)} {kvs':List (List Key×V)} {bs:List AF},KVR K ρ H kvs kvs'->El (λ(k:List Key×V) b=>H b=some (.tup (k.1.map kV))) kvs' bs->An K ρ H (kvs.map λx=>.tup (x.1.map WN)) (bs.map V.ref)
 | _,_,_,.nil,.nil=>.nil
 | (k,_) :: _,(k',_) :: _,_,.cons r t,.cons r2 t2=>by
  have e:k=k':=r.1;subst e;exact .cons (.tup r2 (Mn k)) (QT t t2)
theorem Ff (hc:X.calm=true) (hg:Gl X "sorted") (hm:X.mg "sorted" = none) (h:GE X E e m) (he:AO [e] X.env=(false,Bh e X.env) :: AO [] X.env:=by rfl):GE X E (.Call (.Name "sorted" p) [e] [] pos) (DP m):=
 (IQ (UX hc) hg hm fB (DF h FF he) (by decide) (by decide) he rfl).imp λσ H Q ⟨ρ,l,S,hl,hs,hm⟩=>by
 refine ⟨ρ,l,S,hl,hs,hm.seq λd S1 hm ρ1 H1 x l1 s1 r1=>?_⟩
 cases hq:Ft d S1 with
 | none=>rw [hq] at hm;exact hm.elim
 | some ds=>
  rw [hq] at hm;dsimp only at hm
  cases hi:JI ds with
  | none=>rw [hi] at hm;exact hm.elim
  | some es=>
   rw [hi] at hm
   have fin:∀vs:List V,An X.K ρ1 H1 es vs->∀q,H1 q=none->Q (.ref q) (upd H1 q (.lst vs)):=λvs rr q hq=>by
    have le:Le X.K ρ1 H1 (ρ1++[q]) (upd H1 q (.lst vs)):=Le.alloc hq;obtain ⟨s4,l4,at4⟩:=s1.alloc (ho:=.lst vs) (o:=.lst es) hq ⟨_,BM,rr.mono le⟩;exact hm _ _ _ (l1.trans l4) s4 (.ref at4)
   have out:∀vs,An X.K ρ1 H1 ds vs->∃f:V->List Int,OO H1 f vs/\∀out,out.Perm vs->out.Pairwise (λx y=>ltL (f y) (f x)=false)->∀l,H1 l=none->Q (.ref l) (upd H1 l (.lst out)):=λvs rr=>by
    obtain ⟨f,k1,k2⟩:=VW hi rr;exact ⟨f,k1,λout po so=>fin out (k2 out po so)⟩
   cases r1 with
   | fro h1 h2=>cases hq;exact ⟨_,rfl,.inl ⟨_,.inl h1.sq,out _ h2⟩⟩
   | tup h1 h2=>cases hq;exact ⟨_,rfl,.inl ⟨_,.inr (.inl (.inl h1)),out _ h2⟩⟩
   | @ref n a hn=>
    obtain ⟨o,ho,ro⟩:=s1.there hn;unfold Ft at hq;simp only [ho] at hq
    cases o with
    | lst ys=>cases hq;obtain ⟨vs,e,rr⟩:=ro;exact ⟨_,rfl,.inl ⟨vs,.inl (.inl (.inl e)),out _ rr⟩⟩
    | dK kvs=>cases hq;obtain ⟨vs,e,rr⟩:=ro;exact ⟨_,rfl,.inr (.inl ⟨vs,e,out _ (Mm rr)⟩)⟩
    | dT kvs=>cases hq;obtain ⟨vs,e,rr⟩:=ro;exact ⟨_,rfl,.inr (.inr ⟨vs,e,λbs hb=>out _ (QT rr hb)⟩)⟩
    | ins C fs=>cases hq
   | _=>cases hq
end
end L2
namespace L2
open PySem PySem.Spec PyProof.Rows
theorem bV {K:AA} {t:String} (h:∀A∈["NoneType", "bool", "int", "str", "tuple", "list", "dict"],BJ K (.type A) (.type t)=Za t A):∀A b,isB t A=some b->BJ K (.type A) (.type t)=some b:=λA b e=>by
 unfold isB at e;split at e
 ·rename_i hA
  rw [h A (by simpa using hA)];exact e
 ·cases e
theorem WS {K:AA}:∀A b,isB "bool" A=some b->BJ K (.type A) (.type "bool")=some b:=bV λA h=>by
 simp only [Ap,C9,or_false] at h
 rcases h with rfl | rfl | rfl | rfl | rfl | rfl | rfl <;> kernel_rfl
def isV (A:String):Option Bool:=if A = "NoneType" then some false else none
theorem bR {K:AA}:∀A b,isV A=some b->BJ K (.type A) (.type "ValueError")=some b:=λA b e=>by
 unfold isV at e;split at e
 ·rename_i hA
  subst hA;cases e
  kernel_rfl
 ·cases e
theorem bT {K:AA} {C:AF} (h:∀A∈["NoneType", "bool", "int", "str", "tuple", "list", "dict"],BJ K (.type A) (.ref C)=some false):∀A b,isN A=some b->BJ K (.type A) (.ref C)=some b:=λA b e=>by
 unfold isN at e;split at e
 ·rename_i hA
  cases e;exact h A (by simpa using hA)
 ·cases e
theorem Yp {K:AA} {C:AF} (h1:(DI K C).isSome=true) (h2:IB K (.ref C)=some (.type "type")):∀A∈["NoneType", "bool", "int", "str", "tuple", "list", "dict"],BJ K (.type A) (.ref C)=some false:=λA h=>by
 have key:∀A,JC K (.type A) (.ref C)=some false->BJ K (.type A) (.ref C)=some false:=λA e=>by
  unfold BJ PySem.W.kitCls;rw [if_neg (by simp)];dsimp only;rw [if_pos (by rw [h1,h2];rfl)];exact e
 refine key A ?_;simp only [Ap,C9,or_false] at h
 rcases h with rfl | rfl | rfl | rfl | rfl | rfl | rfl <;> kernel_rfl
end L2
namespace L2
open PySem PySem.Spec PyProof.Rows
def VU (K:AA):Sp:=λvs H Q _=>∃(a:AF) (ns:List Int),vs=[.ref a]/\Nk K H a (ns.map V.int)/\ns.length<=63/\∀H',Q (.bl true) H'
theorem WK {P:Ai} {w:A7} {K:AA} {mg:Str->Option AC} {base:BY} {k:Nat} {fa:AF} {fd:Cr} {f:List D->Sto->Res D} (F:Dy P w K mg base (CXG P w) k fa fd ["script"] (spM K 1 f))
  (h:∀ns:List Int,ns.length<=63->∃S',f [.fro (ns.map D.int)] []=.ok (.bl true) S'):Dy P w K mg base (CXG P w) k fa fd ["script"] (VU K):=F.imp λvs H Q E ⟨a,ns,e,hS,hl,q⟩=>by
 subst e;obtain ⟨S',e⟩:=h ns hl;refine ⟨[],[.fro (ns.map D.int)],[],rfl,.cons (.fro hS (An.of_ints ns)) .nil,⟨rfl,λi j a hi=>by simp at hi,λn o a hn=>by simp at hn⟩,?_⟩;rw [e]
 exact λρ' H' x _ _ r=>by cases r;exact q H'
theorem cB {K:AA} {H:Hp} {a:AF} {ns:List Int} (hO:ZN H) (hS:SqL K H a (ns.map V.int)):Nk K H a (ns.map V.int):=by
 rcases hS with (h | h) | h
 ·rcases hO a with z | ⟨o,xs,z⟩ <;> rw [z] at h <;> cases h
 ·exact .inl h
 ·exact .inr h
theorem GC {K:AA} {C:AF} {v:AC} {b:Bool} (h:JD K C v=some b):(DI K C).isSome=true:=by
 obtain ⟨cd,a,_⟩:=OU.mp h;rw [a];rfl
theorem cG {P:Ai} {w:A7} {H:Hp} {s:AE} {e:AC} {s':AE} (h:CXG P w [] H s (λ_ _ _=>False) e s'):False:=by
 obtain ⟨_,_,_,_,_,_,_,_,_,z⟩:=h;exact z
end L2
namespace L2
open PySem
def Zg (I:Lo->Sto->Prop) (R:Fl->Sto->Prop) (f:Fl) (S:Sto):Prop:=match f with
 | .nx e=>I e S
 | .ct e=>I e S
 | .bk e=>R (.nx e) S
 | .rt d=>R (.rt d) S
 | .ex c e=>R (.ex c e) S
theorem Y6 {v:Hi} {g:MG} {b:MS} {xs:List D} (I:Nat->Lo->Sto->Prop) (R:Fl->Sto->Prop) (hv:∀i e S,I i e S->v S=some xs)
  (step:∀i d e S,xs[i]?=some d->I i e S->∃e1 S1,g d e S=.ok e1 S1/\∃f S2,b e1 S1=.ok f S2/\Zg (I (i+1)) R f S2)
  (fin:∀e S,I xs.length e S->R (.nx e) S):∀(k i:Nat) (e:Lo) (S:Sto),I i e S->i<=xs.length->xs.length<=i+k->∃f S',HC v g b k i e S=.ok f S'/\R f S':=by
 intro k
 induction k with
 | zero=>
  intro i e S h h1 h2
  have:i=xs.length:=by lia
  subst this;refine ⟨.nx e,S,?_,fin e S h⟩;unfold HC;rw [hv _ e S h];simp
 | succ k ih=>
  intro i e S h h1 h2;unfold HC;rw [hv _ e S h];dsimp only
  by_cases hi:i < xs.length
  ·have hd:xs[i]?=some xs[i]:=by simp [hi]
   rw [hd];dsimp only;obtain ⟨e1,S1,q1,f,S2,q2,t⟩:=step i _ e S hd h;rw [q1];dsimp only [Res.bind];rw [q2];dsimp only [Res.bind]
   cases f with
   | nx e2=>exact ih (i+1) e2 S2 t (by lia) (by lia)
   | ct e2=>exact ih (i+1) e2 S2 t (by lia) (by lia)
   | bk e2=>exact ⟨_,_,rfl,t⟩
   | rt d=>exact ⟨_,_,rfl,t⟩
   | ex c e2=>exact ⟨_,_,rfl,t⟩
  ·have:i=xs.length:=by lia
   subst this;rw [show xs[xs.length]?=none by simp];exact ⟨.nx e,S,rfl,fin e S h⟩
theorem Mu {v:Hi} {g:MG} {b:MS} {xs:List D} {e:Lo} {S:Sto} (I:Nat->Lo->Sto->Prop) (R:Fl->Sto->Prop) (h0:I 0 e S) (hv:∀i e S,I i e S->v S=some xs)
  (step:∀i d e S,xs[i]?=some d->I i e S->∃e1 S1,g d e S=.ok e1 S1/\∃f S2,b e1 S1=.ok f S2/\Zg (I (i+1)) R f S2)
  (fin:∀e S,I xs.length e S->R (.nx e) S):∃f S',HC v g b (CN v S) 0 e S=.ok f S'/\R f S':=by
 have hl:CN v S=xs.length:=by unfold CN;rw [hv 0 e S h0]
 rw [hl];exact Y6 I R hv step fin _ _ _ _ h0 (Cv _) (by lia)
theorem Wx {v:Hi} {g:MG} {c:MT} {m:ME} {xs:List D} (I:Nat->Lo->Sto->List D->Prop) (hv:∀i e S acc,I i e S acc->v S=some xs)
  (step:∀i d e S acc,xs[i]?=some d->I i e S acc->acc.length < sizeLine/\∃e1 S1,g d e S=.ok e1 S1/\∃b S2,c e1 S1=.ok b S2/\((b=true/\∃y S3,m e1 S2=.ok y S3/\I (i+1) e1 S3 (acc++[y]))∨(b=false/\I (i+1) e1 S2 acc))) :
  ∀(k i:Nat) (e:Lo) (S:Sto) (acc:List D),I i e S acc->i<=xs.length->xs.length<=i+k->∃r S',EI v g c m k i e S acc=.ok r S'/\∃e',I xs.length e' S' r:=by
 intro k
 induction k with
 | zero=>
  intro i e S acc h h1 h2
  have:i=xs.length:=by lia
  subst this;refine ⟨acc,S,?_,e,h⟩;unfold EI;rw [hv _ e S acc h];simp
 | succ k ih=>
  intro i e S acc h h1 h2;unfold EI;rw [hv _ e S acc h];dsimp only
  by_cases hi:i < xs.length
  ·have hd:xs[i]?=some xs[i]:=by simp [hi]
   rw [hd];dsimp only;obtain ⟨hz,e1,S1,q1,b,S2,q2,t⟩:=step i _ e S acc hd h;rw [if_pos hz,q1];dsimp only [okR,Res.bind];rw [q2];dsimp only [okR,Res.bind]
   rcases t with ⟨rfl,y,S3,q3,t⟩ | ⟨rfl,t⟩
   ·rw [if_pos rfl,q3]
    exact ih (i+1) e1 S3 _ t (by lia) (by lia)
   ·rw [if_neg AS]
    exact ih (i+1) e1 S2 acc t (by lia) (by lia)
  ·have:i=xs.length:=by lia
   subst this;rw [show xs[xs.length]?=none by simp];exact ⟨acc,S,rfl,e,h⟩
theorem TC {v:Hi} {g:MG} {c:MT} {m:ME} {xs:List D} {e:Lo} {S:Sto} (I:Nat->Lo->Sto->List D->Prop) (h0:I 0 e S []) (hv:∀i e S acc,I i e S acc->v S=some xs)
  (step:∀i d e S acc,xs[i]?=some d->I i e S acc->acc.length < sizeLine/\∃e1 S1,g d e S=.ok e1 S1/\∃b S2,c e1 S1=.ok b S2/\((b=true/\∃y S3,m e1 S2=.ok y S3/\I (i+1) e1 S3 (acc++[y]))∨(b=false/\I (i+1) e1 S2 acc))) :
  ∃r S',EI v g c m (CN v S) 0 e S []=.ok r S'/\∃e',I xs.length e' S' r:=by
 have hl:CN v S=xs.length:=by unfold CN;rw [hv 0 e S [] h0]
 rw [hl];exact Wx I hv step _ _ _ _ _ h0 (Cv _) (by lia)
theorem WJ {j:Int} (h:-1000000<=j):-(2 ^ 62)<=j:=Int.le_trans (by decide) h
theorem WZ {j:Int} (h:j<=1000000):j < 2 ^ 62:=Go h (by decide)
theorem Rz {ml:ML} {e:Lo} {S S1:Sto} {j:Int} (h:ml e S=.ok [.int j] S1) (h0:-1000000<=j) (h1:j<=1000000):iR1 ml e S=.ok (Fj (D6 0 j.toNat)) S1:=by
 unfold iR1;rw [h];dsimp only [Res.bind];rw [if_pos ⟨WJ h0,WZ h1⟩]
theorem bY {ml:ML} {e:Lo} {S S1:Sto} {i j:Int} (h:ml e S=.ok [.int i,.int j] S1) (h0:-1000000<=i) (h1:i<=1000000) (h2:-1000000<=j) (h3:j<=1000000):iR2 ml e S=.ok (Fj (D6 i (j - i).toNat)) S1:=by
 unfold iR2;rw [h];dsimp only [Res.bind];rw [if_pos ⟨WJ h0,WZ h1,WJ h2,WZ h3⟩]
theorem N4 (lo:Int) (n:Nat):(D6 lo n).length=n:=by simp [D6]
theorem QC {lo:Int} {n i:Nat} {d:D} (h:(D6 lo n)[i]?=some d):i < n/\d=.int (lo+i):=by
 rw [N5] at h;split at h
 ·rename_i hi
  cases h;exact ⟨hi,rfl⟩
 ·cases h
theorem eD {i j:Int} (h:-1000000<=j) (h1:j<=1000000):Qr i j:=.inr ⟨KU (by decide) h,Go h1 (by decide)⟩
theorem Yi {i j:Int} {S:Sto} (h:-1000000<=j) (h1:j<=1000000):QM (.int i) (.int j) S=.ok (.int (i * j)) S:=by
 show (if Qr i j then _ else _)=_;rw [if_pos (eD h h1)]
theorem Wo {i j:Int} {S:Sto} (h:0 < j) (h1:j<=1000000):IW (.int i) (.int j) S=.ok (.int (i / j)) S:=by
 show (if XA i j then _ else _)=_;rw [if_pos ⟨h,by lia⟩]
theorem Ox {i j:Int} {S:Sto} (h:0 < j):Ht (.int i) (.int j) S=.ok (.int (i % j)) S:=by
 show (if 0 < j then _ else _)=_;rw [if_pos h]
theorem C5 {f:D->D->Sto->Res D} {ma mb:ME} {e:Lo} {S S1 S2 S3:Sto} {x y d:D} (ha:ma e S=.ok x S1) (hb:mb e S1=.ok y S2) (hf:f x y S2=.ok d S3):m2 f ma mb e S=.ok d S3:=by
 unfold m2;rw [ha];dsimp only [Res.bind];rw [hb];dsimp only [Res.bind];rw [hf];rfl
theorem JX {m:ME} {e:Lo} {S S1:Sto} {d:D} {i:Nat} (h:m e S=.ok d S1):B3 i m e S=.ok (.nx (e.set i (some d))) S1:=by
 unfold B3 Tq;rw [h];rfl
theorem HV {m:ME} {e:Lo} {S S1:Sto} {d:D} (h:m e S=.ok d S1):E6 m e S=.ok (.rt d) S1:=by
 unfold E6;rw [h];rfl
theorem Gc {m:ME} {e:Lo} {S S1:Sto} {d:D} (h:m e S=.ok d S1):C4 m e S=.ok (.nx e) S1:=by
 unfold C4;rw [h];rfl
theorem Fu {t:MT} {a b:MS} {e:Lo} {S S1:Sto} {c:Bool} (h:t e S=.ok c S1):sIf t a b e S=if c=true then a e S1 else b e S1:=by
 unfold sIf;rw [h];rfl
theorem Ku {m:MI} {g:MG} {b:MS} {e:Lo} {S S1:Sto} {v:Hi} (h:m e S=.ok v S1):IL m g b e S=HC v g b (CN v S1) 0 e S1:=by
 unfold IL;rw [h];rfl
theorem Gg {n:Nat} {f:List D->Sto->Res D} {m:ML} {e:Lo} {S S1:Sto} {ds:List D} (h:m e S=.ok ds S1) (hn:ds.length=n):CC n f m e S=f ds S1:=by
 unfold CC;rw [h];dsimp only [Res.bind];rw [if_pos hn]
theorem Bn {a b:MS} {e e1:Lo} {S S1:Sto} (h:a e S=.ok (.nx e1) S1):BW a b e S=b e1 S1:=by unfold BW;rw [h];rfl
theorem VZ {a b:MS} {e:Lo} {S S1:Sto} {d:D} (h:a e S=.ok (.rt d) S1):BW a b e S=.ok (.rt d) S1:=by unfold BW;rw [h];rfl
theorem Oj {a b:MS} {e e1:Lo} {S S1:Sto} {c:AF} (h:a e S=.ok (.ex c e1) S1):BW a b e S=.ok (.ex c e1) S1:=by unfold BW;rw [h];rfl
theorem IM {n:Nat} {mb:MS} {ds:List D} {S S1:Sto} {d:D} (h:mb (Eo n ds) S=.ok (.rt d) S1):Es n mb ds S=.ok d S1:=by unfold Es;rw [h];rfl
theorem Va {n:Nat} {mb:MS} {ds:List D} {S S1:Sto} {e:Lo} (h:mb (Eo n ds) S=.ok (.nx e) S1):Es n mb ds S=.ok .non S1:=by unfold Es;rw [h];rfl
theorem Vc {n:Nat} {mb:MS} {ds:List D} {S S1:Sto} {c:AF} {e:Lo} (h:mb (Eo n ds) S=.ok (.ex c e) S1):Es n mb ds S=.err c S1:=by unfold Es;rw [h];rfl
def Keeps (S S':Sto):Prop:=S.length<=S'.length/\∀j,j < S.length->S'[j]?=S[j]?
theorem Keeps.refl (S:Sto):Keeps S S:=⟨AQ _,λ_ _=>rfl⟩
theorem Keeps.trans {S S1 S2:Sto} (a:Keeps S S1) (b:Keeps S1 S2):Keeps S S2:=⟨Ao a.1 b.1,λj h=>(b.2 j (AX h a.1)).trans (a.2 j h)⟩
theorem Keeps.app (S:Sto) (G:Sto):Keeps S (S++G):=⟨by simp,λj h=>AV h⟩
theorem Keeps.set {S S1:Sto} (a:Keeps S S1) {m:Nat} (h:S.length<=m) (o:Ob):Keeps S (S1.set m o):=⟨by simpa using a.1,λj hj=>by rw [Al (by lia)];exact a.2 j hj⟩
theorem Keeps.at {S S1:Sto} (a:Keeps S S1) {j:Nat} {o:Ob} (h:S[j]?=some o):S1[j]?=some o:=by
 rw [a.2 j (AD.mp h).1];exact h
theorem ND {mo ma:ME} {e:Lo} {S S1 S2:Sto} {n:Nat} {xs xs2:List D} {y:D} (h1:mo e S=.ok (.ref n) S1) (h2:S1[n]?=some (.lst xs)) (h3:ma e S1=.ok y S2) (h4:S2[n]?=some (.lst xs2)) (h5:xs2.length < sizeLine) :
  JA mo ma e S=.ok .non (S2.set n (.lst (xs2++[y]))):=by
 unfold JA;rw [h1];dsimp only [Res.bind];rw [h2];dsimp only;rw [h3];dsimp only [Res.bind];rw [h4];dsimp only;rw [if_pos h5]
theorem En {n:Nat} {S:Sto} {xs:List D} (h:S[n]?=some (.lst xs)):Ho (.ref n) S=some xs:=by
 unfold Ho LC;dsimp only;rw [h]
theorem IU {m:ME} {e:Lo} {S S1:Sto} {n:Nat} {xs:List D} (h:m e S=.ok (.ref n) S1) (hx:S1[n]?=some (.lst xs)):FX m e S=.ok (Ho (.ref n)) S1:=by
 unfold FX;rw [h];dsimp only [Res.bind];rw [En hx]
theorem QZ {m:ME} {e:Lo} {S S1:Sto} {xs:List D} (h:m e S=.ok (.tup xs) S1):FX m e S=.ok (Fj xs) S1:=by
 unfold FX;rw [h];rfl
theorem Rm {ml:ML} {e:Lo} {S S1:Sto} {ds:List D} (h:ml e S=.ok ds S1):E7 ml e S=.ok (.ref S1.length) (S1++[.lst ds]):=by
 unfold E7;rw [h];rfl
theorem Di (S:Sto) (o:Ob):(S++[o])[S.length]?=some o:=by simp
theorem ES {n:Nat} {S:Sto} {ds:List D} (h:S[n]?=some (.lst ds)):Fp (.ref n) S=some ds:=by
 unfold Fp;dsimp only;rw [h]
theorem Mq {n:Nat} {S:Sto} {ds:List D} (h:S[n]?=some (.lst ds)):Ft (.ref n) S=some ds:=by
 unfold Ft;dsimp only;rw [h]
theorem Io {m:ME} {e:Lo} {S S1:Sto} {d:D} {ds es:List D} (h:m e S=.ok d S1) (hi:Ft d S1=some ds) (hs:JI ds=some es):DP m e S=.ok (.ref S1.length) (S1++[.lst es]):=by
 unfold DP;rw [h];dsimp only [Res.bind];rw [hi];dsimp only;rw [hs]
theorem Ju {m:ME} {e:Lo} {S S1:Sto} {d:D} {ds:List D} (h:m e S=.ok d S1) (hq:Fp d S1=some ds):Fs m e S=.ok (.tup ds) S1:=by
 unfold Fs;rw [h];dsimp only [Res.bind];rw [hq]
theorem Rw {m:ME} {e:Lo} {S S1:Sto} {d:D} {ds:List D} (h:m e S=.ok d S1) (hq:Fp d S1=some ds):Mg m e S=.ok (.int ds.length) S1:=by
 unfold Mg;rw [h];dsimp only [Res.bind];rw [hq]
theorem Oi {C:AF} {f:Str} {mo mv:ME} {e:Lo} {S S1 S2:Sto} {n:Nat} {fs:List (Str×D)} {v:D} (hv:mv e S=.ok v S1) (ho:mo e S1=.ok (.ref n) S2) (hs:S2[n]?=some (.ins C fs)) (hl:fs.length < 1000) :
  N3 C f mo mv e S=.ok (.nx e) (S2.set n (.ins C (LY f v fs))):=by
 unfold N3;rw [hv];dsimp only [Res.lift];rw [ho];dsimp only [Res.lift];rw [hs];dsimp only;rw [if_pos ⟨rfl,hl⟩]
theorem PD {C:AF} {f:Str} {m:ME} {e:Lo} {S S1:Sto} {n:Nat} {fs:List (Str×D)} {v:D} (h:m e S=.ok (.ref n) S1) (hs:S1[n]?=some (.ins C fs)) (hl:fs.lookup f=some v):Hu C f m e S=.ok v S1:=by
 unfold Hu;rw [h];dsimp only [Res.bind];rw [hs];dsimp only;rw [if_pos rfl,hl]
theorem Yj {C:AF} {n:Nat} {f:List D->Sto->Res D} {ml:ML} {e:Lo} {S S1 S2:Sto} {ds:List D} (h:ml e S=.ok ds S1) (hn:ds.length+1=n) (hf:f (.ref S1.length :: ds) (S1++[.ins C []])=.ok .non S2):OA C n f ml e S=.ok (.ref S1.length) S2:=by
 unfold OA;rw [h];dsimp only [Res.bind];rw [if_pos hn,hf]
theorem Bx {m:ME} {r:ML} {e:Lo} {S S1 S2:Sto} {d:D} {ds:List D} (h:m e S=.ok d S1) (hr:r e S1=.ok ds S2):AY m r e S=.ok (d :: ds) S2:=by
 unfold AY;rw [h];dsimp only [Res.bind];rw [hr]
theorem PJ {n:Nat} {mi:MI} {g:MG} {c:MT} {m:ME} {e:Lo} {S S1:Sto} {v:Hi} (h:mi e S=.ok v S1):Hq n mi g c m e S=EI v g c m (CN v S1) 0 (BE n none++e) S1 []:=by
 unfold Hq;rw [h];rfl
theorem Ji {m:ME} {e:Lo} {S S1:Sto} {b:Bool} (h:m e S=.ok (.bl b) S1):mB m e S=.ok b S1:=by
 unfold mB;rw [h];rfl
theorem WH {f g:D->D->Sto->Res D} {ma mb mc:ME} {e:Lo} {S S1 S2 S3 S4 S5:Sto} {x y w d:D} (ha:ma e S=.ok x S1) (hb:mb e S1=.ok y S2) (hf:f x y S2=.ok (.bl true) S3) (hc:mc e S3=.ok w S4) (hg:g y w S4=.ok d S5):m3 f g ma mb mc e S=.ok d S5:=by
 unfold m3;rw [ha];dsimp only [Res.bind];rw [hb];dsimp only [Res.bind];rw [hf];dsimp only [Res.bind,okR];rw [hc];dsimp only [Res.bind];rw [hg]
theorem eI {f g:D->D->Sto->Res D} {ma mb mc:ME} {e:Lo} {S S1 S2 S3:Sto} {x y:D} (ha:ma e S=.ok x S1) (hb:mb e S1=.ok y S2) (hf:f x y S2=.ok (.bl false) S3):m3 f g ma mb mc e S=.ok (.bl false) S3:=by
 unfold m3;rw [ha];dsimp only [Res.bind];rw [hb];dsimp only [Res.bind];rw [hf];rfl
theorem Ml {i j:Int} {S:Sto} {b:Bool} (h:decide (i<=j)=b):leD (.int i) (.int j) S=.ok (.bl b) S:=by subst h;rfl
theorem Mj {i j:Int} {S:Sto} {b:Bool} (h:decide (i < j)=b):ltD (.int i) (.int j) S=.ok (.bl b) S:=by subst h;rfl
theorem cA {i j:Int} {S:Sto} {b:Bool} (h:decide (j<=i)=b):geD (.int i) (.int j) S=.ok (.bl b) S:=by subst h;rfl
theorem cF {i j:Int} {S:Sto} {b:Bool} (h:decide (i=j)=b):eqD false (.int i) (.int j) S=.ok (.bl b) S:=by
 subst h;show Res.ok (D.bl (i==j)) S=_;rfl
theorem IR {m:MT} {e:Lo} {S S1:Sto} {b:Bool} (h:m e S=.ok b S1):Ja m e S=.ok (!b) S1:=by
 unfold Ja;rw [h];rfl
theorem MW {C:AF} {ml:ML} {e:Lo} {S S1:Sto} {ds:List D} (h:ml e S=.ok ds S1) (hl:ds.length<=30):DE C ml e S=.ok (.ex C e) S1:=by
 unfold DE;rw [h];dsimp only [Res.lift];rw [if_pos (Ao hl (by decide))]
theorem aC {cs:List AF} {i:Nat} {b h:MS} {e e1 e2:Lo} {S S1 S2:Sto} {c:AF} (hb:b e S=.ok (.ex c e1) S1) (hc:c∈cs) (hh:h (e1.set i (some (.exc c))) S1=.ok (.nx e2) S2):X1 cs i b h e S=.ok (.nx (e2.set i none)) S2:=by
 unfold X1;rw [hb];dsimp only [Res.bind];rw [if_pos hc,hh]
theorem RQ {ml:ML} {e:Lo} {S S1:Sto} {ds:List D} (h:ml e S=.ok ds S1) (hl:ds.length<=1000):Mf ml e S=.ok (.tup ds) S1:=by
 unfold Mf;rw [h];dsimp only [Res.bind];rw [if_pos (Ao hl (by decide))]
theorem WR {tab:String->Option Bool} {tabC:AF->Option Bool} {m:ME} {e:Lo} {S S1:Sto} {C:AF} {b:Bool} (h:m e S=.ok (.exc C) S1) (hb:tabC C=some b):mIs tab tabC m e S=.ok (.bl b) S1:=by
 unfold mIs;rw [h];dsimp only [Res.bind];rw [hb]
theorem eO {tab:String->Option Bool} {tabC:AF->Option Bool} {m:ME} {e:Lo} {S S1:Sto} {d:D} {T:String} {b:Bool} (h:m e S=.ok d S1) (ht:tyD d S1=some T) (hb:tab T=some b):mIs tab tabC m e S=.ok (.bl b) S1:=by
 unfold mIs;rw [h];dsimp only [Res.bind]
 cases d with
 | exc C=>cases ht
 | _=>dsimp only;rw [ht];dsimp only;rw [hb]
theorem Vz {ta tb:MT} {e:Lo} {S S1:Sto} (h:ta e S=.ok true S1):mOr ta tb e S=.ok true S1:=by
 unfold mOr;rw [h];rfl
theorem Rg {ta tb:MT} {e:Lo} {S S1:Sto} (h:ta e S=.ok false S1):mOr ta tb e S=tb e S1:=by
 unfold mOr;rw [h];rfl
theorem ZK {ta tb:MT} {e:Lo} {S S1:Sto} (h:ta e S=.ok true S1):QS ta tb e S=tb e S1:=by
 unfold QS;rw [h];rfl
theorem ZJ {ta tb:MT} {e:Lo} {S S1:Sto} (h:ta e S=.ok false S1):QS ta tb e S=.ok false S1:=by
 unfold QS;rw [h];rfl
theorem dU {m:ME} {e:Lo} {S S1:Sto} {d:D} {ds:List D} (h:m e S=.ok d S1) (hq:Fp d S1=some ds):QR m e S=.ok ds S1:=by
 unfold QR;rw [h];dsimp only [Res.bind];rw [hq]
theorem YA {f:List D->Sto->Res D} {ml:ML} {e:Lo} {S S1 S2:Sto} {ds:List D} {d:D} (h:ml e S=.ok ds S1) (hf:f ds S1=.ok d S2):mQ f ml e S=.ok d S2:=by
 unfold mQ;rw [h];dsimp only [Res.bind];rw [hf];rfl
end L2
namespace L2
open PySem PySem.Spec PyProof.Rows
section
variable {X:Cx} {E:EW} {e:Expr} {tg:Expr}
def eG:ME:=λ_ _=>.bad
theorem bx:GE X E e eG:=λ_ _ _ _ _ _ ⟨_,_,_,_,_,hm⟩=>hm.elim
end
def tCs (cs:List V):TA:=λ_ H Q=>Q cs H
section
variable {X:Cx} {E:EW} {e:Expr} {es:List Expr} {p pos p2:Pos} {x1:Nat} {m:ME} {c:V} {cs:List V} {Cs:List AF} {tabC:AF->Option Bool}
theorem dj:PA X [] (tCs []):=FF
theorem av (h:PE X e (tC c)) (hr:PA X es (tCs cs)) (hs:AO (e :: es) X.env=(false,Bh e X.env) :: AO es X.env:=by rfl):PA X (e :: es) (tCs (c :: cs)):=DF h hr hs
def rIsT (K:AA) (Cs:List AF):List V->Hp->VK->Prop:=λxs H Q=>
 ∃a o u C b tp,xs=[.ref a,.ref tp]/\H a=some (.frz o u)/\Nl o C/\XIs K C/\H tp=some (.tup (Cs.map V.ref))/\Cz K (.ref C) (Cs.map Ak)=some b/\Q (.bl b) H
theorem Ny:∀ {l:List AF} {us:List AC},BZ (l.map V.ref) us->us=l.map Ak
 | [],_,.nil=>rfl
 | a :: l,_,.cons r t=>by rw [Ny t,show _=Ak a from r];rfl
theorem W2:Gi X (.builtin "isinstance") (rIsT X.K Cs):=by
 intro pins s σ H xs us Q I r h;obtain ⟨a,o,u,C,b,tp,rfl,ha,xo,xc,ht,e,q⟩:=h;obtain ⟨v,w,rfl,r1,r2⟩:=vals2 r;cases (show v=Ak a from r1);cases (show w=Ak tp from r2);obtain ⟨g,_⟩:=(show CD X.prog X.w H s.heap a (.frz o u) from I.hok a _ ha);obtain ⟨_,is,rv,⟨cl,dd,dt,sl⟩,ho,hcl,n,hd⟩:=(show CD X.prog X.w H s.heap tp (.tup (Cs.map V.ref)) from I.hok tp _ ht);dsimp only at hcl hd;subst hcl hd;rw [<-Ny rv] at e
 exact PySem.W.kia_tup (QU xc) I.kIn ⟨o,g,xo⟩ ho e (λz=>nomatch z) λtk=>⟨.bl b,H,I.tok tk,rfl,q⟩
def WB (tabC:AF->Option Bool) (m:ME):ME:=λe S=>(m e S).bind λd S1=>match d with
 | .exc C=>match tabC C with
  | some b=>.ok (.bl b) S1
  | none=>.bad
 | _=>.bad
theorem bu (hC:∀C b,tabC C=some b->XIs X.K C/\Cz X.K (.ref C) (Cs.map Ak)=some b) (hz:Cs.length<=1000)
  (hg:Gl X "isinstance") (hm:X.mg "isinstance" = none) (h:GE X E e m) (hce:PA X es (tCs (Cs.map V.ref)))
  (he:AO [e,.Tuple es x1 p2] X.env=(false,Bh e X.env) :: AO [.Tuple es x1 p2] X.env:=by rfl) (he2:AO [.Tuple es x1 p2] X.env=(false,Bh (.Tuple es x1 p2) X.env) :: AO [] X.env:=by rfl) (hpl:(Cb pos (AO [.Tuple es x1 p2] X.env)).any (·.1)=false:=by rfl) :
  GE X E (.Call (.Name "isinstance" p) [e,.Tuple es x1 p2] [] pos) (WB tabC m):=
 (IQ W2 hg hm Jj (DF h (DF (Vr hce) FF he2) he) (by decide) (by decide) he hpl).imp λσ H Q ⟨ρ,l,S,hl,hs,hm⟩=>by
 refine ⟨ρ,l,S,hl,hs,hm.seq λd S1 hm ρ1 H1 x l1 s1 r1=>⟨by rw [AG];exact Ao hz (by decide),λtp hp=>?_⟩⟩
 cases d with
 | exc C=>
  dsimp only at hm
  cases hb:tabC C with
  | none=>rw [hb] at hm;exact hm.elim
  | some b=>
   rw [hb] at hm;obtain ⟨s2,l2⟩:=ER (ho:=.tup (Cs.map V.ref)) s1 hp
   cases r1 with
   | @exc _ a o u g xo=>
    exact ⟨a,o,u,C,b,tp,rfl,l2.frz _ _ _ g,xo,(hC C b hb).1,BM,(hC C b hb).2,hm ρ1 _ _ (l1.trans l2) s2 (.bl _)⟩
 | _=>exact hm.elim
end
end L2
namespace L2
open PySem PySem.Spec PyProof.Rows
section
variable {X:Cx} {E:EW} {e st:Expr} {te:TE} {lo hi:Option Expr} {tl th ts:TO} {pos p2:Pos} {m:ME} {ml mh ms:MO}
end
section
variable {X:Cx} {E:EW} {e:Expr} {p pos:Pos} {m:ME}
def Yk (m:ME):ME:=λe S=>(m e S).bind λd S1=>match d with
 | .int i=>.ok (.int i) S1
 | .bl k=>.ok (.int (if k then 1 else 0)) S1
 | _=>.bad
theorem Y3 (hg:Gl X "int") (hm:X.mg "int" = none) (h:GE X E e m) (he:AO [e] X.env=(false,Bh e X.env) :: AO [] X.env:=by rfl):GE X E (.Call (.Name "int" p) [e] [] pos) (Yk m):=
 (Kj Ua hg hm fE (DF h FF he) (by decide) (by decide) he rfl).imp λσ H Q ⟨ρ,l,S,hl,hs,hm⟩=>by
 refine ⟨ρ,l,S,hl,hs,hm.seq λd S1 hm ρ1 H1 x l1 s1 r1=>?_⟩
 cases d <;> first | exact hm.elim | skip
 ·cases r1
  exact .inr ⟨_,rfl,hm ρ1 H1 _ l1 s1 (.int _)⟩
 ·cases r1
  exact .inl ⟨_,rfl,hm ρ1 H1 _ l1 s1 (.int _)⟩
end
end L2
namespace PySem
open Sem (wp)
open AutoSeq1 (wpAny_loadPart')
section
variable {prog:Ai} {w:A7} {A:A2} {E:AC->AE->Prop} {s:AE}
end
end PySem
namespace L2
open PySem PySem.Spec PyProof.Rows
section
variable {P:Ai} {w:A7} {K:AA} {elts:List Expr} {x1:Nat} {pos:Pos}
end
section
variable {X:Cx} {E:EW} {e:Expr} {elts:List Expr} {x1:Nat} {p pos ptg:Pos} {m:ME} {ta:TA}
end
end L2
namespace L2
open PySem PySem.Spec PyProof.Rows
section
variable {X:Cx}
variable {E:EW} {e:Expr} {p pos:Pos} {m:ME}
end
end L2
namespace PySem
open Sem (wp)
open AutoSeq1 (wpAny_loadPart')
namespace F
end F
section
variable {prog:Ai} {w:A7} {A:A2} {E:AC->AE->Prop} {s:AE} {I:AF} {fp wr:List AF} {G:Array RG->Array RG->Prop} {n:Nat} {P:Nat->AC->Prop} {St:Nat->AE->Prop}
end
end PySem
namespace L2
open PySem PySem.Spec PyProof.Rows
section
variable {X:Cx} {E:EW} {e:Expr} {p p2 pos pos2:Pos} {m:ME} {te:TE}
end
end L2
namespace L2
open PySem
theorem W8 {α:Type} {xs:List α} {j:Int} {x:α} (h0:0<=j) (h:xs[j.toNat]?=some x):atI xs j=some x:=by
 have hlt:=(AD.mp h).1;unfold atI ixN;rw [if_pos (by omega),if_pos (by lia)];simpa using h
theorem Yn {d:D} {S:Sto} {ds:List D} {j:Int} {z:D} (hd:Fp d S=some ds) (h0:0<=j) (h:ds[j.toNat]?=some z):ixA d (.int j) S=.ok z S:=by
 show FG (ixD d (.int j) S) _=_
 have:ixD d (.int j) S=.ok z S:=by
  unfold ixD;rw [hd];dsimp only;rw [W8 h0 h]
 rw [this];rfl
theorem bS {tab:AF->Option Bool} {m:ME} {e:Lo} {S S1:Sto} {C:AF} {b:Bool} (h:m e S=.ok (.exc C) S1) (hb:tab C=some b):WB tab m e S=.ok (.bl b) S1:=by
 unfold WB;rw [h];dsimp only [Res.bind];rw [hb]
theorem UP {m:ME} {e:Lo} {S S1:Sto} {c:AF} (h:m e S=.err c S1):C4 m e S=.ok (.ex c e) S1:=by
 unfold C4;rw [h];rfl
theorem Hg {P:AF->Prop}:∀C∈([]:List AF),P C:=λ_ h=>absurd h C9
theorem all_cons {P:AF->Prop} {a:AF} {l:List AF} (h:P a) (t:∀C∈l,P C):∀C∈a :: l,P C:=λC hC=>by
 rcases Ap.mp hC with e | hC
 ·rw [e];exact h
 ·exact t C hC
theorem RT {P:AF->Bool->Prop} {al ex:List AF} (h1:∀C∈al,P C true) (h2:∀C∈ex,C∉al->P C false) (C:AF) (b:Bool) (e:(if C∈al then some true else if C∈ex then some false else none)=some b):P C b:=by
 split at e
 ·cases e;exact h1 C ‹_›
 ·split at e
  ·cases e;exact h2 C ‹_› ‹_›
  ·cases e
theorem KI {K:AA} {v:AC}:Cz K v []=some false:=by simp only [Cz]
theorem FM {K:AA} {v t:AC} {ts:List AC} (h:BJ K v t=some false):Cz K v (t :: ts)=Cz K v ts:=by simp only [Cz,h]
theorem UA {α:Type}:∀ {l:List α},l.length=1->∃x1,l=[x1]
 | [a],_=>⟨a,rfl⟩
theorem Ng {α:Type}:∀ {l:List α},l.length=2->∃x1 x2,l=[x1,x2]
 | y :: _,q=>by
  obtain ⟨x2,rfl⟩:=UA (No q);exact ⟨y,x2,rfl⟩
theorem bJ {α:Type}:∀ {l:List α},l.length=3->∃x1 x2 x3,l=[x1,x2,x3]
 | y :: _,q=>by
  obtain ⟨x2,x3,rfl⟩:=Ng (No q);exact ⟨y,x2,x3,rfl⟩
end L2
namespace L2
open PySem PySem.Spec PyProof.Rows
section
variable {X:Cx} {E:EW} {e:Expr} {m:ME} {pos:Pos}
end
section
variable {X:Cx} {E:EW} {tg e a b:Expr} {p p2 pos pos2:Pos} {m:ME} {ml:ML} {ta:TA}
def IP (lo:Int) (n:Nat):List V:=(CT n).map λk:Nat=>V.int (lo+k)
theorem QA {lo:Int}:∀ {n:Nat} {acc:List AC},acc.length=n->(∀(k:Nat) v,acc[k]?=some v->∃t,v=.int (lo+k) t)->BZ (IP lo n) acc
 | 0,acc,hl,_=>by
  have:acc=[]:=List.eq_nil_of_length_eq_zero hl;subst this;exact .nil
 | n+1,acc,hl,h=>by
  cases acc with
  | nil=>cases hl
  | cons v r=>
   have hl':r.length=n:=No hl;obtain ⟨t,e⟩:=h 0 v rfl
   have ih:=QA (lo:=lo+1) hl' λk v hv=>by
    obtain ⟨t,e⟩:=h (k+1) v hv;exact ⟨t,by rw [e];congr 1;lia⟩
   have e2:IP lo (n+1)=.int lo :: IP (lo+1) n:=by
    unfold IP;rw [Qx,A9,Be]
    congr 1
    ·congr 1;lia
    ·apply B0
     intro k _;show V.int (lo+((k+1:Nat):Int))=V.int (lo+1+k)
     congr 1
     lia
   rw [e2];refine .cons ⟨t,?_⟩ ih;rw [e]
   congr 1
   lia
theorem X3 {K:AA} {ρ:List AF} {H:Hp} (lo:Int) (n:Nat):An K ρ H (D6 lo n) (IP lo n):=by
 unfold D6 IP
 induction CT n with
 | nil=>exact .nil
 | cons k r ih=>exact .cons (.int _) ih
end
end L2
namespace PySem
open Sem (wp)
open PyProof.Rows (IntsAre)
section
variable {prog:Ai} {w:A7} {A:A2} {E:AC->AE->Prop} {s:AE}
end
end PySem
namespace L2
open PySem PySem.Spec PyProof.Rows
section
variable {X:Cx} {E:EW} {a b:Expr} {p p2 pos pos2:Pos} {ml:ML} {ta:TA}
end
end L2
namespace PySem
open Sem (wp)
open AutoSeq1 (wpAny_loadPart')
section
variable {prog:Ai} {w:A7} {A:A2} {E:AC->AE->Prop} {s:AE}
end
end PySem
namespace PySem
section
variable {prog:Ai} {w:A7} {A:A2} {E:AC->AE->Prop} {s:AE}
end
end PySem
namespace L2
open PySem PySem.Spec PyProof.Rows
section
variable {P:Ai} {w:A7} {K:AA} {elts:List Expr} {x1:Nat} {pos:Pos}
end
section
variable {X:Cx} {E:EW} {e:Expr} {elts:List Expr} {x1:Nat} {p pos ptg kp vp:Pos} {j1:Nat} {m:ME} {ta:TA}
end
end L2
namespace PySem
open Sem (wp)
section
variable {prog:Ai} {w:A7} {A:A2} {E:AC->AE->Prop} {s:AE}
end
end PySem
namespace L2
open PySem PySem.Spec PyProof.Rows
section
variable {X:Cx} {E:EW} {e a b c:Expr} {p p2 pos pos2:Pos} {m:ME} {te:TE} {ml:ML} {ta:TA} {tg:Expr}
end
section
variable {X:Cx} {E:EW} {a b c:Expr} {p pos:Pos} {ml:ML} {ta:TA} {tg:Expr}
end
end L2
namespace L2
open PySem PySem.Spec PyProof.Rows
section
variable {X:Cx} {E:EW} {e a b c:Expr} {p p2 pos pos2:Pos} {m:ME} {te:TE} {ml:ML} {ta:TA} {tg:Expr}
def Xr (ta:TA):TE:=λσ H Q=>ta σ H λvs H1=>∃j:Int,vs=[.int j]/\(-1000000<=j/\j<=1000000)/\∀q,H1 q=none->Q (.ref q) (upd H1 q (.lst (IP 0 (j - 0).toNat)))
theorem T0 (hc:X.calm=true) (hg:Gl X "list") (hm:X.mg "list" = none) (hg2:Gl X "range") (hm2:X.mg "range" = none) (ha:PA X [a] ta)
  (hs:AO [a] X.env=[(false,Bh a X.env)]:=by rfl)
  (he2:AO [.Call (.Name "range" p2) [a] [] pos2] X.env=(false,Bh (.Call (.Name "range" p2) [a] [] pos2) X.env) :: AO [] X.env:=by rfl) :
  PE X (.Call (.Name "list" p) [.Call (.Name "range" p2) [a] [] pos2] [] pos) (Xr ta):=by
 intro pins s σ H Q I hq;refine Ek (Jb I hg hm Lf ?_ (by decide) (by decide));refine CM ?_ he2 rfl;rw [he2];show Ah _ _ (spliced ((false,Bh (.Call (.Name "range" p2) [a] [] pos2) X.env) :: Cb pos (AO [] X.env))) _ _ s;refine Jq ?_;refine Call_ (Jb I hg2 hm2 Zn (CM (thn (ha pos2 pins s σ H _ I hq) λus s1 ⟨vs,H1,I1,r1,q1⟩=>?_) hs rfl));obtain ⟨j,e,⟨b3,b4⟩,q⟩:=q1;subst e
 cases r1 with
 | cons r rr=>
  cases rr;obtain ⟨t,rfl⟩:=r;refine call_range_1 ?_;refine KW ?_
  have hn:LA 0 j 1=((j - 0).toNat:Nat):=by rw [rangeSize_one];split <;> omega
  refine call_list_range (I.ok.hd hc) (ZQ ..) (small_one (WJ (by omega)) (WZ (by omega)) (WJ b3) (WZ b4)) hn (Ao (show (j - 0).toNat<=2000000 by omega) (by decide)) λh' tk acc c' hk hS hacc=>?_
  have k:∀b o,s1.heap.get? b=some o->h'.get? b=some o:=λb o e=>hk b o (AM _ e)
  have hr:BZ (IP 0 (j - 0).toNat) acc.toList:=QA (by have:=hacc.1;simpa using this) λk v hv=>by
   obtain ⟨t,e⟩:=hacc.2 k v (by simpa using hv);exact ⟨t,by rw [e];congr 1;omega⟩
  have hl:(IP 0 (j - 0).toNat).length<=sizeLine:=by
   rw [hr.length,show acc.toList.length=(j - 0).toNat by have:=hacc.1;simpa using this];exact Ao (show (j - 0).toNat<=2000000 by omega) (by decide)
  have hz:∀o,s1.heap.objs.size<=(s1.heap.push o).objs.size:=λo=>by rw [JG];exact NF _
  refine ⟨.ref _,upd H1 _ (.lst (IP 0 (j - 0).toNat)),I1.laid (t':=tk) k (hz _) ?_,rfl,q _ (I1.hok.fresh (hz _))⟩;exact ⟨hl,acc.toList,c',hr,by simpa using hS⟩
def Lm (ml:ML):ML:=λe S=>(ml e S).bind λds S1=>match ds with
 | [.int j]=>if -1000000<=j/\j<=1000000 then .ok (D6 0 (j - 0).toNat) S1 else .bad
 | _=>.bad
theorem UL (hc:X.calm=true) (hg:Gl X "list") (hm:X.mg "list" = none) (hg2:Gl X "range") (hm2:X.mg "range" = none) (ha:GA X E [a] ml)
  (hs:AO [a] X.env=[(false,Bh a X.env)]:=by rfl)
  (he2:AO [.Call (.Name "range" p2) [a] [] pos2] X.env=(false,Bh (.Call (.Name "range" p2) [a] [] pos2) X.env) :: AO [] X.env:=by rfl) :
  GL X E (.Call (.Name "list" p) [.Call (.Name "range" p2) [a] [] pos2] [] pos) (Lm ml):=(T0 hc hg hm hg2 hm2 ha hs he2).imp λσ H Q ⟨ρ,l,S,hl,hs,hm⟩=>by
 refine ⟨ρ,l,S,hl,hs,hm.seq λds S1 hm ρ1 H1 xs l1 s1 r1=>?_⟩;split at hm
 ·rename_i j
  split at hm
  ·rename_i hb
   cases r1 with
   | cons r rr=>
    cases rr;cases r;refine ⟨j,rfl,hb,λq hq=>?_⟩;obtain ⟨s4,l4⟩:=ER (ho:=.lst (IP 0 (j - 0).toNat)) s1 hq;exact hm _ _ q _ (l1.trans l4) s4 (X3 _ _) BM (λn z=>s1.notIn hq z) (l1.back hs s1 hq)
  ·exact hm.elim
 ·exact hm.elim
end
end L2
namespace L2
open PySem PySem.Spec PyProof.Rows
def Mh (mk mv:ME):ME:=λe S=>(mk e (S++[.dK []])).bind λx S1=>(mv e S1).bind λy S2=>match S2[S.length]?,WP x with
 | some (.dK []),some k=>.ok (.ref S.length) (S2.set S.length (.dK (Gr [] k y)))
 | _,_=>.bad
section
variable {X:Cx} {E:EW} {k v:Expr} {pos:Pos} {mk mv:ME}
theorem Wj (hk:GE X E k mk) (hv:GE X E v mv):GE X E (.Dict [some k] [v] pos) (Mh mk mv):=
 (YS (Vn hk hv YJ) rfl rfl (by simp) (by simp)).imp λσ H Q ⟨ρ,l,S,hl,hs,hm⟩ p hp=>by
 obtain ⟨s0,l0,at0⟩:=hs.alloc (ho:=.dK []) (o:=.dK []) hp ⟨[],BM,.nil⟩;refine ⟨ρ++[p],l,S++[.dK []],hl.mono l0,s0,(hm.later l0).seq λx S1 hm ρ1 H1 u l1 s1 r1=>⟨ρ1,l,S1,hl.mono (l0.trans l1),s1,(hm.later l1).seq λy S2 hm ρ2 H2 w l2 s2 r2=>?_⟩⟩;have r0:BQ X.K (ρ++[p]) (upd H p (.dK [])) (.ref S.length) (.ref p):=.ref at0;have r0':=r0.mono (l1.trans l2)
 show H2 p=some (.dK [])/\∃kvs:List (Key×V),[(u,w)]=kvs.map (λkv=>(kV kv.1,kv.2))/\kvs.length<=15/\Q (.ref p) (upd H2 p (.dK (Gu [] kvs)))
 split at hm
 ·rename_i ky h4 hk'
  cases r0' with
  | @ref _ a hn=>
   obtain ⟨kvs',e,r⟩:=s2.ob S.length _ _ h4 hn;cases r;rw [Ln (r1.mono l2) hk'];have le:Le X.K ρ2 H2 ρ2 (upd H2 p (.dK (FE [] ky w))):=Le.write hn (by rw [e];trivial);obtain ⟨s5,l5⟩:=s2.write (ho:=.dK (FE [] ky w)) (o:=.dK (Gr [] ky y)) hn ⟨_,BM,(KVR.put ky r2 .nil).mono le⟩;exact ⟨e,[(ky,w)],rfl,by simp,hm ρ2 _ _ (l0.trans (l1.trans (l2.trans l5))) s5 ((r0.mono (l1.trans l2)).mono l5)⟩
 ·exact hm.elim
end
end L2
namespace PySem
end PySem
namespace L2
open PySem PySem.Spec PyProof.Rows
def mExtT (mo ma:ME):ME:=λe S=>(mo e S).bind λd S1=>match atL d S1 with
 | some (n,_)=>(ma e S1).bind λy S2=>match atL d S2,y with
  | some (_,xs),.tup ys=>if xs.length+ys.length<=sizeLine then .ok .non (S2.set n (.lst (xs++ys))) else .bad
  | _,_=>.bad
 | none=>.bad
section
variable {X:Cx} {E:EW} {o e:Expr} {apos cpos:Pos} {mo ma:ME}
end
def dN (td ty:TE):TE:=λσ H Q=>td σ H λx H1=>∃a,x=.ref a/\IsD H1 a/\ty σ H1 λy H2=>∃b kvs more,y=.ref b/\a≠b/\H2 a=some (.dK kvs)/\H2 b=some (.dK more)/\kvs.length+more.length<=sizeLine/\Q .non (upd H2 a (.dK (Gu kvs more)))
section
variable {X:Cx} {o e:Expr} {apos cpos:Pos} {td ty:TE}
theorem YR (ho:PE X o td) (he:PE X e ty) (m:M1 X o "update" apos e cpos):PE X (.Call (.Attribute o "update" apos) [e] [] cpos) (dN td ty):=by
 intro pins s σ H Q I h;refine wpAny_Call_method m.base m.few m.line PySem.F.plainAttrs_dict NO PySem.F.type_dict_update (thn (ho pins s σ H _ I h) λu s1 ⟨x,H1,I1,rx,a,ex,d,q1⟩=>?_);subst ex;obtain rfl:u=Ak a:=rx;obtain ⟨t1,t2,_⟩:=bU I1 d;refine ⟨t1,t2,?_⟩;rw [m.trees];refine Pl rfl (Iy (Jq (thn (he pins s1 σ H1 _ I1 q1) λiv s2 ⟨y,H2,I2,ry,b,kvs,more,ey,hab,ea,eb,hz,q2⟩=>KW ?_)));subst ey;cases (show iv=Ak b from ry);obtain ⟨za,hda,vsa,ra,dda⟩:=TB I2.hok ea;obtain ⟨zb,hdb,vsb,rb,ddb⟩:=TB I2.hok eb;refine call_meetsIn NO dda.typeIs PySem.F.entry_dict_update (PySem.F.args_dict_update_2 _ _) (meets_dict_update (Ch X.prog X.w) a b hab hdb) ⟨vsa,vsb,dda,ddb,by rw [<-ra.length,<-rb.length];exact hz,λh' d1 _ hs=>⟨.non,_,?_,rfl,q2⟩⟩
 have he':∃q,h'.get? a=some q:=let ⟨q,_,_,hq,_⟩:=d1;⟨q,hq⟩
 exact Ls I2 (by rw [ea];exact CG) hs he' (R8 (Ao (Gv more kvs) hz) hda (rb.merge ra) d1)
end
def Ko {β:Type} (kvs more:List (Key×β)):List (Key×β):=more.foldl (λacc kv=>Gr acc kv.1 kv.2) kvs
theorem KVR.merge {K:AA} {ρ:List AF} {H:Hp}:∀ {more:List (Key×D)} {more':List (Key×V)} {kvs:List (Key×D)} {kvs':List (Key×V)},KVR K ρ H more more'->KVR K ρ H kvs kvs'->KVR K ρ H (Ko kvs more) (Gu kvs' more')
 | _,_,_,_,.nil,q=>q
 | (g,a) :: x,(g',b) :: y,kvs,kvs',.cons r t,q=>by
  have e:g=g':=r.1;subst e;exact KVR.merge (kvs:=Gr kvs g a) (kvs':=FE kvs' g b) t (KVR.put g r.2 q)
def OB (mo ma:ME):ME:=λe S=>(mo e S).bind λx S1=>match x with
 | .ref n=>match S1[n]? with
  | some (.dK _)=>(ma e S1).bind λy S2=>match y with
   | .ref m=>match S2[n]?,S2[m]? with
    | some (.dK kvs),some (.dK more)=>if n≠m/\kvs.length+more.length<=sizeLine then .ok .non (S2.set n (.dK (Ko kvs more))) else .bad
    | _,_=>.bad
   | _=>.bad
  | _=>.bad
 | _=>.bad
section
variable {X:Cx} {E:EW} {o e:Expr} {apos cpos:Pos} {mo ma:ME}
theorem Y4 (ho:GE X E o mo) (ha:GE X E e ma) (m:M1 X o "update" apos e cpos:=by exact ⟨rfl,rfl,rfl,rfl⟩):GE X E (.Call (.Attribute o "update" apos) [e] [] cpos) (OB mo ma):=(YR ho ha m).imp λσ H Q ⟨ρ,l,S,hl,hs,hm⟩=>by
 refine ⟨ρ,l,S,hl,hs,hm.seq λx S1 hm ρ1 H1 u l1 s1 r1=>?_⟩;split at hm
 ·rename_i n
  split at hm
  ·rename_i kv0 h1
   cases r1 with
   | @ref _ a hn=>
    obtain ⟨kv0',e0,_⟩:=s1.ob n _ _ h1 hn;refine ⟨a,rfl,.inl ⟨kv0',.inl e0⟩,ρ1,l,S1,hl.mono l1,s1,(hm.later l1).seq λy S2 hm ρ2 H2 v l2 s2 r2=>?_⟩;split at hm
    ·rename_i m
     split at hm
     ·rename_i kvs more h2 h3
      split at hm
      ·rename_i hc
       have r1':BQ X.K ρ2 H2 (.ref n) (.ref a):=(BQ.ref hn).mono l2
       cases r1' with
       | @ref _ _ hn2=>
        cases r2 with
        | @ref _ b hm2=>
         obtain ⟨kvs',ea,ra⟩:=s2.ob n _ _ h2 hn2;obtain ⟨more',eb,rb⟩:=s2.ob m _ _ h3 hm2;have le:Le X.K ρ2 H2 ρ2 (upd H2 a (.dK (Gu kvs' more'))):=Le.write hn2 (by rw [ea];trivial);obtain ⟨s5,l5⟩:=s2.write (ho:=.dK (Gu kvs' more')) (o:=.dK (Ko kvs more)) hn2 ⟨_,BM,(KVR.merge rb ra).mono le⟩;exact ⟨b,kvs',more',rfl,λz=>hc.1 (s2.nd n m a hn2 (z▸hm2)),ea,eb,by rw [<-KVR.length ra,<-KVR.length rb];exact hc.2,hm ρ2 _ _ (l1.trans (l2.trans l5)) s5 .non⟩
      ·exact hm.elim
     ·exact hm.elim
    ·exact hm.elim
  ·exact hm.elim
 ·exact hm.elim
end
end L2
namespace L2
open PySem PySem.Spec PyProof.Rows
def rIns:V->List V->Hp->VK->Prop:=λx vs H Q=>∃l xs i y,x=.ref l/\vs=[.int i,y]/\H l=some (.lst xs)/\0<=i/\i < 2 ^ 63/\xs.length+1<=sizeLine/\Q .non (upd H l (.lst (xs.take i.toNat++[y]++xs.drop i.toNat)))
section
variable {X:Cx}
theorem T7:MtM X "list.insert" rIns:=by
 intro pins s σ H x vs v us Q I rx rv h;obtain ⟨l,xs,i,y,rfl,rfl,hH,h0,h1,hz,q⟩:=h;cases rx;obtain ⟨u,w,rfl,ru,ry⟩:=vals2 rv;obtain ⟨t,rfl⟩:=ru;obtain ⟨z,its,n,r,hl,e⟩:=I.lstM hH
 have hfit:¬(!Builtin.List.listFitsIndex i)=true:=by
  rw [fitsIndex_both (by omega) h1];exact AS
 refine Zk F.slot_list_insert ⟨_,e,rfl⟩ F.entry_list_insert (F.args_list_insert_3 _ _ _)
  (AutoListH.list_insert_list_int_val_1 l its.toArray n i t w hfit (by rw [Aa];omega)) ⟨e,?_⟩
 refine ⟨.non,_,I.lset (its':=its.take i.toNat++[w]++its.drop i.toNat) hH e ?_ (((r.take _).append (.cons ry .nil)).append (r.drop _)) ?_,rfl,q⟩
 ·show (its.toArray.extract 0 (if i < 0 then (i+((its.toArray.size:Nat):Int)).toNat else min i.toNat its.toArray.size)).push w++its.toArray.extract (if i < 0 then (i+((its.toArray.size:Nat):Int)).toNat else min i.toNat its.toArray.size)=_
  rw [if_neg (by omega)]
  apply dA
  rw [Aa]
  by_cases c:i.toNat<=its.length
  ·rw [Nat.min_eq_left c]
   simp;rw [By (by rw [Bs];omega)]
  ·rw [Nat.min_eq_right (by omega),By (by omega),List.drop_of_length_le (by omega)]
   simp
 ·simp only [AR,CH,Bs,A6]
  omega
end
def WC (mo mi my:ME):ME:=λe S=>(mo e S).bind λd S1=>match atL d S1 with
 | some (n,_)=>(mi e S1).bind λx S2=>(my e S2).bind λy S3=>match atL d S3,x with
  | some (_,xs),.int i=>if 0<=i/\i < 1000000/\xs.length+1<=sizeLine then .ok .non (S3.set n (.lst (xs.take i.toNat++[y]++xs.drop i.toNat))) else .bad
  | _,_=>.bad
 | none=>.bad
theorem An.drop' {K:AA} {ρ:List AF} {H:Hp}:∀ {ds:List D} {vs:List V},An K ρ H ds vs->∀k,An K ρ H (ds.drop k) (vs.drop k)
 | _,_,.nil,k=>by rw [Zs,Zs];exact .nil
 | _,_,.cons r t,k=>by
  cases k with
  | zero=>exact .cons r t
  | succ k=>exact An.drop' t k
section
variable {X:Cx} {E:EW} {o e f:Expr} {apos cpos:Pos} {mo mi my:ME}
theorem bv (ho:GE X E o mo) (he:GE X E e mi) (hf:GE X E f my) (hbase:Dw o "insert" X.env (Bh o X.env)=Bh o X.env:=by rfl)
  (hfew:((Cb cpos (AO [e,f] X.env)).all (λx=>!x.1)&&(Q6 cpos (KQ [] X.env)).all (λx=>x.1.isSome)
    &&decide ([e,f].length+([]:List G4).length+(if ([]:List G4).isEmpty then 0 else 1) < 30))=true:=by rfl)
  (hline:(apos.endLine==cpos.line)=true:=by rfl) (hs:AO [e,f] X.env=(false,Bh e X.env) :: AO [f] X.env:=by rfl) (hs2:AO [f] X.env=(false,Bh f X.env) :: AO [] X.env:=by rfl) (hplain:(Cb cpos (AO [f] X.env)).any (·.1)=false:=by rfl) :
  GE X E (.Call (.Attribute o "insert" apos) [e,f] [] cpos) (WC mo mi my):=(Vw G1 PySem.F.slot_list_insert PySem.F.type_list_insert T7 ho (DF he (DF hf FF hs2) hs) hbase hfew hline hs hplain).imp λσ H Q ⟨ρ,l,S,hl,hs,hm⟩=>by
 refine ⟨ρ,l,S,hl,hs,hm.seq λd S1 hm ρ1 H1 v l1 s1 r1=>?_⟩
 cases hq:atL d S1 with
 | none=>rw [hq] at hm;exact hm.elim
 | some z=>
  obtain ⟨n,xs0⟩:=z;rw [hq] at hm;dsimp only at hm;obtain ⟨rfl,h0,a,vs0,rfl,hn,e0,_⟩:=NC s1 r1 hq;refine ⟨.inl ⟨rfl,vs0,.inl (.inl e0)⟩,ρ1,l,S1,hl.mono l1,s1,(hm.later l1).seq λx S2 hm ρ2 H2 u l2 s2 r2=>⟨ρ2,l,S2,hl.mono (l1.trans l2),s2,(hm.later l2).seq λy S3 hm' ρ3 H3 w l3 s3 r3=>?_⟩⟩;split at hm'
  ·rename_i n' xs i h2
   split at hm'
   ·rename_i hz
    obtain ⟨e',h4,a',vs,ea,hn2,e2,rr⟩:=NC s3 (r1.mono (l2.trans l3)) h2;cases e';cases ea;cases r2;obtain ⟨s4,l4⟩:=Sg s3 hn2 e2 (((rr.take i.toNat).append (.cons r3 .nil)).append (rr.drop' i.toNat));exact ⟨a,vs,i,w,rfl,rfl,e2,hz.1,Int.lt_trans hz.2.1 (by decide),by rw [<-rr.length];exact hz.2.2,hm' ρ3 _ _ (l1.trans (l2.trans (l3.trans l4))) s4 .non⟩
   ·exact hm'.elim
  ·exact hm'.elim
end
end L2
namespace PySem
open Sem (wp)
section
variable {prog:Ai} {w:A7} {A:A2} {E:AC->AE->Prop} {s:AE}
end
end PySem
namespace L2
open PySem PySem.Spec PyProof.Rows
section
variable {P:Ai} {w:A7} {K:AA} {elts:List Expr} {x1:Nat} {pos:Pos}
end
section
variable {X:Cx} {E:EW} {e1 e2:Expr} {elts:List Expr} {x1:Nat} {p pos ptg:Pos} {ml:ML} {ta:TA}
end
end L2
namespace HT
open PySem PySem.Spec PyProof.Rows
section
variable {prog:Ai} {w:A7} {A:A2} {E:AC->AE->Prop} {s:AE}
end
end HT
namespace L2
open PySem PySem.Spec PyProof.Rows
section
variable {X:Cx}
variable {E:EW} {e:Expr} {lo hi:Option Expr} {pos p2:Pos} {m:ME} {ml mh:MO}
end
end L2
namespace L2
open PySem PySem.Spec PyProof.Rows
section
variable {X:Cx}
instance (i j:Int):Decidable ((λ_ j:Int=>0<=j) i j):=inferInstanceAs (Decidable (0<=j))
end
end L2
namespace L2
open PySem PySem.Spec PyProof.Rows
section
variable {X:Cx} {E:EW} {CX:CXT} {k n:Nat} {f C:AF} {fd:Cr} {ps:List Str} {m:Str} {pos apos:Pos} {o e:Expr} {es:List Expr} {mo:ME} {ml:ML} {g:List D->Sto->Res D}
end
end L2
namespace L2
open PySem PySem.Spec PyProof.Rows
section
variable {X:Cx} {E:EW} {o:Expr} {apos cpos:Pos} {mo:ME}
end
end L2
namespace L2
open PySem PySem.Spec PyProof.Rows
section
variable {X:Cx}
end
end L2
namespace L2
open PySem PySem.Spec PyProof.Rows
section
variable {X:Cx} {E:EW} {g:Str} {gp hpos pos:Pos} {G:AF} {cs:List AF} {body suite:List Cd} {b₀:Cd} {mb mh:MS}
end
end L2
namespace L2
open PySem PySem.Spec PyProof.Rows PySem.SeqAt
section
variable {X:Cx} {K:AA} {ρ:List AF} {H:Hp}
variable {pins:List (AF×Obj)} {σ:St} {s:AE}
end
section
variable {P:Ai} {w:A7} {K:AA} {mg:Str->Option AC} {base:BY}
theorem IS {N ps:List Str} {sc:GR} (h1:N.Nodup:=by decide +kernel) (h2:∀x∈ps,sc.names.lookup x=some .local∨sc.names.lookup x=some .cell:=by decide +kernel) (h3:∀y∈sc.names,y.2≠.free:=by decide +kernel) (h4:sc.kind=.function:=by rfl) (h5:sc.isCoroutine=false:=by rfl) (h6:sc.isGenerator=false:=by rfl) (h7:N.take ps.length=ps:=by rfl):B5 N ps sc:=⟨h4,h5,h6,h1,h7,h2,h3⟩
theorem Cq {x qual:Str} {st:Cd} {f:AF} {fd:Cr} {N ps:List Str} {k n:Nat} (F:Fun K x qual st f fd) (Sc:B5 N ps (Av st)) (hn:ps.length=n) {mb:MS}
  (hbody:∀(cdv:AC) (A:A2) (outer:List Env) (s:AE) (H:Hp) (E:XK),FO k (A.deeper (JR qual (Av st) s.heap.objs.size f cdv))->HF (PH (CXG P w) P w K mg base N qual (Av st) f cdv A outer s H E)->(A.deeper (JR qual (Av st) s.heap.objs.size f cdv)).units+64 < D0->N.Nodup ->
   ∀pn E',GSs ((PH (CXG P w) P w K mg base N qual (Av st) f cdv A outer s H E).w' pn E') E' (Bw st) mb) :
  Dy P w K mg base (CXG P w) (k+1) f fd ps (spM K n (Es N.length mb)):=cC F Sc hn λcdv A outer s H E hr=>hbody cdv A outer s H E hr ⟨rfl,rfl,rfl⟩ hr.units Sc.nd
end
section
variable {X:Cx} {E:EW} {e:Expr} {m:ME} {pos:Pos}
theorem Ec {x:Str} (i:Nat) (hN:X.N.Nodup) (hi:X.N[i]?=some x:=by rfl) (hx:Loc X.env.scope x:=by first | exact XD rfl | exact SK rfl) (hf:X.fn x=true∨X.env.scope.names.lookup x=some .local:=by first | exact .inl rfl | exact .inr rfl | assumption):GG X (.Name x pos) (tgN i):=Yw (YN hN hi hx hf)
theorem CP {x:Str} {pos':Pos} (i:Nat) (hN:X.N.Nodup) (he:GE X E e m) (hi:X.N[i]?=some x:=by rfl) (hx:Loc X.env.scope x:=by first | exact XD rfl | exact SK rfl) (hs:EJ e (some (.Name x pos')) pos.line X.env=pure false:=by rfl)
  (hf:X.fn x=true∨X.env.scope.names.lookup x=some .local:=by first | exact .inl rfl | exact .inr rfl | assumption):GS X E (.Assign [.Name x pos'] e pos) (B3 i m):=bf hN hi hx he hs hf
end
end L2
namespace PySem
open Sem (wp)
section
variable {prog:Ai} {w:A7} {A:A2} {R:Zp->AE->Prop} {z B:AF} {fp wr:List AF} {n:Nat} {P:Nat->AC->Prop} {St:Nat->BY->Prop} {bt:Nat->Nat->Bool} {J:BY->Prop}
variable {E:AC->AE->Prop} {s:AE}
end
end PySem
namespace L2
open PySem PySem.Spec PyProof.Rows
section
variable {X:Cx} {E:EW} {e:Expr} {p pos:Pos} {m:ME}
end
end L2
namespace L4
open PySem L2
inductive Cel where
 | no | fz (o:Ob) | ow (i:Nat)
abbrev Fz:=Nat->Cel
inductive Sl where
 | u | v (d:D) | z (o:Ob) | y (o:Ob) | w (i:Nat) (o:Ob)
def Sl.ok (S0:Sto) (F:Fz) (S:Sto):Sl->Option D->Prop
 | .u,_=>True
 | .v d,x=>x=some d
 | .z o,x=>∃n,x=some (.ref n)/\F n=.fz o
 | .y o,x=>∃n,x=some (.ref n)/\F n=.fz o/\S0.length<=n
 | .w i o,x=>∃n,x=some (.ref n)/\F n=.ow i/\S[n]?=some o
structure Vs (S0:Sto) (A:List Sl) (e:Lo) (F:Fz) (S:Sto):Prop where
 kp:Keeps S0 S
 fz:∀n o,F n=.fz o->S[n]?=some o
 ow:∀n i,F n=.ow i->S0.length<=n/\n < S.length
 hi:∀n,S.length<=n->F n=.no
 sl:∀(i:Nat) (a:Sl),A[i]?=some a->∃x,e[i]?=some x/\a.ok S0 F S x
def Fle (F F':Fz):Prop:=∀n o,F n=.fz o->F' n=.fz o
theorem Fle.refl (F:Fz):Fle F F:=λ_ _ h=>h
theorem Fle.trans {F G H:Fz} (a:Fle F G) (b:Fle G H):Fle F H:=λn o h=>b n o (a n o h)
def M0 (F:Fz) (S S':Sto):Fz:=λn=>if n < S.length then F n else match S'[n]? with
 | some o=>.fz o
 | none=>.no
section
variable {S0 S S':Sto} {A B:List Sl} {e:Lo} {F:Fz} {α β γ ρ σ τ:Type}
theorem F0 {n:Nat} (h:n < S.length):M0 F S S' n=F n:=if_pos h
theorem Mz {n:Nat} {o:Ob} (h:S.length<=n) (ho:S'[n]?=some o):M0 F S S' n=.fz o:=by
 unfold M0;rw [if_neg (KS.mpr h),ho]
theorem D7 {n:Nat} {o:Ob} (h:S[n]?=some o):n < S.length:=(AD.mp h).1
theorem Sl.mono {S0:Sto} {F F':Fz} {S S':Sto} {a:Sl} {x:Option D} (h:a.ok S0 F S x) (h1:∀n o,F n=.fz o->F' n=.fz o) (h2:∀n i o,F n=.ow i->S[n]?=some o->F' n=.ow i/\S'[n]?=some o):a.ok S0 F' S' x:=by
 cases a with
 | u=>trivial
 | v d=>exact h
 | z o=>obtain ⟨n,h3,h4⟩:=h;exact ⟨n,h3,h1 _ _ h4⟩
 | y o=>obtain ⟨n,h3,h4,h5⟩:=h;exact ⟨n,h3,h1 _ _ h4,h5⟩
 | w i o=>obtain ⟨n,h3,h4,h5⟩:=h;exact ⟨n,h3,h2 _ _ _ h4 h5⟩
theorem Vs.fle (h:Vs S0 A e F S) (S':Sto):Fle F (M0 F S S'):=λn o q=>by rw [F0 (D7 (h.fz n o q))];exact q
theorem Vs.grow (h:Vs S0 A e F S) (k:Keeps S S'):Vs S0 A e (M0 F S S') S':=by
 refine ⟨h.kp.trans k,λn o q=>?_,λn i q=>?_,λn hn=>?_,λi a ha=>?_⟩
 ·unfold M0 at q
  split at q
  ·rename_i hn
   rw [k.2 n hn];exact h.fz n o q
  ·cases hs:S'[n]? with
   | none=>rw [hs] at q;cases q
   | some o'=>rw [hs] at q;cases q;rfl
 ·unfold M0 at q
  split at q
  ·exact ⟨(h.ow n i q).1,AX (h.ow n i q).2 k.1⟩
  ·cases hs:S'[n]? with
   | none=>rw [hs] at q;cases q
   | some o'=>rw [hs] at q;cases q
 ·unfold M0
  rw [if_neg (KS.mpr (Ao k.1 hn)),CB hn]
 ·obtain ⟨x,h1,h2⟩:=h.sl i a ha
  exact ⟨x,h1,Sl.mono h2 (h.fle S') λn i o q1 q2=>⟨by rw [F0 (D7 q2)];exact q1,by rw [k.2 n (D7 q2)];exact q2⟩⟩
theorem Vs.cons (h:Vs S0 A e F S) {a:Sl} {x:Option D} (hx:a.ok S0 F S x):Vs S0 (a :: A) (x :: e) F S:=
 ⟨h.kp,h.fz,h.ow,h.hi,λi b hb=>by
  cases i with
  | zero=>cases hb;exact ⟨x,rfl,hx⟩
  | succ i=>exact h.sl i b hb⟩
theorem Vs.set (h:Vs S0 A e F S) {a:Sl} {x:Option D} (i:Nat) (hx:a.ok S0 F S x):Vs S0 (A.set i a) (e.set i x) F S:=
 ⟨h.kp,h.fz,h.ow,h.hi,λj b hb=>by
  by_cases c:i=j
  ·subst c
   rw [G3] at hb;rw [if_pos rfl] at hb;split at hb
   ·rename_i hl
    cases hb;obtain ⟨y,hy,_⟩:=h.sl i (A[i]) (BB hl);exact ⟨x,by rw [G3];rw [if_pos rfl,if_pos (AD.mp hy).1],hx⟩
   ·cases hb
  ·rw [Al c] at hb ⊢
   exact h.sl j b hb⟩
inductive Wk:List Sl->List Sl->Prop where
 | nil:Wk [] []
 | same {a:Sl} {A B:List Sl}:Wk A B->Wk (a :: A) (a :: B)
 | drop {a:Sl} {A B:List Sl}:Wk A B->Wk (a :: A) (.u :: B)
 | less {o:Ob} {A B:List Sl}:Wk A B->Wk (.y o :: A) (.z o :: B)
theorem Wk.at:∀ {A B:List Sl},Wk A B->∀(i:Nat) (b:Sl),B[i]?=some b->∃a,A[i]?=some a/\(b=.u∨b=a∨∃o,a=.y o/\b=.z o)
 | _,_,.nil,i,b,h=>by simp at h
 | _,_,.same w,0,b,h=>by cases h;exact ⟨_,rfl,.inr (.inl rfl)⟩
 | _,_,.less w,0,b,h=>by cases h;exact ⟨_,rfl,.inr (.inr ⟨_,rfl,rfl⟩)⟩
 | _,_,.less w,i+1,b,h=>Wk.at w i b h
 | _,_,.drop w,0,b,h=>by cases h;exact ⟨_,rfl,.inl rfl⟩
 | _,_,.same w,i+1,b,h=>Wk.at w i b h
 | _,_,.drop w,i+1,b,h=>Wk.at w i b h
theorem Vs.weak (h:Vs S0 A e F S) (w:Wk A B):Vs S0 B e F S:=⟨h.kp,h.fz,h.ow,h.hi,λi b hb=>by
 obtain ⟨a,h1,h2⟩:=w.at i b hb;obtain ⟨x,h3,h4⟩:=h.sl i a h1
 rcases h2 with rfl | rfl | ⟨o,rfl,rfl⟩
 ·exact ⟨x,h3,trivial⟩
 ·exact ⟨x,h3,h4⟩
 ·obtain ⟨n,h5,h6,_⟩:=h4
  exact ⟨x,h3,n,h5,h6⟩⟩
def Sl.oth (i:Nat):Sl->Bool
 | .w k _=>!(Nat.beq k i)
 | _=>true
theorem aw {i j k:Nat} {o:Ob} (h:((A.set i .u).all (Sl.oth i))=true) (hj:j≠i) (ha:A[j]?=some (.w k o)):k≠i:=by
 have h1:(A.set i .u)[j]?=some (.w k o):=by rw [Al (Bv hj)];exact ha
 have:=Hn.mp h _ (BF h1);intro e;subst e;have h2:(!(Nat.beq k k))=true:=this;rw [Nat.beq_refl] at h2;cases h2
theorem Vs.put (h:Vs S0 A e F S) {i n:Nat} {o o':Ob} (ht:((A.set i .u).all (Sl.oth i))=true) (ha:A[i]?=some (.w i o)) (hx:e[i]?=some (some (.ref n))) (hn:F n=.ow i):Vs S0 (A.set i (.w i o')) e F (S.set n o'):=by
 have hl:=h.ow n i hn;refine ⟨h.kp.set hl.1 o',λk q hq=>?_,λk j q=>by rw [Fa];exact h.ow k j q,λk hk=>h.hi k (by rw [Fa] at hk;exact hk),λj b hb=>?_⟩
 ·have:n≠k:=λc=>by subst c;rw [hn] at hq;cases hq
  rw [Al this];exact h.fz k q hq
 ·by_cases c:i=j
  ·subst c
   rw [G3] at hb;rw [if_pos rfl] at hb;split at hb
   ·cases hb
    exact ⟨_,hx,n,rfl,hn,by rw [G3];rw [if_pos rfl,if_pos hl.2]⟩
   ·cases hb
  ·rw [Al c] at hb
   obtain ⟨x,h1,h2⟩:=h.sl j b hb;refine ⟨x,h1,?_⟩
   cases b with
   | u=>trivial
   | v d=>exact h2
   | z q=>exact h2
   | y q=>exact h2
   | w k q=>
    obtain ⟨m,h3,h4,h5⟩:=h2;refine ⟨m,h3,h4,?_⟩
    have:n≠m:=λz=>by
     subst z;rw [hn] at h4;cases h4;exact aw ht (λz=>c z.symm) hb rfl
    rw [Al this];exact h5
theorem Vs.own (h:Vs S0 A e F S) (k:Keeps S S') {i n:Nat} {o:Ob} (hn:S.length<=n) (ho:S'[n]?=some o):∃F',Vs S0 (A.set i (.w i o)) (e.set i (some (.ref n))) F' S'/\Fle F F':=by
 have g:=h.grow k;have hnl:=D7 ho
 have fl:Fle F (λj=>if j=n then Cel.ow i else M0 F S S' j):=λj q hq=>by
  have:j≠n:=λc=>by subst c;exact absurd (D7 (h.fz _ _ hq)) (KS.mpr hn)
  show (if j=n then Cel.ow i else _)=_;rw [if_neg this];exact h.fle S' _ _ hq
 refine ⟨λj=>if j=n then .ow i else M0 F S S' j,(Vs.set (a:=.w i o) (x:=some (.ref n)) ⟨g.kp,λj q hq=>?_,λj q hq=>?_,λj hj=>?_,λj b hb=>?_⟩ i ⟨n,rfl,if_pos rfl,ho⟩),fl⟩
 ·split at hq
  ·cases hq
  ·exact g.fz j q hq
 ·split at hq
  ·rename_i c;subst c;exact ⟨Ao h.kp.1 hn,hnl⟩
  ·exact g.ow j q hq
 ·have:j≠n:=λc=>by subst c;exact absurd hnl (KS.mpr hj)
  show (if j=n then Cel.ow i else _)=_;rw [if_neg this];exact g.hi j hj
 ·obtain ⟨x,h1,h2⟩:=h.sl j b hb
  refine ⟨x,h1,Sl.mono h2 fl λm j q q1 q2=>?_⟩;have hm:=D7 q2
  have:m≠n:=λc=>by subst c;exact absurd hm (KS.mpr hn)
  refine ⟨?_,by rw [k.2 m hm];exact q2⟩;show (if m=n then Cel.ow i else _)=_;rw [if_neg this,F0 hm];exact q1
abbrev Rk (α:Type):=α->Sto->D->Sto->Prop
def rV (enc:α->D):Rk α:=λv _ d _=>d=enc v
def rO (ob:α->Ob):Rk α:=λv _ d S=>∃n,d=.ref n/\S[n]?=some (ob v)
def rN (ob:α->Ob):Rk α:=λv S0 d S=>∃n,d=.ref n/\S0.length<=n/\S[n]?=some (ob v)
def VE (A:List Sl) (m:ME) (R:Rk α) (p:Option α):Prop:=∀v,p=some v->∀S0 e F S,Vs S0 A e F S->∃d S',m e S=.ok d S'/\Keeps S S'/\R v S d S'
def VB (A:List Sl) (t:MT) (p:Option Bool):Prop:=∀v,p=some v->∀S0 e F S,Vs S0 A e F S->∃S',t e S=.ok v S'/\Keeps S S'
def VL (A:List Sl) (ml:ML) (enc:α->D) (p:Option (List α)):Prop:=∀v,p=some v->∀S0 e F S,Vs S0 A e F S->∃S',ml e S=.ok (v.map enc) S'/\Keeps S S'
def VK (A:List Sl) (mi:MI) (enc:α->D) (p:Option (List α)):Prop:=∀v,p=some v->∀S0 e F S,Vs S0 A e F S->∃w S',mi e S=.ok w S'/\Keeps S S'/\∀S'',Keeps S' S''->w S''=some (v.map enc)
def VI (A:List Sl) (mi:MI) (enc:α->D) (p:Option (List α)):Prop:=∀v,p=some v->∀S0 e F S,Vs S0 A e F S->∃w S',mi e S=.ok w S'/\Keeps S S'/\∀F'' S'',Fle (M0 F S S') F''->(∀n o,F'' n=.fz o->S''[n]?=some o)->w S''=some (v.map enc)
theorem VI.k {mi:MI} {enc:α->D} {p:Option (List α)} (h:VI A mi enc p):VK A mi enc p:=λv hv S0 e F S hs=>by
 obtain ⟨w,S',h1,h2,h3⟩:=h v hv S0 e F S hs;have g:=hs.grow h2;exact ⟨w,S',h1,h2,λS'' k=>h3 _ S'' (g.fle S'') (g.grow k).fz⟩
def eT (enc:α->D) (l:List α):D:=.tup (l.map enc)
def eP (a:α->D) (b:β->D) (x:α×β):D:=.tup [a x.1,b x.2]
def eF (l:List Int):D:=.fro (l.map D.int)
def oL (enc:α->D) (l:List α):Ob:=.lst (l.map enc)
theorem Z5 {m:ME} {R R':Rk α} {p:Option α} (h:VE A m R p) (i:∀v S d S',R v S d S'->R' v S d S'):VE A m R' p:=λv hv S0 e F S hs=>by
 obtain ⟨d,S',h1,h2,h3⟩:=h v hv S0 e F S hs;exact ⟨d,S',h1,h2,i _ _ _ _ h3⟩
theorem U7 {m:ME} {ob:α->Ob} {p:Option α} (h:VE A m (rN ob) p):VE A m (rO ob) p:=Z5 h λv S d S' ⟨n,h1,_,h2⟩=>⟨n,h1,h2⟩
theorem Az {enc:α->D} {v:α} {i:Nat} (h:A[i]?=some (.v (enc v))):VE A (AL i) (rV enc) (some v):=λ_ hv S0 e F S hs=>by
 cases hv;obtain ⟨x,h1,h2⟩:=hs.sl i _ h;cases h2;exact ⟨_,S,by unfold AL;rw [h1],Keeps.refl S,rfl⟩
theorem Lj {ob:α->Ob} {v:α} {i:Nat} (h:A[i]?=some (.z (ob v))):VE A (AL i) (rO ob) (some v):=λ_ hv S0 e F S hs=>by
 cases hv;obtain ⟨x,h1,n,rfl,h2⟩:=hs.sl i _ h;exact ⟨_,S,by unfold AL;rw [h1],Keeps.refl S,n,rfl,hs.fz _ _ h2⟩
theorem Dq {ob:α->Ob} {v:α} {i:Nat} (h:A[i]?=some (.y (ob v))):VE A (AL i) (rO ob) (some v):=λ_ hv S0 e F S hs=>by
 cases hv;obtain ⟨x,h1,n,rfl,h2,_⟩:=hs.sl i _ h;exact ⟨_,S,by unfold AL;rw [h1],Keeps.refl S,n,rfl,hs.fz _ _ h2⟩
theorem Od {ob:α->Ob} {v:α} {i k:Nat} (h:A[i]?=some (.w k (ob v))):VE A (AL i) (rO ob) (some v):=λ_ hv S0 e F S hs=>by
 cases hv;obtain ⟨x,h1,n,rfl,h2,h3⟩:=hs.sl i _ h;exact ⟨_,S,by unfold AL;rw [h1],Keeps.refl S,n,rfl,h3⟩
theorem Fk {enc:α->D} {v:α} {d:D} (h:d=enc v):VE A (mC d) (rV enc) (some v):=λ_ hv S0 e F S hs=>by
 cases hv;exact ⟨d,S,rfl,Keeps.refl S,h⟩
theorem BK {p:Option α} {q:α->Option β} {v:β} (h:p.bind q=some v):∃x,p=some x/\q x=some v:=OU.mp h
theorem LD {f:D->D->Sto->Res D} {a b:ME} {ea:α->D} {eb:β->D} {ec:γ->D} {pa:Option α} {pb:Option β} {g:α->β->Option γ} (ha:VE A a (rV ea) pa) (hb:VE A b (rV eb) pb)
  (hf:∀x y z S,g x y=some z->f (ea x) (eb y) S=.ok (ec z) S):VE A (m2 f a b) (rV ec) (pa.bind λx=>pb.bind λy=>g x y):=λv hv S0 e F S hs=>by
 obtain ⟨x,h1,hv⟩:=BK hv;obtain ⟨y,h2,h3⟩:=BK hv;obtain ⟨d1,S1,q1,k1,rfl⟩:=ha x h1 S0 e F S hs;obtain ⟨d2,S2,q2,k2,rfl⟩:=hb y h2 S0 e _ S1 (hs.grow k1);exact ⟨_,S2,C5 q1 q2 (hf x y v S2 h3),k1.trans k2,rfl⟩
theorem Z3 {f:D->D->Sto->Res D} {a b:ME} {ea:α->D} {ob:β->Ob} {ec:γ->D} {pa:Option α} {pb:Option β} {g:α->β->Option γ} (ha:VE A a (rV ea) pa) (hb:VE A b (rO ob) pb)
  (hf:∀x y z S (n:Nat),S[n]?=some (ob y)->g x y=some z->f (ea x) (.ref n) S=.ok (ec z) S):VE A (m2 f a b) (rV ec) (pa.bind λx=>pb.bind λy=>g x y):=λv hv S0 e F S hs=>by
 obtain ⟨x,h1,hv⟩:=BK hv;obtain ⟨y,h2,h3⟩:=BK hv;obtain ⟨d1,S1,q1,k1,rfl⟩:=ha x h1 S0 e F S hs;obtain ⟨d2,S2,q2,k2,n,rfl,hn⟩:=hb y h2 S0 e _ S1 (hs.grow k1);exact ⟨_,S2,C5 q1 q2 (hf x y v S2 n hn h3),k1.trans k2,rfl⟩
theorem Z6 {f:D->D->Sto->Res D} {a b:ME} {ob:α->Ob} {eb:β->D} {ec:γ->D} {pa:Option α} {pb:Option β} {g:α->β->Option γ} (ha:VE A a (rO ob) pa) (hb:VE A b (rV eb) pb)
  (hf:∀x y z S (n:Nat),S[n]?=some (ob x)->g x y=some z->f (.ref n) (eb y) S=.ok (ec z) S):VE A (m2 f a b) (rV ec) (pa.bind λx=>pb.bind λy=>g x y):=λv hv S0 e F S hs=>by
 obtain ⟨x,h1,hv⟩:=BK hv;obtain ⟨y,h2,h3⟩:=BK hv;obtain ⟨d1,S1,q1,k1,n,rfl,hn⟩:=ha x h1 S0 e F S hs;obtain ⟨d2,S2,q2,k2,rfl⟩:=hb y h2 S0 e _ S1 (hs.grow k1);exact ⟨_,S2,C5 q1 q2 (hf x y v S2 n (k2.at hn) h3),k1.trans k2,rfl⟩
theorem Pt {m:ME} {p:Option Bool} (h:VE A m (rV D.bl) p):VB A (mB m) p:=λv hv S0 e F S hs=>by
 obtain ⟨d,S',h1,h2,rfl⟩:=h v hv S0 e F S hs;exact ⟨S',Ji h1,h2⟩
theorem SX:VB A JN (some true):=λv hv S0 e F S hs=>by cases hv;exact ⟨S,rfl,Keeps.refl S⟩
theorem Z7 {t:MT} {p:Option Bool} (h:VB A t p):VB A (Ja t) (p.bind λb=>some (!b)):=λv hv S0 e F S hs=>by
 obtain ⟨x,h1,h2⟩:=BK hv;cases h2;obtain ⟨S',h3,h4⟩:=h x h1 S0 e F S hs;exact ⟨S',IR h3,h4⟩
theorem Z8 {t u:MT} {p q:Option Bool} (h:VB A t p) (hu:VB A u q):VB A (QS t u) (p.bind λb=>if b=true then q else some false):=λv hv S0 e F S hs=>by
 obtain ⟨x,h1,h2⟩:=BK hv;obtain ⟨S1,h3,h4⟩:=h x h1 S0 e F S hs
 cases x with
 | true=>
  obtain ⟨S2,h5,h6⟩:=hu v h2 S0 e _ S1 (hs.grow h4);exact ⟨S2,(ZK h3).trans h5,h4.trans h6⟩
 | false=>cases h2;exact ⟨S1,ZJ h3,h4⟩
theorem dD {t u:MT} {p q:Option Bool} (h:VB A t p) (hu:VB A u q):VB A (mOr t u) (p.bind λb=>if b=true then some true else q):=λv hv S0 e F S hs=>by
 obtain ⟨x,h1,h2⟩:=BK hv;obtain ⟨S1,h3,h4⟩:=h x h1 S0 e F S hs
 cases x with
 | false=>
  obtain ⟨S2,h5,h6⟩:=hu v h2 S0 e _ S1 (hs.grow h4);exact ⟨S2,(Rg h3).trans h5,h4.trans h6⟩
 | true=>cases h2;exact ⟨S1,Vz h3,h4⟩
theorem JK {enc:α->D}:∀(v:α) (S S1:Sto) (d:D) (S':Sto),S.length<=S1.length->rV enc v S1 d S'->rV enc v S d S':=λ_ _ _ _ _ _ h=>h
theorem Vg {ob:α->Ob}:∀(v:α) (S S1:Sto) (d:D) (S':Sto),S.length<=S1.length->rN ob v S1 d S'->rN ob v S d S':=λ_ _ _ _ _ l ⟨n,h1,h2,h3⟩=>⟨n,h1,Ao l h2,h3⟩
inductive Fw (ρ σ:Type) where
 | rt (r:ρ) | nx (s:σ) | bk (s:σ) | ct (s:σ)
def VG (S0:Sto) (F:Fz) (S':Sto) (R:Rk ρ) (B:σ->List Sl) (g:Fl):Fw ρ σ->Prop
 | .nx s=>∃e' F',g=.nx e'/\Vs S0 (B s) e' F' S'/\Fle F F'
 | .ct s=>∃e' F',g=.ct e'/\Vs S0 (B s) e' F' S'/\Fle F F'
 | .bk s=>∃e' F',g=.bk e'/\Vs S0 (B s) e' F' S'/\Fle F F'
 | .rt r=>∃d,g=.rt d/\R r S0 d S'/\Keeps S0 S'
def VS (A:List Sl) (b:MS) (R:Rk ρ) (p:Option (Fw ρ σ)) (B:σ->List Sl):Prop:=∀f,p=some f->∀S0 e F S,Vs S0 A e F S->∃g S',b e S=.ok g S'/\VG S0 F S' R B g f
def Ce (p:Option (Fw ρ σ)) (q:σ->Option (Fw ρ τ)):Option (Fw ρ τ):=match p with
 | some (.nx s)=>q s
 | some (.rt r)=>some (.rt r)
 | _=>none
theorem VG.up {S0:Sto} {F F1:Fz} {S':Sto} {R:Rk ρ} {B:σ->List Sl} {g:Fl} {f:Fw ρ σ} (l:Fle F F1) (h:VG S0 F1 S' R B g f):VG S0 F S' R B g f:=by
 cases f with
 | rt r=>exact h
 | nx s=>obtain ⟨e',F',h1,h2,h3⟩:=h;exact ⟨e',F',h1,h2,l.trans h3⟩
 | bk s=>obtain ⟨e',F',h1,h2,h3⟩:=h;exact ⟨e',F',h1,h2,l.trans h3⟩
 | ct s=>obtain ⟨e',F',h1,h2,h3⟩:=h;exact ⟨e',F',h1,h2,l.trans h3⟩
theorem B2 {a b:MS} {R:Rk ρ} {p:Option (Fw ρ σ)} {q:σ->Option (Fw ρ τ)} {B:σ->List Sl} {C:τ->List Sl} (ha:VS A a R p B) (hb:∀s,VS (B s) b R (q s) C):VS A (BW a b) R (Ce p q) C:=λf hf S0 e F S hs=>by
 cases p with
 | none=>cases hf
 | some w=>
  obtain ⟨g,S1,h1,h2⟩:=ha _ rfl S0 e F S hs
  cases w with
  | nx s=>
   obtain ⟨e1,F1,rfl,h2,h3⟩:=h2;obtain ⟨g2,S2,h4,h5⟩:=hb s f hf S0 e1 F1 S1 h2;exact ⟨g2,S2,(Bn h1).trans h4,h5.up h3⟩
  | rt r=>
   cases hf;obtain ⟨d,rfl,h2,h3⟩:=h2;exact ⟨_,S1,VZ h1,d,rfl,h2,h3⟩
  | bk s=>cases hf
  | ct s=>cases hf
theorem Nv {R:Rk ρ} {B:σ->List Sl} {s:σ} (w:Wk A (B s)):VS A sNx R (some (.nx s)) B:=λf hf S0 e F S hs=>by
 cases hf;exact ⟨_,S,rfl,e,F,rfl,hs.weak w,Fle.refl F⟩
def Kp (g:σ->τ) (p:Option (Fw ρ σ)):Option (Fw ρ τ):=match p with
 | some (.nx s)=>some (.nx (g s))
 | some (.rt r)=>some (.rt r)
 | some (.bk s)=>some (.bk (g s))
 | some (.ct s)=>some (.ct (g s))
 | none=>none
theorem IF {b:MS} {R:Rk ρ} {p:Option (Fw ρ σ)} {g:σ->τ} {B:σ->List Sl} {C:τ->List Sl} (h:VS A b R p B) (w:∀s,Wk (B s) (C (g s))):VS A b R (Kp g p) C:=λf hf S0 e F S hs=>by
 cases p with
 | none=>cases hf
 | some x=>
  obtain ⟨g,S1,h1,h2⟩:=h _ rfl S0 e F S hs
  cases x with
  | nx s=>cases hf;obtain ⟨e1,F1,rfl,h2,h3⟩:=h2;exact ⟨_,S1,h1,e1,F1,rfl,h2.weak (w s),h3⟩
  | rt r=>cases hf;exact ⟨_,S1,h1,h2⟩
  | bk s=>cases hf;obtain ⟨e1,F1,rfl,h2,h3⟩:=h2;exact ⟨_,S1,h1,e1,F1,rfl,h2.weak (w s),h3⟩
  | ct s=>cases hf;obtain ⟨e1,F1,rfl,h2,h3⟩:=h2;exact ⟨_,S1,h1,e1,F1,rfl,h2.weak (w s),h3⟩
theorem EO {m:ME} {enc:α->D} {R:Rk ρ} {p:Option α} {i:Nat} (h:VE A m (rV enc) p):VS A (B3 i m) R (p.bind λv=>some (.nx v)) (λv=>A.set i (.v (enc v))):=λf hf S0 e F S hs=>by
 obtain ⟨v,h1,h2⟩:=BK hf;cases h2;obtain ⟨d,S',h3,h4,rfl⟩:=h v h1 S0 e F S hs;exact ⟨_,S',JX h3,_,_,rfl,(hs.grow h4).set i rfl,hs.fle S'⟩
theorem Js {m:ME} {ob:α->Ob} {R:Rk ρ} {p:Option α} {i:Nat} (h:VE A m (rN ob) p):VS A (B3 i m) R (p.bind λv=>some (.nx v)) (λv=>A.set i (.y (ob v))):=λf hf S0 e F S hs=>by
 obtain ⟨v,h1,h2⟩:=BK hf;cases h2;obtain ⟨d,S',h3,h4,n,rfl,h5,h6⟩:=h v h1 S0 e F S hs;exact ⟨_,S',JX h3,_,_,rfl,(hs.grow h4).set (a:=.y (ob v)) i ⟨n,rfl,Mz h5 h6,Ao hs.kp.1 h5⟩,hs.fle S'⟩
theorem Oa {m:ME} {ob:α->Ob} {R:Rk ρ} {p:Option α} {i:Nat} (h:VE A m (rN ob) p):VS A (B3 i m) R (p.bind λv=>some (.nx v)) (λv=>A.set i (.w i (ob v))):=λf hf S0 e F S hs=>by
 obtain ⟨v,h1,h2⟩:=BK hf;cases h2;obtain ⟨d,S',h3,h4,n,rfl,h5,h6⟩:=h v h1 S0 e F S hs;obtain ⟨F',h7,h8⟩:=hs.own h4 (i:=i) h5 h6;exact ⟨_,S',JX h3,_,F',rfl,h7,h8⟩
theorem KZ {m:ME} {enc:ρ->D} {p:Option ρ} {B:σ->List Sl} (h:VE A m (rV enc) p):VS A (E6 m) (rV enc) (p.bind λv=>some (.rt v)) B:=λf hf S0 e F S hs=>by
 obtain ⟨v,h1,h2⟩:=BK hf;cases h2;obtain ⟨d,S',h3,h4,rfl⟩:=h v h1 S0 e F S hs;exact ⟨_,S',HV h3,_,rfl,rfl,hs.kp.trans h4⟩
theorem Xb {m:ME} {ob:ρ->Ob} {p:Option ρ} {B:σ->List Sl} (h:VE A m (rN ob) p):VS A (E6 m) (rN ob) (p.bind λv=>some (.rt v)) B:=λf hf S0 e F S hs=>by
 obtain ⟨v,h1,h2⟩:=BK hf;cases h2;obtain ⟨d,S',h3,h4,n,rfl,h5,h6⟩:=h v h1 S0 e F S hs;exact ⟨_,S',HV h3,_,rfl,⟨n,rfl,Ao hs.kp.1 h5,h6⟩,hs.kp.trans h4⟩
theorem XZ {i:Nat} {ob:ρ->Ob} {v:ρ} {B:σ->List Sl} {k:Nat} (h:A[i]?=some (.w k (ob v))):VS A (E6 (AL i)) (rN ob) (some (.rt v)) B:=λf hf S0 e F S hs=>by
 cases hf;obtain ⟨x,h1,n,rfl,h2,h3⟩:=hs.sl i _ h;exact ⟨_,S,HV (d:=.ref n) (by unfold AL;rw [h1]),_,rfl,⟨n,rfl,(hs.ow _ _ h2).1,h3⟩,hs.kp⟩
theorem Nx {t:MT} {a b:MS} {R:Rk ρ} {pt:Option Bool} {p q:Option (Fw ρ σ)} {B:σ->List Sl} (ht:VB A t pt) (ha:VS A a R p B) (hb:VS A b R q B):VS A (sIf t a b) R (pt.bind λc=>if c=true then p else q) B:=λf hf S0 e F S hs=>by
 obtain ⟨c,h1,h2⟩:=BK hf;obtain ⟨S1,h3,h4⟩:=ht c h1 S0 e F S hs
 cases c with
 | true=>
  obtain ⟨g,S2,h5,h6⟩:=ha f h2 S0 e _ S1 (hs.grow h4);exact ⟨g,S2,(Fu h3).trans h5,h6.up (hs.fle S1)⟩
 | false=>
  obtain ⟨g,S2,h5,h6⟩:=hb f h2 S0 e _ S1 (hs.grow h4);exact ⟨g,S2,(Fu h3).trans h5,h6.up (hs.fle S1)⟩
def SA (l:List α) (x:α):Option (List α):=if l.length < 1000000 then some (l++[x]) else none
theorem eJ {n:Nat} (h:n < 1000000):n < sizeLine:=AX h (by decide)
theorem le24 {n:Nat} (h:n<=1000000):n<=sizeLine:=Ao h (by decide)
theorem U4 {m:ME} {enc:α->D} {R:Rk ρ} {p:Option α} {i:Nat} {l:List α} (hi:A[i]?=some (.w i (oL enc l))) (h:VE A m (rV enc) p) (ht:((A.set i .u).all (Sl.oth i))=true) :
  VS A (C4 (JA (AL i) m)) R (p.bind λv=>(SA l v).bind λl'=>some (.nx l')) (λl'=>A.set i (.w i (oL enc l'))):=λf hf S0 e F S hs=>by
 obtain ⟨v,h1,h2⟩:=BK hf;obtain ⟨l',h2,h0⟩:=BK h2;cases h0;unfold SA at h2;split at h2
 ·rename_i hl
  cases h2;obtain ⟨x,g1,n,rfl,g2,g3⟩:=hs.sl i _ hi;obtain ⟨d,S',h3,h4,rfl⟩:=h v h1 S0 e F S hs;have hg:=hs.grow h4;have hx:=ND (mo:=AL i) (e:=e) (S:=S) (S1:=S) (n:=n) (by unfold AL;rw [g1]) g3 h3 (h4.at g3) (by rw [AG];exact eJ hl);rw [show l.map enc++[enc v]=(l++[v]).map enc by simp] at hx;exact ⟨_,_,Gc hx,e,_,rfl,hg.put ht hi g1 (by rw [F0 (D7 g3)];exact g2),hs.fle S'⟩
 ·cases h2
def VT (g:MG) (enc:α->D) (t:α->List Sl->List Sl):Prop:=∀x S0 A e F S,Vs S0 A e F S->∃e',g (enc x) e S=.ok e' S/\Vs S0 (t x A) e' F S
theorem OZ {enc:α->D} {i:Nat}:VT (tgN i) enc (λx A=>A.set i (.v (enc x))):=λx S0 A e F S hs=>⟨_,rfl,hs.set (a:=.v (enc x)) i rfl⟩
theorem XY {a:α->D} {b:β->D} {i j:Nat}:VT (II 2 (DD (tgN i) (DD (tgN j) JH))) (eP a b) (λx A=>(A.set i (.v (a x.1))).set j (.v (b x.2))):=λx S0 A e F S hs=>⟨_,rfl,(hs.set (a:=.v (a x.1)) i rfl).set (a:=.v (b x.2)) j rfl⟩
def Hv:List α->σ->(σ->α->Option (Fw ρ σ))->Option (Fw ρ σ)
 | [],s,_=>some (.nx s)
 | x :: l,s,q=>match q s x with
  | some (.nx s')=>Hv l s' q
  | some (.ct s')=>Hv l s' q
  | some (.bk s')=>some (.nx s')
  | some (.rt r)=>some (.rt r)
  | none=>none
theorem Xc {enc:α->D} {g:MG} {t:α->List Sl->List Sl} {b:MS} {R:Rk ρ} {q:σ->α->Option (Fw ρ σ)} {B:σ->List Sl} (hg:VT g enc t) (hb:∀s x,VS (t x (B s)) b R (q s x) B) {w:Hi} {S0:Sto} {F1:Fz} {full:List α}
  (hw:∀F'' S'',Fle F1 F''->(∀n o,F'' n=.fz o->S''[n]?=some o)->w S''=some (full.map enc)):∀(l:List α) (k:Nat),full.drop k=l->∀(s:σ) (f:Fw ρ σ),Hv l s q=some f->∀e F S,Vs S0 (B s) e F S->Fle F1 F->∃h S',HC w g b (l.length) k e S=.ok h S'/\VG S0 F1 S' R B h f:=by
 intro l
 induction l with
 | nil=>
  intro k hk s f hf e F S hs hF;cases hf
  have:full.length<=k:=by
   have:=congrArg FQ hk;rw [Bs,Fb] at this;omega
  refine ⟨_,S,?_,e,F,rfl,hs,hF⟩;unfold HC;rw [hw F S hF hs.fz];dsimp only;rw [CB (by rw [AG];exact this)]
 | cons x l ih=>
  intro k hk s f hf e F S hs hF
  have hx:full[k]?=some x:=by
   have:=congrArg (λz=>z[0]?) hk;rw [EL] at this;simpa using this
  have hk':full.drop (k+1)=l:=by
   have e1:full.drop (k+1)=(full.drop k).drop 1:=by rw [Nt]
   exact e1.trans (congrArg (List.drop 1) hk)
  obtain ⟨e1,g1,g2⟩:=hg x S0 _ e F S hs
  have run:∀h S',b e1 S=.ok h S'->HC w g b ((x :: l).length) k e S=(match h with
    | .nx e2=>HC w g b l.length (k+1) e2 S'
    | .ct e2=>HC w g b l.length (k+1) e2 S'
    | .bk e2=>.ok (.nx e2) S'
    | .rt d=>.ok (.rt d) S'
    | .ex c e2=>.ok (.ex c e2) S'):=λh S' hb'=>by
   show HC w g b (l.length+1) k e S=_
   conv=>lhs;unfold HC
   rw [hw F S hF hs.fz];dsimp only;rw [Aj,hx];dsimp only [cb];rw [g1];dsimp only [Res.bind];rw [hb']
   all_goals (cases h <;> rfl)
  unfold Hv at hf;split at hf
  ·rename_i s' hq
   obtain ⟨h,S1,h1,e2,F2,rfl,h2,h3⟩:=hb s x _ hq S0 e1 F S g2;rw [run _ _ h1];exact ih (k+1) hk' s' f hf e2 F2 S1 h2 (hF.trans h3)
  ·rename_i s' hq
   obtain ⟨h,S1,h1,e2,F2,rfl,h2,h3⟩:=hb s x _ hq S0 e1 F S g2;rw [run _ _ h1];exact ih (k+1) hk' s' f hf e2 F2 S1 h2 (hF.trans h3)
  ·rename_i s' hq
   cases hf;obtain ⟨h,S1,h1,e2,F2,rfl,h2,h3⟩:=hb s x _ hq S0 e1 F S g2;rw [run _ _ h1];exact ⟨_,S1,rfl,e2,F2,rfl,h2,hF.trans h3⟩
  ·rename_i r hq
   cases hf;obtain ⟨h,S1,h1,d,rfl,h2,h3⟩:=hb s x _ hq S0 e1 F S g2;rw [run _ _ h1];exact ⟨_,S1,rfl,d,rfl,h2,h3⟩
  ·cases hf
theorem Oc {enc:α->D} {mi:MI} {g:MG} {t:α->List Sl->List Sl} {b:MS} {R:Rk ρ} {p:Option (List α)} {q:σ->α->Option (Fw ρ σ)} {B:σ->List Sl} {s0:σ} (hi:VI A mi enc p) (hg:VT g enc t) (w0:Wk A (B s0)) (hb:∀s x,VS (t x (B s)) b R (q s x) B) :
  VS A (IL mi g b) R (p.bind λl=>Hv l s0 q) B:=λf hf S0 e F S hs=>by
 obtain ⟨l,h1,h2⟩:=BK hf;obtain ⟨w,S1,h3,h4,h5⟩:=hi l h1 S0 e F S hs;have hg1:=hs.grow h4
 have hl:CN w S1=l.length:=by unfold CN;rw [h5 _ S1 (Fle.refl _) hg1.fz];exact AG _
 obtain ⟨h,S2,h6,h7⟩:=Xc hg hb h5 l 0 rfl s0 f h2 e _ S1 (hg1.weak w0) (Fle.refl _);refine ⟨h,S2,?_,h7.up (hs.fle S1)⟩;rw [Ku h3,hl];exact h6
def M7 (c:α->Option Bool) (m:α->Option β):List α->Option (List β)
 | []=>some []
 | x :: l=>(c x).bind λb=>if b=true then (m x).bind λy=>(M7 c m l).bind λys=>some (y :: ys) else M7 c m l
def LL (l:List α) (c:α->Option Bool) (m:α->Option β):Option (List β):=if l.length<=1000000 then M7 c m l else none
theorem U5 {enc:α->D} {eb:β->D} {g:MG} {P:List (Option D)->Prop} {T:α->List Sl} {c:MT} {m:ME} {pc:α->Option Bool} {pm:α->Option β}
  (hg:∀x S0 e F S pre,P pre->Vs S0 A e F S->∃pre',g (enc x) (pre++e) S=.ok (pre'++e) S/\P pre'/\Vs S0 (T x) (pre'++e) F S)
  (hc:∀x,VB (T x) c (pc x)) (hm:∀x,VE (T x) m (rV eb) (pm x)) {w:Hi} {S0:Sto} {e:Lo} {full:List α} {S1:Sto} (hf:full.length<=1000000) (hw:∀S'',Keeps S1 S''->w S''=some (full.map enc)) :
  ∀(l:List α) (k:Nat),full.drop k=l->∀(r:List β),M7 pc pm l=some r->∀pre F S acc,P pre->Vs S0 A e F S->Keeps S1 S->acc.length<=k->∃S',EI w g c m l.length k (pre++e) S acc=.ok (acc++r.map eb) S'/\Keeps S S':=by
 intro l
 induction l with
 | nil=>
  intro k hk r hr pre F S acc hp hs hk1 ha;cases hr
  have:full.length<=k:=by
   have:=congrArg FQ hk;rw [Bs,Fb] at this;omega
  refine ⟨S,?_,Keeps.refl S⟩;unfold EI;rw [hw S hk1];dsimp only;rw [CB (by rw [AG];exact this),Hy,Ax]
 | cons x l ih=>
  intro k hk r hr pre F S acc hp hs hk1 ha
  have hx:full[k]?=some x:=by
   have:=congrArg (λz=>z[0]?) hk;rw [EL] at this;simpa using this
  have hk':full.drop (k+1)=l:=by
   have e1:full.drop (k+1)=(full.drop k).drop 1:=by rw [Nt]
   exact e1.trans (congrArg (List.drop 1) hk)
  have hkl:k < full.length:=(AD.mp hx).1;obtain ⟨pre',g1,g2,g3⟩:=hg x S0 e F S pre hp hs;unfold M7 at hr;obtain ⟨b,h1,h2⟩:=BK hr;obtain ⟨S2,h3,h4⟩:=hc x b h1 S0 _ F S g3;have hs2:=hs.grow h4
  show ∃S',EI w g c m (l.length+1) k (pre++e) S acc=_/\_
  conv=>arg 1;ext S';arg 1;lhs;unfold EI
  rw [hw S hk1];dsimp only;rw [Aj,hx];dsimp only [cb];rw [if_pos (Bk ha (eJ (AX hkl hf))),g1];dsimp only [okR,Res.bind];rw [h3];dsimp only [okR,Res.bind]
  cases b with
  | true=>
   rw [if_pos rfl] at h2 ⊢;obtain ⟨y,h5,h6⟩:=BK h2;obtain ⟨ys,h6',h7⟩:=BK h6;cases h7;obtain ⟨d,S3,h8,h9,rfl⟩:=hm x y h5 S0 _ _ S2 (g3.grow h4);rw [h8];obtain ⟨S4,q1,q2⟩:=ih (k+1) hk' ys h6' pre' _ S3 (acc++[eb y]) g2 (hs2.grow h9) (hk1.trans (h4.trans h9)) (by rw [AR,A6];omega);refine ⟨S4,?_,(h4.trans h9).trans q2⟩;show EI w g c m l.length (k+1) (pre'++e) S3 (acc++[eb y])=_;rw [q1,At];rfl
  | false=>
   rw [if_neg AS] at h2 ⊢;obtain ⟨S4,q1,q2⟩:=ih (k+1) hk' r h2 pre' _ S2 acc g2 hs2 (hk1.trans h4) (by omega);exact ⟨S4,q1,h4.trans q2⟩
theorem Xg {enc:α->D} {eb:β->D} {n:Nat} {mi:MI} {g:MG} {P:List (Option D)->Prop} {T:α->List Sl} {c:MT} {m:ME} {p:Option (List α)} {pc:α->Option Bool} {pm:α->Option β} (hi:VK A mi enc p) (h0:P (BE n none))
  (hg:∀x S0 e F S pre,P pre->Vs S0 A e F S->∃pre',g (enc x) (pre++e) S=.ok (pre'++e) S/\P pre'/\Vs S0 (T x) (pre'++e) F S)
  (hc:∀x,VB (T x) c (pc x)) (hm:∀x,VE (T x) m (rV eb) (pm x)):VL A (Hq n mi g c m) eb (p.bind λl=>LL l pc pm):=λr hr S0 e F S hs=>by
 obtain ⟨l,h1,h2⟩:=BK hr;obtain ⟨w,S1,h3,h4,h5⟩:=hi l h1 S0 e F S hs;unfold LL at h2;split at h2
 ·rename_i hl
  have hs1:=hs.grow h4;obtain ⟨S2,h6,h7⟩:=U5 hg hc hm hl h5 l 0 rfl r h2 _ _ S1 [] h0 hs1 (Keeps.refl _) (AQ _);refine ⟨S2,?_,h4.trans h7⟩;rw [PJ h3,show CN w S1=l.length by unfold CN;rw [h5 S1 (Keeps.refl _)];exact AG _];exact h6
 ·cases h2
theorem Po {enc:α->D} {eb:β->D} {mi:MI} {c:MT} {m:ME} {p:Option (List α)} {pc:α->Option Bool} {pm:α->Option β} (hi:VK A mi enc p) (hc:∀x,VB (.v (enc x) :: A) c (pc x)) (hm:∀x,VE (.v (enc x) :: A) m (rV eb) (pm x)) :
  VL A (Hq 1 mi (tgN 0) c m) eb (p.bind λl=>LL l pc pm):=
 Xg (P:=λpre=>∃z,pre=[z]) hi ⟨none,rfl⟩ (λx S0 e F S pre hp hs=>by
  obtain ⟨z,rfl⟩:=hp
  exact ⟨[some (enc x)],rfl,⟨_,rfl⟩,hs.cons (a:=.v (enc x)) rfl⟩) hc hm
theorem JU {ml:ML} {enc:α->D} {p:Option (List α)} (h:VL A ml enc p):VE A (E7 ml) (rN (oL enc)) p:=λv hv S0 e F S hs=>by
 obtain ⟨S',h1,h2⟩:=h v hv S0 e F S hs;exact ⟨_,_,Rm h1,h2.trans (Keeps.app _ _),_,rfl,h2.1,Di _ _⟩
inductive Ar where
 | v (d:D) | z (o:Ob)
def Ar.ok (S:Sto):Ar->D->Prop
 | .v d,x=>x=d
 | .z o,x=>∃n,x=.ref n/\S[n]?=some o
def Ar.sl:Ar->Sl
 | .v d=>.v d
 | .z o=>.z o
def JQ (S:Sto):List Ar->List D->Prop
 | [],[]=>True
 | a :: as,d :: ds=>a.ok S d/\JQ S as ds
 | _,_=>False
theorem JQ.len {S:Sto}:∀ {as:List Ar} {ds:List D},JQ S as ds->ds.length=as.length
 | [],[],_=>rfl
 | _ :: as,_ :: ds,h=>by rw [Am,Am,JQ.len h.2]
 | [],_ :: _,h=>h.elim
 | _ :: _,[],h=>h.elim
theorem JQ.at {S:Sto}:∀ {as:List Ar} {ds:List D},JQ S as ds->∀(i:Nat) (a:Ar),as[i]?=some a->∃d,ds[i]?=some d/\a.ok S d
 | [],[],_,i,a,h=>by simp at h
 | b :: as,d :: ds,h,0,a,q=>by cases q;exact ⟨d,rfl,h.1⟩
 | b :: as,d :: ds,h,i+1,a,q=>JQ.at h.2 i a q
 | [],_ :: _,h,_,_,_=>h.elim
 | _ :: _,[],h,_,_,_=>h.elim
def VF (f:List D->Sto->Res D) (as:List Ar) (R:Rk α) (p:Option α):Prop:=∀v,p=some v->∀S ds,JQ S as ds->∃d S',f ds S=.ok d S'/\Keeps S S'/\R v S d S'
def VA (A:List Sl) (ml:ML) (p:Option γ) (ar:γ->List Ar):Prop:=∀v,p=some v->∀S0 e F S,Vs S0 A e F S->∃ds S',ml e S=.ok ds S'/\Keeps S S'/\JQ S' (ar v) ds
theorem EQ:VA A BH (some ()) (λ_=>[]):=λv hv S0 e F S hs=>⟨[],S,rfl,Keeps.refl S,trivial⟩
theorem Gp {m:ME} {ml:ML} {enc:α->D} {p:Option α} {q:Option γ} {ar:γ->List Ar} (h:VE A m (rV enc) p) (hl:VA A ml q ar):VA A (AY m ml) (p.bind λx=>q.bind λy=>some (x,y)) (λz=>.v (enc z.1) :: ar z.2):=λv hv S0 e F S hs=>by
 obtain ⟨x,h1,h2⟩:=BK hv;obtain ⟨y,h2',h3⟩:=BK h2;cases h3;obtain ⟨d,S1,h4,h5,rfl⟩:=h x h1 S0 e F S hs;obtain ⟨ds,S2,h6,h7,h8⟩:=hl y h2' S0 e _ S1 (hs.grow h5);exact ⟨_,S2,Bx h4 h6,h5.trans h7,rfl,h8⟩
theorem Tf {m:ME} {ml:ML} {ob:α->Ob} {p:Option α} {q:Option γ} {ar:γ->List Ar} (h:VE A m (rO ob) p) (hl:VA A ml q ar):VA A (AY m ml) (p.bind λx=>q.bind λy=>some (x,y)) (λz=>.z (ob z.1) :: ar z.2):=λv hv S0 e F S hs=>by
 obtain ⟨x,h1,h2⟩:=BK hv;obtain ⟨y,h2',h3⟩:=BK h2;cases h3;obtain ⟨d,S1,h4,h5,n,rfl,h0⟩:=h x h1 S0 e F S hs;obtain ⟨ds,S2,h6,h7,h8⟩:=hl y h2' S0 e _ S1 (hs.grow h5);exact ⟨_,S2,Bx h4 h6,h5.trans h7,⟨n,rfl,h7.at h0⟩,h8⟩
theorem DO {f:List D->Sto->Res D} {n:Nat} {ml:ML} {p:Option γ} {ar:γ->List Ar} {R:Rk α} {q:γ->Option α} (ha:VA A ml p ar) (hf:∀z,VF f (ar z) R (q z)) (hn:∀z,(ar z).length=n) (hR:∀v S S1 d S',S.length<=S1.length->R v S1 d S'->R v S d S'):VE A (CC n f ml) R (p.bind q):=λv hv S0 e F S hs=>by
 obtain ⟨z,h1,h2⟩:=BK hv;obtain ⟨ds,S1,h3,h4,h5⟩:=ha z h1 S0 e F S hs;obtain ⟨d,S2,h6,h7,h8⟩:=hf z v h2 S1 ds h5;exact ⟨d,S2,(Gg h3 (h5.len.trans (hn z))).trans h6,h4.trans h7,hR _ _ _ _ _ h4.1 h8⟩
def Qo (S:Sto):Fz:=λn=>match S[n]? with
 | some o=>.fz o
 | none=>.no
theorem Vs.start {as:List Ar} {ds:List D} {n:Nat} (h:JQ S as ds):Vs S (as.map Ar.sl++BE (n - as.length) .u) (Eo n ds) (Qo S) S:=by
 refine ⟨Keeps.refl S,λn o q=>?_,λn i q=>?_,λn hn=>by unfold Qo;rw [CB hn],λi a ha=>?_⟩
 ·unfold Qo at q
  split at q
  ·rename_i o' ho;cases q;exact ho
  ·cases q
 ·unfold Qo at q
  split at q <;> cases q
 ·unfold Eo
  by_cases c:i < as.length
  ·rw [AV (by rw [AG];exact c),Aj] at ha
   rw [AV (by rw [AG,h.len];exact c),Aj]
   cases hq:as[i]? with
   | none=>rw [hq] at ha;cases ha
   | some b=>
    rw [hq] at ha;cases ha;obtain ⟨d,h1,h2⟩:=h.at i b hq;refine ⟨some d,by rw [h1];rfl,?_⟩
    cases b with
    | v x=>exact congrArg some h2
    | z o=>obtain ⟨m,h3,h4⟩:=h2;exact ⟨m,congrArg some h3,by unfold Qo;rw [h4]⟩
  ·rw [Aw (by rw [AG];omega)] at ha
   rw [AG,CS] at ha;split at ha
   ·rename_i hlt
    cases ha;refine ⟨none,?_,trivial⟩;rw [Aw (by rw [AG,h.len];omega),AG,h.len,CS,if_pos hlt]
   ·cases ha
def Op (p:Option (Fw ρ σ)):Option ρ:=match p with
 | some (.rt r)=>some r
 | _=>none
end
end L4
namespace L4
open PySem L2
section
variable {S0 S S':Sto} {A B:List Sl} {e:Lo} {F:Fz} {α β γ δ ρ σ τ:Type}
section
variable {a b c:ME} {pa pb pc:Option Int}
theorem HR (ha:VE A a (rV D.int) pa) (hb:VE A b (rV D.int) pb):VE A (m2 JB a b) (rV D.int) (pa.bind λx=>pb.bind λy=>some (x+y)):=LD ha hb λx y z S h=>by cases h;rfl
theorem RL (ha:VE A a (rV D.int) pa) (hb:VE A b (rV D.int) pb):VE A (m2 VM a b) (rV D.int) (pa.bind λx=>pb.bind λy=>some (x - y)):=LD ha hb λx y z S h=>by cases h;rfl
def V6 (x y:Int):Option Int:=if Qr x y then some (x * y) else none
def Sy (x y:Int):Option Int:=if XA x y then some (x / y) else none
def Ow (x y:Int):Option Int:=if 0 < y then some (x % y) else none
theorem U8 (ha:VE A a (rV D.int) pa) (hb:VE A b (rV D.int) pb):VE A (m2 QM a b) (rV D.int) (pa.bind λx=>pb.bind λy=>V6 x y):=LD ha hb λx y z S h=>by
 unfold V6 at h;split at h
 ·rename_i hc;cases h;exact if_pos hc
 ·cases h
theorem Xn (ha:VE A a (rV D.int) pa) (hb:VE A b (rV D.int) pb):VE A (m2 IW a b) (rV D.int) (pa.bind λx=>pb.bind λy=>Sy x y):=LD ha hb λx y z S h=>by
 unfold Sy at h;split at h
 ·rename_i hc;cases h;exact if_pos hc
 ·cases h
theorem Ka (ha:VE A a (rV D.int) pa) (hb:VE A b (rV D.int) pb):VE A (m2 Ht a b) (rV D.int) (pa.bind λx=>pb.bind λy=>Ow x y):=LD ha hb λx y z S h=>by
 unfold Ow at h;split at h
 ·rename_i hc;cases h;exact Ox hc
 ·cases h
theorem G6 {k:Int} (hk:(decide (0 < k)&&decide (k<=1000000))=true) (ha:VE A a (rV D.int) pa):VE A (m2 IW a (mC (.int k))) (rV D.int) (pa.bind λx=>some (x / k)):=λv hv S0 e F S hs=>by
 obtain ⟨x,h1,h2⟩:=BK hv;cases h2;obtain ⟨d,S',h3,h4,rfl⟩:=ha x h1 S0 e F S hs;have hk':=Cg _ _▸hk;exact ⟨_,S',C5 h3 rfl (Wo (of_decide_eq_true hk'.1) (of_decide_eq_true hk'.2)),h4,rfl⟩
theorem HP {k:Int} (hk:decide (0 < k)=true) (ha:VE A a (rV D.int) pa):VE A (m2 Ht a (mC (.int k))) (rV D.int) (pa.bind λx=>some (x % k)):=λv hv S0 e F S hs=>by
 obtain ⟨x,h1,h2⟩:=BK hv;cases h2;obtain ⟨d,S',h3,h4,rfl⟩:=ha x h1 S0 e F S hs;exact ⟨_,S',C5 h3 rfl (Ox (of_decide_eq_true hk)),h4,rfl⟩
theorem SU {k:Int} (hk:(decide (-1000000<=k)&&decide (k<=1000000))=true) (ha:VE A a (rV D.int) pa):VE A (m2 QM a (mC (.int k))) (rV D.int) (pa.bind λx=>some (x * k)):=λv hv S0 e F S hs=>by
 obtain ⟨x,h1,h2⟩:=BK hv;cases h2;obtain ⟨d,S',h3,h4,rfl⟩:=ha x h1 S0 e F S hs;have hk':=Cg _ _▸hk;exact ⟨_,S',C5 h3 rfl (Yi (of_decide_eq_true hk'.1) (of_decide_eq_true hk'.2)),h4,rfl⟩
theorem dC (ha:VE A a (rV D.int) pa) (hb:VE A b (rV D.int) pb):VE A (m2 gtD a b) (rV D.bl) (pa.bind λx=>pb.bind λy=>some (decide (y < x))):=LD ha hb λx y z S h=>by cases h;rfl
theorem Oe (ha:VE A a (rV D.int) pa) (hb:VE A b (rV D.int) pb):VE A (mQ JM (AY a (AY b BH))) (rV D.int) (pa.bind λx=>pb.bind λy=>some (if y < x then y else x)):=λv hv S0 e F S hs=>by
 obtain ⟨x,h1,hv⟩:=BK hv;obtain ⟨y,h2,h3⟩:=BK hv;cases h3;obtain ⟨d1,S1,q1,k1,rfl⟩:=ha x h1 S0 e F S hs;obtain ⟨d2,S2,q2,k2,rfl⟩:=hb y h2 S0 e _ S1 (hs.grow k1);exact ⟨_,S2,YA (Bx q1 (Bx q2 rfl)) rfl,k1.trans k2,rfl⟩
theorem SV (ha:VE A a (rV D.int) pa) (hb:VE A b (rV D.int) pb):VE A (mQ J9 (AY a (AY b BH))) (rV D.int) (pa.bind λx=>pb.bind λy=>some (if y > x then y else x)):=λv hv S0 e F S hs=>by
 obtain ⟨x,h1,hv⟩:=BK hv;obtain ⟨y,h2,h3⟩:=BK hv;cases h3;obtain ⟨d1,S1,q1,k1,rfl⟩:=ha x h1 S0 e F S hs;obtain ⟨d2,S2,q2,k2,rfl⟩:=hb y h2 S0 e _ S1 (hs.grow k1);exact ⟨_,S2,YA (Bx q1 (Bx q2 rfl)) rfl,k1.trans k2,rfl⟩
theorem Z4 {pb:Option Bool} (hb:VE A b (rV D.bl) pb):VE A (Yk b) (rV D.int) (pb.bind λx=>some (if x=true then 1 else 0)):=λv hv S0 e F S hs=>by
 obtain ⟨x,h1,h2⟩:=BK hv;cases h2;obtain ⟨d,S',h3,h4,rfl⟩:=hb x h1 S0 e F S hs;refine ⟨_,S',?_,h4,rfl⟩;unfold Yk;rw [h3];rfl
theorem Z2 {pa pb:Option Bool} (ha:VE A a (rV D.bl) pa) (hb:VE A b (rV D.bl) pb):VE A (WA a b) (rV D.bl) (pa.bind λx=>if x=true then some true else pb):=λv hv S0 e F S hs=>by
 obtain ⟨x,h1,h2⟩:=BK hv;obtain ⟨d,S',h3,h4,rfl⟩:=ha x h1 S0 e F S hs
 cases x with
 | false=>
  obtain ⟨d,S2,h5,h6,rfl⟩:=hb v h2 S0 e _ S' (hs.grow h4);exact ⟨_,S2,by unfold WA;rw [h3];exact h5,h4.trans h6,rfl⟩
 | true=>cases h2;exact ⟨_,S',by unfold WA;rw [h3];rfl,h4,rfl⟩
end
def EqN (n:Nat) (enc:α->D) [DecidableEq α]:Prop:=∀x y,eqP n (enc x) (enc y)=some (decide (x=y))
def NL (enc:α->D):Prop:=∀x S,Rv (enc x) S=none
theorem Ge {n:Nat}:EqN n D.int:=λx y=>by
 have:Ia (.int x) (.int y)=some (decide (x=y)):=rfl
 cases n <;> exact this
theorem cE {n:Nat}:EqN n D.bl:=λx y=>by
 have:Ia (.bl x) (.bl y)=some (decide (x=y)):=by cases x <;> cases y <;> rfl
 cases n <;> exact this
theorem Wq {n:Nat} {a:α->D} {b:β->D} [DecidableEq α] [DecidableEq β] (ha:EqN n a) (hb:EqN n b):EqN (n+1) (eP a b):=λx y=>by
 show eqL (eqP n) [a x.1,b x.2] [a y.1,b y.2]=_;unfold eqL eqL eqL;rw [ha,hb];obtain ⟨x1,x2⟩:=x;obtain ⟨y1,y2⟩:=y
 by_cases c:x1=y1 <;> by_cases d:x2=y2 <;> simp [c,d]
theorem Kn:NL D.int:=λ_ _=>rfl
theorem d6:NL D.bl:=λ_ _=>rfl
section
variable {a b:ME} {enc:α->D} [DecidableEq α] {pa pb:Option α}
theorem Wr (h:EqN 8 enc) (n:NL enc) (neg:Bool) (x y:α) (S:Sto):eqD neg (enc x) (enc y) S=.ok (.bl (if neg then !decide (x=y) else decide (x=y))) S:=by
 unfold eqD eqB;rw [n x S,n y S];dsimp only;rw [h x y]
theorem Ps (h:EqN 8 enc) (n:NL enc) (ha:VE A a (rV enc) pa) (hb:VE A b (rV enc) pb):VE A (m2 (eqD false) a b) (rV D.bl) (pa.bind λx=>pb.bind λy=>some (decide (x=y))):=LD ha hb λx y z S q=>by cases q;exact Wr h n false x y S
theorem ZR (h:EqN 8 enc) (n:NL enc) (ha:VE A a (rV enc) pa) (hb:VE A b (rV enc) pb):VE A (m2 (eqD true) a b) (rV D.bl) (pa.bind λx=>pb.bind λy=>some (!decide (x=y))):=LD ha hb λx y z S q=>by cases q;exact Wr h n true x y S
theorem Qn (h:EqN 8 enc) (x:α):∀l:List α,JO (enc x) (l.map enc)=some (decide (x∈l))
 | []=>by simp [JO]
 | y :: l=>by
  rw [A9];unfold JO;rw [h y x,Qn h x l]
  by_cases c:y=x
  ·subst c;simp
  ·have:¬x=y:=λz=>c z.symm
   simp [c,this]
theorem bX (h:EqN 8 enc) (neg:Bool) (x:α) {l:List α} {d:D} {S:Sto} (hs:Fp d S=some (l.map enc)):inA neg (enc x) d S=.ok (.bl (if neg then !decide (x∈l) else decide (x∈l))) S:=by
 show FG (inD neg (enc x) d S) _=_
 have e:inD neg (enc x) d S=.ok (.bl (if neg then !decide (x∈l) else decide (x∈l))) S:=by
  unfold inD;rw [hs];dsimp only;rw [Qn h]
 rw [e];rfl
theorem Xk {pl:Option (List α)} (h:EqN 8 enc) (ha:VE A a (rV enc) pa) (hb:VE A b (rO (oL enc)) pl):VE A (m2 (inA true) a b) (rV D.bl) (pa.bind λx=>pl.bind λl=>some (!decide (x∈l))):=Z3 ha hb λx l z S n hn q=>by cases q;exact bX h true x (ES hn)
end
section
variable {a b m mo:ME} {enc:α->D} {ml:ML} {pl pk:Option (List α)} {pi:Option Int}
theorem ZI (l:List α) (i:Int) (f:α->β):atI (l.map f) i=(atI l i).map f:=by
 unfold atI;rw [AG]
 cases ixN l.length i with
 | none=>rfl
 | some j=>show (l.map f)[j]?=(l[j]?).map f;rw [Aj]
theorem bQ {l:List α} {d:D} {S:Sto} {i:Int} {x:α} (hs:Fp d S=some (l.map enc)) (h:atI l i=some x):ixA d (.int i) S=.ok (enc x) S:=by
 show FG (ixD d (.int i) S) _=_
 have:ixD d (.int i) S=.ok (enc x) S:=by
  unfold ixD;rw [hs];dsimp only;rw [ZI,h];rfl
 rw [this];rfl
theorem HQ (ha:VE A a (rO (oL enc)) pl) (hb:VE A b (rV D.int) pi):VE A (m2 ixA a b) (rV enc) (pl.bind λl=>pi.bind λi=>atI l i):=Z6 ha hb λl i z S n hn q=>bQ (ES hn) q
theorem Xl (ha:VE A a (rV (eT enc)) pl):VE A (Mg a) (rV D.int) (pl.bind λl=>some (l.length:Int)):=λv hv S0 e F S hs=>by
 obtain ⟨l,h1,h2⟩:=BK hv;cases h2;obtain ⟨d,S',h3,h4,rfl⟩:=ha l h1 S0 e F S hs;exact ⟨_,S',(Rw (ds:=l.map enc) h3 rfl).trans (by rw [AG]),h4,rfl⟩
theorem Xm (ha:VE A a (rO (oL enc)) pl):VE A (Mg a) (rV D.int) (pl.bind λl=>some (l.length:Int)):=λv hv S0 e F S hs=>by
 obtain ⟨l,h1,h2⟩:=BK hv;cases h2;obtain ⟨d,S',h3,h4,n,rfl,hn⟩:=ha l h1 S0 e F S hs;exact ⟨_,S',(Rw (ds:=l.map enc) h3 (ES hn)).trans (by rw [AG]),h4,rfl⟩
theorem QY:∀ns:List Int,HA (ns.map D.int)=some ns
 | []=>rfl
 | x :: ns=>by rw [A9];unfold HA;rw [QY ns];rfl
theorem Xe (ha:VE A a (rO (oL enc)) pl):VL A (QR a) enc pl:=λl hv S0 e F S hs=>by
 obtain ⟨d,S',h3,h4,n,rfl,hn⟩:=ha l hv S0 e F S hs;exact ⟨S',dU h3 (ES hn),h4⟩
theorem Xf (h:VL A ml enc pl):VL A (mN Sn ml) enc pl:=λl hv S0 e F S hs=>by
 obtain ⟨S',h3,h4⟩:=h l hv S0 e F S hs;exact ⟨S',by unfold mN;rw [h3];rfl,h4⟩
theorem RI:VL A BH enc (some []):=λv hv S0 e F S hs=>by cases hv;exact ⟨S,rfl,Keeps.refl S⟩
theorem SR {p:Option α} (h:VE A m (rV enc) p) (hl:VL A ml enc pl):VL A (AY m ml) enc (p.bind λx=>pl.bind λl=>some (x :: l)):=λv hv S0 e F S hs=>by
 obtain ⟨x,h1,h2⟩:=BK hv;obtain ⟨l,h2',h3⟩:=BK h2;cases h3;obtain ⟨d,S1,h4,h5,rfl⟩:=h x h1 S0 e F S hs;obtain ⟨S2,h6,h7⟩:=hl l h2' S0 e _ S1 (hs.grow h5);exact ⟨S2,Bx h4 h6,h5.trans h7⟩
def R6 (l:List α):Option (List α):=if l.length<=1000000 then some l else none
theorem MB (h:VL A ml enc pl):VL A (Df ml) enc (pl.bind R6):=λv hv S0 e F S hs=>by
 obtain ⟨l,h1,h2⟩:=BK hv;unfold R6 at h2;split at h2
 ·rename_i hl
  cases h2;obtain ⟨S',h3,h4⟩:=h _ h1 S0 e F S hs;refine ⟨S',?_,h4⟩;unfold Df;rw [h3];dsimp only [Res.bind];rw [if_pos (by rw [AG];exact le24 hl)]
 ·cases h2
theorem SS {a':α->D} {b':β->D} {pa:Option α} {pb:Option β} (ha:VE A a (rV a') pa) (hb:VE A b (rV b') pb):VE A (Mf (AY a (AY b BH))) (rV (eP a' b')) (pa.bind λx=>pb.bind λy=>some (x,y)):=λv hv S0 e F S hs=>by
 obtain ⟨x,h1,hv⟩:=BK hv;obtain ⟨y,h2,h3⟩:=BK hv;cases h3;obtain ⟨d1,S1,q1,k1,rfl⟩:=ha x h1 S0 e F S hs;obtain ⟨d2,S2,q2,k2,rfl⟩:=hb y h2 S0 e _ S1 (hs.grow k1);exact ⟨_,S2,RQ (ds:=[a' x,b' y]) (Bx q1 (Bx q2 rfl)) (by simp),k1.trans k2,rfl⟩
def VO (A:List Sl) (mo:MO) (p:Option (Option Int)):Prop:=∀v,p=some v->∀S0 e F S,Vs S0 A e F S->∃S',mo e S=.ok v S'/\Keeps S S'
theorem SQ {pi:Option Int} (h:VE A m (rV D.int) pi):VO A (QI m) (pi.bind λi=>some (some i)):=λv hv S0 e F S hs=>by
 obtain ⟨x,h1,h2⟩:=BK hv;cases h2;obtain ⟨d,S',h3,h4,rfl⟩:=h x h1 S0 e F S hs;exact ⟨S',by unfold QI;rw [h3];rfl,h4⟩
theorem Wv (l:List α) (f:α->β) (lo hi:Option Int):Ie (l.map f) lo hi=(Ie l lo hi).map f:=by
 unfold Ie;rw [AG,<-List.map_drop,<-Zr]
theorem P9:∀rs:List (List Int),rs.all (λr=>!r.isEmpty)=true->JJ (rs.map G7)=some rs
 | [],_=>rfl
 | [] :: rs,h=>by simp at h
 | (x :: r) :: rs,h=>by
  rw [Zt,Cg] at h;show JJ (.tup ((x :: r).map D.int) :: rs.map G7)=_;unfold JJ;rw [QY,P9 rs h.2]
theorem Z0 (ha:VE A a (rN (oL enc)) pl):VI A (FX a) enc pl:=λl hv S0 e F S hs=>by
 obtain ⟨d,S',h3,h4,n,rfl,h5,h6⟩:=ha l hv S0 e F S hs;exact ⟨_,S',IU h3 h6,h4,λF2 S2 hF h=>En (h n _ (hF _ _ (Mz h5 h6)))⟩
theorem U6 {i:Nat} {l:List α} (h:A[i]?=some (.z (oL enc l))):VI A (FX (AL i)) enc (some l):=λ_ hv S0 e F S hs=>by
 cases hv;obtain ⟨x,h1,n,rfl,h2⟩:=hs.sl i _ h;have hn:=hs.fz _ _ h2;exact ⟨_,S,IU (n:=n) (by unfold AL;rw [h1]) hn,Keeps.refl S,λF2 S2 hF h=>En (h n _ (hF _ _ (by rw [F0 (D7 hn)];exact h2)))⟩
theorem Xi {i:Nat} {l:List α} (h:A[i]?=some (.y (oL enc l))):VI A (FX (AL i)) enc (some l):=λ_ hv S0 e F S hs=>by
 cases hv;obtain ⟨x,h1,n,rfl,h2,_⟩:=hs.sl i _ h;have hn:=hs.fz _ _ h2;exact ⟨_,S,IU (n:=n) (by unfold AL;rw [h1]) hn,Keeps.refl S,λF2 S2 hF h=>En (h n _ (hF _ _ (by rw [F0 (D7 hn)];exact h2)))⟩
def Hs (lo:Int) (n:Nat):List Int:=(CT n).map λi:Nat=>lo+i
def Rc (j:Int):Option (List Int):=if -1000000<=j/\j<=1000000 then some (Hs 0 j.toNat) else none
def X6 (i j:Int):Option (List Int):=if -1000000<=i/\i<=1000000/\-1000000<=j/\j<=1000000 then some (Hs i (j - i).toNat) else none
theorem Rb (lo:Int) (n:Nat):D6 lo n=(Hs lo n).map D.int:=by
 unfold D6 Hs;rw [Be];rfl
theorem Td (ha:VE A a (rV D.int) pi):VI A (iR1 (AY a BH)) D.int (pi.bind Rc):=λl hv S0 e F S hs=>by
 obtain ⟨j,h1,h2⟩:=BK hv;obtain ⟨d,S',h3,h4,rfl⟩:=ha j h1 S0 e F S hs;unfold Rc at h2;split at h2
 ·rename_i hj
  cases h2;exact ⟨_,S',Rz (j:=j) (Bx h3 rfl) hj.1 hj.2,h4,λ_ _ _ _=>congrArg some (Rb _ _)⟩
 ·cases h2
theorem Tc {pj:Option Int} (ha:VE A a (rV D.int) pi) (hb:VE A b (rV D.int) pj):VI A (iR2 (AY a (AY b BH))) D.int (pi.bind λi=>pj.bind λj=>X6 i j):=λl hv S0 e F S hs=>by
 obtain ⟨i,h1,hv⟩:=BK hv;obtain ⟨j,h0,h2⟩:=BK hv;obtain ⟨d,S1,h3,h4,rfl⟩:=ha i h1 S0 e F S hs;obtain ⟨d,S2,h5,h6,rfl⟩:=hb j h0 S0 e _ S1 (hs.grow h4);unfold X6 at h2;split at h2
 ·rename_i hj
  cases h2;exact ⟨_,S2,bY (i:=i) (j:=j) (Bx h3 (Bx h5 rfl)) hj.1 hj.2.1 hj.2.2.1 hj.2.2.2,h4.trans h6,λ_ _ _ _=>congrArg some (Rb _ _)⟩
 ·cases h2
end
end
end L4
namespace L4
open PySem L2
section
variable {S0 S S':Sto} {A B:List Sl} {e:Lo} {F:Fz} {α β γ δ ρ σ τ κ κ':Type}
section
variable {a b m:ME} {enc:α->D}
def aF (r:List Int):Int×Int:=(r.getD 0 0,r.getD 1 0)
def LF (l:List (Int×Int)):List (Int×Int):=(IK (l.map λx=>[x.1,x.2])).map aF
theorem Xw (l:List (Int×Int)):(IK (l.map λx=>[x.1,x.2])).map G7=(LF l).map (eP D.int D.int):=by
 unfold LF;rw [Be]
 refine B0 λr hr=>?_
 obtain ⟨x,_,rfl⟩:=BG.mp ((Fo _).mem_iff.mp hr);rfl
theorem Pr {pl:Option (List (Int×Int))} (ha:VE A a (rO (oL (eP D.int D.int))) pl):VE A (DP a) (rN (oL (eP D.int D.int))) (pl.bind λl=>some (LF l)):=λv hv S0 e F S hs=>by
 obtain ⟨l,h1,h2⟩:=BK hv;cases h2;obtain ⟨d,S',h3,h4,n,rfl,hn⟩:=ha l h1 S0 e F S hs;refine ⟨_,_,Io h3 (Mq hn) (es:=(LF l).map (eP D.int D.int)) ?_,h4.trans (Keeps.app _ _),_,rfl,h4.1,Di _ _⟩;rw [<-Xw]
 cases l with
 | nil=>show some ((E5 []).map D.int)=some ((IK []).map G7);rw [To];unfold IK;rw [List.mergeSort_nil];rfl
 | cons x l=>
  have hr:JJ (Nq (eP D.int D.int) (x :: l))=some ((x :: l).map λx=>[x.1,x.2]):=by
   have:=P9 ((x :: l).map λx=>[x.1,x.2]) (Hn.mpr λr hr=>by obtain ⟨y,_,rfl⟩:=BG.mp hr;rfl);rw [Be] at this;exact this
  unfold JI;rw [show HA (Nq (eP D.int D.int) (x :: l))=none from rfl,hr]
end
end
end L4
namespace L4
open PySem L2
section
variable {α β γ ρ σ τ:Type}
theorem CK {s:σ} {q:σ->Option (Fw ρ τ)}:Ce (some (.nx s)) q=q s:=rfl
theorem Wn {l:List α} {q:σ->α->Option (Fw ρ σ)} {s0:σ} (I:List α->σ->Prop) (R:ρ->Prop) (h0:I [] s0) (h:∀pre x s,x∈l->pre++[x] <+: l->I pre s->(∃s',q s x=some (.nx s')/\I (pre++[x]) s')∨∃r,q s x=some (.rt r)/\R r):(∃s,Hv l s0 q=some (.nx s)/\I l s)∨∃r,Hv l s0 q=some (.rt r)/\R r:=by
 have key:∀(r pre:List α) (s:σ),l=pre++r->I pre s->(∃s',Hv r s q=some (.nx s')/\I l s')∨∃y,Hv r s q=some (.rt y)/\R y:=by
  intro r
  induction r with
  | nil=>intro pre s e hI;rw [Ax] at e;subst e;exact .inl ⟨s,rfl,hI⟩
  | cons x r ih=>
   intro pre s e hI
   rcases h pre x s (by rw [e];simp) ⟨r,by rw [e];simp⟩ hI with ⟨s',h1,h2⟩ | ⟨y,h1,h2⟩
   ·have e':Hv (x :: r) s q=Hv r s' q:=by
     conv=>lhs;unfold Hv
     rw [h1]
    rw [e'];exact ih (pre++[x]) s' (by rw [e];simp) h2
   ·refine .inr ⟨y,?_,h2⟩
    unfold Hv;rw [h1]
 exact key l [] s0 rfl h0
theorem Wz {l:List α} {c:α->Option Bool} {m:α->Option β} {P:α->Bool} {f:α->β} (hc:∀x∈l,c x=some (P x)) (hm:∀x∈l,P x=true->m x=some (f x)):M7 c m l=some ((l.filter P).map f):=by
 induction l with
 | nil=>rfl
 | cons x l ih=>
  have ih:=ih (λy hy=>hc y (AZ _ hy)) λy hy=>hm y (AZ _ hy)
  unfold M7;rw [hc x A0];show (if P x=true then _ else _)=_
  cases hp:P x with
  | true=>
   rw [if_pos rfl,hm x A0 hp,ih,List.filter_cons_of_pos hp];rfl
  | false=>
   rw [if_neg AS,ih,List.filter_cons_of_neg (by rw [hp];exact AS)]
theorem W0 {l:List α} {c:α->Option Bool} {m:α->Option β} {P:α->Bool} {f:α->β} (hl:l.length<=1000000) (hc:∀x∈l,c x=some (P x)) (hm:∀x∈l,P x=true->m x=some (f x)):LL l c m=some ((l.filter P).map f):=by
 unfold LL;rw [if_pos hl,Wz hc hm]
theorem OJ {l:List α} {m:α->Option β} {f:α->β} (hl:l.length<=1000000) (hm:∀x∈l,m x=some (f x)):LL l (λ_=>some true) m=some (l.map f):=by
 rw [W0 (P:=λ_=>true) hl (λ_ _=>rfl) λx hx _=>hm x hx,List.filter_eq_self.mpr λ_ _=>rfl]
theorem TK {l:List α} {x:α} (h:l.length < 1000000):SA l x=some (l++[x]):=if_pos h
theorem ef:R6 ([]:List α)=some []:=rfl
theorem few2 (a b:α):R6 [a,b]=some [a,b]:=if_pos (by simp)
theorem Sb {j:Int} (h0:-1000000<=j) (h1:j<=1000000):Rc j=some (Hs 0 j.toNat):=if_pos ⟨h0,h1⟩
theorem X5 {i j:Int} (h0:-1000000<=i) (h1:i<=1000000) (h2:-1000000<=j) (h3:j<=1000000):X6 i j=some (Hs i (j - i).toNat):=if_pos ⟨h0,h1,h2,h3⟩
theorem Me {lo:Int} {n:Nat} {x:Int}:x∈Hs lo n↔lo<=x/\x < lo+n:=by
 unfold Hs;rw [BG]
 constructor
 ·rintro ⟨k,hk,rfl⟩
  have:=Np.mp hk;omega
 ·rintro ⟨h1,h2⟩
  exact ⟨(x - lo).toNat,Np.mpr (by omega),by omega⟩
theorem IN (lo:Int) (n:Nat):(Hs lo n).length=n:=by unfold Hs;rw [AG,Uw]
theorem X4 (lo:Int) (n:Nat):(Hs lo n).Pairwise (· < ·):=by
 unfold Hs;rw [Bz]
 exact List.pairwise_lt_range.imp λh=>by omega
theorem W7 {l:List α} {i:Int} (h0:0<=i) (h1:i < l.length):∃x,atI l i=some x/\l[i.toNat]?=some x:=by
 have hlt:i.toNat < l.length:=by omega
 exact ⟨l[i.toNat],W8 h0 (BB hlt),BB hlt⟩
theorem Ir {x y:Int} (h:0 < y):Ow x y=some (x % y):=if_pos h
theorem Ww (l:List α) (lo hi:Option Int):(Ie l lo hi).length<=l.length:=by
 unfold Ie;rw [CH,Bs];omega
theorem QB {lo:Int} {n:Nat} {pre:List Int} {x:Int} (h:pre++[x] <+: Hs lo n):x=lo+pre.length/\pre.length < n:=by
 have hl:=h.length_le;rw [AR,A6,IN] at hl;obtain ⟨r,hr⟩:=h;have:=congrArg (λz=>z[pre.length]?) hr;simp only [At,Aw (AQ _),cu] at this;rw [show ([x]++r)[0]?=some x from rfl] at this;unfold Hs at this;rw [Aj,C8 (by omega)] at this;simp only [Option.map_some,Option.some.injEq] at this;exact ⟨this,by omega⟩
theorem Rp [DecidableEq α]:∀ {l k:List α},l.Nodup->(∀x∈l,x∈k)->l.length<=k.length
 | [],_,_,_=>Cv _
 | x :: l,k,nd,h=>by
  have hx:=h x A0;obtain ⟨n1,n2⟩:=Bq.mp nd
  have:=Rp (l:=l) (k:=k.erase x) n2 λy hy=>(List.mem_erase_of_ne (λz:y=x=>n1 (by rw [<-z];exact hy))).mpr (h y (AZ _ hy))
  rw [Pb hx] at this;have:=Qy hx;rw [Am];omega
def Ok (p:Option α) (P:α->Prop):Prop:=∃v,p=some v/\P v
theorem Ok.is {p:Option α} {v:α} (h:Ok p λr=>r=v):p=some v:=by
 obtain ⟨_,h1,rfl⟩:=h;exact h1
def OkF (p:Option (Fw ρ σ)) (N:σ->Prop) (R:ρ->Prop):Prop:=(∃s,p=some (.nx s)/\N s)∨∃r,p=some (.rt r)/\R r
theorem OkF.nx {s:σ} {N:σ->Prop} {R:ρ->Prop} (h:N s):OkF (some (.nx s)) N R:=.inl ⟨s,rfl,h⟩
theorem OkF.rt {r:ρ} {N:σ->Prop} {R:ρ->Prop} (h:R r):OkF (some (.rt r)) N R:=.inr ⟨r,rfl,h⟩
theorem OkF.seq {p:Option (Fw ρ σ)} {q:σ->Option (Fw ρ τ)} {N:σ->Prop} {N':τ->Prop} {R:ρ->Prop} (h:OkF p N R) (hq:∀s,N s->OkF (q s) N' R):OkF (Ce p q) N' R:=by
 rcases h with ⟨s,rfl,h⟩ | ⟨r,rfl,h⟩
 ·exact hq s h
 ·exact .inr ⟨r,rfl,h⟩
theorem OkF.map {p:Option (Fw ρ σ)} {g:σ->τ} {N:σ->Prop} {N':τ->Prop} {R:ρ->Prop} (h:OkF p N R) (hg:∀s,N s->N' (g s)):OkF (Kp g p) N' R:=by
 rcases h with ⟨s,rfl,h⟩ | ⟨r,rfl,h⟩
 ·exact .inl ⟨_,rfl,hg s h⟩
 ·exact .inr ⟨r,rfl,h⟩
theorem OkF.ite {c:Bool} {a b:Option (Fw ρ σ)} {N:σ->Prop} {R:ρ->Prop} (ha:c=true->OkF a N R) (hb:c=false->OkF b N R):OkF (if c=true then a else b) N R:=by
 cases c with
 | true=>exact ha rfl
 | false=>exact hb rfl
theorem OkF.for {l:List α} {q:σ->α->Option (Fw ρ σ)} {s0:σ} {R:ρ->Prop} (I:List α->σ->Prop) (h0:I [] s0) (h:∀pre x s,x∈l->pre++[x] <+: l->I pre s->OkF (q s x) (I (pre++[x])) R):OkF (Hv l s0 q) (I l) R:=Wn I R h0 h
theorem OkF.out {p:Option (Fw ρ σ)} {R:ρ->Prop} (h:OkF p (λ_=>False) R):Ok (Op p) R:=by
 rcases h with ⟨s,rfl,h⟩ | ⟨r,rfl,h⟩
 ·exact h.elim
 ·exact ⟨r,rfl,h⟩
theorem VF.law {f:List D->Sto->Res D} {ns:List Int} (h:VF f [.v (eF ns)] (rV D.bl) (some true)):∃S',f [.fro (ns.map D.int)] []=.ok (.bl true) S':=by
 obtain ⟨d,S',h1,_,rfl⟩:=h true rfl [] [.fro (ns.map D.int)] ⟨rfl,trivial⟩;exact ⟨S',h1⟩
end
end L4
namespace L4
open PySem L2
section
variable {A:List Sl} {a b m:ME} {pa pb:Option Int}
end
section
variable {A:List Sl} {a m:ME} {α ρ:Type} {enc:α->D}
end
end L4
namespace L4
open PySem L2
section
variable {S0 S S':Sto} {A B:List Sl} {e:Lo} {F:Fz} {α β γ ρ σ τ:Type} {a:ME} {enc:α->D}
theorem MD {n:Nat} {b:MS} {as:List Ar} {R:Rk ρ} {p:Option (Fw ρ σ)} {B:σ->List Sl} (h:VS (as.map Ar.sl++BE (n - as.length) .u) b R p B):VF (Es n b) as R (Op p):=λv hv S ds ha=>by
 cases p with
 | none=>cases hv
 | some x=>
  obtain ⟨g,S',h1,h2⟩:=h _ rfl S _ _ S (Vs.start ha)
  cases x with
  | rt r=>cases hv;obtain ⟨d,rfl,h2,h3⟩:=h2;exact ⟨d,S',L2.IM h1,h3,h2⟩
  | nx s=>cases hv
  | bk s=>cases hv
  | ct s=>cases hv
theorem dB {t T:String} {r:Bool} {p:Option α} (ha:VE A a (rV enc) p) (ht:∀x S,tyD (enc x) S=some T) (hb:isB t T=some r):VE A (L2.mIs (isB t) (λ_=>none) a) (rV D.bl) (p.bind λ_=>some r):=λv hv S0 e F S hs=>by
 obtain ⟨x,h1,h2⟩:=BK hv;cases h2;obtain ⟨d,S',h3,h4,rfl⟩:=ha x h1 S0 e F S hs;exact ⟨_,S',L2.eO h3 (ht x S') hb,h4,rfl⟩
end
end L4
namespace L4
open PySem L2
section
variable {κ α:Type} [DecidableEq κ]
end
def hb (bits x:Int):Bool:=Builtin.bitAnd (bits / 2 ^ x.toNat) 1 != 0
abbrev HL:=List (Int×Int)
abbrev QL:=List (Int×Bool)
section
variable {T:Int->List Int} {bits:Int} {U:List Int} {Gd:Int->Prop}
abbrev w0 (T:Int->List Int) (bits g:Int):List Int:=(T g).filter (hb bits)
def MOn (T:Int->List Int) (bits:Int) (P:Int->Prop) (H:HL):Prop:=(∀x,P x->∀a,FT H x=some a->x∈w0 T bits a)/\∀x y a,P x->P y->FT H x=some a->FT H y=some a->x=y
abbrev sn (Q:QL) (x:Int):Prop:=(FT Q x).isSome=true
def Good (T:Int->List Int) (bits:Int) (H:HL) (g:Int) (Q:QL) (H':HL):Prop:=
 (∀x,sn Q x->FT H' x=FT H x)/\(MOn T bits (λx=>¬sn Q x) H->(∀x,¬sn Q x->FT H x≠some g)->MOn T bits (λx=>¬sn Q x) H'/\∀a,(∃x,¬sn Q x/\FT H' x=some a)↔a=g∨∃x,¬sn Q x/\FT H x=some a)
end
end L4
namespace L4
open PySem L2
section
variable {T:Int->List Int} {bits:Int} {U:List Int} {Gd:Int->Prop}
end
end L4
namespace L4
open PySem L2
section
variable {α β ρ σ:Type} {A:List Sl} {enc:α->D} {ob:β->Ob}
theorem Z9 {e:Lo} {S:Sto} {i:Nat} {d:D} (h:e[i]?=some (some d)):AL i e S=.ok d S:=by unfold AL;rw [h]
end
end L4
namespace L4
open PySem L2
abbrev inG {α:Type} [DecidableEq α] (x:α) (l:List α):Bool:=decide (x∈l)
theorem Sr {α:Type} [DecidableEq α] {x:α} {l:List α}:inG x l=true↔x∈l:=decide_eq_true_iff
def rP {α β:Type} (enc:α->D) (ob:β->Ob):Rk (α×β):=λv S0 d S=>∃n,d=.tup [enc v.1,.ref n]/\S0.length<=n/\S[n]?=some (ob v.2)
def Yq {α:Type} (l:List α) (i:Int) (x:α):Option (List α):=if 0<=i/\i < 1000000/\l.length < 1000000 then some (l.take i.toNat++[x]++l.drop i.toNat) else none
section
variable {α β ρ σ:Type} {A:List Sl} {enc:α->D} {ob:β->Ob}
theorem dZ:∀(v:α×β) (S S1:Sto) (d:D) (S':Sto),S.length<=S1.length->rP enc ob v S1 d S'->rP enc ob v S d S':=λv _ _ _ _ l ⟨n,h1,h2,h3⟩=>⟨n,h1,Ao l h2,h3⟩
theorem Xa {B:σ->List Sl} {ma mb:ME} {p:Option α} {q:Option β} (ha:VE A ma (rV enc) p) (hb:VE A mb (rN ob) q):VS A (E6 (Mf (AY ma (AY mb BH)))) (rP enc ob) (p.bind λx=>q.bind λy=>some (.rt (x,y))) B:=λf hf S0 e F S hs=>by
 obtain ⟨x,h1,h2⟩:=BK hf;obtain ⟨y,h3,h4⟩:=BK h2;cases h4;obtain ⟨d1,S1,c1,k1,rfl⟩:=ha x h1 S0 e F S hs;obtain ⟨d2,S2,c2,k2,n,rfl,h5,h6⟩:=hb y h3 S0 e _ S1 (hs.grow k1);exact ⟨_,S2,HV (RQ (Bx c1 (Bx c2 rfl)) (by simp)),_,rfl,⟨n,rfl,Ao (Ao hs.kp.1 k1.1) h5,h6⟩,(hs.kp.trans k1).trans k2⟩
theorem Xd {R:Rk ρ} {m:ME} {p:Option (α×β)} {i j:Nat} (h:VE A m (rP enc ob) p):VS A (Tq m (II 2 (DD (tgN i) (DD (tgN j) JH)))) R (p.bind λv=>some (.nx v)) (λv=>(A.set i (.v (enc v.1))).set j (.y (ob v.2))):=λf hf S0 e F S hs=>by
 obtain ⟨v,h1,h2⟩:=BK hf;cases h2;obtain ⟨d,S',c1,k1,n,rfl,hn,hb⟩:=h v h1 S0 e F S hs;have g:=hs.grow k1;have v1:=g.set (a:=.v (enc v.1)) (x:=some (enc v.1)) i rfl;have v2:=v1.set (a:=.y (ob v.2)) (x:=some (.ref n)) j ⟨n,rfl,Mz hn hb,Ao hs.kp.1 hn⟩;refine ⟨.nx ((e.set i (some (enc v.1))).set j (some (.ref n))),S',?_,_,_,rfl,v2,hs.fle S'⟩;unfold Tq;rw [c1];rfl
theorem Zz {mi mx:ME} {R:Rk ρ} {pi:Option Int} {px:Option α} {i:Nat} {l:List α} (hi:A[i]?=some (.w i (oL enc l))) (h:VE A mi (rV D.int) pi) (hx:VE A mx (rV enc) px) (ht:((A.set i .u).all (Sl.oth i))=true) :
  VS A (C4 (WC (AL i) mi mx)) R (pi.bind λk=>px.bind λv=>(Yq l k v).bind λl'=>some (.nx l')) (λl'=>A.set i (.w i (oL enc l'))):=λf hf S0 e F S hs=>by
 obtain ⟨k,h1,h2⟩:=BK hf;obtain ⟨v,h3,h4⟩:=BK h2;obtain ⟨l',h5,h6⟩:=BK h4;cases h6;unfold Yq at h5;split at h5
 ·rename_i hl
  cases h5;obtain ⟨x,g1,n,rfl,g2,g3⟩:=hs.sl i _ hi;obtain ⟨d1,S1,c1,k1,rfl⟩:=h k h1 S0 e F S hs;obtain ⟨d2,S2,c2,k2,rfl⟩:=hx v h3 S0 e _ S1 (hs.grow k1);have kk:=k1.trans k2;have hg:=hs.grow kk
  have a0:atL (.ref n) S=some (n,l.map enc):=by unfold atL;dsimp only;rw [g3];rfl
  have a2:atL (.ref n) S2=some (n,l.map enc):=by unfold atL;dsimp only;rw [kk.at g3];rfl
  have hx':WC (AL i) mi mx e S=.ok .non (S2.set n (oL enc (l.take k.toNat++[v]++l.drop k.toNat))):=by
   unfold WC;rw [Z9 g1];dsimp only [Res.bind];rw [a0];dsimp only;rw [c1];dsimp only [Res.bind];rw [c2];dsimp only [Res.bind];rw [a2];dsimp only;rw [if_pos ⟨hl.1,hl.2.1,by rw [AG];exact Ao (Nat.succ_le_of_lt hl.2.2) (by decide)⟩];rw [show (l.map enc).take k.toNat++[enc v]++(l.map enc).drop k.toNat=(l.take k.toNat++[v]++l.drop k.toNat).map enc by simp];rfl
  exact ⟨_,_,Gc hx',e,_,rfl,hg.put ht hi g1 (by rw [F0 (D7 g3)];exact g2),hs.fle S2⟩
 ·cases h5
theorem Tb {a:ME} {pa:Option Int} (h:VE A a (rV D.int) pa):VL A (Lm (AY a BH)) D.int (pa.bind Rc):=λv hv S0 e F S hs=>by
 obtain ⟨j,h1,h2⟩:=BK hv;obtain ⟨d,S',c1,k1,rfl⟩:=h j h1 S0 e F S hs;unfold Rc at h2;split at h2
 ·rename_i hj
  cases h2;refine ⟨S',?_,k1⟩;unfold Lm;rw [Bx c1 rfl];dsimp only [Res.bind];rw [if_pos hj,Int.sub_zero,Rb]
 ·cases h2
theorem Xo {a:ME} {pl:Option (List Int)} {mlo mhi:MO} {po ph:Option (Option Int)} (ha:VE A a (rV eF) pl) (hl:VO A mlo po) (hh:VO A mhi ph):VE A (Oz a mlo mhi) (rN (oL D.int)) (pl.bind λl=>po.bind λx=>ph.bind λy=>some (Ie l x y)):=λv hv S0 e F S hs=>by
 obtain ⟨l,h1,hv⟩:=BK hv;obtain ⟨x,h2,hv⟩:=BK hv;obtain ⟨y,h3,h4⟩:=BK hv;cases h4;obtain ⟨d1,S1,q1,k1,rfl⟩:=ha l h1 S0 e F S hs;obtain ⟨S2,q2,k2⟩:=hl x h2 S0 e _ S1 (hs.grow k1);obtain ⟨S3,q3,k3⟩:=hh y h3 S0 e _ S2 ((hs.grow k1).grow k2);refine ⟨.ref S3.length,S3++[oL D.int (Ie l x y)],?_,((k1.trans k2).trans k3).trans (Keeps.app _ _),_,rfl,((k1.trans k2).trans k3).1,Di _ _⟩;unfold Oz;rw [q1];dsimp only [Res.bind];rw [q2];dsimp only;rw [q3];show Res.ok _ (S3++[Ob.lst (Ie (l.map D.int) x y)])=_;rw [Wv];rfl
end
end L4
namespace M
open PySem PySem.Spec PyProof.Rows L2
def top (i:Nat):Cd:=Zq.main.body.getD i (.Pass ⟨0,0,0,0⟩)
structure Wd where
 GuardError:AF
 BadPlaces:AF
 BadTie:AF
 NoPlace:AF
 TooLarge:AF
 NotTwo:AF
 NotWood:AF
 BadColony:AF
 Web:AF
def Wd.excs (W:Wd):List AF:=[W.BadPlaces,W.BadTie,W.NoPlace,W.NotWood]
def Bo (W:Wd) (C:AF):Option Bool:=if C∈([]:List AF) then some true else if C∈W.excs then some false else none
def Fm (W:Wd) (C:AF):Option Bool:=if C∈[W.NotWood] then some true else if C∈W.excs then some false else none
def D5 (W:Wd) (C:AF):Option Bool:=if C∈[W.BadPlaces,W.BadTie,W.NoPlace,W.NotWood] then some true else if C∈W.excs then some false else none
abbrev C1:Cd:=top 12
abbrev C0:Cd:=top 13
abbrev Er:Cd:=Yr (top 11) 0
abbrev CO:Cd:=top 14
abbrev Kg:Cd:=top 15
abbrev Dr:Cd:=top 16
abbrev Ep:Cd:=top 17
abbrev Fe:Cd:=top 19
abbrev Cm:Cd:=top 20
abbrev EE:Cd:=top 28
abbrev Dt:Cd:=top 29
abbrev Ds:Cd:=top 30
abbrev EC:Cd:=top 31
abbrev ED:Cd:=top 32
abbrev Cn:Cd:=top 33
abbrev C2:Cd:=top 34
abbrev N2:Cd:=top 35
def NA (W:Wd):MS:=
  (BW (B3 2 WF)
  (BW (IL (FX (AL 1)) (II 2 (DD (tgN 3) (DD (tgN 4) JH)))
  (BW (B3 5 (Mf (AY (mQ JM (AY (AL 3) (AY (AL 4) BH))) (AY (mQ J9 (AY (AL 3) (AY (AL 4) BH))) BH))))
  (BW (sIf (mB (m2 (eqD false) (m2 ixA (AL 5) (mC (.int 0))) (m2 ixA (AL 5) (mC (.int 1))))) (DE W.BadTie (AY (mC (.str "a tie has one place twice")) BH)) sNx)
  (BW (sIf (mOr (mB (m2 ltD (m2 ixA (AL 5) (mC (.int 0))) (mC (.int 0)))) (mB (m2 geD (m2 ixA (AL 5) (mC (.int 1))) (AL 0)))) (DE W.BadTie (AY (mC (.str "a tie has a place that is not there")) BH)) sNx)
  (BW (sIf (mB (m2 (inA false) (AL 5) (AL 2))) (DE W.BadTie (AY (mC (.str "a tie is there twice")) BH)) sNx)
  (Gq (AL 2) (AL 5) (mC (.bl true))))))))
  (E6 (Fs (DP (AL 2))))))
def Ee (W:Wd):List D->Sto->Res D:=Es 6 (NA W)
def Ig (W:Wd):MS:=
  (BW (B3 2 (E7 (Hq 1 (iR1 (AY (AL 0) BH)) (tgN 0) JN (E7 (Df BH)))))
  (BW (IL (FX (AL 1)) (II 2 (DD (tgN 3) (DD (tgN 4) JH)))
  (BW (C4 (JA (m2 ixA (AL 2) (AL 3)) (AL 4)))
  (C4 (JA (m2 ixA (AL 2) (AL 4)) (AL 3)))))
  (E6 (Fs (E7 (Hq 1 (FX (AL 2)) (tgN 0) JN (Fs (DP (AL 0)))))))))
def Ed (W:Wd):List D->Sto->Res D:=Es 5 (Ig W)
def NB (W:Wd):MS:=
  (BW (sIf (Ja (mB (m3 leD leD (mC (.int 1)) (AL 1) (mC (.int 60))))) (DE W.BadPlaces (AY (ZW (So (mC (.str "a web has 1 to ")) (So (eE (mC (.int 60))) (So (mC (.str " places")) bO)))) BH)) sNx)
  (BW (N3 W.Web "places" (AL 0) (AL 1))
  (BW (N3 W.Web "ties" (AL 0) (CC 2 (Ee W) (AY (AL 1) (AY (AL 2) BH))))
  (N3 W.Web "near_sets" (AL 0) (CC 2 (Ed W) (AY (AL 1) (AY (Hu W.Web "ties" (AL 0)) BH)))))))
def Hb (W:Wd):List D->Sto->Res D:=Es 3 (NB W)
def KH (W:Wd):MS:=
  (sIf (Ja (mB (m3 leD ltD (mC (.int 0)) (AL 1) (Hu W.Web "places" (AL 0))))) (DE W.NoPlace (AY (mC (.str "the web has no such place")) BH)) sNx)
def DQ (W:Wd):List D->Sto->Res D:=Es 2 (KH W)
def W3 (W:Wd):MS:=
  (BW (C4 (CC 2 (DQ W) (AY (AL 0) (AY (AL 1) BH))))
  (E6 (m2 ixA (Hu W.Web "near_sets" (AL 0)) (AL 1))))
def Mx (W:Wd):List D->Sto->Res D:=Es 2 (W3 W)
def Hd (W:Wd):MS:=
  (BW (B3 2 (Mh (AL 1) (mC (.int 0))))
  (BW (B3 3 (E7 (Df (AY (AL 1) BH))))
  (BW (HU (Oy (AL 3)) (BW (B3 4 (E7 (Df BH)))
  (BW (IL (FX (AL 3)) (tgN 5)
  (IL (FX (CC 2 (Mx W) (AY (AL 0) (AY (AL 5) BH)))) (tgN 6)
  (sIf (mB (m2 (inA true) (AL 6) (AL 2))) (BW (Gq (AL 2) (AL 6) (m2 JB (m2 ixA (AL 2) (AL 5)) (mC (.int 1))))
  (C4 (JA (AL 4) (AL 6)))) sNx)))
  (B3 3 (AL 4)))) wN)
  (E6 (AL 2)))))
def Du (W:Wd):List D->Sto->Res D:=Es 7 (Hd W)
def Jf (W:Wd):MS:=
  (BW (B3 1 (E7 (Df BH)))
  (BW (B3 2 Ru)
  (BW (IL (iR1 (AY (Hu W.Web "places" (AL 0)) BH)) (tgN 3)
  (sIf (mB (m2 (inA true) (AL 3) (AL 2))) (BW (B3 4 (CC 2 (Du W) (AY (AL 0) (AY (AL 3) BH))))
  (BW (C4 (OB (AL 2) (AL 4)))
  (C4 (JA (AL 1) (Fs (DP (AL 4))))))) sNx))
  (E6 (AL 1)))))
def Fx (W:Wd):List D->Sto->Res D:=Es 5 (Jf W)
def Kx (W:Wd):MS:=
  (E6 (m2 (eqD false) (Mg (Hu W.Web "ties" (AL 0))) (m2 VM (Hu W.Web "places" (AL 0)) (Mg (CC 1 (Fx W) (AY (AL 0) BH))))))
def HD (W:Wd):List D->Sto->Res D:=Es 1 (Kx W)
def FK (W:Wd):MS:=
  (BW (sIf (Ja (Oy (CC 1 (HD W) (AY (AL 0) BH)))) (DE W.NotWood (AY (mC (.str "the web has a ring")) BH)) sNx)
  (BW (B3 1 (E7 (Df BH)))
  (BW (IL (FX (CC 1 (Fx W) (AY (AL 0) BH))) (tgN 2)
  (C4 (Sk (AL 1) eG)))
  (E6 (DP (AL 1))))))
def D9 (W:Wd):List D->Sto->Res D:=Es 3 (FK W)
def Ij (W:Wd):MS:=
  (BW (sIf (mB (m2 ltD (AL 1) (Mg (AL 0)))) (E6 (m2 Ht (m2 ixA (AL 0) (AL 1)) (m2 aa (mC (.int 10)) (mC (.int 60))))) sNx)
  (E6 (mC (.int 0))))
def Dh (W:Wd):List D->Sto->Res D:=Es 2 (Ij W)
def Hf (W:Wd):MS:=
  (BW (B3 2 (m2 Ht (m2 QM (m2 JB (m2 Ht (AL 0) (mC (.int 2147483647))) (AL 1)) (mC (.int 48271))) (mC (.int 2147483647))))
  (BW (B3 2 (m2 Ht (m2 QM (AL 2) (AL 2)) (mC (.int 2147483629))))
  (E6 (m2 Ht (m2 QM (m2 JB (AL 2) (m2 QM (mC (.int 7919)) (AL 1))) (mC (.int 69621))) (mC (.int 2147483629))))))
def FY (W:Wd):List D->Sto->Res D:=Es 3 (Hf W)
def He (W:Wd):MS:=
  (BW (B3 2 (E7 (Df BH)))
  (BW (IL (iR1 (AY (AL 1) BH)) (tgN 3)
  (C4 (WC (AL 2) (m2 Ht (m2 IW (CC 2 (FY W) (AY (AL 0) (AY (m2 JB (mC (.int 7000)) (AL 3)) BH))) (mC (.int 8))) (m2 JB (AL 3) (mC (.int 1)))) (AL 3))))
  (E6 (AL 2))))
def Ha (W:Wd):List D->Sto->Res D:=Es 4 (He W)
def Ih (W:Wd):MS:=
  (BW (B3 3 (m2 JB (mC (.int 1)) (m2 Ht (m2 IW (CC 2 (Dh W) (AY (AL 0) (AY (mC (.int 0)) BH))) (mC (.int 4))) (AL 1))))
  (BW (B3 4 (CC 2 (Ha W) (AY (CC 2 (Dh W) (AY (AL 0) (AY (mC (.int 1)) BH))) (AY (AL 3) BH))))
  (BW (B3 5 (E7 (Df BH)))
  (BW (IL (iR2 (AY (mC (.int 1)) (AY (AL 3) BH))) (tgN 6)
  (BW (B3 7 (m2 IW (CC 2 (FY W) (AY (m2 JB (CC 2 (Dh W) (AY (AL 0) (AY (m2 JB (mC (.int 2)) (AL 6)) BH))) (AL 6)) (AY (mC (.int 31)) BH))) (mC (.int 8))))
  (BW (B3 8 (AL 6))
  (BW (sIf (mB (m2 (eqD false) (AL 2) (mC (.int 1)))) (B3 8 (mQ JM (AY (AL 6) (AY (mC (.int 3)) BH)))) sNx)
  (BW (sIf (mB (m2 (eqD false) (AL 2) (mC (.int 2)))) (B3 8 (m2 JB (mC (.int 1)) (m2 Ht (m2 IW (AL 7) (mC (.int 1000))) (AL 6)))) sNx)
  (sIf (mB (m2 gtD (m2 Ht (AL 7) (mC (.int 9))) (mC (.int 0)))) (BW (B3 9 (m2 VM (m2 VM (AL 6) (mC (.int 1))) (m2 Ht (m2 IW (AL 7) (mC (.int 9))) (AL 8))))
  (C4 (JA (AL 5) (Mf (AY (mQ JM (AY (m2 ixA (AL 4) (AL 6)) (AY (m2 ixA (AL 4) (AL 9)) BH))) (AY (mQ J9 (AY (m2 ixA (AL 4) (AL 6)) (AY (m2 ixA (AL 4) (AL 9)) BH))) BH)))))) sNx))))))
  (E6 (Mf (AY (AL 3) (AY (DP (AL 5)) BH))))))))
def IX (W:Wd):List D->Sto->Res D:=Es 10 (Ih W)
def Ii (W:Wd):MS:=
  (BW (B3 3 (E7 (mN Sn (QR (AL 0)))))
  (BW (IL (FX (AL 2)) (tgN 4)
  (BW (B3 5 (m2 Ht (AL 4) (AL 1)))
  (BW (B3 6 (m2 Ht (m2 IW (AL 4) (AL 1)) (AL 1)))
  (BW (B3 7 (Mf (AY (mQ JM (AY (AL 5) (AY (AL 6) BH))) (AY (mQ J9 (AY (AL 5) (AY (AL 6) BH))) BH))))
  (sIf (QS (mB (m2 (eqD true) (AL 5) (AL 6))) (mB (m2 (inA true) (AL 7) (AL 3)))) (C4 (JA (AL 3) (AL 7))) sNx)))))
  (E6 (DP (AL 3)))))
def IY (W:Wd):List D->Sto->Res D:=Es 8 (Ii W)
def FL (W:Wd):MS:=
  (BW (B3 2 (E7 (Lm (AY (AL 0) BH))))
  (BW (IL (FX (AL 1)) (II 2 (DD (tgN 3) (DD (tgN 4) JH)))
  (BW (sIf (mB (m2 (eqD false) (m2 ixA (AL 2) (AL 3)) (m2 ixA (AL 2) (AL 4)))) (E6 (mC (.bl false))) sNx)
  (BW (B3 5 (m2 ixA (AL 2) (AL 4)))
  (B3 2 (E7 (Hq 1 (FX (AL 2)) (tgN 0) JN (m2 ixA (E7 (Df (AY (AL 0) (AY (m2 ixA (AL 3) (AL 4)) BH)))) (Yk (m2 (eqD false) (AL 0) (AL 6))))))))))
  (E6 (mC (.bl true)))))
def FJ (W:Wd):List D->Sto->Res D:=Es 6 (FL W)
def GD (W:Wd):MS:=
  (BW (B3 1 (mC .non))
  (BW (X1 W.excs 2 (C4 (CC 1 (D9 W) (AY (AL 0) BH))) (B3 1 (AL 2)))
  (BW (sIf (mOr (Ja (mB (mIs isN (Fm W) (AL 1)))) (Ja (mB (mIs isV (D5 W) (AL 1))))) (E6 (mC (.bl false))) sNx)
  (E6 (Sj (WB (Bo W) (AL 1)))))))
def Fy (W:Wd):List D->Sto->Res D:=Es 3 (GD W)
def W4 (W:Wd):MS:=
  (BW (Tq (CC 3 (IX W) (AY (AL 0) (AY (mC (.int 60)) (AY (m2 Ht (CC 2 (Dh W) (AY (AL 0) (AY (mC (.int 0)) BH))) (mC (.int 4))) BH)))) (II 2 (DD (tgN 1) (DD (tgN 2) JH))))
  (BW (B3 3 (m2 Ht (CC 2 (Dh W) (AY (AL 0) (AY (mC (.int 2)) BH))) (mC (.int 4))))
  (BW (B3 2 (CC 3 (IY W) (AY (AL 2) (AY (AL 1) (AY (E7 (Hq 1 (FX (Oz (AL 0) (QI (mC (.int 3))) (QI (m2 JB (mC (.int 3)) (AL 3))))) (tgN 0) JN (m2 IW (AL 0) (mC (.int 240))))) BH)))))
  (BW (B3 4 (OA W.Web 3 (Hb W) (AY (AL 1) (AY (AL 2) BH))))
  (BW (B3 5 (CC 1 (HD W) (AY (AL 4) BH)))
  (BW (sIf (mOr (Ja (mB (mIs (isB "bool") (λ_=>none) (AL 5)))) (mB (m2 (eqD true) (AL 5) (CC 2 (FJ W) (AY (AL 1) (AY (AL 2) BH)))))) (E6 (mC (.bl false))) sNx)
  (E6 (WA (AL 5) (CC 1 (Fy W) (AY (AL 4) BH))))))))))
def Sz (W:Wd):List D->Sto->Res D:=Es 6 (W4 W)
structure Txt (K:AA) (mg:Str->Option AC) (W:Wd) where
 d_checked_ties:Dfn K mg "checked_ties" "checked_ties" C1 ["places", "ties"]
 d_near_sets_of:Dfn K mg "near_sets_of" "near_sets_of" C0 ["places", "ties"]
 d_Web_init:Mtd K "__init__" "Web.__init__" Er ["self", "places", "ties"]
 d_refuse_no_place:Dfn K mg "refuse_no_place" "refuse_no_place" CO ["web", "place"]
 d_near:Dfn K mg "near" "near" Kg ["web", "place"]
 d_steps_from:Dfn K mg "steps_from" "steps_from" Dr ["web", "start"]
 d_parts_of:Dfn K mg "parts_of" "parts_of" Ep ["web"]
 d_is_wood:Dfn K mg "is_wood" "is_wood" Fe ["web"]
 d_wood_colonies:Dfn K mg "wood_colonies" "wood_colonies" Cm ["web"]
 d__law_cell:Dfn K mg "_law_cell" "_law_cell" EE ["script", "k"]
 d__law_mixed:Dfn K mg "_law_mixed" "_law_mixed" Dt ["cell", "salt"]
 d__law_order:Dfn K mg "_law_order" "_law_order" Ds ["cell", "many"]
 d__law_wood:Dfn K mg "_law_wood" "_law_wood" EC ["script", "most", "style"]
 d__law_more:Dfn K mg "_law_more" "_law_more" ED ["ties", "many", "cells"]
 d__law_ringless:Dfn K mg "_law_ringless" "_law_ringless" Cn ["many", "ties"]
 d__law_refused:Dfn K mg "_law_refused" "_law_refused" C2 ["web"]
 d_law:Dfn K mg "law" "law" N2 ["script"]
 c_Web:Own K mg "Web" W.Web d_Web_init.f
 n_Web_places:GH K W.Web "places"
 n_Web_ties:GH K W.Web "ties"
 n_Web_near_sets:GH K W.Web "near_sets"
 xm_GuardError:mg "GuardError" = some (.ref W.GuardError)
 x_BadPlaces:Xcl K mg "BadPlaces" W.BadPlaces
 x_BadTie:Xcl K mg "BadTie" W.BadTie
 x_NoPlace:Xcl K mg "NoPlace" W.NoPlace
 xm_TooLarge:mg "TooLarge" = some (.ref W.TooLarge)
 xm_NotTwo:mg "NotTwo" = some (.ref W.NotTwo)
 x_NotWood:Xcl K mg "NotWood" W.NotWood
 xm_BadColony:mg "BadColony" = some (.ref W.BadColony)
 nd:W.excs.Nodup
 caught_GuardError:∀c∈W.excs,SF K c W.GuardError
 is_NotWood:∀C b,Fm W C=some b->XIs K C/\BJ K (.ref C) (.ref W.NotWood)=some b
 i_NotWood:(DI K W.NotWood).isSome=true/\IB K (.ref W.NotWood)=some (.type "type")
 is_ValueError:∀C b,D5 W C=some b->XIs K C/\BJ K (.ref C) (.type "ValueError")=some b
 isT_BadColony_NotTwo_TooLarge:∀C b,Bo W C=some b->XIs K C/\Cz K (.ref C) (([W.BadColony,W.NotTwo,W.TooLarge]:List AF).map Ak)=some b
 b_ValueError:mg "ValueError" = none
 b_bool:mg "bool" = none
 b_int:mg "int" = none
 b_isinstance:mg "isinstance" = none
 b_len:mg "len" = none
 b_list:mg "list" = none
 b_max:mg "max" = none
 b_min:mg "min" = none
 b_range:mg "range" = none
 b_sorted:mg "sorted" = none
 b_tuple:mg "tuple" = none
 g_MOST_PLACES:∃tk,mg "MOST_PLACES" = some (.int 60 tk)
section
variable {P:Ai} {w:A7} {K:AA} {mg:Str->Option AC} {base:BY} {W:Wd}
theorem LW:B5 ["places", "ties", "found", "one", "other", "tie"] ["places", "ties"] (Av C1):=IS
theorem La (T:Txt K mg W):Dy P w K mg base (CXG P w) 1 T.d_checked_ties.f T.d_checked_ties.fd ["places", "ties"] (spM K 2 (Ee W)):=by
 refine Cq (k:=0) T.d_checked_ties.F LW rfl λ_ _ _ _ _ _ hr O hu nd pn E'=>?_
 exact (Ag (CP 2 nd Wh)
  (Ag (Gw (BV O).own rfl (Gx (AI (pv 1))) (O8 rfl (E8 (Ec 3 nd) (E8 (Ec 4 nd) Lp)))
  (Ag (CP 5 nd (O9 (Ad (Lq rfl rfl T.b_min (Ad (AI (pv 3)) (Ad (AI (pv 4)) BC))) (Ad (PB rfl rfl T.b_max (Ad (AI (pv 3)) (Ad (AI (pv 4)) BC))) BC))))
  (Ag (FR (FI (N6 hu) (Ej hu (AI (pv 5)) ge_int) (Ej hu (AI (pv 5)) ge_int) (FH _)) (BA (HB (BV O) rfl T.x_BadTie.xc rfl T.x_BadTie.m (Ad Jd BC))) Cy)
  (Ag (FR (Yt (Wa (FI V2 (Ej hu (AI (pv 5)) ge_int) ge_int (FH _)) (R0 (FI dz (Ej hu (AI (pv 5)) ge_int) (AI (pv 0)) (FH _))))) (BA (HB (BV O) rfl T.x_BadTie.xc rfl T.x_BadTie.m (Ad Jd BC))) Cy)
  (Ag (FR (eW hu (AI (pv 5)) (AI (pv 2))) (BA (HB (BV O) rfl T.x_BadTie.xc rfl T.x_BadTie.m (Ad Jd BC))) Cy)
  (BA (Ss (Bk (Um (by decide:1<=64) _) hu) (AI (pv 2)) (AI (pv 5)) Qd rfl)))))))
  (BA (DG (KG rfl T.b_tuple (Ff rfl rfl T.b_sorted (AI (pv 2))))))))
theorem LV:B5 ["places", "ties", "rows", "one", "other"] ["places", "ties"] (Av C0):=IS
theorem LZ (T:Txt K mg W):Dy P w K mg base (CXG P w) 1 T.d_near_sets_of.f T.d_near_sets_of.fd ["places", "ties"] (spM K 2 (Ed W)):=by
 refine Cq (k:=0) T.d_near_sets_of.F LV rfl λ_ _ _ _ _ _ hr O hu nd pn E'=>?_
 exact (Ag (Yu (i:=2) (own:=["place"]) (N':=["place", "·1", "·2", "·3", "·4", "·5"]) rfl rfl nd rfl (by first | exact XD rfl | exact SK rfl) (Lv (by kernel_rfl)) (Ks rfl T.b_range (Ad (AI (pv 0)) BC)) (λ_ _ _ _ _ _=>(Ec 0 (by decide +kernel:(["place", "·1", "·2", "·3", "·4", "·5"]:List Str).Nodup))) (λ_ _ _ _ _ _=>KD) (λ_ _ _ _ _ _=>(Ev (IV BC))))
  (Ag (Gw (BV O).own rfl (Gx (AI (pv 1))) (O8 rfl (E8 (Ec 3 nd) (E8 (Ec 4 nd) Lp)))
  (Ag (Eb (Fg (Ej hu (AI (pv 2)) (AI (pv 3))) (AI (pv 4))))
  (BA (Eb (Fg (Ej hu (AI (pv 2)) (AI (pv 4))) (AI (pv 3)))))))
  (BA (DG (KG rfl T.b_tuple (Ev (O6 (own:=["row"]) (N':=["row", "·1", "·2", "·3", "·4", "·5"]) rfl (Lv (by kernel_rfl)) (Gx (AI (pv 2))) (λ_ _ _ _ _ _=>(Ec 0 (by decide +kernel:(["row", "·1", "·2", "·3", "·4", "·5"]:List Str).Nodup))) (λ_ _ _ _ _ _=>KD) (λ_ _ _ _ _ _=>(KG rfl T.b_tuple (Ff rfl rfl T.b_sorted (AI (pv 0))))))))))))
theorem P6:B5 ["self", "places", "ties"] ["self", "places", "ties"] (Av Er):=IS
theorem QH (T:Txt K mg W):Dy P w K mg base (CXG P w) 2 T.d_Web_init.f T.d_Web_init.fd ["self", "places", "ties"] (spM K 3 (Hb W)):=by
 refine Cq (k:=1) T.d_Web_init.F P6 rfl λ_ _ _ _ _ _ hr O hu nd pn E'=>?_
 exact (Ag (FR (Kr (Qb V3 V3 ge_int (AI (pv 1)) (Qc rfl T.g_MOST_PLACES.choose_spec))) (BA (HB (BV O) rfl T.x_BadPlaces.xc rfl T.x_BadPlaces.m (Ad (Y2 (O7 Jd (O7 (bw (Qc rfl T.g_MOST_PLACES.choose_spec)) (O7 Jd bh)))) BC))) Cy)
  (Ag (R3 T.c_Web.cl T.n_Web_places (AI (pv 0)) (AI (pv 1)) rfl)
  (Ag (R3 T.c_Web.cl T.n_Web_ties (AI (pv 0)) (B4 (La T) (BV O).pass (hr.mono (by decide)) rfl T.d_checked_ties.m T.d_checked_ties.kp T.d_checked_ties.b (Ad (AI (pv 1)) (Ad (AI (pv 2)) BC))) rfl)
  (BA (R3 T.c_Web.cl T.n_Web_near_sets (AI (pv 0)) (B4 (LZ T) (BV O).pass (hr.mono (by decide)) rfl T.d_near_sets_of.m T.d_near_sets_of.kp T.d_near_sets_of.b (Ad (AI (pv 1)) (Ad (Kt T.c_Web.cl T.n_Web_ties (AI (pv 0)) rfl) BC))) rfl)))))
theorem JY:B5 ["web", "place"] ["web", "place"] (Av CO):=IS
theorem JZ (T:Txt K mg W):Dy P w K mg base (CXG P w) 1 T.d_refuse_no_place.f T.d_refuse_no_place.fd ["web", "place"] (spM K 2 (DQ W)):=by
 refine Cq (k:=0) T.d_refuse_no_place.F JY rfl λ_ _ _ _ _ _ hr O hu nd pn E'=>?_
 exact (BA (FR (Kr (Qb V3 V2 ge_int (AI (pv 1)) (Kt T.c_Web.cl T.n_Web_places (AI (pv 0)) rfl))) (BA (HB (BV O) rfl T.x_NoPlace.xc rfl T.x_NoPlace.m (Ad Jd BC))) Cy))
theorem X0:B5 ["web", "place"] ["web", "place"] (Av Kg):=IS
theorem Yd (T:Txt K mg W):Dy P w K mg base (CXG P w) 2 T.d_near.f T.d_near.fd ["web", "place"] (spM K 2 (Mx W)):=by
 refine Cq (k:=1) T.d_near.F X0 rfl λ_ _ _ _ _ _ hr O hu nd pn E'=>?_
 exact (Ag (Eb (B4 (JZ T) (BV O).pass (hr.mono (by decide)) rfl T.d_refuse_no_place.m T.d_refuse_no_place.kp T.d_refuse_no_place.b (Ad (AI (pv 0)) (Ad (AI (pv 1)) BC))))
  (BA (DG (Ej hu (Kt T.c_Web.cl T.n_Web_near_sets (AI (pv 0)) rfl) (AI (pv 1))))))
theorem NX:B5 ["web", "start", "steps", "layer", "further", "place", "beside"] ["web", "start"] (Av Dr):=IS
theorem Nb (T:Txt K mg W):Dy P w K mg base (CXG P w) 3 T.d_steps_from.f T.d_steps_from.fd ["web", "start"] (spM K 2 (Du W)):=by
 refine Cq (k:=2) T.d_steps_from.F NX rfl λ_ _ _ _ _ _ hr O hu nd pn E'=>?_
 exact (Ag (CP 2 nd (Wj (AI (pv 1)) ge_int))
  (Ag (CP 3 nd (Ev (IV (Ad (AI (pv 1)) BC))))
  (Ag (Wc wN (BV O).own (Qa (AI (pv 3))) (Ag (CP 4 nd (Ev (IV BC)))
  (Ag (Gw (BV O).own rfl (Gx (AI (pv 3))) (Ec 5 nd)
  (BA (Gw (BV O).own rfl (Gx (B4 (Yd T) (BV O).pass (hr.mono (by decide)) rfl T.d_near.m T.d_near.kp T.d_near.b (Ad (AI (pv 0)) (Ad (AI (pv 5)) BC)))) (Ec 6 nd)
  (BA (FR (Mt hu (AI (pv 6)) (AI (pv 2))) (Ag (Ss (Bk (Um (by decide:1<=64) _) hu) (AI (pv 2)) (AI (pv 6)) (BX Gs (Ej hu (AI (pv 2)) (AI (pv 5))) ge_int) rfl)
  (BA (Eb (Fg (AI (pv 4)) (AI (pv 6)))))) Cy)))))
  (BA (CP 3 nd (AI (pv 4)))))))
  (BA (DG (AI (pv 2)))))))
theorem P5:B5 ["web", "parts", "seen", "place", "steps"] ["web"] (Av Ep):=IS
theorem LG (T:Txt K mg W):Dy P w K mg base (CXG P w) 4 T.d_parts_of.f T.d_parts_of.fd ["web"] (spM K 1 (Fx W)):=by
 refine Cq (k:=3) T.d_parts_of.F P5 rfl λ_ _ _ _ _ _ hr O hu nd pn E'=>?_
 exact (Ag (CP 1 nd (Ev (IV BC)))
  (Ag (CP 2 nd Wi)
  (Ag (Gw (BV O).own rfl (Ks rfl T.b_range (Ad (Kt T.c_Web.cl T.n_Web_places (AI (pv 0)) rfl) BC)) (Ec 3 nd)
  (BA (FR (Mt hu (AI (pv 3)) (AI (pv 2))) (Ag (CP 4 nd (B4 (Nb T) (BV O).pass (hr.mono (by decide)) rfl T.d_steps_from.m T.d_steps_from.kp T.d_steps_from.b (Ad (AI (pv 0)) (Ad (AI (pv 3)) BC))))
  (Ag (Eb (Y4 (AI (pv 2)) (AI (pv 4))))
  (BA (Eb (Fg (AI (pv 1)) (KG rfl T.b_tuple (Ff rfl rfl T.b_sorted (AI (pv 4))))))))) Cy)))
  (BA (DG (AI (pv 1)))))))
theorem Ra:B5 ["web"] ["web"] (Av Fe):=IS
theorem MZ (T:Txt K mg W):Dy P w K mg base (CXG P w) 5 T.d_is_wood.f T.d_is_wood.fd ["web"] (spM K 1 (HD W)):=by
 refine Cq (k:=4) T.d_is_wood.F Ra rfl λ_ _ _ _ _ _ hr O hu nd pn E'=>?_
 exact (BA (DG (Wl (N6 hu) (R5 rfl T.b_len (Kt T.c_Web.cl T.n_Web_ties (AI (pv 0)) rfl)) (BX Ri (Kt T.c_Web.cl T.n_Web_places (AI (pv 0)) rfl) (R5 rfl T.b_len (B4 (LG T) (BV O).pass (hr.mono (by decide)) rfl T.d_parts_of.m T.d_parts_of.kp T.d_parts_of.b (Ad (AI (pv 0)) BC)))) (FH _))))
theorem Ke:B5 ["web", "colonies", "part"] ["web"] (Av Cm):=IS
theorem Kk (T:Txt K mg W):Dy P w K mg base (CXG P w) 6 T.d_wood_colonies.f T.d_wood_colonies.fd ["web"] (spM K 1 (D9 W)):=by
 refine Cq (k:=5) T.d_wood_colonies.F Ke rfl λ_ _ _ _ _ _ hr O hu nd pn E'=>?_
 exact (Ag (FR (Kr (Qa (B4 (MZ T) (BV O).pass (hr.mono (by decide)) rfl T.d_is_wood.m T.d_is_wood.kp T.d_is_wood.b (Ad (AI (pv 0)) BC)))) (BA (HB (BV O) rfl T.x_NotWood.xc rfl T.x_NotWood.m (Ad Jd BC))) Cy)
  (Ag (CP 1 nd (Ev (IV BC)))
  (Ag (Gw (BV O).own rfl (Gx (B4 (LG T) (BV O).pass (hr.mono (by decide)) rfl T.d_parts_of.m T.d_parts_of.kp T.d_parts_of.b (Ad (AI (pv 0)) BC))) (Ec 2 nd)
  (BA (Eb (UN (AI (pv 1)) bx))))
  (BA (DG (Ff rfl rfl T.b_sorted (AI (pv 1))))))))
theorem Oo:B5 ["script", "k"] ["script", "k"] (Av EE):=IS
theorem EY (T:Txt K mg W):Dy P w K mg base (CXG P w) 1 T.d__law_cell.f T.d__law_cell.fd ["script", "k"] (spM K 2 (Dh W)):=by
 refine Cq (k:=0) T.d__law_cell.F Oo rfl λ_ _ _ _ _ _ hr O hu nd pn E'=>?_
 exact (Ag (FR (FI V2 (AI (pv 1)) (R5 rfl T.b_len (AI (pv 0))) (FH _)) (BA (DG (BX EZ (Ej hu (AI (pv 0)) (AI (pv 1))) (BX bE ge_int ge_int)))) Cy)
  (BA (DG ge_int)))
theorem NZ:B5 ["cell", "salt", "mixed"] ["cell", "salt"] (Av Dt):=IS
theorem JL (T:Txt K mg W):Dy P w K mg base (CXG P w) 1 T.d__law_mixed.f T.d__law_mixed.fd ["cell", "salt"] (spM K 2 (FY W)):=by
 refine Cq (k:=0) T.d__law_mixed.F NZ rfl λ_ _ _ _ _ _ hr O hu nd pn E'=>?_
 exact (Ag (CP 2 nd (BX EZ (BX Ou (BX Gs (BX EZ (AI (pv 0)) ge_int) (AI (pv 1))) ge_int) ge_int))
  (Ag (CP 2 nd (BX EZ (BX Ou (AI (pv 2)) (AI (pv 2))) ge_int))
  (BA (DG (BX EZ (BX Ou (BX Gs (AI (pv 2)) (BX Ou ge_int (AI (pv 1)))) ge_int) ge_int)))))
theorem NY:B5 ["cell", "many", "order", "k"] ["cell", "many"] (Av Ds):=IS
theorem Nc (T:Txt K mg W):Dy P w K mg base (CXG P w) 2 T.d__law_order.f T.d__law_order.fd ["cell", "many"] (spM K 2 (Ha W)):=by
 refine Cq (k:=1) T.d__law_order.F NY rfl λ_ _ _ _ _ _ hr O hu nd pn E'=>?_
 exact (Ag (CP 2 nd (Ev (IV BC)))
  (Ag (Gw (BV O).own rfl (Ks rfl T.b_range (Ad (AI (pv 1)) BC)) (Ec 3 nd)
  (BA (Eb (bv (AI (pv 2)) (BX EZ (BX HY (B4 (JL T) (BV O).pass (hr.mono (by decide)) rfl T.d__law_mixed.m T.d__law_mixed.kp T.d__law_mixed.b (Ad (AI (pv 0)) (Ad (BX Gs ge_int (AI (pv 3))) BC))) ge_int) (BX Gs (AI (pv 3)) ge_int)) (AI (pv 3))))))
  (BA (DG (AI (pv 2))))))
theorem Om:B5 ["script", "most", "style", "many", "order", "ties", "k", "cell", "span", "other"] ["script", "most", "style"] (Av EC):=IS
theorem Os (T:Txt K mg W):Dy P w K mg base (CXG P w) 3 T.d__law_wood.f T.d__law_wood.fd ["script", "most", "style"] (spM K 3 (IX W)):=by
 refine Cq (k:=2) T.d__law_wood.F Om rfl λ_ _ _ _ _ _ hr O hu nd pn E'=>?_
 exact (Ag (CP 3 nd (BX Gs ge_int (BX EZ (BX HY (B4 (EY T) (BV O).pass (hr.mono (by decide)) rfl T.d__law_cell.m T.d__law_cell.kp T.d__law_cell.b (Ad (AI (pv 0)) (Ad ge_int BC))) ge_int) (AI (pv 1)))))
  (Ag (CP 4 nd (B4 (Nc T) (BV O).pass (hr.mono (by decide)) rfl T.d__law_order.m T.d__law_order.kp T.d__law_order.b (Ad (B4 (EY T) (BV O).pass (hr.mono (by decide)) rfl T.d__law_cell.m T.d__law_cell.kp T.d__law_cell.b (Ad (AI (pv 0)) (Ad ge_int BC))) (Ad (AI (pv 3)) BC))))
  (Ag (CP 5 nd (Ev (IV BC)))
  (Ag (Gw (BV O).own rfl (UM rfl T.b_range (Ad ge_int (Ad (AI (pv 3)) BC))) (Ec 6 nd)
  (Ag (CP 7 nd (BX HY (B4 (JL T) (BV O).pass (hr.mono (by decide)) rfl T.d__law_mixed.m T.d__law_mixed.kp T.d__law_mixed.b (Ad (BX Gs (B4 (EY T) (BV O).pass (hr.mono (by decide)) rfl T.d__law_cell.m T.d__law_cell.kp T.d__law_cell.b (Ad (AI (pv 0)) (Ad (BX Gs ge_int (AI (pv 6))) BC))) (AI (pv 6))) (Ad ge_int BC))) ge_int))
  (Ag (CP 8 nd (AI (pv 6)))
  (Ag (FR (FI (N6 hu) (AI (pv 2)) ge_int (FH _)) (BA (CP 8 nd (Lq rfl rfl T.b_min (Ad (AI (pv 6)) (Ad ge_int BC))))) Cy)
  (Ag (FR (FI (N6 hu) (AI (pv 2)) ge_int (FH _)) (BA (CP 8 nd (BX Gs ge_int (BX EZ (BX HY (AI (pv 7)) ge_int) (AI (pv 6)))))) Cy)
  (BA (FR (FI dy (BX EZ (AI (pv 7)) ge_int) ge_int (FH _)) (Ag (CP 9 nd (BX Ri (BX Ri (AI (pv 6)) ge_int) (BX EZ (BX HY (AI (pv 7)) ge_int) (AI (pv 8)))))
  (BA (Eb (Fg (AI (pv 5)) (O9 (Ad (Lq rfl rfl T.b_min (Ad (Ej hu (AI (pv 4)) (AI (pv 6))) (Ad (Ej hu (AI (pv 4)) (AI (pv 9))) BC))) (Ad (PB rfl rfl T.b_max (Ad (Ej hu (AI (pv 4)) (AI (pv 6))) (Ad (Ej hu (AI (pv 4)) (AI (pv 9))) BC))) BC))))))) Cy)))))))
  (BA (DG (O9 (Ad (AI (pv 3)) (Ad (Ff rfl rfl T.b_sorted (AI (pv 5))) BC)))))))))
theorem On:B5 ["ties", "many", "cells", "found", "cell", "one", "other", "tie"] ["ties", "many", "cells"] (Av ED):=IS
theorem Ot (T:Txt K mg W):Dy P w K mg base (CXG P w) 1 T.d__law_more.f T.d__law_more.fd ["ties", "many", "cells"] (spM K 3 (IY W)):=by
 refine Cq (k:=0) T.d__law_more.F On rfl λ_ _ _ _ _ _ hr O hu nd pn E'=>?_
 exact (Ag (CP 3 nd (Y1 rfl T.b_list (AI (pv 0))))
  (Ag (Gw (BV O).own rfl (Gx (AI (pv 2))) (Ec 4 nd)
  (Ag (CP 5 nd (BX EZ (AI (pv 4)) (AI (pv 1))))
  (Ag (CP 6 nd (BX EZ (BX HY (AI (pv 4)) (AI (pv 1))) (AI (pv 1))))
  (Ag (CP 7 nd (O9 (Ad (Lq rfl rfl T.b_min (Ad (AI (pv 5)) (Ad (AI (pv 6)) BC))) (Ad (PB rfl rfl T.b_max (Ad (AI (pv 5)) (Ad (AI (pv 6)) BC))) BC))))
  (BA (FR (Yt (bZ (FI (ZU hu) (AI (pv 5)) (AI (pv 6)) (FH _)) (Ys (Mt hu (AI (pv 7)) (AI (pv 3)))))) (BA (Eb (Fg (AI (pv 3)) (AI (pv 7))))) Cy))))))
  (BA (DG (Ff rfl rfl T.b_sorted (AI (pv 3)))))))
theorem Kf:B5 ["many", "ties", "marks", "one", "other", "old"] ["many", "ties"] (Av Cn):=IS
theorem Kl (T:Txt K mg W):Dy P w K mg base (CXG P w) 1 T.d__law_ringless.f T.d__law_ringless.fd ["many", "ties"] (spM K 2 (FJ W)):=by
 refine Cq (k:=0) T.d__law_ringless.F Kf rfl λ_ _ _ _ _ _ hr O hu nd pn E'=>?_
 exact (Ag (CP 2 nd (Ev (UL rfl rfl T.b_list rfl T.b_range (Ad (AI (pv 0)) BC))))
  (Ag (Gw (BV O).own rfl (Gx (AI (pv 1))) (O8 rfl (E8 (Ec 3 nd) (E8 (Ec 4 nd) Lp)))
  (Ag (FR (FI (N6 hu) (Ej hu (AI (pv 2)) (AI (pv 3))) (Ej hu (AI (pv 2)) (AI (pv 4))) (FH _)) (BA (DG Qd)) Cy)
  (Ag (CP 5 nd (Ej hu (AI (pv 2)) (AI (pv 4))))
  (BA (CP 2 nd (Ev (O6 (own:=["mark"]) (N':=["mark", "·1", "·2", "marks", "one", "·5", "old"]) rfl (Lv (by kernel_rfl)) (Gx (AI (pv 2))) (λ_ _ _ _ _ _=>(Ec 0 (by decide +kernel:(["mark", "·1", "·2", "marks", "one", "·5", "old"]:List Str).Nodup))) (λ_ _ _ _ _ _=>KD) (λ_ _ _ _ _ _=>(Ej hu (Ev (IV (Ad (AI (pv 0)) (Ad (Ej hu (AI (pv 3)) (AI (pv 4))) BC)))) (Y3 rfl T.b_int (Wl (N6 hu) (AI (pv 0)) (AI (pv 6)) (FH _))))))))))))
  (BA (DG Qd))))
theorem LX:B5 ["web", "caught", "e"] ["web"] (Av C2):=IS
theorem Lb (T:Txt K mg W):Dy P w K mg base (CXG P w) 7 T.d__law_refused.f T.d__law_refused.fd ["web"] (spM K 1 (Fy W)):=by
 refine Cq (k:=6) T.d__law_refused.F LX rfl λ_ _ _ _ _ _ hr O hu nd pn E'=>?_
 exact (Ag (CP 1 nd bq)
  (Ag (bd (i:=2) O nd rfl rfl rfl T.xm_GuardError T.caught_GuardError (λpn' E'=>(BA (Eb (B4 (Kk T) (BV O).pass (hr.mono (by decide)) rfl T.d_wood_colonies.m T.d_wood_colonies.kp T.d_wood_colonies.b (Ad (AI (pv 0)) BC))))) (λpn' ea=>(BA (CP 1 nd (AI (pv 2))))))
  (Ag (FR (Yt (Wa (Kr (R1 (Wg (c:=.ref W.NotWood) (cv:=.ref W.NotWood) (λ_ r=>r) (bT (Yp T.i_NotWood.1 T.i_NotWood.2)) T.is_NotWood rfl T.b_isinstance (AI (pv 1)) (Jy rfl T.x_NotWood.m rfl)))) (R0 (Kr (R1 (Wg (c:=.ty "ValueError") (cv:=.type "ValueError") (λ_ r=>r) bR T.is_ValueError rfl T.b_isinstance (AI (pv 1)) (Sh rfl T.b_ValueError PyProof.Rows.Boot.«ValueError» rfl))))))) (BA (DG Qd)) Cy)
  (BA (DG (bp (bu (Cs:=[W.BadColony,W.NotTwo,W.TooLarge]) T.isT_BadColony_NotTwo_TooLarge (Nat.le_of_ble_eq_true rfl) rfl T.b_isinstance (AI (pv 1)) (av (c:=.ref W.BadColony) (Jy rfl T.xm_BadColony rfl) (av (c:=.ref W.NotTwo) (Jy rfl T.xm_NotTwo rfl) (av (c:=.ref W.TooLarge) (Jy rfl T.xm_TooLarge rfl) dj))))))))))
theorem aO:B5 ["script", "many", "ties", "more", "web", "found"] ["script"] (Av N2):=IS
theorem bD (T:Txt K mg W):Dy P w K mg base (CXG P w) 8 T.d_law.f T.d_law.fd ["script"] (spM K 1 (Sz W)):=by
 refine Cq (k:=7) T.d_law.F aO rfl λ_ _ _ _ _ _ hr O hu nd pn E'=>?_
 exact (Ag (bg (B4 (Os T) (BV O).pass (hr.mono (by decide)) rfl T.d__law_wood.m T.d__law_wood.kp T.d__law_wood.b (Ad (AI (pv 0)) (Ad ge_int (Ad (BX EZ (B4 (EY T) (BV O).pass (hr.mono (by decide)) rfl T.d__law_cell.m T.d__law_cell.kp T.d__law_cell.b (Ad (AI (pv 0)) (Ad ge_int BC))) ge_int) BC)))) (O8 rfl (E8 (Ec 1 nd) (E8 (Ec 2 nd) Lp))))
  (Ag (CP 3 nd (BX EZ (B4 (EY T) (BV O).pass (hr.mono (by decide)) rfl T.d__law_cell.m T.d__law_cell.kp T.d__law_cell.b (Ad (AI (pv 0)) (Ad ge_int BC))) ge_int))
  (Ag (CP 2 nd (B4 (Ot T) (BV O).pass (hr.mono (by decide)) rfl T.d__law_more.m T.d__law_more.kp T.d__law_more.b (Ad (AI (pv 2)) (Ad (AI (pv 1)) (Ad (Ev (O6 (own:=["cell"]) (N':=["cell", "·1", "·2", "·3", "·4", "·5", "·6"]) rfl (Lv (by kernel_rfl)) (Gx (Wf (AI (pv 0)) (Su ge_int) (Su (BX Gs ge_int (AI (pv 3)))))) (λ_ _ _ _ _ _=>(Ec 0 (by decide +kernel:(["cell", "·1", "·2", "·3", "·4", "·5", "·6"]:List Str).Nodup))) (λ_ _ _ _ _ _=>KD) (λ_ _ _ _ _ _=>(BX HY (AI (pv 0)) ge_int)))) BC)))))
  (Ag (CP 4 nd (Y0 T.c_Web.mk' (QH T) (BV O).pass (hr.mono (by decide)) rfl T.c_Web.m T.d_Web_init.b (Ad (AI (pv 1)) (Ad (AI (pv 2)) BC))))
  (Ag (CP 5 nd (B4 (MZ T) (BV O).pass (hr.mono (by decide)) rfl T.d_is_wood.m T.d_is_wood.kp T.d_is_wood.b (Ad (AI (pv 4)) BC)))
  (Ag (FR (Yt (Wa (Kr (R1 (Wg (c:=.ty "bool") (cv:=.type "bool") (λ_ r=>r) WS (λ_ _ z=>nomatch z) rfl T.b_isinstance (AI (pv 5)) (Sh rfl T.b_bool fF rfl)))) (R0 (FI (ZU hu) (AI (pv 5)) (B4 (Kl T) (BV O).pass (hr.mono (by decide)) rfl T.d__law_ringless.m T.d__law_ringless.kp T.d__law_ringless.b (Ad (AI (pv 1)) (Ad (AI (pv 2)) BC))) (FH _))))) (BA (DG Qd)) Cy)
  (BA (DG (L2.eX (AI (pv 5)) (bo (B4 (Lb T) (BV O).pass (hr.mono (by decide)) rfl T.d__law_refused.m T.d__law_refused.kp T.d__law_refused.b (Ad (AI (pv 4)) BC))))))))))))
end
end M
namespace M
open PySem L2
open Srt (ltL)
def pairD (x:Int×Int):D:=.tup [.int x.1,.int x.2]
def nrm (x:Int×Int):Int×Int:=(if x.2 < x.1 then x.2 else x.1,if x.2 > x.1 then x.2 else x.1)
def Tt (x:Int×Int):List Int:=[x.1,x.2]
def KC (x:Int×Int):List Key:=[.inl x.1,.inl x.2]
theorem QW {x y:Int×Int} (h:KC x=KC y):x=y:=by
 unfold KC at h;simp at h;exact Prod.ext h.1 h.2
theorem Jc:∀ns:List Int,HA (ns.map D.int)=some ns
 | []=>rfl
 | n :: ns=>by
  rw [A9];unfold HA;rw [Jc ns];rfl
theorem MV:∀rs:List (List Int),(∀r∈rs,r≠[])->JJ (rs.map G7)=some rs
 | [],_=>rfl
 | [] :: rs,h=>absurd rfl (h [] A0)
 | (n :: ns) :: rs,h=>by
  rw [A9];unfold G7 JJ;rw [Jc,show Nq (λr:List Int=>D.tup (r.map D.int)) rs=rs.map G7 from rfl,MV rs λr hr=>h r (AZ _ hr)]
theorem RX (rs:List (List Int)) (h:∀r∈rs,r≠[]):JI (rs.map G7)=some ((IK rs).map G7):=by
 unfold JI
 cases rs with
 | nil=>simp [HA,IK]
 | cons r rs=>
  have:HA ((r :: rs).map G7)=none:=rfl;rw [this,MV _ h]
theorem MR (ns:List Int):JI (ns.map D.int)=some ((E5 ns).map D.int):=by
 unfold JI;rw [Jc]
def Iz (ps:List (Int×Int)):List (List Key×D):=ps.map λx=>(KC (nrm x),.bl true)
theorem V8 (ps:List (Int×Int)) (x:Int×Int):(FT (Iz ps) (KC (nrm x))).isSome=decide (nrm x∈ps.map nrm):=by
 unfold FT Iz
 induction ps with
 | nil=>rfl
 | cons y ps ih=>
  rw [A9,Ba]
  by_cases e:KC (nrm y)=KC (nrm x)
  ·rw [decide_eq_true e]
   simp [QW e]
  ·rw [decide_eq_false e]
   have e':nrm x≠nrm y:=λz=>e (by rw [z])
   simp only [A9,Ap,e',false_or];exact ih
theorem V7 (ps:List (Int×Int)) (x:Int×Int) (h:nrm x∉ps.map nrm):Gr (Iz ps) (KC (nrm x)) (.bl true)=Iz (ps++[x]):=by
 unfold Gr;rw [if_neg]
 ·simp [Iz]
 ·intro z
  obtain ⟨y,hy,e⟩:=XI.mp z;obtain ⟨a,ha,rfl⟩:=BG.mp hy;exact h (by rw [<-QW (of_decide_eq_true e)];exact List.mem_map_of_mem ha)
theorem eQ {S:Sto} {n:Nat} {kvs:List (List Key×D)} {x:Int×Int} (h:S[n]?=some (.dT kvs)) (neg:Bool):inA neg (pairD x) (.ref n) S=.ok (.bl (if neg then !(FT kvs (KC x)).isSome else (FT kvs (KC x)).isSome)) S:=by
 show FG (inD neg (pairD x) (.ref n) S) (Je neg (pairD x) (.ref n) S)=_
 have e:inD neg (pairD x) (.ref n) S=.bad:=by
  unfold inD Fp;dsimp only;rw [h]
 have e2:Nh (.ref n) (pairD x) S=some (FT kvs (KC x)):=by
  unfold Nh pairD;dsimp only;rw [h];rfl
 rw [e];show Je neg (pairD x) (.ref n) S=_;unfold Je;rw [e2]
theorem Wu {mo mi mv:ME} {e:Lo} {S:Sto} {d:Nat} {kvs:List (List Key×D)} {x:Int×Int} {v:D} (hv:mv e S=.ok v S) (ho:mo e S=.ok (.ref d) S) (hi:mi e S=.ok (pairD x) S) (h:S[d]?=some (.dT kvs)) (hl:kvs.length < sizeLine) :
  Gq mo mi mv e S=.ok (.nx e) (S.set d (.dT (Gr kvs (KC x) v))):=by
 unfold Gq;rw [hv];dsimp only [Res.lift];rw [ho];dsimp only [Res.lift];rw [hi];dsimp only [Res.lift]
 have:UV (.ref d) (pairD x) v S=some (S.set d (.dT (Gr kvs (KC x) v))):=by
  unfold UV pairD;dsimp only;rw [h];show (if kvs.length < sizeLine then some (S.set d (.dT (Gr kvs (KC x) v))) else none)=_;rw [if_pos hl]
 rw [this]
theorem ix0 (x:Int×Int) (S:Sto):ixA (pairD x) (.int 0) S=.ok (.int x.1) S:=rfl
theorem ix1 (x:Int×Int) (S:Sto):ixA (pairD x) (.int 1) S=.ok (.int x.2) S:=rfl
def Fit (p:Int) (x:Int×Int):Prop:=(nrm x).1≠(nrm x).2/\0<=(nrm x).1/\(nrm x).2 < p
abbrev W5 (W:Wd):MS:=BW (B3 5 (Mf (AY (mQ JM (AY (AL 3) (AY (AL 4) BH))) (AY (mQ J9 (AY (AL 3) (AY (AL 4) BH))) BH))))
  (BW (sIf (mB (m2 (eqD false) (m2 ixA (AL 5) (mC (.int 0))) (m2 ixA (AL 5) (mC (.int 1))))) (DE W.BadTie (AY (mC (.str "a tie has one place twice")) BH)) sNx)
  (BW (sIf (mOr (mB (m2 ltD (m2 ixA (AL 5) (mC (.int 0))) (mC (.int 0)))) (mB (m2 geD (m2 ixA (AL 5) (mC (.int 1))) (AL 0)))) (DE W.BadTie (AY (mC (.str "a tie has a place that is not there")) BH)) sNx)
  (BW (sIf (mB (m2 (inA false) (AL 5) (AL 2))) (DE W.BadTie (AY (mC (.str "a tie is there twice")) BH)) sNx)
  (Gq (AL 2) (AL 5) (mC (.bl true))))))
theorem VD {W:Wd} {p:Int} {t:D} {n:Nat} {S:Sto} {x:Int×Int} {z5:Option D} {ps:List (Int×Int)} (hn:S[n]?=some (.dT (Iz ps))) (hl:ps.length<=100000) :
  (Fit p x/\nrm x∉ps.map nrm->W5 W [some (.int p),some t,some (.ref n),some (.int x.1),some (.int x.2),z5] S=.ok (.nx [some (.int p),some t,some (.ref n),some (.int x.1),some (.int x.2),some (pairD (nrm x))]) (S.set n (.dT (Iz (ps++[x]))))) /\
  (¬(Fit p x/\nrm x∉ps.map nrm)->W5 W [some (.int p),some t,some (.ref n),some (.int x.1),some (.int x.2),z5] S=.ok (.ex W.BadTie [some (.int p),some t,some (.ref n),some (.int x.1),some (.int x.2),some (pairD (nrm x))]) S):=by
 have e0:B3 5 (Mf (AY (mQ JM (AY (AL 3) (AY (AL 4) BH))) (AY (mQ J9 (AY (AL 3) (AY (AL 4) BH))) BH))) [some (.int p),some t,some (.ref n),some (.int x.1),some (.int x.2),z5] S =
   .ok (.nx [some (.int p),some t,some (.ref n),some (.int x.1),some (.int x.2),some (pairD (nrm x))]) S:=
  JX (i:=5) (RQ (ds:=[.int (nrm x).1,.int (nrm x).2]) (Bx (YA (ds:=[.int x.1,.int x.2]) (S1:=S) rfl rfl) (Bx (YA (ds:=[.int x.1,.int x.2]) (S1:=S) rfl rfl) rfl)) (by simp))
 have t1:=Fu (t:=mB (m2 (eqD false) (m2 ixA (AL 5) (mC (.int 0))) (m2 ixA (AL 5) (mC (.int 1))))) (a:=DE W.BadTie (AY (mC (.str "a tie has one place twice")) BH)) (b:=sNx) (e:=[some (.int p),some t,some (.ref n),some (.int x.1),some (.int x.2),some (pairD (nrm x))]) (S:=S) (S1:=S)
  (Ji (C5 (C5 rfl rfl (ix0 _ _)) (C5 rfl rfl (ix1 _ _)) (cF (b:=decide ((nrm x).1=(nrm x).2)) rfl)))
 have t2:mOr (mB (m2 ltD (m2 ixA (AL 5) (mC (.int 0))) (mC (.int 0)))) (mB (m2 geD (m2 ixA (AL 5) (mC (.int 1))) (AL 0))) [some (.int p),some t,some (.ref n),some (.int x.1),some (.int x.2),some (pairD (nrm x))] S=.ok (decide ((nrm x).1 < 0∨p<=(nrm x).2)) S:=by
  by_cases c:(nrm x).1 < 0
  ·rw [Vz (Ji (C5 (C5 rfl rfl (ix0 _ _)) rfl (Mj (decide_eq_true c))))]
   simp [c]
  ·rw [Rg (Ji (C5 (C5 rfl rfl (ix0 _ _)) rfl (Mj (decide_eq_false c)))),Ji (C5 (C5 rfl rfl (ix1 _ _)) rfl (cA (b:=decide (p<=(nrm x).2)) rfl))]
   simp [c]
 have t3:mB (m2 (inA false) (AL 5) (AL 2)) [some (.int p),some t,some (.ref n),some (.int x.1),some (.int x.2),some (pairD (nrm x))] S=.ok (decide (nrm x∈ps.map nrm)) S:=by
  refine Ji (C5 rfl rfl ?_);rw [eQ hn,<-V8];rfl
 have rz:∀s:Str,DE W.BadTie (AY (mC (.str s)) BH) [some (.int p),some t,some (.ref n),some (.int x.1),some (.int x.2),some (pairD (nrm x))] S=.ok (.ex W.BadTie [some (.int p),some t,some (.ref n),some (.int x.1),some (.int x.2),some (pairD (nrm x))]) S:=λs=>MW rfl (by simp)
 constructor
 ·rintro ⟨⟨f1,f2,f3⟩,f4⟩
  rw [decide_eq_false f1,if_neg AS] at t1;have t2':=Fu (a:=DE W.BadTie (AY (mC (.str "a tie has a place that is not there")) BH)) (b:=sNx) t2;rw [decide_eq_false (by lia),if_neg AS] at t2';have t3':=Fu (a:=DE W.BadTie (AY (mC (.str "a tie is there twice")) BH)) (b:=sNx) t3;rw [decide_eq_false f4,if_neg AS] at t3';unfold W5;rw [Bn e0,Bn (t1.trans rfl),Bn (t2'.trans rfl),Bn (t3'.trans rfl),Wu (x:=nrm x) rfl rfl rfl hn (by unfold Iz;rw [AG];exact Bk hl (by decide)),V7 _ _ f4]
 ·intro nf
  unfold W5;rw [Bn e0]
  by_cases f1:(nrm x).1=(nrm x).2
  ·rw [decide_eq_true f1,if_pos rfl] at t1
   exact Oj (t1.trans (rz _))
  rw [decide_eq_false f1,if_neg AS] at t1;rw [Bn (t1.trans rfl)];have t2':=Fu (a:=DE W.BadTie (AY (mC (.str "a tie has a place that is not there")) BH)) (b:=sNx) t2
  by_cases f2:(nrm x).1 < 0∨p<=(nrm x).2
  ·rw [decide_eq_true f2,if_pos rfl] at t2'
   exact Oj (t2'.trans (rz _))
  rw [decide_eq_false f2,if_neg AS] at t2';rw [Bn (t2'.trans rfl)];have t3':=Fu (a:=DE W.BadTie (AY (mC (.str "a tie is there twice")) BH)) (b:=sNx) t3
  by_cases f3:nrm x∈ps.map nrm
  ·rw [decide_eq_true f3,if_pos rfl] at t3'
   exact Oj (t3'.trans (rz _))
  ·exact absurd ⟨⟨f1,by lia,by lia⟩,f3⟩ nf
end M
namespace M
open PySem L2
open Srt (ltL)
theorem UH {m:ME} {e:Lo} {S S1:Sto} {d:D} {xs:List D} (h:m e S=.ok d S1) (hx:Ho d S1=some xs):FX m e S=.ok (Ho d) S1:=by
 unfold FX;rw [h];dsimp only [Res.bind];rw [hx]
def Dj (p:Int) (ps:List (Int×Int)):Prop:=(∀x∈ps,Fit p x)/\(ps.map nrm).Nodup
theorem Dj.snoc {p:Int} {ps:List (Int×Int)} {x:Int×Int}:Dj p (ps++[x])↔Dj p ps/\Fit p x/\nrm x∉ps.map nrm:=by
 unfold Dj;rw [B6,Ei]
 constructor
 ·rintro ⟨h1,h2,h3,h4⟩
  exact ⟨⟨λy hy=>h1 y (by simp [hy]),h2⟩,h1 x (by simp),λz=>h4 _ z _ (by simp) rfl⟩
 ·rintro ⟨⟨h1,h2⟩,h3,h4⟩
  refine ⟨λy hy=>?_,h2,by simp,λa ha b hb e=>?_⟩
  ·rcases Au.mp hy with hy | hy
   ·exact h1 y hy
   ·rw [Ab.mp hy];exact h3
  ·simp at hb
   subst hb;subst e;exact h4 ha
theorem Dj.take {p:Int} {ps:List (Int×Int)} (h:Dj p ps) (i:Nat):Dj p (ps.take i):=by
 refine ⟨λx hx=>h.1 x (List.mem_of_mem_take hx),?_⟩;rw [Zr];exact h.2.sublist (Uu _ _)
theorem take_snoc {α:Type} {l:List α} {i:Nat} {x:α} (h:l[i]?=some x):l.take (i+1)=l.take i++[x]:=by
 rw [K6,h];rfl
theorem PL (W:Wd) {p:Int} {d:D} {S:Sto} {ps:List (Int×Int)} (hv:∀S',Keeps S S'->Ho d S'=some (ps.map pairD)) (hl:ps.length<=100000) :
  ∃f S',IL (FX (AL 1)) (II 2 (DD (tgN 3) (DD (tgN 4) JH))) (W5 W) [some (.int p),some d,some (.ref S.length),none,none,none] (S++[.dT []])=.ok f S' /\
   ((Dj p ps/\(∃z3 z4 z5,f=.nx [some (.int p),some d,some (.ref S.length),z3,z4,z5])/\S'=S++[.dT (Iz ps)])∨(¬Dj p ps/\∃e',f=.ex W.BadTie e'/\Keeps S S')):=by
 rw [Ku (UH (m:=AL 1) (d:=d) (S1:=S++[.dT []]) rfl (hv _ (Keeps.app _ _)))];refine Mu (xs:=ps.map pairD) (λi e S'=>(∃z3 z4 z5,e=[some (.int p),some d,some (.ref S.length),z3,z4,z5])/\S'=S++[.dT (Iz (ps.take i))]/\Dj p (ps.take i)) _ ⟨⟨none,none,none,rfl⟩,by simp [Iz],by simp [Dj]⟩ ?_ ?_ ?_
 ·rintro i e S' ⟨_,rfl,_⟩
  exact hv _ (Keeps.app _ _)
 ·rintro i y e S' hy ⟨⟨z3,z4,z5,rfl⟩,rfl,af⟩
  rw [Aj] at hy
  cases hx:ps[i]? with
  | none=>rw [hx] at hy;cases hy
  | some x=>
   rw [hx] at hy;cases hy;have hlt:=(AD.mp hx).1;refine ⟨[some (.int p),some d,some (.ref S.length),some (.int x.1),some (.int x.2),z5],_,rfl,?_⟩;obtain ⟨s1,s2⟩:=VD (W:=W) (p:=p) (t:=d) (z5:=z5) (x:=x) (Di S (.dT (Iz (ps.take i)))) (by rw [CH];lia)
   by_cases c:Fit p x/\nrm x∉(ps.take i).map nrm
   ·refine ⟨_,_,s1 c,⟨⟨_,_,_,rfl⟩,?_,?_⟩⟩
    ·rw [take_snoc hx];simp
    ·rw [take_snoc hx];exact Dj.snoc.mpr ⟨af,c⟩
   ·refine ⟨_,_,s2 c,.inr ⟨λa=>c ?_,_,rfl,Keeps.app _ _⟩⟩
    have:=a.take (i+1);rw [take_snoc hx] at this;exact (Dj.snoc.mp this).2
 ·rintro e S' ⟨z,rfl,af⟩
  rw [AG,Lg] at *
  obtain ⟨z3,z4,z5,rfl⟩:=z;exact .inl ⟨af,⟨_,_,_,rfl⟩,rfl⟩
def IH (ps:List (Int×Int)):List (List Int):=IK (ps.map λx=>Tt (nrm x))
theorem PM (W:Wd) {p:Int} {d:D} {S:Sto} {ps:List (Int×Int)} (hv:∀S',Keeps S S'->Ho d S'=some (ps.map pairD)) (hl:ps.length<=100000) (hf:Dj p ps) :
  ∃S',Ee W [.int p,d] S=.ok (.tup ((IH ps).map G7)) S'/\Keeps S S':=by
 obtain ⟨f,S1,h1,⟨_,⟨z3,z4,z5,rfl⟩,rfl⟩ | ⟨h,_⟩⟩:=PL W hv hl (p:=p)
 ·have hi:Ft (.ref S.length) (S++[.dT (Iz ps)])=some ((ps.map λx=>Tt (nrm x)).map G7):=by
   unfold Ft;dsimp only;rw [Di];dsimp only;unfold Iz;rw [Be,Be];rfl
  have hs:=Io (m:=AL 2) (e:=[some (.int p),some d,some (.ref S.length),z3,z4,z5]) (S:=S++[.dT (Iz ps)]) rfl hi (RX _ (by intro r hr;obtain ⟨x,_,rfl⟩:=BG.mp hr;simp [Tt]));refine ⟨S++[.dT (Iz ps)]++[.lst ((IH ps).map G7)],IM ?_,(Keeps.app S _).trans (Keeps.app _ _)⟩;refine Jm (Bn (e:=[some (.int p),some d,none,none,none,none]) (e1:=[some (.int p),some d,some (.ref S.length),none,none,none]) (S:=S) (S1:=S++[.dT []]) rfl) ?_;refine Jm (Bn h1) ?_;exact HV (Ju hs (ES (Di _ _)))
 ·exact absurd hf h
end M
namespace M
open PySem L2
def CA (ts:List (Int×Int)) (x:Nat):List Int:=ts.flatMap λt=>(if t.1=(x:Int) then [t.2] else [])++(if t.2=(x:Int) then [t.1] else [])
theorem QJ (ts:List (Int×Int)) (t:Int×Int) (x:Nat):CA (ts++[t]) x=CA ts x++((if t.1=(x:Int) then [t.2] else [])++(if t.2=(x:Int) then [t.1] else [])):=by
 unfold CA;rw [List.flatMap_append];simp
def EU (p:Nat) (F:Nat->List Int):Sto:=(CT p).map λx=>Ob.lst ((F x).map D.int)
def De (k p:Nat):List D:=(CT p).map λx=>D.ref (k+x)
def stN (S:Sto) (p:Nat) (F:Nat->List Int):Sto:=S++EU p F++[.lst (De S.length p)]
theorem Fq (p:Nat) (F:Nat->List Int):(EU p F).length=p:=by simp [EU]
theorem Og (S:Sto) (p:Nat) (F:Nat->List Int):(stN S p F).length=S.length+p+1:=by simp [stN,Fq];lia
theorem Kc (S:Sto) (p:Nat) (F:Nat->List Int):Keeps S (stN S p F):=(Keeps.app S _).trans (Keeps.app _ _)
theorem IJ (S:Sto) (p:Nat) (F:Nat->List Int):(stN S p F)[S.length+p]?=some (.lst (De S.length p)):=by
 have:S.length+p=(S++EU p F).length:=by simp [Fq]
 unfold stN;rw [this];exact Di _ _
theorem HS (S:Sto) {p a:Nat} (F:Nat->List Int) (h:a < p):(stN S p F)[S.length+a]?=some (.lst ((F a).map D.int)):=by
 unfold stN;rw [At,Aw (by lia),AV (by rw [Fq];lia),show S.length+a - S.length=a by lia];unfold EU;rw [Aj,C8 h];rfl
theorem Sa (S:Sto) {p a:Nat} (F:Nat->List Int) (ys:List Int) (h:a < p):(stN S p F).set (S.length+a) (.lst (ys.map D.int))=stN S p (λx=>if x=a then ys else F x):=by
 apply K8
 intro j
 by_cases e:S.length+a=j
 ·subst e
  rw [A3 (by rw [Og];lia),HS _ _ h,if_pos rfl]
 ·rw [Al e]
  by_cases h1:j < S.length
  ·rw [(Kc S p F).2 j h1,(Kc S p _).2 j h1]
  by_cases h2:j - S.length < p
  ·have e2:j=S.length+(j - S.length):=by lia
   rw [e2,HS S F h2,HS S _ h2,if_neg (by lia)]
  by_cases h3:j=S.length+p
  ·subst h3
   rw [IJ,IJ]
  ·rw [CB (by rw [Og];lia),CB (by rw [Og];lia)]
theorem Sq {S:Sto} {p a:Nat} (F:Nat->List Int) (h:a < p):ixA (.ref (S.length+p)) (.int a) (stN S p F)=.ok (.ref (S.length+a)) (stN S p F):=by
 show FG (ixD _ _ _) _=_;have e1:Fp (.ref (S.length+p)) (stN S p F)=some (De S.length p):=ES (IJ S p F)
 have e2:atI (De S.length p) (a:Int)=some (.ref (S.length+a)):=by
  unfold atI ixN;rw [show (De S.length p).length=p by simp [De],if_pos (by lia),if_pos (by lia)];simp only [AU,B1];unfold De;rw [Aj,C8 h];rfl
 have:ixD (.ref (S.length+p)) (.int a) (stN S p F)=.ok (.ref (S.length+a)) (stN S p F):=by
  unfold ixD;rw [e1];dsimp only;rw [e2]
 rw [this];rfl
theorem VR (S:Sto):∀p:Nat,S++EU (p+1) (λ_=>[])=S++EU p (λ_=>[])++[.lst []]:=λp=>by
 unfold EU;rw [NG,B6,At];rfl
theorem Ts {p:Nat} (hp:p<=60) {mp:ME} {e:Lo} {S:Sto} (h0:mp e S=.ok (.int p) S) :
  Hq 1 (iR1 (AY mp BH)) (tgN 0) JN (E7 (Df BH)) e S=.ok (De S.length p) (S++EU p λ_=>[]):=by
 have hi:iR1 (AY mp BH) e S=.ok (Fj (D6 0 p)) S:=by
  have:=Rz (ml:=AY mp BH) (e:=e) (S:=S) (S1:=S) (j:=p) (Bx h0 rfl) (by lia) (by lia);simpa using this
 obtain ⟨r,S1,q1,e',⟨z,_⟩,rfl,rfl⟩:=TC (v:=Fj (D6 0 p)) (g:=tgN 0) (c:=JN) (m:=E7 (Df BH)) (xs:=D6 0 p) (e:=none :: e) (S:=S)
  (λi e' S' acc=>(∃z,e'=z :: e)/\S'=S++EU i (λ_=>[])/\acc=De S.length i)
  ⟨⟨none,rfl⟩,by simp [EU],rfl⟩ (λ_ _ _ _ _=>rfl)
  (by
   rintro i d e' S' acc hd ⟨⟨z,rfl⟩,rfl,rfl⟩;obtain ⟨hi,rfl⟩:=QC hd;refine ⟨by simp [De];exact Bk (m:=60) (by lia) (by decide),some (.int (0+i)) :: e,_,rfl,true,_,rfl,.inl ⟨rfl,.ref (S++EU i λ_=>[]).length,_,rfl,⟨_,rfl⟩,(VR S i).symm,?_⟩⟩;unfold De;rw [NG,B6,AR,Fq]
   rfl)
 rw [N4] at q1;exact (PJ hi).trans q1
abbrev TH:MS:=BW (C4 (JA (m2 ixA (AL 2) (AL 3)) (AL 4))) (C4 (JA (m2 ixA (AL 2) (AL 4)) (AL 3)))
def In (p:Nat) (t:Int×Int):Prop:=0<=t.1/\t.1 < p/\0<=t.2/\t.2 < p/\t.1≠t.2
theorem Tr {p:Nat} {S:Sto} {F:Nat->List Int} {t:Int×Int} {d0 d1:D} (ht:In p t) (hF:∀x,(F x).length < 200000) :
  TH [some d0,some d1,some (.ref (S.length+p)),some (.int t.1),some (.int t.2)] (stN S p F)=.ok (.nx [some d0,some d1,some (.ref (S.length+p)),some (.int t.1),some (.int t.2)])
   (stN S p λx=>F x++((if t.1=(x:Int) then [t.2] else [])++(if t.2=(x:Int) then [t.1] else []))):=by
 obtain ⟨a,ha⟩:∃a:Nat,t.1=a:=⟨t.1.toNat,by have:=ht.1;lia⟩
 obtain ⟨b,hb⟩:∃b:Nat,t.2=b:=⟨t.2.toNat,by have:=ht.2.2.1;lia⟩
 obtain ⟨_,h2,_,h4,h5⟩:=ht
 have hab:a≠b:=λe=>h5 (by rw [ha,hb,e])
 rw [ha,hb]
 have hz:∀x,((F x).map D.int).length < sizeLine:=λx=>by rw [AG];exact cw (hF x) (by decide)
 have s1:=ND (mo:=m2 ixA (AL 2) (AL 3)) (ma:=AL 4) (e:=[some d0,some d1,some (.ref (S.length+p)),some (.int a),some (.int b)]) (S:=stN S p F) (S1:=stN S p F) (S2:=stN S p F) (n:=S.length+a) (y:=.int b) (C5 rfl rfl (Sq F (by lia))) (HS S F (by lia)) rfl (HS S F (by lia)) (hz a);rw [show (F a).map D.int++[D.int b]=(F a++[(b:Int)]).map D.int by simp,Sa S F _ (by lia)] at s1
 have hrow:(stN S p λx=>if x=a then F a++[(b:Int)] else F x)[S.length+b]?=some (.lst ((F b).map D.int)):=by
  rw [HS S _ (by lia),if_neg (Bv hab)]
 have s2:=ND (mo:=m2 ixA (AL 2) (AL 4)) (ma:=AL 3) (e:=[some d0,some d1,some (.ref (S.length+p)),some (.int a),some (.int b)]) (S:=stN S p λx=>if x=a then F a++[(b:Int)] else F x) (S1:=stN S p λx=>if x=a then F a++[(b:Int)] else F x) (S2:=stN S p λx=>if x=a then F a++[(b:Int)] else F x) (n:=S.length+b) (y:=.int a) (C5 rfl rfl (Sq _ (by lia))) hrow rfl hrow (hz b);rw [show (F b).map D.int++[D.int a]=(F b++[(a:Int)]).map D.int by simp,Sa S _ _ (by lia)] at s2;unfold TH;rw [Bn (Gc s1),Gc s2]
 congr 2
 funext x
 by_cases e1:x=b
 ·subst e1
  have:¬((a:Int)=(x:Int)):=by lia
  simp [this]
 ·by_cases e2:x=a
  ·subst e2
   have:¬((b:Int)=(x:Int)):=by lia
   simp [e1,this]
  ·have h1:¬((a:Int)=(x:Int)):=by lia
   have h2:¬((b:Int)=(x:Int)):=by lia
   simp [e1,e2,h1,h2]
end M
namespace M
open PySem L2
theorem Ro (ts:List (Int×Int)) (x:Nat):(CA ts x).length<=2 * ts.length:=by
 unfold CA
 induction ts with
 | nil=>simp
 | cons t ts ih=>
  rw [Ux,AR,Am]
  have:((if t.1=(x:Int) then [t.2] else [])++(if t.2=(x:Int) then [t.1] else [])).length<=2:=by split <;> split <;> simp
  lia
def FD (p:Nat) (ts:List (Int×Int)):List D:=(CT p).map λx=>.tup ((E5 (CA ts x)).map D.int)
theorem Yg (W:Wd) {p:Nat} (hp:p<=60) {ts:List (Int×Int)} (ht:∀t∈ts,In p t) (hl:ts.length<=90000) (S:Sto) :
  ∃S',Ed W [.int p,.tup (ts.map pairD)] S=.ok (.tup (FD p ts)) S'/\Keeps S S':=by
 have a1:=JX (i:=2) (Rm (Ts hp (mp:=AL 0) (e:=[some (.int p),some (.tup (ts.map pairD)),none,none,none]) (S:=S) rfl));have e1:(S++EU p λ_=>[])++[.lst (De S.length p)]=stN S p (CA []):=rfl
 have e2:(S++EU p λ_=>[]).length=S.length+p:=by simp [Fq]
 rw [e1,e2] at a1
 obtain ⟨f,S1,h1,⟨z3,z4,rfl⟩,rfl⟩:=Mu (v:=Fj (ts.map pairD)) (g:=II 2 (DD (tgN 3) (DD (tgN 4) JH))) (b:=TH) (xs:=ts.map pairD) (e:=[some (.int p),some (.tup (ts.map pairD)),some (.ref (S.length+p)),none,none]) (S:=stN S p (CA []))
  (λi e S'=>(∃z3 z4,e=[some (.int p),some (.tup (ts.map pairD)),some (.ref (S.length+p)),z3,z4])/\S'=stN S p (CA (ts.take i)))
  (λf S'=>(∃z3 z4,f=.nx [some (.int p),some (.tup (ts.map pairD)),some (.ref (S.length+p)),z3,z4])/\S'=stN S p (CA ts))
  ⟨⟨none,none,rfl⟩,rfl⟩ (λ_ _ _ _=>rfl)
  (by
   rintro i y e S' hy ⟨⟨z3,z4,rfl⟩,rfl⟩;rw [Aj] at hy
   cases hx:ts[i]? with
   | none=>rw [hx] at hy;cases hy
   | some t=>
    rw [hx] at hy;cases hy;refine ⟨[some (.int p),some (.tup (ts.map pairD)),some (.ref (S.length+p)),some (.int t.1),some (.int t.2)],_,rfl,_,_,Tr (ht t (BF hx)) (λx=>?_),⟨_,_,rfl⟩,?_⟩
    ·have:=Ro (ts.take i) x
     rw [CH] at this;exact Bk (Ao this (Nat.mul_le_mul_left 2 (Ao (XQ _ _) hl))) (by decide)
    ·rw [take_snoc hx,show CA (ts.take i++[t])=_ from funext λx=>QJ _ _ x])
  (by
   rintro e S' ⟨⟨z3,z4,rfl⟩,rfl⟩;rw [AG,Lg]
   exact ⟨⟨_,_,rfl⟩,rfl⟩)
 have a2:=(Ku (g:=II 2 (DD (tgN 3) (DD (tgN 4) JH))) (b:=TH) (QZ (m:=AL 1) (e:=[some (.int p),some (.tup (ts.map pairD)),some (.ref (S.length+p)),none,none]) (S:=stN S p (CA [])) (S1:=stN S p (CA [])) (xs:=ts.map pairD) rfl)).trans h1
 obtain ⟨r,S2,q1,e',⟨z,_⟩,K,rfl⟩:=TC (v:=Ho (.ref (S.length+p))) (g:=tgN 0) (c:=JN) (m:=Fs (DP (AL 0))) (xs:=De S.length p) (e:=[none,some (.int p),some (.tup (ts.map pairD)),some (.ref (S.length+p)),z3,z4]) (S:=stN S p (CA ts))
  (λi e' S' acc=>(∃z,e'=[z,some (.int p),some (.tup (ts.map pairD)),some (.ref (S.length+p)),z3,z4])/\Keeps (stN S p (CA ts)) S'/\acc=(CT i).map λx=>.tup ((E5 (CA ts x)).map D.int))
  ⟨⟨none,rfl⟩,.refl _,rfl⟩ (λi e' S' acc h=>En (h.2.1.at (IJ S p _)))
  (by
   rintro i d e' S' acc hd ⟨⟨z,rfl⟩,K,rfl⟩
   have hi:i < p:=by
    have:=(AD.mp hd).1;simpa [De] using this
   unfold De at hd;rw [Aj,C8 hi] at hd;cases hd;have hit:Ft (.ref (S.length+i)) S'=some ((CA ts i).map D.int):=Mq (K.at (HS S _ hi));have hs:=Io (m:=AL 0) (e:=[some (.ref (S.length+i)),some (.int p),some (.tup (ts.map pairD)),some (.ref (S.length+p)),z3,z4]) (S:=S') (S1:=S') rfl hit (MR _);refine ⟨by simp;exact Bk (m:=60) (by lia) (by decide),[some (.ref (S.length+i)),some (.int p),some (.tup (ts.map pairD)),some (.ref (S.length+p)),z3,z4],_,rfl,true,_,rfl,.inl ⟨rfl,_,_,Ju hs (ES (Di _ _)),⟨_,rfl⟩,K.trans (Keeps.app _ _),?_⟩⟩;rw [NG,B6]
   rfl)
 have a3:=(PJ (n:=1) (g:=tgN 0) (c:=JN) (m:=Fs (DP (AL 0))) (IU (m:=AL 2) (e:=[some (.int p),some (.tup (ts.map pairD)),some (.ref (S.length+p)),z3,z4]) (S:=stN S p (CA ts)) (S1:=stN S p (CA ts)) rfl (IJ S p _))).trans q1;rw [show (De S.length p).length=p by simp [De]] at a3;refine ⟨S2++[.lst (FD p ts)],IM ?_,((Kc S p _).trans K).trans (Keeps.app _ _)⟩;unfold Ig;refine Jm (Bn a1) ?_;refine Jm (Bn a2) ?_;exact HV (Ju (Rm a3) (ES (Di _ _)))
end M
namespace M
open PySem L2
open Srt (ltL)
def toP (r:List Int):Int×Int:=(r.getD 0 0,r.getD 1 0)
def GU (ps:List (Int×Int)):List (Int×Int):=(IH ps).map toP
theorem MM {ps:List (Int×Int)} {r:List Int} (h:r∈IH ps):∃x∈ps,r=Tt (nrm x):=by
 have:=(Fo _).mem_iff.mp h;obtain ⟨x,hx,rfl⟩:=BG.mp this;exact ⟨x,hx,rfl⟩
theorem Th (ps:List (Int×Int)):(GU ps).map Tt=IH ps:=by
 unfold GU;rw [Be]
 conv=>rhs;rw [<-JF (IH ps)]
 refine B0 λr hr=>?_
 obtain ⟨x,_,rfl⟩:=MM hr;rfl
theorem RS (ps:List (Int×Int)):(IH ps).map G7=(GU ps).map pairD:=by
 rw [<-Th,Be];rfl
theorem VC {ps:List (Int×Int)} {t:Int×Int} (h:t∈GU ps):∃x∈ps,t=nrm x:=by
 obtain ⟨r,hr,rfl⟩:=BG.mp h;obtain ⟨x,hx,rfl⟩:=MM hr;exact ⟨x,hx,rfl⟩
theorem Im (ps:List (Int×Int)):(GU ps).Perm (ps.map nrm):=by
 unfold GU IH;have:=(Fo (ps.map λx=>Tt (nrm x))).map toP;refine this.trans ?_;rw [Be];exact SM rfl
theorem bF (x:Int×Int):(nrm x).1<=(nrm x).2:=by
 unfold nrm;dsimp only
 split <;> split <;> lia
theorem Fit.in {p:Nat} {x:Int×Int} (h:Fit p x):In p (nrm x):=by
 obtain ⟨h1,h2,h3⟩:=h;have:=bF x;exact ⟨h2,by lia,by lia,h3,h1⟩
structure HE (W:Wd) (S:Sto) (q p:Nat) (ts:List (Int×Int)):Prop where
 at_:∃fs:List (Str×D),S[q]?=some (.ins W.Web fs)/\fs.lookup ("places" : Str)=some (.int p)/\fs.lookup ("ties" : Str)=some (.tup (ts.map pairD))/\fs.lookup ("near_sets" : Str)=some (.tup (FD p ts))
theorem HE.keeps {W:Wd} {S S':Sto} {q p:Nat} {ts:List (Int×Int)} (h:HE W S q p ts) (k:Keeps S S'):HE W S' q p ts:=by
 obtain ⟨fs,h1,h2⟩:=h.at_;exact ⟨fs,k.at h1,h2⟩
theorem HE.places {W:Wd} {S:Sto} {q p:Nat} {ts:List (Int×Int)} (h:HE W S q p ts) {m:ME} {e:Lo} {S0:Sto} (hm:m e S0=.ok (.ref q) S):Hu W.Web "places" m e S0=.ok (.int p) S:=by
 obtain ⟨fs,h1,h2,_⟩:=h.at_;exact PD hm h1 h2
theorem HE.sets {W:Wd} {S:Sto} {q p:Nat} {ts:List (Int×Int)} (h:HE W S q p ts) {m:ME} {e:Lo} {S0:Sto} (hm:m e S0=.ok (.ref q) S):Hu W.Web "near_sets" m e S0=.ok (.tup (FD p ts)) S:=by
 obtain ⟨fs,h1,_,_,h2⟩:=h.at_;exact PD hm h1 h2
theorem d8:¬(("places" : Str) = "ties"):=by decide +kernel
theorem d9:¬(("places" : Str) = "near_sets"):=by decide +kernel
theorem d7:¬(("ties" : Str) = "near_sets"):=by decide +kernel
theorem put2 (a b:D):LY "ties" b [(("places" : Str),a)]=([("places",a),("ties",b)]:List (Str×D)):=by
 show (if ("places" : Str) = "ties" then _ else _)=_;rw [if_neg d8];rfl
theorem put3 (a b c:D):LY "near_sets" c [(("places" : Str),a),("ties",b)]=([("places",a),("ties",b),("near_sets",c)]:List (Str×D)):=by
 show (if ("places" : Str) = "near_sets" then _ else _)=_;rw [if_neg d9]
 have:LY "near_sets" c [(("ties" : Str),b)]=([("ties",b),("near_sets",c)]:List (Str×D)):=by
  show (if ("ties" : Str) = "near_sets" then _ else _)=_;rw [if_neg d7];rfl
 rw [this]
theorem ZZ (a b c:D):([("places",a),("ties",b),("near_sets",c)]:List (Str×D)).lookup ("places" : Str)=some a:=by
 rw [Bd,show (("places" : Str)=="places")=true by decide +kernel]
theorem ZY (a b c:D):([("places",a),("ties",b),("near_sets",c)]:List (Str×D)).lookup ("ties" : Str)=some b:=by
 rw [Bd,show (("ties" : Str)=="places")=false by decide +kernel];dsimp only;rw [Bd,show (("ties" : Str)=="ties")=true by decide +kernel]
theorem eK (a b c:D):([("places",a),("ties",b),("near_sets",c)]:List (Str×D)).lookup ("near_sets" : Str)=some c:=by
 rw [Bd,show (("near_sets" : Str)=="places")=false by decide +kernel];dsimp only;rw [Bd,show (("near_sets" : Str)=="ties")=false by decide +kernel];dsimp only;rw [Bd,show (("near_sets" : Str)=="near_sets")=true by decide +kernel]
theorem bI (a b:D):([("places",a),("ties",b)]:List (Str×D)).lookup ("ties" : Str)=some b:=by
 rw [Bd,show (("ties" : Str)=="places")=false by decide +kernel];dsimp only;rw [Bd,show (("ties" : Str)=="ties")=true by decide +kernel]
end M
namespace M
open PySem L2
end M
namespace M
open PySem L2
theorem V5 {W:Wd} {S:Sto} {q p:Nat} {ts:List (Int×Int)} (hw:HE W S q p ts) (x:Int):DQ W [.ref q,.int x] S=if 0<=x/\x < p then .ok .non S else .err W.NoPlace S:=by
 have t:Ja (mB (m3 leD ltD (mC (.int 0)) (AL 1) (Hu W.Web "places" (AL 0)))) [some (.ref q),some (.int x)] S=.ok (decide ¬(0<=x/\x < p)) S:=by
  by_cases h1:0<=x
  ·by_cases h2:x < p
   ·rw [IR (b:=true) (Ji (WH rfl rfl (Ml (decide_eq_true h1)) (hw.places rfl) (Mj (decide_eq_true h2))))]
    simp [h1,h2]
   ·rw [IR (b:=false) (Ji (WH rfl rfl (Ml (decide_eq_true h1)) (hw.places rfl) (Mj (decide_eq_false h2))))]
    simp [h2]
  ·rw [IR (b:=false) (Ji (eI rfl rfl (Ml (decide_eq_false h1))))]
   simp [h1]
 have t':=Fu (a:=DE W.NoPlace (AY (mC (.str "the web has no such place")) BH)) (b:=sNx) t
 by_cases c:0<=x/\x < p
 ·rw [if_pos c]
  rw [decide_eq_false (λz=>z c),if_neg AS] at t';exact Va (t'.trans rfl)
 ·rw [if_neg c]
  rw [decide_eq_true c,if_pos rfl] at t';exact Vc (t'.trans (MW rfl (by simp)))
theorem Yh {W:Wd} {S:Sto} {q p:Nat} {ts:List (Int×Int)} (hw:HE W S q p ts) {x:Nat} (hx:x < p):Mx W [.ref q,.int x] S=.ok (.tup ((E5 (CA ts x)).map D.int)) S:=by
 refine IM ?_;unfold W3
 have c:CC 2 (DQ W) (AY (AL 0) (AY (AL 1) BH)) [some (.ref q),some (.int x)] S=.ok .non S:=by
  refine (Gg (ds:=[.ref q,.int x]) (S1:=S) rfl rfl).trans ?_;rw [V5 hw,if_pos ⟨by omega,by omega⟩]
 refine Jm (Bn (e:=[some (.ref q),some (.int x)]) (Gc c)) ?_;refine HV (C5 (hw.sets rfl) rfl ?_);show FG (ixD _ _ _) _=_
 have e2:atI (FD p ts) (x:Int)=some (.tup ((E5 (CA ts x)).map D.int)):=by
  unfold atI ixN;rw [show (FD p ts).length=p by simp [FD],if_pos (by omega),if_pos (by omega)];simp only [AU,B1];unfold FD;rw [Aj,C8 hx];rfl
 have:ixD (.tup (FD p ts)) (.int x) S=.ok (.tup ((E5 (CA ts x)).map D.int)) S:=by
  show (match atI (FD p ts) (x:Int) with | some d=>Res.ok d S | none=>.bad)=_;rw [e2]
 rw [this];rfl
end M
namespace M
open PySem L2
theorem Y8 {α:Type} {f:α->D} {l:List α} {v:Hi} {g:MG} {b:MS} {e:Lo} {S:Sto} (I:List α->Lo->Sto->Prop) (h0:I [] e S) (hv:∀t e S,I t e S->v S=some (l.map f))
  (step:∀t x e S,x∈l->t.length < l.length->I t e S->∃e1 S1,g (f x) e S=.ok e1 S1/\∃e2 S2,b e1 S1=.ok (.nx e2) S2/\I (t++[x]) e2 S2) :
  ∃e' S',HC v g b (CN v S) 0 e S=.ok (.nx e') S'/\I l e' S':=by
 obtain ⟨f',S',h1,e',rfl,h2⟩:=Mu (v:=v) (g:=g) (b:=b) (xs:=l.map f) (e:=e) (S:=S) (λi e S=>I (l.take i) e S) (λf' S'=>∃e',f'=.nx e'/\I l e' S') h0 (λi e S h=>hv _ e S h)
  (by
   intro i d e S hd hI;rw [Aj] at hd
   cases hx:l[i]? with
   | none=>rw [hx] at hd;cases hd
   | some x=>
    rw [hx] at hd;cases hd;have hlt:=(AD.mp hx).1;obtain ⟨e1,S1,q1,e2,S2,q2,q3⟩:=step (l.take i) x e S (BF hx) (by rw [CH];omega) hI;refine ⟨e1,S1,q1,.nx e2,S2,q2,?_⟩;show I (l.take (i+1)) e2 S2;rw [take_snoc hx]
    exact q3)
  (by
   intro e S hI;rw [AG,Lg] at hI
   exact ⟨e,rfl,hI⟩)
 exact ⟨e',S',h1,h2⟩
end M
namespace M
open PySem L2
abbrev Met:=List (Int×Int)
def mD (L:Met):List (Key×D):=L.map λa=>(Cc a.1,D.int a.2)
def Aq (L:Met):List Int:=L.map (·.1)
def stp (L:Met) (z:Int):Int:=((L.find? λa=>decide (a.1=z)).map (·.2)).getD 0
theorem Co (L N:Met):Aq (L++N)=Aq L++Aq N:=B6
theorem Br {L:Met} {z:Int}:z∈Aq L↔∃d,(z,d)∈L:=by
 unfold Aq
 constructor
 ·intro h
  obtain ⟨a,ha,rfl⟩:=BG.mp h;exact ⟨a.2,ha⟩
 ·rintro ⟨d,h⟩
  exact BG.mpr ⟨_,h,rfl⟩
theorem WE (L:Met) (z:Int):FT (mD L) (Cc z)=(L.find? λa=>decide (a.1=z)).map λa=>D.int a.2:=by
 unfold FT mD
 induction L with
 | nil=>rfl
 | cons a L ih=>
  rw [A9,Ba,Ba]
  by_cases e:a.1=z
  ·have:decide ((Cc a.1:Key)=Cc z)=true:=decide_eq_true (by rw [e])
   rw [this,decide_eq_true e];rfl
  ·have:decide ((Cc a.1:Key)=Cc z)=false:=decide_eq_false λq=>e (Ph q)
   rw [this,decide_eq_false e];exact ih
theorem Qe {L:Met} (nd:(Aq L).Nodup) {z d:Int} (h:(z,d)∈L):(L.find? λa=>decide (a.1=z))=some (z,d):=by
 induction L with
 | nil=>cases h
 | cons a L ih=>
  rw [Ba];obtain ⟨n1,n2⟩:=Bq.mp (show (a.1 :: Aq L).Nodup from nd)
  rcases Ap.mp h with e | h'
  ·subst e
   rw [decide_eq_true rfl]
  ·have:¬a.1=z:=λe=>n1 (by rw [e];exact Br.mpr ⟨d,h'⟩)
   rw [decide_eq_false this];exact ih n2 h'
theorem VN {L:Met} (nd:(Aq L).Nodup) {z d:Int} (h:(z,d)∈L):stp L z=d:=by
 unfold stp;rw [Qe nd h];rfl
theorem Xv {L:Met} (nd:(Aq L).Nodup) {z:Int} (h:z∈Aq L):(z,stp L z)∈L:=by
 obtain ⟨d,hd⟩:=Br.mp h;rw [VN nd hd];exact hd
theorem bH (L:Met) (z:Int):(FT (mD L) (Cc z)).isSome=decide (z∈Aq L):=by
 rw [WE]
 induction L with
 | nil=>rfl
 | cons a L ih=>
  rw [Ba]
  by_cases e:a.1=z
  ·rw [decide_eq_true e]
   exact (decide_eq_true (show z∈a.1 :: Aq L by rw [e];exact A0)).symm
  ·rw [decide_eq_false e]
   refine ih.trans (decide_eq_decide.mpr ?_);show z∈Aq L↔z∈a.1 :: Aq L;rw [Ap];exact ⟨.inr,λh=>h.resolve_left λq=>e q.symm⟩
theorem WD {L:Met} {z:Int} (h:z∉Aq L) (v:Int):Gr (mD L) (Cc z) (.int v)=mD (L++[(z,v)]):=by
 unfold Gr;rw [if_neg]
 ·unfold mD
  rw [B6];rfl
 ·intro q
  obtain ⟨y,hy,e⟩:=XI.mp q;obtain ⟨a,ha,rfl⟩:=BG.mp hy;have e:=Ph (of_decide_eq_true e);exact h (Br.mpr ⟨a.2,by rw [<-e];exact ha⟩)
theorem WW {S:Sto} {n:Nat} {L:Met} (h:S[n]?=some (.dK (mD L))) (neg:Bool) (z:Int):inA neg (.int z) (.ref n) S=.ok (.bl (if neg then !decide (z∈Aq L) else decide (z∈Aq L))) S:=by
 show FG (inD neg (.int z) (.ref n) S) (Je neg (.int z) (.ref n) S)=_
 have e:inD neg (.int z) (.ref n) S=.bad:=by
  unfold inD Fp;dsimp only;rw [h]
 have e2:Nh (.ref n) (.int z) S=some (FT (mD L) (Cc z)):=by
  unfold Nh;dsimp only;rw [h];rfl
 rw [e];show Je neg (.int z) (.ref n) S=_;unfold Je;rw [e2];dsimp only;rw [bH]
theorem Yx {S:Sto} {n:Nat} {L:Met} (h:S[n]?=some (.dK (mD L))) (nd:(Aq L).Nodup) {z:Int} (hz:z∈Aq L):ixA (.ref n) (.int z) S=.ok (.int (stp L z)) S:=by
 show FG (ixD (.ref n) (.int z) S) (M3 (.ref n) (.int z) S)=_
 have e:ixD (.ref n) (.int z) S=.bad:=by
  unfold ixD Fp;dsimp only;rw [h]
 have e2:Nh (.ref n) (.int z) S=some (some (.int (stp L z))):=by
  unfold Nh;dsimp only;rw [h];show some (FT (mD L) (Cc z))=_;rw [WE,Qe nd (Xv nd hz)];rfl
 rw [e];show M3 (.ref n) (.int z) S=_;unfold M3;rw [e2]
theorem YC {mo mi mv:ME} {e:Lo} {S:Sto} {d:Nat} {L:Met} {z v:Int} (hv:mv e S=.ok (.int v) S) (ho:mo e S=.ok (.ref d) S) (hi:mi e S=.ok (.int z) S) (h:S[d]?=some (.dK (mD L))) (hz:z∉Aq L) (hl:L.length<=100000) :
  Gq mo mi mv e S=.ok (.nx e) (S.set d (.dK (mD (L++[(z,v)])))):=by
 unfold Gq;rw [hv];dsimp only [Res.lift];rw [ho];dsimp only [Res.lift];rw [hi];dsimp only [Res.lift]
 have:UV (.ref d) (.int z) (.int v) S=some (S.set d (.dK (mD (L++[(z,v)])))):=by
  unfold UV;dsimp only;rw [h];show (if (mD L).length < sizeLine then some (S.set d (.dK (Gr (mD L) (Cc z) (.int v)))) else none)=_;rw [if_pos (by unfold mD;rw [AG];exact Bk hl (by decide)),WD hz]
 rw [this]
theorem ZA {mk mv:ME} {e:Lo} {S:Sto} {z v:Int} (hk:mk e (S++[.dK []])=.ok (.int z) (S++[.dK []])) (hv:mv e (S++[.dK []])=.ok (.int v) (S++[.dK []])):Mh mk mv e S=.ok (.ref S.length) (S++[.dK (mD [(z,v)])]):=by
 unfold Mh;rw [hk];dsimp only [Res.bind];rw [hv];dsimp only [Res.bind];rw [Di];show Res.ok (D.ref S.length) ((S++[Ob.dK []]).set S.length (.dK (Gr [] (Cc z) (.int v))))=_;have e1:Gr ([]:List (Key×D)) (Cc z) (.int v)=mD [(z,v)]:=rfl;rw [e1];simp
theorem Pn {t:MT} {b:MS} (I:Nat->Lo->Sto->Prop) (R:Lo->Sto->Prop)
  (step:∀k e S,I k e S->(∃S1,t e S=.ok false S1/\R e S1)∨∃S1 e2 S2 k',t e S=.ok true S1/\b e S1=.ok (.nx e2) S2/\k' < k/\I k' e2 S2) :
  ∀n k e S,I k e S->k < n->∃e' S',HU t b n e S=.ok (.nx e') S'/\R e' S'
 | 0,_,_,_,_,h=>absurd h (NP _)
 | n+1,k,e,S,hI,hk=>by
  rcases step k e S hI with ⟨S1,h1,hR⟩ | ⟨S1,e2,S2,k',h1,h2,h3,h4⟩
  ·refine ⟨e,S1,?_,hR⟩
   unfold HU;rw [h1];rfl
  ·obtain ⟨e',S',h5,h6⟩:=Pn I R step n k' e2 S2 h4 (AX h3 (Nat.le_of_lt_succ hk))
   refine ⟨e',S',?_,h6⟩;unfold HU;rw [h1];dsimp only [Res.lift];rw [if_pos rfl,h2];exact h5
def W9 (d:Int) (L:Met) (y:Int):Met:=if y∈Aq L then L else L++[(y,d+1)]
def GF (d:Int) (ys:List Int) (L:Met):Met:=ys.foldl (W9 d) L
theorem LM (d:Int) (ys:List Int) (y:Int) (L:Met):GF d (ys++[y]) L=W9 d (GF d ys L) y:=by
 unfold GF;rw [List.foldl_append];rfl
theorem Gh (d:Int):∀(ys:List Int) (L:Met),∃N,GF d ys L=L++N/\(∀a∈N,a.2=d+1/\a.1∈ys/\a.1∉Aq L)/\(∀y∈ys,y∈Aq (L++N))/\(Aq N).Nodup
 | [],L=>⟨[],(Ax L).symm,λ_ h=>absurd h C9,λ_ h=>absurd h C9,Eh⟩
 | y :: ys,L=>by
  have e:GF d (y :: ys) L=GF d ys (W9 d L y):=rfl
  by_cases c:y∈Aq L
  ·have e1:W9 d L y=L:=if_pos c
   obtain ⟨N,h1,h2,h3,h4⟩:=Gh d ys L;refine ⟨N,by rw [e,e1,h1],λa ha=>⟨(h2 a ha).1,AZ _ (h2 a ha).2.1,(h2 a ha).2.2⟩,λz hz=>?_,h4⟩
   rcases Ap.mp hz with rfl | hz
   ·rw [Co];exact A1 _ c
   ·exact h3 z hz
  ·have e1:W9 d L y=L++[(y,d+1)]:=if_neg c
   obtain ⟨N,h1,h2,h3,h4⟩:=Gh d ys (L++[(y,d+1)]);refine ⟨(y,d+1) :: N,by rw [e,e1,h1,At];rfl,λa ha=>?_,λz hz=>?_,?_⟩
   ·rcases Ap.mp ha with rfl | ha
    ·exact ⟨rfl,A0,c⟩
    ·refine ⟨(h2 a ha).1,AZ _ (h2 a ha).2.1,λz=>(h2 a ha).2.2 ?_⟩
     rw [Co];exact A1 _ z
   ·have e2:L++(y,d+1) :: N=L++[(y,d+1)]++N:=by simp
    rw [e2]
    rcases Ap.mp hz with rfl | hz
    ·rw [Co,Co]
     exact A1 _ (As _ (by simp [Aq]))
    ·exact h3 z hz
   ·refine Bq.mpr ⟨λz=>?_,h4⟩
    obtain ⟨a,ha,e3⟩:=BG.mp z;refine (h2 a ha).2.2 ?_;rw [Co];exact As _ (by rw [e3];simp [Aq])
section
variable (nb:Int->List Int) (s:Int)
def Ki (L:Met) (i:Nat):Met:=match L[i]? with
 | some a=>GF a.2 (nb a.1) L
 | none=>L
def Rn:Nat->Met
 | 0=>[(s,0)]
 | i+1=>Ki nb (Rn i) i
end
section
variable {nb:Int->List Int} {s:Int} {p:Nat}
theorem Kh {L:Met} {i:Nat} {a:Int×Int} (h:L[i]?=some a):Ki nb L i=GF a.2 (nb a.1) L:=by unfold Ki;rw [h]
theorem Vm (L:Met) (i:Nat):∃N,Ki nb L i=L++N:=by
 unfold Ki;split
 ·obtain ⟨N,h,_⟩:=Gh _ (nb _) L
  exact ⟨N,h⟩
 ·exact ⟨[],(Ax L).symm⟩
theorem PV (i:Nat):∀k:Nat,∃N,Rn nb s (i+k)=Rn nb s i++N
 | 0=>⟨[],(Ax _).symm⟩
 | k+1=>by
  obtain ⟨N,h⟩:=PV i k;obtain ⟨N',h'⟩:=Vm (nb:=nb) (Rn nb s (i+k)) (i+k);refine ⟨N++N',?_⟩;show Ki nb (Rn nb s (i+k)) (i+k)=_;rw [h',h,At]
theorem cK {i j k:Nat} (h:i<=k) {a:Int×Int} (ha:(Rn nb s i)[j]?=some a):(Rn nb s k)[j]?=some a:=by
 obtain ⟨N,e⟩:=PV (nb:=nb) (s:=s) i (k - i);rw [show i+(k - i)=k by omega] at e;rw [e,AV (AD.mp ha).1];exact ha
theorem PU {i:Nat} (h:(Rn nb s i).length<=i):∀k,Rn nb s (i+k)=Rn nb s i
 | 0=>rfl
 | k+1=>by
  show Ki nb (Rn nb s (i+k)) (i+k)=_;rw [PU h k];unfold Ki;rw [CB (by omega)]
theorem cL {i j:Nat} (hi:(Rn nb s i).length<=i) (hj:(Rn nb s j).length<=j):Rn nb s i=Rn nb s j:=by
 rcases Nat.le_total i j with h | h
 ·have:=PU hi (j - i)
  rw [show i+(j - i)=j by omega] at this;exact this.symm
 ·have:=PU hj (i - j)
  rw [show j+(i - j)=i by omega] at this;exact this
structure Bf (nb:Int->List Int) (p:Nat) (s:Int) (i:Nat) (L:Met):Prop where
 nd:(Aq L).Nodup
 rng:∀a∈L,0<=a.1/\a.1 < p
 nn:∀a∈L,0<=a.2
 up:(L.map (·.2)).Pairwise (·<=·)
 src:(s,0)∈L
 zero:∀a∈L,a.2=0->a.1=s
 cl:∀j,j < i->∀a,L[j]?=some a->∀y∈nb a.1,∃d,(y,d)∈L/\d<=a.2+1
 par:∀a∈L,0 < a.2->∃b∈L,b.2+1=a.2/\a.1∈nb b.1
 top:∀a,L[i]?=some a->∀b∈L,b.2<=a.2+1
 low:∀(j:Nat) a,L[j]?=some a->a.2<=j
theorem Bf.step (hnb:∀x:Int,0<=x->x < p->∀y∈nb x,0<=y/\y < p) {i:Nat} {L:Met} (h:Bf nb p s i L):Bf nb p s (i+1) (Ki nb L i):=by
 cases hq:L[i]? with
 | none=>
  have e:Ki nb L i=L:=by unfold Ki;rw [hq]
  rw [e];have hl:=D4.mp hq;refine ⟨h.nd,h.rng,h.nn,h.up,h.src,h.zero,λj hj a ha=>h.cl j ?_ a ha,h.par,λa ha=>?_,h.low⟩
  ·have:=(AD.mp ha).1;omega
  ·have:=(AD.mp ha).1;omega
 | some x=>
  rw [Kh hq];have hx:=BF hq;obtain ⟨N,h1,h2,h3,h4⟩:=Gh x.2 (nb x.1) L;rw [h1];have hxr:=h.rng x hx;refine ⟨?_,λa ha=>?_,λa ha=>?_,?_,A1 _ h.src,λa ha h0=>?_,λj hj a ha y hy=>?_,λa ha h0=>?_,λa ha b hb=>?_,λj a ha=>?_⟩
  ·rw [Co]
   refine Ei.mpr ⟨h.nd,h4,λa ha b hb e=>?_⟩;obtain ⟨c,hc,rfl⟩:=BG.mp hb;exact (h2 c hc).2.2 (e▸ha)
  ·rcases Au.mp ha with ha | ha
   ·exact h.rng a ha
   ·exact hnb x.1 hxr.1 hxr.2 a.1 (h2 a ha).2.1
  ·rcases Au.mp ha with ha | ha
   ·exact h.nn a ha
   ·have:=(h2 a ha).1;have:=h.nn x hx;omega
  ·rw [B6]
   refine BI.mpr ⟨h.up,?_,λa ha b hb=>?_⟩
   ·refine Bz.mpr (cz (R:=λ_ _=>True) (λ{a b} ha hb _=>?_) (List.pairwise_of_forall λ_ _=>CG))
    have:=(h2 a ha).1;have:=(h2 b hb).1;omega
   ·obtain ⟨c,hc,rfl⟩:=BG.mp ha
    obtain ⟨d,hd,rfl⟩:=BG.mp hb;have:=h.top x hq c hc;have:=(h2 d hd).1;omega
  ·rcases Au.mp ha with ha | ha
   ·exact h.zero a ha h0
   ·have:=(h2 a ha).1;have:=h.nn x hx;omega
  ·by_cases hji:j=i
   ·subst hji
    rw [AV (AD.mp hq).1,hq] at ha;cases ha;obtain ⟨d,hd⟩:=Br.mp (h3 y hy);refine ⟨d,hd,?_⟩
    rcases Au.mp hd with hd | hd
    ·exact h.top x hq _ hd
    ·exact Int.le_of_eq (h2 _ hd).1
   ·have hlt:j < L.length:=by have:=(AD.mp hq).1;omega
    rw [AV hlt] at ha;obtain ⟨d,hd,hle⟩:=h.cl j (by omega) a ha y hy;exact ⟨d,A1 _ hd,hle⟩
  ·rcases Au.mp ha with ha | ha
   ·obtain ⟨b,hb,h5⟩:=h.par a ha h0
    exact ⟨b,A1 _ hb,h5⟩
   ·exact ⟨x,A1 _ hx,(h2 a ha).1.symm,(h2 a ha).2.1⟩
  ·have hax:x.2<=a.2:=by
    by_cases hlt:i+1 < L.length
    ·rw [AV hlt] at ha
     have h5:(L.map (·.2))[i]?=some x.2:=by rw [Aj,hq];rfl
     have h6:(L.map (·.2))[i+1]?=some a.2:=by rw [Aj,ha];rfl
     obtain ⟨l5,e5⟩:=AD.mp h5;obtain ⟨l6,e6⟩:=AD.mp h6;have:=OV.mp h.up i (i+1) l5 l6 (by omega);rwa [e5,e6] at this
    ·have hlt':=(AD.mp hq).1
     rw [Aw (by omega)] at ha;have:=(h2 a (BF ha)).1;omega
   rcases Au.mp hb with hb | hb
   ·have:=h.top x hq b hb;omega
   ·have:=(h2 b hb).1;omega
  ·by_cases hlt:j < L.length
   ·rw [AV hlt] at ha
    exact h.low j a ha
   ·have hlt':=(AD.mp hq).1
    rw [Aw (by omega)] at ha;have:=(h2 a (BF ha)).1;have:=h.low i x hq;omega
theorem OP (hnb:∀x:Int,0<=x->x < p->∀y∈nb x,0<=y/\y < p) (hs:0<=s/\s < p):∀i,Bf nb p s i (Rn nb s i)
 | 0=>by
  refine ⟨by show [s].Nodup;simp,λa ha=>?_,λa ha=>?_,Hk _ _,Ab.mpr rfl,λa ha _=>?_,λj hj=>absurd hj (NP _),λa ha h0=>?_,λa ha b hb=>?_,λj a ha=>?_⟩
  ·rw [Ab.mp ha];exact hs
  ·rw [Ab.mp ha];exact TX _
  ·rw [Ab.mp ha]
  ·rw [Ab.mp ha] at h0;exact absurd h0 (Int.lt_irrefl _)
  ·cases ha;rw [Ab.mp hb];exact Int.le_add_one (TX _)
  ·rw [Ab.mp (BF ha)];exact Int.natCast_nonneg j
 | i+1=>(OP hnb hs i).step hnb
theorem QK:∀(p:Nat) (l:List Int),l.Nodup->(∀z∈l,0<=z/\z < p)->l.length<=p
 | 0,l,_,h=>by
  cases l with
  | nil=>exact AQ _
  | cons a l=>have:=h a (by simp);omega
 | p+1,l,nd,h=>by
  by_cases c:(p:Int)∈l
  ·have h1:=Pb c
   have hpos:0 < l.length:=Qy c
   have i1:=QK p (l.erase (p:Int)) (nd.erase _) λz hz=>by
    obtain ⟨hz1,hz2⟩:=nd.mem_erase_iff.mp hz;have:=h z hz2;omega
   omega
  ·have i1:=QK p l nd λz hz=>by
    have:=h z hz
    have:z≠p:=λe=>c (e▸hz)
    omega
   omega
theorem Bf.len {i:Nat} {L:Met} (h:Bf nb p s i L):L.length<=p:=by
 have:=QK p (Aq L) h.nd λz hz=>by
  obtain ⟨a,ha,rfl⟩:=BG.mp hz;exact h.rng a ha
 unfold Aq at this;rwa [AG] at this
structure Fd (nb:Int->List Int) (p:Nat) (s:Int) (L:Met):Prop where
 nd:(Aq L).Nodup
 rng:∀a∈L,0<=a.1/\a.1 < p
 nn:∀a∈L,0<=a.2
 src:(s,0)∈L
 zero:∀a∈L,a.2=0->a.1=s
 cl:∀a∈L,∀y∈nb a.1,∃d,(y,d)∈L/\d<=a.2+1
 par:∀a∈L,0 < a.2->∃b∈L,b.2+1=a.2/\a.1∈nb b.1
 len:L.length<=p
 far:∀a∈L,a.2 < p
theorem Bf.fd {i:Nat} {L:Met} (h:Bf nb p s i L) (hl:L.length<=i):Fd nb p s L:=⟨h.nd,h.rng,h.nn,h.src,h.zero,λa ha y hy=>by
 obtain ⟨j,hj,e⟩:=Jk ha
 exact h.cl j (by omega) a (by rw [BB hj,e]) y hy,h.par,h.len,λa ha=>by
 obtain ⟨j,hj,e⟩:=Jk ha;have:=h.low j a (by rw [BB hj,e]);have:=h.len
 omega⟩
end
end M
namespace M
open PySem L2
end M
namespace M
open PySem L2
abbrev bIn (g v a:Nat) (mval:ME):MS:=sIf (mB (m2 (inA true) (AL v) (AL g))) (BW (Gq (AL g) (AL v) mval) (C4 (JA (AL a) (AL v)))) sNx
theorem Rj {L:Met} {y d:Int} (h:(Aq L).Nodup) (c:y∉Aq L):(Aq (L++[(y,d)])).Nodup:=by
 rw [Co];refine Ei.mpr ⟨h,by simp [Aq],λa ha b hb e=>c ?_⟩
 have:b=y:=by simpa [Aq] using hb
 rw [<-this,<-e];exact ha
theorem WV {g v a:Nat} {mval:ME} {E:Option D->Lo} {dI fI:Nat} {d:Int} {L:Met} {fs:List Int} {S:Sto} {ys:List Int} {z:Option D} {vw:Hi}
  (hvw:∀S',(∀j,j≠dI->j≠fI->S'[j]?=S[j]?)->vw S'=some (ys.map D.int))
  (hv:∀x S,AL v (E (some x)) S=.ok x S) (h2:∀z S,AL g (E z) S=.ok (.ref dI) S) (ha:∀z S,AL a (E z) S=.ok (.ref fI) S) (hg:∀x z S,tgN v x (E z) S=.ok (E (some x)) S)
  (hval:∀x S' N,S'[dI]?=some (.dK (mD (L++N)))->S'[fI]?=some (.lst ((fs++Aq N).map D.int))->(Aq (L++N)).Nodup->mval (E (some x)) S'=.ok (.int (d+1)) S')
  (hD:S[dI]?=some (.dK (mD L))) (hF:S[fI]?=some (.lst (fs.map D.int))) (hne:dI≠fI) (nd:(Aq L).Nodup) (hl:L.length<=1000) (hf:fs.length<=1000) (hy:ys.length<=1000) :
  ∃z' S' N,HC vw (tgN v) (bIn g v a mval) (CN vw S) 0 (E z) S=.ok (.nx (E z')) S'/\GF d ys L=L++N/\S'[dI]?=some (.dK (mD (L++N)))/\S'[fI]?=some (.lst ((fs++Aq N).map D.int))/\S'.length=S.length/\∀j,j≠dI->j≠fI->S'[j]?=S[j]?:=by
 obtain ⟨e',S',h1,z',N,rfl,q1,_,_,q4,q5,q6,q7⟩:=Y8 (f:=D.int) (l:=ys) (v:=vw) (g:=tgN v) (b:=bIn g v a mval) (e:=E z) (S:=S)
  (λt e S'=>∃z N,e=E z/\GF d t L=L++N/\(Aq (L++N)).Nodup/\N.length<=t.length/\S'[dI]?=some (.dK (mD (L++N)))/\S'[fI]?=some (.lst ((fs++Aq N).map D.int))/\S'.length=S.length/\∀j,j≠dI->j≠fI->S'[j]?=S[j]?)
  ⟨z,[],rfl,(Ax L).symm,by rw [Ax];exact nd,AQ _,by rw [Ax];exact hD,by show _=some (Ob.lst ((fs++[]).map D.int));rw [Ax];exact hF,rfl,λ_ _ _=>rfl⟩ (by rintro t e S' ⟨_,_,_,_,_,_,_,_,_,h⟩;exact hvw S' h)
  (by
   rintro t y e S' hyy ht ⟨z,N,rfl,q1,q2,q3,q4,q5,q6,q7⟩;refine ⟨E (some (.int y)),S',hg _ _ _,?_⟩;have t1:mB (m2 (inA true) (AL v) (AL g)) (E (some (.int y))) S'=.ok (!decide (y∈Aq (L++N))) S':=Ji (C5 (hv _ _) (h2 _ _) (WW q4 true y));have ic:=Fu (a:=BW (Gq (AL g) (AL v) mval) (C4 (JA (AL a) (AL v)))) (b:=sNx) t1
   by_cases c:y∈Aq (L++N)
   ·rw [decide_eq_true c] at ic
    refine ⟨E (some (.int y)),S',ic.trans rfl,_,N,rfl,?_,q2,by rw [AR];omega,q4,q5,q6,q7⟩;rw [LM,q1];exact if_pos c
   ·rw [decide_eq_false c] at ic
    have p1:=YC (mo:=AL g) (mi:=AL v) (mv:=mval) (hval (.int y) S' N q4 q5 q2) (h2 _ _) (hv _ _) q4 c (by rw [AR];omega);have hdl:dI < S'.length:=(AD.mp q4).1;have hfl:fI < S'.length:=(AD.mp q5).1
    have f1:(S'.set dI (.dK (mD (L++N++[(y,d+1)]))))[fI]?=some (.lst ((fs++Aq N).map D.int)):=by rw [Al hne];exact q5
    have a1:=ND (mo:=AL a) (ma:=AL v) (e:=E (some (.int y))) (S:=S'.set dI (.dK (mD (L++N++[(y,d+1)])))) (ha _ _) f1 (hv _ _) f1 (by
     rw [AG,AR,show (Aq N).length=N.length from AG _]
     exact Bk (show fs.length+N.length<=2000 by omega) (by decide))
    refine ⟨E (some (.int y)),_,ic.trans ((if_pos rfl).trans ((Bn p1).trans (Gc a1))),_,N++[(y,d+1)],rfl,?_,?_,?_,?_,?_,?_,?_⟩
    ·rw [LM,q1]
     exact (if_neg c).trans (At _ _ _)
    ·rw [<-At]
     exact Rj q2 c
    ·rw [AR,AR,A6,A6];omega
    ·rw [Al (Bv hne),A3 hdl,At]
    ·rw [A3 (by rw [Fa];exact hfl),Co]
     simp [Aq]
    ·rw [Fa,Fa];exact q6
    ·intro j h1 h2
     rw [Al (Bv h2),Al (Bv h1)]
     exact q7 j h1 h2)
 exact ⟨z',S',N,h1,q1,q4,q5,q6,q7⟩
theorem QX {B S S':Sto} (k:Keeps B S) {dI fI:Nat} (h1:B.length<=dI) (h2:B.length<=fI) (hl:S'.length=S.length) (h:∀j,j≠dI->j≠fI->S'[j]?=S[j]?):Keeps B S':=
 ⟨by rw [hl];exact k.1,λj hj=>(h j (by omega) (by omega)).trans (k.2 j hj)⟩
theorem Xp {m:ME} {e:Lo} {S:Sto} {n:Nat} {ds:List D} (h:m e S=.ok (.ref n) S) (hn:S[n]?=some (.lst ds)):Oy m e S=.ok (!ds.isEmpty) S:=by
 unfold Oy;rw [h];dsimp only [Res.bind];unfold QQ;dsimp only;rw [hn]
def nbW (ts:List (Int×Int)) (x:Int):List Int:=E5 (CA ts x.toNat)
abbrev Zd (W:Wd):MS:=IL (FX (CC 2 (Mx W) (AY (AL 0) (AY (AL 5) BH)))) (tgN 6) (bIn 2 6 4 (m2 JB (m2 ixA (AL 2) (AL 5)) (mC (.int 1))))
abbrev W6 (W:Wd):MS:=BW (B3 4 (E7 (Df BH))) (BW (IL (FX (AL 3)) (tgN 5) (Zd W)) (B3 3 (AL 4)))
section
variable {W:Wd} {q p:Nat} {ts:List (Int×Int)} {s:Int}
theorem Vd {B S:Sto} (hw:HE W B q p ts) (hp:p<=60) (hnb:∀x:Int,0<=x->x < p->∀y∈nbW ts x,0<=y/\y < p) (hlen:∀x,(nbW ts x).length<=1000) (hs:0<=s/\s < p) {i dI ly:Nat} {d1:D} {z4 z5 z6:Option D} (K:Keeps B S) (hdI:B.length<=dI) (hly:B.length<=ly) (hdl:dI≠ly)
  (hD:S[dI]?=some (.dK (mD (Rn (nbW ts) s i)))) (hL:S[ly]?=some (.lst ((Aq ((Rn (nbW ts) s i).drop i)).map D.int))) (hi:i<=(Rn (nbW ts) s i).length) :
  ∃y5 y6 S',W6 W [some (.ref q),some d1,some (.ref dI),some (.ref ly),z4,z5,z6] S=.ok (.nx [some (.ref q),some d1,some (.ref dI),some (.ref S.length),some (.ref S.length),y5,y6]) S'/\Keeps B S'/\S'[dI]?=some (.dK (mD (Rn (nbW ts) s (Rn (nbW ts) s i).length)))/\S'[S.length]?=some (.lst ((Aq ((Rn (nbW ts) s (Rn (nbW ts) s i).length).drop (Rn (nbW ts) s i).length)).map D.int)):=by
 have hdS:dI < S.length:=(AD.mp hD).1;have hlS:ly < S.length:=(AD.mp hL).1;have hBf:=OP hnb hs i;have hnl:=hBf.len;generalize hn0:(Rn (nbW ts) s i).length=n0 at hnl hi ⊢;have s4:B3 4 (E7 (Df BH)) [some (.ref q),some d1,some (.ref dI),some (.ref ly),z4,z5,z6] S=.ok (.nx [some (.ref q),some d1,some (.ref dI),some (.ref ly),some (.ref S.length),z5,z6]) (S++[.lst []]):=rfl;have k0:=Keeps.app S [.lst []]
 obtain ⟨f,S1,h1,y5,y6,rfl,K1,D1,F1⟩:=Mu (v:=Ho (.ref ly)) (g:=tgN 5) (b:=Zd W) (xs:=(Aq ((Rn (nbW ts) s i).drop i)).map D.int) (e:=[some (.ref q),some d1,some (.ref dI),some (.ref ly),some (.ref S.length),z5,z6]) (S:=S++[.lst []])
  (λj e S'=>∃y5 y6,e=[some (.ref q),some d1,some (.ref dI),some (.ref ly),some (.ref S.length),y5,y6]/\Keeps B S'/\S'[dI]?=some (.dK (mD (Rn (nbW ts) s (i+j))))/\S'[S.length]?=some (.lst ((Aq ((Rn (nbW ts) s (i+j)).drop n0)).map D.int))/\S'[ly]?=some (.lst ((Aq ((Rn (nbW ts) s i).drop i)).map D.int)))
  (λf S'=>∃y5 y6,f=.nx [some (.ref q),some d1,some (.ref dI),some (.ref ly),some (.ref S.length),y5,y6]/\Keeps B S'/\S'[dI]?=some (.dK (mD (Rn (nbW ts) s n0)))/\S'[S.length]?=some (.lst ((Aq ((Rn (nbW ts) s n0).drop n0)).map D.int)))
  ⟨z5,z6,rfl,K.trans k0,k0.at hD,by
   rw [RE,Qz (by omega)]
   exact Di _ _,k0.at hL⟩ (by rintro j e S' ⟨_,_,_,_,_,_,h⟩;exact En h)
  (by
   rintro j x e S' hx ⟨y5,y6,rfl,K',D',F',L'⟩;unfold Aq at hx;rw [Aj,Aj,EL] at hx
   cases hq:(Rn (nbW ts) s i)[i+j]? with
   | none=>rw [hq] at hx;cases hx
   | some a=>
    rw [hq] at hx;cases hx;have hat:(Rn (nbW ts) s (i+j))[i+j]?=some a:=cK (by omega) hq;have hbf:=OP hnb hs (i+j);have har:=hbf.rng a (BF hat);have hll:=hbf.len
    obtain ⟨x,hx⟩:∃x:Nat,a.1=x:=⟨a.1.toNat,by omega⟩
    refine ⟨[some (.ref q),some d1,some (.ref dI),some (.ref ly),some (.ref S.length),some (.int a.1),y6],S',rfl,?_⟩
    have c1:CC 2 (Mx W) (AY (AL 0) (AY (AL 5) BH)) [some (.ref q),some d1,some (.ref dI),some (.ref ly),some (.ref S.length),some (.int a.1),y6] S'=.ok (.tup ((nbW ts a.1).map D.int)) S':=by
     refine (Gg (ds:=[.ref q,.int a.1]) (S1:=S') rfl rfl).trans ?_;unfold nbW;rw [hx,B1];exact Yh (hw.keeps K') (by omega)
    have hfl:(Aq ((Rn (nbW ts) s (i+j)).drop n0)).length<=1000:=by unfold Aq;rw [AG,Bs];omega
    obtain ⟨z',S2,N,h2,g1,g2,g3,g4,g5⟩:=WV (g:=2) (v:=6) (a:=4) (mval:=m2 JB (m2 ixA (AL 2) (AL 5)) (mC (.int 1))) (E:=λz=>[some (.ref q),some d1,some (.ref dI),some (.ref ly),some (.ref S.length),some (.int a.1),z]) (dI:=dI) (fI:=S.length) (d:=a.2) (L:=Rn (nbW ts) s (i+j)) (ys:=nbW ts a.1) (z:=y6) (S:=S') (vw:=Fj ((nbW ts a.1).map D.int)) (λ_ _=>rfl)
     (λ_ _=>rfl) (λ_ _=>rfl) (λ_ _=>rfl) (λ_ _ _=>rfl)
     (λy S2 N hd hf nd=>by
      refine C5 (C5 rfl rfl (Yx hd nd (Br.mpr ⟨a.2,A1 _ (BF hat)⟩))) rfl ?_;rw [VN nd (show (a.1,a.2)∈Rn (nbW ts) s (i+j)++N from A1 _ (BF hat))]
      rfl)
     D' F' (Ay hdS) hbf.nd (by omega) hfl (hlen _)
    refine ⟨.nx [some (.ref q),some d1,some (.ref dI),some (.ref ly),some (.ref S.length),some (.int a.1),z'],S2,(Ku (QZ c1)).trans h2,_,z',rfl,QX K' hdI (by have:=K.1;omega) g4 g5,?_,?_,?_⟩
    ·rw [g2,<-g1]
     show some (Ob.dK (mD (GF a.2 (nbW ts a.1) (Rn (nbW ts) s (i+j)))))=some (Ob.dK (mD (Ki (nbW ts) (Rn (nbW ts) s (i+j)) (i+j))));rw [Kh hat]
    ·have e1:Rn (nbW ts) s (i+(j+1))=Rn (nbW ts) s (i+j)++N:=by
      show Ki (nbW ts) (Rn (nbW ts) s (i+j)) (i+j)=_;rw [Kh hat,g1]
     have hle:n0<=(Rn (nbW ts) s (i+j)).length:=by
      obtain ⟨N',e2⟩:=PV (nb:=nbW ts) (s:=s) i j;rw [e2,AR];omega
     rw [g3,e1,List.drop_append_of_le_length hle,Co]
    ·rw [g5 ly (Bv hdl) (Ay hlS)]
     exact L')
  (by
   rintro e S' ⟨y5,y6,rfl,K',D',F',L'⟩
   have e1:i+((Aq ((Rn (nbW ts) s i).drop i)).map D.int).length=n0:=by
    unfold Aq;rw [AG,AG,Bs];omega
   rw [e1] at D' F'
   exact ⟨_,_,rfl,K',D',F'⟩)
 exact ⟨y5,y6,S1,(Bn s4).trans ((Bn ((Ku (IU (m:=AL 3) (n:=ly) rfl (k0.at hL))).trans h1)).trans rfl),K1,D1,F1⟩
theorem VP {S:Sto} (hw:HE W S q p ts) (hp:p<=60) (hnb:∀x:Int,0<=x->x < p->∀y∈nbW ts x,0<=y/\y < p) (hlen:∀x,(nbW ts x).length<=1000) (hs:0<=s/\s < p) :
  ∃S' i,Du W [.ref q,.int s] S=.ok (.ref S.length) S'/\Keeps S S'/\S'[S.length]?=some (.dK (mD (Rn (nbW ts) s i)))/\(Rn (nbW ts) s i).length<=i:=by
 have s2:B3 2 (Mh (AL 1) (mC (.int 0))) (Eo 7 [.ref q,.int s]) S=.ok (.nx [some (.ref q),some (.int s),some (.ref S.length),none,none,none,none]) (S++[.dK (mD [(s,0)])]):=JX (i:=2) (ZA rfl rfl);have s3:B3 3 (E7 (Df (AY (AL 1) BH))) [some (.ref q),some (.int s),some (.ref S.length),none,none,none,none] (S++[.dK (mD [(s,0)])])=.ok (.nx [some (.ref q),some (.int s),some (.ref S.length),some (.ref (S++[Ob.dK (mD [(s,0)])]).length),none,none,none]) (S++[.dK (mD [(s,0)])]++[.lst [.int s]]):=rfl
 obtain ⟨e',S',h,i,z3,z4,z5,z6,rfl,K,D1,hl⟩:=Pn (t:=Oy (AL 3)) (b:=W6 W)
  (λk e S'=>∃(i ly:Nat) (z4 z5 z6:Option D),e=[some (.ref q),some (.int s),some (.ref S.length),some (.ref ly),z4,z5,z6]/\Keeps S S'/\S.length < ly/\S'[S.length]?=some (.dK (mD (Rn (nbW ts) s i)))/\S'[ly]?=some (.lst ((Aq ((Rn (nbW ts) s i).drop i)).map D.int))/\i<=(Rn (nbW ts) s i).length/\k+i=p)
  (λe S'=>∃(i:Nat) (z3 z4 z5 z6:Option D),e=[some (.ref q),some (.int s),some (.ref S.length),z3,z4,z5,z6]/\Keeps S S'/\S'[S.length]?=some (.dK (mD (Rn (nbW ts) s i)))/\(Rn (nbW ts) s i).length<=i)
  (by
   rintro k e S' ⟨i,ly,z4,z5,z6,rfl,K,hly,hD,hL,hi,hk⟩;have t:=Xp (m:=AL 3) (e:=[some (.ref q),some (.int s),some (.ref S.length),some (.ref ly),z4,z5,z6]) rfl hL
   by_cases c:i < (Rn (nbW ts) s i).length
   ·refine .inr ?_
    have hne:((Aq ((Rn (nbW ts) s i).drop i)).map D.int).isEmpty=false:=by
     cases hq:(Aq ((Rn (nbW ts) s i).drop i)).map D.int with
     | nil=>
      have:=congrArg FQ hq;unfold Aq at this;rw [AG,AG,Bs] at this;simp at this;omega
     | cons _ _=>rfl
    rw [hne] at t;obtain ⟨y5,y6,S2,g1,g2,g3,g4⟩:=Vd (d1:=.int s) (z4:=z4) (z5:=z5) (z6:=z6) hw hp hnb hlen hs K (AQ _) (LS hly) (Ay hly) hD hL hi;have hb:=(OP hnb hs i).len;have hlS:ly < S'.length:=(AD.mp hL).1;refine ⟨S',_,S2,p - (Rn (nbW ts) s i).length,t,g1,by omega,(Rn (nbW ts) s i).length,S'.length,_,_,_,rfl,g2,by omega,g3,g4,?_,by omega⟩;obtain ⟨N,e2⟩:=PV (nb:=nbW ts) (s:=s) i ((Rn (nbW ts) s i).length - i);rw [show i+((Rn (nbW ts) s i).length - i)=(Rn (nbW ts) s i).length by omega] at e2;rw [e2,AR];omega
   ·refine .inl ⟨S',?_,i,_,_,_,_,rfl,K,hD,by omega⟩
    rw [t,Qz (by omega)]
    rfl)
  wN p [some (.ref q),some (.int s),some (.ref S.length),some (.ref (S++[Ob.dK (mD [(s,0)])]).length),none,none,none] (S++[.dK (mD [(s,0)])]++[.lst [.int s]])
  ⟨0,_,none,none,none,rfl,(Keeps.app _ _).trans (Keeps.app _ _),by simp,(Keeps.app _ _).at (Di _ _),Di _ _,Cv _,rfl⟩ (show p < 1000000 by omega)
 refine ⟨S',i,IM (n:=7) (mb:=Hd W) ?_,K,D1,hl⟩;unfold Hd;exact (Bn s2).trans ((Bn s3).trans ((Bn h).trans rfl))
end
end M
namespace M
open PySem L2
end M
namespace M
open PySem L2
section
variable {nb:Int->List Int} {p:Nat}
theorem Fd.back {s:Int} {L:Met} (h:Fd nb p s L) (hsym:∀x y:Int,0<=x->0<=y->y∈nb x->x∈nb y) {C:List Int} (hC:∀x∈C,∀y∈nb x,y∈C):∀(d:Nat) (z:Int),(z,(d:Int))∈L->z∈C->s∈C
 | 0,z,hz,hc=>by
  have:z=s:=h.zero _ hz rfl;rw [<-this];exact hc
 | d+1,z,hz,hc=>by
  obtain ⟨b,hb,e1,e2⟩:=h.par _ hz (by dsimp only;omega);have hbz:b.1∈nb z:=hsym b.1 z (h.rng _ hb).1 (h.rng _ hz).1 e2
  have e3:b.2=d:=by dsimp only at e1;omega
  exact Fd.back h hsym hC d b.1 (by rw [<-e3];exact hb) (hC z hc b.1 hbz)
theorem Fd.meets {s:Int} {L:Met} (h:Fd nb p s L) (hsym:∀x y:Int,0<=x->0<=y->y∈nb x->x∈nb y) {C:List Int} (hC:∀x∈C,∀y∈nb x,y∈C) {z:Int} (hz:z∈Aq L) (hc:z∈C):s∈C:=by
 obtain ⟨d,hd⟩:=Br.mp hz;have:=h.nn _ hd;exact h.back hsym hC d.toNat z (by dsimp only at this;rw [DA this];exact hd) hc
theorem Fd.closed {s:Int} {L:Met} (h:Fd nb p s L):∀x∈Aq L,∀y∈nb x,y∈Aq L:=λx hx y hy=>by
 obtain ⟨d,hd⟩:=Br.mp hx;obtain ⟨d',hd',_⟩:=h.cl _ hd y hy;exact Br.mpr ⟨d',hd'⟩
end
def cov (nb:Int->List Int) (p:Nat) (R:List Nat):Met:=(R.map λs:Nat=>Rn nb s p).flatten
theorem M5 (nb:Int->List Int) (p:Nat) (R:List Nat) (x:Nat):cov nb p (R++[x])=cov nb p R++Rn nb x p:=by
 unfold cov;rw [B6,List.flatten_append];simp
theorem Lu {nb:Int->List Int} {p:Nat} {R:List Nat} {z:Int}:z∈Aq (cov nb p R)↔∃s∈R,z∈Aq (Rn nb s p):=by
 constructor
 ·intro h
  obtain ⟨d,hd⟩:=Br.mp h;obtain ⟨l,hl,hz⟩:=XH.mp hd;obtain ⟨s,hs,rfl⟩:=BG.mp hl;exact ⟨s,hs,Br.mpr ⟨d,hz⟩⟩
 ·rintro ⟨s,hs,h⟩
  obtain ⟨d,hd⟩:=Br.mp h;exact Br.mpr ⟨d,XH.mpr ⟨_,BG.mpr ⟨s,hs,rfl⟩,hd⟩⟩
def wk (nb:Int->List Int) (p:Nat):Nat->List Nat
 | 0=>[]
 | x+1=>if (x:Int)∈Aq (cov nb p (wk nb p x)) then wk nb p x else wk nb p x++[x]
structure Wk (nb:Int->List Int) (p x:Nat) (R:List Nat):Prop where
 of:∀s∈R,s < x/\∀a∈Aq (Rn nb s p),(s:Int)<=a
 nd:(Aq (cov nb p R)).Nodup
 all:∀y:Nat,y < x->(y:Int)∈Aq (cov nb p R)
 up:R.Pairwise (· < ·)
section
variable {nb:Int->List Int} {p:Nat} (hnb:∀x:Int,0<=x->x < p->∀y∈nb x,0<=y/\y < p) (hsym:∀x y:Int,0<=x->0<=y->y∈nb x->x∈nb y)
include hnb in
theorem Kw {s:Nat} (h:s < p):Fd nb p s (Rn nb s p):=(OP hnb ⟨by omega,by omega⟩ p).fd (OP hnb ⟨by omega,by omega⟩ p).len
include hnb hsym in
theorem Wk.step {x:Nat} (hx:x < p) {R:List Nat} (h:Wk nb p x R):Wk nb p (x+1) (if (x:Int)∈Aq (cov nb p R) then R else R++[x])/\((x:Int)∉Aq (cov nb p R)->∀z∈Aq (Rn nb x p),z∉Aq (cov nb p R)):=by
 have hF:=Kw hnb hx
 have hC:∀a∈Aq (cov nb p R),∀y∈nb a,y∈Aq (cov nb p R):=λa ha y hy=>by
  obtain ⟨s,hs,ha⟩:=Lu.mp ha;exact Lu.mpr ⟨s,hs,(Kw hnb (show s < p by have:=(h.of s hs).1;omega)).closed a ha y hy⟩
 have hdis:(x:Int)∉Aq (cov nb p R)->∀z∈Aq (Rn nb x p),z∉Aq (cov nb p R):=λc z hz hc=>c (hF.meets hsym hC hz hc)
 refine ⟨?_,hdis⟩
 by_cases c:(x:Int)∈Aq (cov nb p R)
 ·rw [if_pos c]
  refine ⟨λs hs=>⟨by have:=(h.of s hs).1;omega,(h.of s hs).2⟩,h.nd,λy hy=>?_,h.up⟩
  by_cases e:y=x
  ·rw [e];exact c
  ·exact h.all y (by omega)
 ·rw [if_neg c]
  have hdis:=hdis c
  have hle:∀a∈Aq (Rn nb x p),(x:Int)<=a:=λa ha=>by
   by_cases e:(x:Int)<=a
   ·exact e
   ·obtain ⟨d,hd⟩:=Br.mp ha
    have h0:=(hF.rng _ hd).1;dsimp only at h0;have:=h.all a.toNat (by omega);rw [DA h0] at this;exact absurd this (hdis a ha)
  have hself:(x:Int)∈Aq (Rn nb x p):=Br.mpr ⟨0,hF.src⟩;refine ⟨λs hs=>?_,?_,λy hy=>?_,?_⟩
  ·rcases Au.mp hs with hs | hs
   ·exact ⟨by have:=(h.of s hs).1;omega,(h.of s hs).2⟩
   ·rw [Ab.mp hs]
    exact ⟨by omega,hle⟩
  ·rw [M5,Co]
   exact Ei.mpr ⟨h.nd,hF.nd,λa ha b hb e=>hdis b hb (e▸ha)⟩
  ·rw [M5,Co]
   by_cases e:y=x
   ·rw [e];exact As _ hself
   ·exact A1 _ (h.all y (by omega))
  ·refine BI.mpr ⟨h.up,Hk _ _,λs hs t ht=>?_⟩
   rw [Ab.mp ht];exact (h.of s hs).1
include hnb hsym in
theorem U1:∀x:Nat,x<=p->Wk nb p x (wk nb p x)
 | 0,_=>⟨λ_ h=>absurd h C9,Eh,λy h=>absurd h (NP _),Nu⟩
 | x+1,h=>((U1 x (by omega)).step hnb hsym (by omega)).1
def QF (nb:Int->List Int) (p s:Nat):List Int:=E5 (Aq (Rn nb s p))
include hnb in
include hnb in
include hnb in
end
end M
namespace M
open PySem L2
theorem N9:∀(L C:Met),(Aq L).Nodup->(∀z∈Aq L,z∉Aq C)->Ko (mD C) (mD L)=mD (C++L)
 | [],C,_,_=>by rw [Ax];rfl
 | a :: L,C,nd,hd=>by
  obtain ⟨n1,n2⟩:=Bq.mp (show (a.1 :: Aq L).Nodup from nd);have e:Ko (mD C) (mD (a :: L))=Ko (Gr (mD C) (Cc a.1) (.int a.2)) (mD L):=rfl;rw [e,WD (hd a.1 A0),N9 L (C++[(a.1,a.2)]) n2 (λz hz hc=>?_),At]
  ·rfl
  ·rw [Co] at hc
   rcases Au.mp hc with hc | hc
   ·exact hd z (AZ _ hz) hc
   ·have:z=a.1:=by simpa [Aq] using hc
    exact n1 (this▸hz)
theorem Y9 {mo ma:ME} {e:Lo} {S:Sto} {n m:Nat} {C L:Met} (ho:mo e S=.ok (.ref n) S) (ha:ma e S=.ok (.ref m) S) (hn:S[n]?=some (.dK (mD C))) (hm:S[m]?=some (.dK (mD L))) (hne:n≠m) (nd:(Aq L).Nodup) (hd:∀z∈Aq L,z∉Aq C) (hl:C.length+L.length<=1000) :
  OB mo ma e S=.ok .non (S.set n (.dK (mD (C++L)))):=by
 unfold OB;rw [ho];dsimp only [Res.bind];rw [hn];dsimp only;rw [ha];dsimp only;rw [hn,hm];dsimp only;rw [if_pos ⟨hne,by unfold mD;rw [AG,AG];exact Ao hl (by decide)⟩,N9 L C nd hd]
theorem UE {S:Sto} {n:Nat} {L:Met} (h:S[n]?=some (.dK (mD L))):Ft (.ref n) S=some ((Aq L).map D.int):=by
 unfold Ft;dsimp only;rw [h];dsimp only;unfold mD Aq;rw [Be,Be];rfl
abbrev ei (W:Wd):MS:=sIf (mB (m2 (inA true) (AL 3) (AL 2))) (BW (B3 4 (CC 2 (Du W) (AY (AL 0) (AY (AL 3) BH))))
  (BW (C4 (OB (AL 2) (AL 4)))
  (C4 (JA (AL 1) (Fs (DP (AL 4))))))) sNx
section
variable {W:Wd} {q p:Nat} {ts:List (Int×Int)}
theorem Vx {S:Sto} (hw:HE W S q p ts) (hp:p<=60) (hnb:∀x:Int,0<=x->x < p->∀y∈nbW ts x,0<=y/\y < p) (hlen:∀x,(nbW ts x).length<=1000) (hsym:∀x y:Int,0<=x->0<=y->y∈nbW ts x->x∈nbW ts y) :
  ∃S',Fx W [.ref q] S=.ok (.ref S.length) S'/\Keeps S S'/\S'[S.length]?=some (.lst (((wk (nbW ts) p p).map (QF (nbW ts) p)).map G7)):=by
 have s1:B3 1 (E7 (Df BH)) (Eo 5 [.ref q]) S=.ok (.nx [some (.ref q),some (.ref S.length),none,none,none]) (S++[.lst []]):=rfl
 have s2:B3 2 Ru [some (.ref q),some (.ref S.length),none,none,none] (S++[.lst []])=.ok (.nx [some (.ref q),some (.ref S.length),some (.ref (S.length+1)),none,none]) (S++[.lst []]++[.dK []]):=by
  show Res.ok (Fl.nx [some (.ref q),some (.ref S.length),some (.ref (S++[Ob.lst []]).length),none,none]) (S++[.lst []]++[.dK []])=_;rw [AR];rfl
 have K0:Keeps S (S++[.lst []]++[.dK []]):=(Keeps.app _ _).trans (Keeps.app _ _)
 have hi:iR1 (AY (Hu W.Web "places" (AL 0)) BH) [some (.ref q),some (.ref S.length),some (.ref (S.length+1)),none,none] (S++[.lst []]++[.dK []])=.ok (Fj (D6 0 p)) (S++[.lst []]++[.dK []]):=by
  have:=Rz (ml:=AY (Hu W.Web "places" (AL 0)) BH) (e:=[some (.ref q),some (.ref S.length),some (.ref (S.length+1)),none,none]) (S:=S++[.lst []]++[.dK []]) (S1:=S++[.lst []]++[.dK []]) (j:=p) (Bx ((hw.keeps K0).places rfl) rfl) (by omega) (by omega);simpa using this
 obtain ⟨f,S1,h1,z3,z4,rfl,K1,P1⟩:=Mu (v:=Fj (D6 0 p)) (g:=tgN 3) (b:=ei W) (xs:=D6 0 p) (e:=[some (.ref q),some (.ref S.length),some (.ref (S.length+1)),none,none]) (S:=S++[.lst []]++[.dK []])
  (λx e S'=>∃z3 z4,e=[some (.ref q),some (.ref S.length),some (.ref (S.length+1)),z3,z4]/\Keeps S S'/\S'[S.length]?=some (.lst (((wk (nbW ts) p x).map (QF (nbW ts) p)).map G7))/\S'[S.length+1]?=some (.dK (mD (cov (nbW ts) p (wk (nbW ts) p x)))))
  (λf S'=>∃z3 z4,f=.nx [some (.ref q),some (.ref S.length),some (.ref (S.length+1)),z3,z4]/\Keeps S S'/\S'[S.length]?=some (.lst (((wk (nbW ts) p p).map (QF (nbW ts) p)).map G7)))
  ⟨none,none,rfl,K0,(Keeps.app _ _).at (Di _ _),by
   have:=Di (S++[Ob.lst []]) (.dK []);rw [AR] at this
   exact this⟩ (λ_ _ _ _=>rfl)
  (by
   rintro x d e S' hd ⟨z3,z4,rfl,K,hP,hC⟩;obtain ⟨hx,rfl⟩:=QC hd;rw [c5];have hW:=U1 hnb hsym x (by omega);obtain ⟨hW',hdis⟩:=hW.step hnb hsym hx;refine ⟨[some (.ref q),some (.ref S.length),some (.ref (S.length+1)),some (.int x),z4],S',rfl,?_⟩;have t1:mB (m2 (inA true) (AL 3) (AL 2)) [some (.ref q),some (.ref S.length),some (.ref (S.length+1)),some (.int x),z4] S'=.ok (!decide ((x:Int)∈Aq (cov (nbW ts) p (wk (nbW ts) p x)))) S':=Ji (C5 rfl rfl (WW hC true x));have ic:=Fu (a:=BW (B3 4 (CC 2 (Du W) (AY (AL 0) (AY (AL 3) BH)))) (BW (C4 (OB (AL 2) (AL 4))) (C4 (JA (AL 1) (Fs (DP (AL 4))))))) (b:=sNx) t1
   by_cases c:(x:Int)∈Aq (cov (nbW ts) p (wk (nbW ts) p x))
   ·rw [decide_eq_true c] at ic
    have e1:wk (nbW ts) p (x+1)=wk (nbW ts) p x:=if_pos c;refine ⟨_,S',ic.trans rfl,_,_,rfl,K,?_,?_⟩
    ·rw [e1];exact hP
    ·rw [e1];exact hC
   ·rw [decide_eq_false c] at ic
    have e1:wk (nbW ts) p (x+1)=wk (nbW ts) p x++[x]:=if_neg c;obtain ⟨S2,i,c2,K2,D2,hi⟩:=VP (s:=(x:Int)) (hw.keeps K) hp hnb hlen ⟨by omega,by omega⟩;have hF:=Kw hnb hx;rw [cL hi hF.len] at D2;have s4:B3 4 (CC 2 (Du W) (AY (AL 0) (AY (AL 3) BH))) [some (.ref q),some (.ref S.length),some (.ref (S.length+1)),some (.int x),z4] S'=.ok (.nx [some (.ref q),some (.ref S.length),some (.ref (S.length+1)),some (.int x),some (.ref S'.length)]) S2:=JX (i:=4) ((Gg (ds:=[.ref q,.int x]) (S1:=S') rfl rfl).trans c2);have hCl:S.length+1 < S'.length:=(AD.mp hC).1
    have hcov:(cov (nbW ts) p (wk (nbW ts) p x)).length<=p:=by
     have:=QK p _ hW.nd λz hz=>by
      obtain ⟨s,hs,hz⟩:=Lu.mp hz;obtain ⟨d,hd⟩:=Br.mp hz;exact (Kw hnb (show s < p by have:=(hW.of s hs).1;omega)).rng _ hd
     unfold Aq at this;rwa [AG] at this
    have u1:=Y9 (mo:=AL 2) (ma:=AL 4) (e:=[some (.ref q),some (.ref S.length),some (.ref (S.length+1)),some (.int x),some (.ref S'.length)]) rfl rfl (K2.at hC) D2 (by omega) hF.nd (hdis c) (by have:=hF.len;omega);rw [<-M5,<-e1] at u1;have hC2:=(AD.mp (K2.at hC)).1
    have P3:(S2.set (S.length+1) (.dK (mD (cov (nbW ts) p (wk (nbW ts) p (x+1))))))[S.length]?=some (.lst (((wk (nbW ts) p x).map (QF (nbW ts) p)).map G7)):=by
     rw [Al (by omega)];exact K2.at hP
    have D3:(S2.set (S.length+1) (.dK (mD (cov (nbW ts) p (wk (nbW ts) p (x+1))))))[S'.length]?=some (.dK (mD (Rn (nbW ts) x p))):=by
     rw [Al (by omega)];exact D2
    have C3:(S2.set (S.length+1) (.dK (mD (cov (nbW ts) p (wk (nbW ts) p (x+1))))))[S.length+1]?=some (.dK (mD (cov (nbW ts) p (wk (nbW ts) p (x+1))))):=A3 hC2;have K3:Keeps S (S2.set (S.length+1) (.dK (mD (cov (nbW ts) p (wk (nbW ts) p (x+1)))))):=(K.trans K2).set (NF _) _;generalize S2.set (S.length+1) (Ob.dK (mD (cov (nbW ts) p (wk (nbW ts) p (x+1)))))=S3 at u1 P3 D3 C3 K3;have so:=Io (m:=AL 4) (e:=[some (.ref q),some (.ref S.length),some (.ref (S.length+1)),some (.int x),some (.ref S'.length)]) (S:=S3) rfl (UE D3) (MR (Aq (Rn (nbW ts) x p)));have tu:=Ju so (ES (Di _ _));have K4:=Keeps.app S3 [.lst ((E5 (Aq (Rn (nbW ts) x p))).map D.int)];have P4:=K4.at P3
    have hwl:(wk (nbW ts) p x).length<=x:=by
     have h1:=QK x ((wk (nbW ts) p x).map λs:Nat=>(s:Int)) (Bz.mpr (hW.up.imp λ{a b} h e=>by omega)) λz hz=>by
      obtain ⟨s,hs,rfl⟩:=BG.mp hz;have:=(hW.of s hs).1;omega
     rwa [AG] at h1
    have a1:=ND (mo:=AL 1) (e:=[some (.ref q),some (.ref S.length),some (.ref (S.length+1)),some (.int x),some (.ref S'.length)]) rfl P3 tu P4 (by rw [AG,AG];exact Bk (show (wk (nbW ts) p x).length<=100 by omega) (by decide));refine ⟨_,_,ic.trans ((if_pos rfl).trans ((Bn s4).trans ((Bn (Gc u1)).trans (Gc a1)))),_,_,rfl,(K3.trans K4).set (AQ _) _,?_,?_⟩
    ·rw [A3 (AD.mp P4).1,e1,B6,B6]
     rfl
    ·rw [Al (by omega)]
     exact K4.at C3)
  (by
   rintro e S' ⟨z3,z4,rfl,K,hP,_⟩;rw [N4] at hP
   exact ⟨_,_,rfl,K,hP⟩)
 refine ⟨S1,IM (n:=5) (mb:=Jf W) ?_,K1,P1⟩;unfold Jf;exact (Bn s1).trans ((Bn s2).trans ((Bn ((Ku hi).trans h1)).trans rfl))
end
end M
namespace M
open PySem L2 L4
def Mc (W:Wd) (w:Nat×List (Int×Int)):Ob:=.ins W.Web [("places",.int w.1),("ties",.tup (w.2.map pairD)),("near_sets",.tup (FD w.1 w.2))]
open Classical in
def XW (x:Int) (l:List (Int×Int)):Option (Nat×List (Int×Int)):=if 1<=x/\x<=60/\Dj x l/\l.length<=90000 then some (x.toNat,GU l) else none
section
variable {W:Wd} {A:List Sl} {a b m:ME} {p:Option (Nat×List (Int×Int))}
theorem SW {α:Type} {f:Str} {enc:α->D} {g:Nat×List (Int×Int)->α} (h:VE A m (rO (Mc W)) p) (hl:∀w,([("places",D.int w.1),("ties",.tup (w.2.map pairD)),("near_sets",.tup (FD w.1 w.2))]:List (Str×D)).lookup f=some (enc (g w))):VE A (Hu W.Web f m) (rV enc) (p.bind λw=>some (g w)):=λv hv S0 e F S hs=>by
 obtain ⟨w,h1,h2⟩:=BK hv;cases h2;obtain ⟨d,S',h3,h4,n,rfl,hn⟩:=h w h1 S0 e F S hs;exact ⟨_,S',PD h3 hn (hl w),h4,rfl⟩
theorem Te (h:VE A m (rO (Mc W)) p):VE A (Hu W.Web "places" m) (rV D.int) (p.bind λw=>some (w.1:Int)):=SW h λw=>ZZ _ _ _
theorem Xj (h:VE A m (rO (Mc W)) p):VE A (Hu W.Web "ties" m) (rV (eT (eP D.int D.int))) (p.bind λw=>some w.2):=SW h λw=>ZY _ _ _
theorem Zy (W:Wd) {p:Nat} (h1:1<=p) (hp:p<=60) {d:D} {S:Sto} {ps:List (Int×Int)} (hv:∀S',Keeps S S'->Ho d S'=some (ps.map pairD)) (hl:ps.length<=90000) (hf:Dj p ps) {e:Lo} {ml:ML} {S0:Sto} (ha:ml e S0=.ok [.int p,d] S) :
  ∃S',OA W.Web 3 (Hb W) ml e S0=.ok (.ref S.length) S'/\Keeps S S'/\S'[S.length]?=some (Mc W (p,GU ps)):=by
 have t0:Ja (mB (m3 leD leD (mC (.int 1)) (AL 1) (mC (.int 60)))) [some (.ref S.length),some (.int p),some d] (S++[.ins W.Web []])=.ok false (S++[.ins W.Web []]):=
  IR (b:=true) (Ji (WH (S3:=S++[.ins W.Web []]) rfl rfl (Ml (decide_eq_true (by omega))) rfl (Ml (decide_eq_true (by omega)))))
 have hq0:(S++[Ob.ins W.Web []])[S.length]?=some (.ins W.Web []):=Di _ _;have e1:=Oi (C:=W.Web) (f:="places") (mo:=AL 0) (mv:=AL 1) (e:=[some (.ref S.length),some (.int p),some d]) (S:=S++[.ins W.Web []]) (v:=.int p) rfl rfl hq0 (by decide);have K1:Keeps S ((S++[Ob.ins W.Web []]).set S.length (.ins W.Web (LY "places" (.int p) []))):=(Keeps.app S _).set (AQ _) _;generalize hS1:(S++[Ob.ins W.Web []]).set S.length (.ins W.Web (LY "places" (.int p) []))=S1 at e1 K1
 have hq1:S1[S.length]?=some (.ins W.Web [("places",.int p)]):=by rw [<-hS1];exact A3 (by simp)
 obtain ⟨S2,c2,K2⟩:=PM W (p:=p) (d:=d) (S:=S1) (ps:=ps) (λS' k=>hv S' (K1.trans k)) (Ao hl (by decide)) hf;rw [RS] at c2;have e2:=Oi (C:=W.Web) (f:="ties") (mo:=AL 0) (mv:=CC 2 (Ee W) (AY (AL 1) (AY (AL 2) BH))) (e:=[some (.ref S.length),some (.int p),some d]) (S:=S1) ((Gg rfl rfl).trans c2) rfl (K2.at hq1) (by simp);have K3:Keeps S (S2.set S.length (.ins W.Web (LY "ties" (.tup ((GU ps).map pairD)) [("places",.int p)]))):=(K1.trans K2).set (AQ _) _;rw [put2] at e2 K3;have hlt2:S.length < S2.length:=(AD.mp (K2.at hq1)).1;generalize hS3:S2.set S.length (.ins W.Web [("places",.int p),("ties",.tup ((GU ps).map pairD))])=S3 at e2 K3
 have hq3:S3[S.length]?=some (.ins W.Web [("places",.int p),("ties",.tup ((GU ps).map pairD))]):=by rw [<-hS3];exact A3 hlt2
 obtain ⟨S4,c4,K4⟩:=Yg W hp (ts:=GU ps) (λt ht=>by
  obtain ⟨x,hx,rfl⟩:=VC ht
  exact (hf.1 x hx).in) (by rw [(Im ps).length_eq,AG];exact hl) S3
 have e3:=Oi (C:=W.Web) (f:="near_sets") (mo:=AL 0) (mv:=CC 2 (Ed W) (AY (AL 1) (AY (Hu W.Web "ties" (AL 0)) BH))) (e:=[some (.ref S.length),some (.int p),some d]) (S:=S3)
  ((Gg (Bx (S1:=S3) rfl (Bx (PD rfl hq3 (bI _ _)) rfl)) rfl).trans c4) rfl (K4.at hq3) (by simp)
 have hlt4:S.length < S4.length:=(AD.mp (K4.at hq3)).1;rw [put3] at e3;refine ⟨_,Yj ha rfl (Va (e:=[some (.ref S.length),some (.int p),some d]) ?_),(K3.trans K4).set (AQ _) _,A3 hlt4⟩;unfold NB;refine Jm (Bn (e:=[some (.ref S.length),some (.int p),some d]) (e1:=[some (.ref S.length),some (.int p),some d]) (S1:=S++[.ins W.Web []]) (Jm (Fu t0) rfl)) ?_;rw [Bn e1,Bn e2];exact e3
theorem Z1 {pa:Option Int} {pl:Option (List (Int×Int))} (ha:VE A a (rV D.int) pa) (hb:VE A b (rO (oL (eP D.int D.int))) pl):VE A (OA W.Web 3 (Hb W) (AY a (AY b BH))) (rN (Mc W)) (pa.bind λx=>pl.bind λl=>XW x l):=λv hv S0 e F S hs=>by
 obtain ⟨x,h1,hv⟩:=BK hv;obtain ⟨l,h2,h3⟩:=BK hv;obtain ⟨d1,S1,q1,k1,rfl⟩:=ha x h1 S0 e F S hs;obtain ⟨d2,S2,q2,k2,n,rfl,hn⟩:=hb l h2 S0 e _ S1 (hs.grow k1);unfold XW at h3;split at h3
 ·rename_i hc
  cases h3;obtain ⟨c1,c2,c3,c4⟩:=hc;have hx:((x.toNat:Nat):Int)=x:=DA (by omega);obtain ⟨S3,h5,h6,h7⟩:=Zy W (p:=x.toNat) (d:=.ref n) (S:=S2) (ps:=l) (by omega) (by omega) (λS' k=>En (k.at hn)) c4 (by rw [hx];exact c3) (ml:=AY a (AY b BH)) (e:=e) (S0:=S) (by rw [hx];exact Bx q1 (Bx q2 rfl));exact ⟨_,S3,h5,(k1.trans k2).trans h6,_,rfl,(k1.trans k2).1,h7⟩
 ·cases h3
end
end M
namespace M
open PySem L2 L4
def Cp (ns:List Int) (k:Int):Option Int:=if 0<=k then some (if k < ns.length then ns.getD k.toNat 0 % 10 ^ 60 else 0) else none
theorem E4 (W:Wd) (ns:List Int) (k:Int):VF (Dh W) [.v (eF ns),.v (D.int k)] (rV D.int) (Cp ns k):=λv hv S ds ha=>by
 unfold Cp at hv;split at hv
 ·rename_i h0
  cases hv
  match ds,ha with
  | [d1,d2],⟨h1,h2,_⟩=>
   cases h1;cases h2;have t:mB (m2 ltD (AL 1) (Mg (AL 0))) [some (.fro (ns.map D.int)),some (.int k)] S=.ok (decide (k < ns.length)) S:=Ji (C5 rfl (Rw (d:=.fro (ns.map D.int)) (ds:=ns.map D.int) rfl rfl) (Mj (by rw [AG])));refine ⟨_,S,IM (n:=2) (mb:=Ij W) (S1:=S) ?_,Keeps.refl S,rfl⟩;unfold Ij
   by_cases c:k < ns.length
   ·rw [decide_eq_true c] at t
    rw [if_pos c]
    have hx:ixA (.fro (ns.map D.int)) (.int k) S=.ok (.int (ns.getD k.toNat 0)) S:=by
     refine Yn (d:=.fro (ns.map D.int)) (ds:=ns.map D.int) (j:=k) rfl h0 ?_;rw [Aj,Bj,BB (by omega)];rfl
    have hp:m2 aa (mC (.int 10)) (mC (.int 60)) [some (.fro (ns.map D.int)),some (.int k)] S=.ok (.int (10 ^ 60)) S:=C5 rfl rfl (by rfl);exact VZ ((Fu t).trans ((if_pos rfl).trans (HV (C5 (C5 rfl rfl hx) hp (Ox (by decide))))))
   ·rw [decide_eq_false c] at t
    rw [if_neg c];exact (Bn ((Fu t).trans rfl)).trans rfl
 ·cases hv
def et (p:Nat) (ts:List (Int×Int)):Prop:=p<=60/\(∀x:Int,0<=x->x < p->∀y∈nbW ts x,0<=y/\y < p)/\(∀x,(nbW ts x).length<=1000)/\∀x y:Int,0<=x->0<=y->y∈nbW ts x->x∈nbW ts y
open Classical in
def HW (w:Nat×List (Int×Int)):Option (List (List Int)):=if et w.1 w.2 then some ((wk (nbW w.2) w.1 w.1).map (QF (nbW w.2) w.1)) else none
theorem U3 {W:Wd} {S:Sto} {q:Nat} {w:Nat×List (Int×Int)} (h:S[q]?=some (Mc W w)):HE W S q w.1 w.2:=⟨_,h,ZZ _ _ _,ZY _ _ _,eK _ _ _⟩
theorem RM (W:Wd) (w:Nat×List (Int×Int)):VF (Fx W) [.z (Mc W w)] (rN (oL (eT D.int))) (HW w):=λv hv S ds ha=>by
 unfold HW at hv;split at hv
 ·rename_i hc
  cases hv
  match ds,ha with
  | [d1],⟨⟨n,h1,h2⟩,_⟩=>
   cases h1;obtain ⟨S',c1,c2,c3⟩:=Vx (U3 h2) hc.1 hc.2.1 hc.2.2.1 hc.2.2.2;exact ⟨_,S',c1,c2,_,rfl,AQ _,c3⟩
 ·cases hv
end M
namespace M
open PySem L2 L4
def FV (DM:Int) (Hh:Int):Option (Fw Int Unit):=
 Ce ((((((some DM).bind λx2=>some (x2 % 2147483647)).bind λx3=>(some Hh).bind λx4=>some (x3+x4)).bind λx5=>some (x5 * 48271)).bind λx6=>some (x6 % 2147483647)).bind λx7=>some (.nx x7)) λv1=>Ce ((((some v1).bind λx9=>(some v1).bind λx10=>V6 x9 x10).bind λx11=>some (x11 % 2147483629)).bind λx12=>some (.nx x12)) λv8=>((((some v8).bind λx15=>((some (7919:Int)).bind λx13=>(some Hh).bind λx14=>V6 x13 x14).bind λx16=>some (x15+x16)).bind λx17=>some (x17 * 69621)).bind λx18=>some (x18 % 2147483629)).bind λx19=>some (.rt x19)
def EX (DM:Int) (Hh:Int):Option Int:=Op (FV DM Hh)
theorem Jt (W:Wd) (DM:Int) (Hh:Int):VF (FY W) [.v (D.int DM),.v (D.int Hh)] (rV D.int) (EX DM Hh):=by
 refine MD (n:=3) (b:=Hf W) (p:=FV DM Hh) (B:=λ_=>[]) ?_;show VS [.v (D.int DM),.v (D.int Hh),.u] _ _ _ _;unfold Hf FV;exact (B2 (EO (HP rfl (SU rfl (HR (HP rfl (Az rfl)) (Az rfl))))) (λv1=>(B2 (EO (HP rfl (U8 (Az rfl) (Az rfl)))) (λv8=>(KZ (HP rfl (SU rfl (HR (Az rfl) (U8 (Fk rfl) (Az rfl))))))))))
def FU (DM:Int) (Bm:Int):Option (Fw (List Int) Unit):=
 Ce (((some []).bind R6).bind λx2=>some (.nx x2)) λv1=>Ce (((some Bm).bind Rc).bind λl22=>Hv l22 v1 λ(s3:(List Int)) x4=>Kp (λv5=>v5) ((((((some DM).bind λx10=>(((some (7000:Int)).bind λx8=>(some x4).bind λx9=>some (x8+x9)).bind λx11=>(some ()).bind λx12=>some (x11,x12)).bind λx13=>some (x10,x13)).bind λz14=>EX z14.1 z14.2.1).bind λx15=>some (x15 / 8)).bind λx19=>((some x4).bind λx17=>(some (1:Int)).bind λx18=>some (x17+x18)).bind λx20=>Ow x19 x20).bind λx21=>(some x4).bind λx6=>(Yq s3 x21 x6).bind λl7=>some (.nx l7))) λs23=>some (.rt s23)
def FW (DM:Int) (Bm:Int):Option (List Int):=Op (FU DM Bm)
theorem Of (W:Wd) (DM:Int) (Bm:Int):VF (Ha W) [.v (D.int DM),.v (D.int Bm)] (rN (oL D.int)) (FW DM Bm):=by
 refine MD (n:=4) (b:=He W) (p:=FU DM Bm) (B:=λ_=>[]) ?_;show VS [.v (D.int DM),.v (D.int Bm),.u,.u] _ _ _ _;unfold He FU;exact (B2 (Oa (JU (MB RI))) (λv1=>(B2 (Oc (s0:=v1) (B:=(λ(s24:(List Int))=>[.v (D.int DM),.v (D.int Bm),.w 2 ((oL D.int) s24),.u])) (Td (Az rfl)) OZ (.same (.same (.same (.same .nil)))) (λs3 x4=>(IF (Zz rfl (Ka (G6 rfl (DO (Gp (Az rfl) (Gp (HR (Fk rfl) (Az rfl)) EQ)) (λz14=>Jt W z14.1 z14.2.1) (λ_=>rfl) JK)) (HR (Az rfl) (Fk rfl))) (Az rfl) rfl) (λv5=>(.same (.same (.same (.drop .nil)))))))) (λs23=>(XZ rfl)))))
def GZ (Cu:(List (Int×Int))) (Bm:Int) (Ez:(List Int)):Option (Fw (List (Int×Int)) Unit):=
 Ce ((some Cu).bind λx2=>some (.nx x2)) λv1=>Ce ((some Ez).bind λl34=>Hv l34 v1 λ(s3:(List (Int×Int))) x4=>Ce (((some x4).bind λx6=>(some Bm).bind λx7=>Ow x6 x7).bind λx8=>some (.nx x8)) λv5=>Ce ((((some x4).bind λx10=>(some Bm).bind λx11=>Sy x10 x11).bind λx12=>(some Bm).bind λx13=>Ow x12 x13).bind λx14=>some (.nx x14)) λv9=>Ce ((((some v5).bind λx16=>(some v9).bind λx17=>some (if x17 < x16 then x17 else x16)).bind λx20=>((some v5).bind λx18=>(some v9).bind λx19=>some (if x19 > x18 then x19 else x18)).bind λx21=>some (x20,x21)).bind λx22=>some (.nx x22)) λv15=>Kp (λs32=>s32) ((((some v5).bind λx23=>(some v9).bind λx24=>some (!decide (x23=x24))).bind λx27=>if x27=true then (some v15).bind λx25=>(some s3).bind λx26=>some (!inG x25 x26) else some false).bind λx31=>if x31=true then Kp (λv28=>v28) ((some v15).bind λx29=>(SA s3 x29).bind λl30=>some (.nx l30)) else some (.nx s3))) λs35=>((some s35).bind λx37=>some (LF x37)).bind λx38=>some (.rt x38)
def Gb (Cu:(List (Int×Int))) (Bm:Int) (Ez:(List Int)):Option (List (Int×Int)):=Op (GZ Cu Bm Ez)
theorem Pw (W:Wd) (Cu:(List (Int×Int))) (Bm:Int) (Ez:(List Int)):VF (IY W) [.z ((oL (eP D.int D.int)) Cu),.v (D.int Bm),.z ((oL D.int) Ez)] (rN (oL (eP D.int D.int))) (Gb Cu Bm Ez):=by
 refine MD (n:=8) (b:=Ii W) (p:=GZ Cu Bm Ez) (B:=λ_=>[]) ?_;show VS [.z ((oL (eP D.int D.int)) Cu),.v (D.int Bm),.z ((oL D.int) Ez),.u,.u,.u,.u,.u] _ _ _ _;unfold Ii GZ;exact (B2 (Oa (JU (Xf (Xe (Lj rfl))))) (λv1=>(B2 (Oc (s0:=v1) (B:=(λ(s36:(List (Int×Int)))=>[.z ((oL (eP D.int D.int)) Cu),.v (D.int Bm),.z ((oL D.int) Ez),.w 3 ((oL (eP D.int D.int)) s36),.u,.u,.u,.u])) (U6 rfl) OZ (.same (.same (.same (.same (.same (.same (.same (.same .nil)))))))) (λs3 x4=>(B2 (EO (Ka (Az rfl) (Az rfl))) (λv5=>(B2 (EO (Ka (Xn (Az rfl) (Az rfl)) (Az rfl))) (λv9=>(B2 (EO (SS (Oe (Az rfl) (Az rfl)) (SV (Az rfl) (Az rfl)))) (λv15=>(IF (Nx (B:=(λ(s33:(List (Int×Int)))=>[.z ((oL (eP D.int D.int)) Cu),.v (D.int Bm),.z ((oL D.int) Ez),.w 3 ((oL (eP D.int D.int)) s33),.v (D.int x4),.v (D.int v5),.v (D.int v9),.v ((eP D.int D.int) v15)])) (Z8 (Pt (ZR Ge Kn (Az rfl) (Az rfl))) (Pt (Xk (Wq Ge Ge) (Az rfl) (Od rfl)))) (IF (U4 rfl (Az rfl) rfl) (λv28=>(.same (.same (.same (.same (.same (.same (.same (.same .nil)))))))))) (Nv (.same (.same (.same (.same (.same (.same (.same (.same .nil)))))))))) (λs32=>(.same (.same (.same (.same (.drop (.drop (.drop (.drop .nil)))))))))))))))))) (λs35=>(Xb (Pr (Od rfl)))))))
def D8 (Bm:Int) (Cu:(List (Int×Int))):Option (Fw Bool Unit):=
 Ce (((some Bm).bind Rc).bind λx2=>some (.nx x2)) λv1=>Ce ((some Cu).bind λl34=>Hv l34 v1 λ(s3:(List Int)) x4=>Ce ((((some s3).bind λl7=>(some x4.1).bind λx8=>atI l7 x8).bind λx5=>((some s3).bind λl9=>(some x4.2).bind λx10=>atI l9 x10).bind λx6=>some (decide (x5=x6))).bind λx12=>if x12=true then (some false).bind λx11=>some (.rt x11) else some (.nx ())) λ_=>Ce (((some s3).bind λl16=>(some x4.2).bind λx17=>atI l16 x17).bind λx18=>some (.nx x18)) λv15=>Kp (λv19=>v19) (((some s3).bind λl32=>LL l32 (λx20=>some true) (λx20=>(((some x20).bind λx25=>(((some s3).bind λl21=>(some x4.1).bind λx22=>atI l21 x22).bind λx23=>(some []).bind λl24=>some (x23 :: l24)).bind λl26=>some (x25 :: l26)).bind R6).bind λl30=>(((some x20).bind λx27=>(some v15).bind λx28=>some (decide (x27=x28))).bind λx29=>some (if x29=true then 1 else 0)).bind λx31=>atI l30 x31)).bind λx33=>some (.nx x33))) λs35=>(some true).bind λx37=>some (.rt x37)
def DH (Bm:Int) (Cu:(List (Int×Int))):Option Bool:=Op (D8 Bm Cu)
theorem LU (W:Wd) (Bm:Int) (Cu:(List (Int×Int))):VF (FJ W) [.v (D.int Bm),.z ((oL (eP D.int D.int)) Cu)] (rV D.bl) (DH Bm Cu):=by
 refine MD (n:=6) (b:=FL W) (p:=D8 Bm Cu) (B:=λ_=>[]) ?_;show VS [.v (D.int Bm),.z ((oL (eP D.int D.int)) Cu),.u,.u,.u,.u] _ _ _ _;unfold FL D8;exact (B2 (Js (JU (Tb (Az rfl)))) (λv1=>(B2 (Oc (s0:=v1) (B:=(λ(s36:(List Int))=>[.v (D.int Bm),.z ((oL (eP D.int D.int)) Cu),.y ((oL D.int) s36),.u,.u,.u])) (U6 rfl) XY (.same (.same (.same (.same (.same (.same .nil)))))) (λs3 x4=>(B2 (Nx (B:=(λ(_:Unit)=>[.v (D.int Bm),.z ((oL (eP D.int D.int)) Cu),.y ((oL D.int) s3),.v (D.int x4.1),.v (D.int x4.2),.u])) (Pt (Ps Ge Kn (HQ (Dq rfl) (Az rfl)) (HQ (Dq rfl) (Az rfl)))) (KZ (Fk rfl)) (Nv (.same (.same (.same (.same (.same (.same .nil)))))))) (λ_=>(B2 (EO (HQ (Dq rfl) (Az rfl))) (λv15=>(IF (Js (JU (Po (VI.k (Xi rfl)) (λx20=>SX) (λx20=>(HQ (U7 (JU (MB (SR (Az rfl) (SR (HQ (Dq rfl) (Az rfl)) RI))))) (Z4 (Ps Ge Kn (Az rfl) (Az rfl)))))))) (λv19=>(.same (.same (.same (.drop (.drop (.drop .nil)))))))))))))) (λs35=>(KZ (Fk rfl))))))
def Ip (JP:(Nat×List (Int×Int))):Option (Fw Bool Unit):=
 ((((some JP).bind λx3=>some x3.2).bind λx4=>some (x4.length:Int)).bind λx1=>(((some JP).bind λx5=>some (x5.1:Int)).bind λx10=>((((some JP).bind λx6=>(some ()).bind λx7=>some (x6,x7)).bind λz8=>HW z8.1).bind λx9=>some (x9.length:Int)).bind λx11=>some (x10 - x11)).bind λx2=>some (decide (x1=x2))).bind λx12=>some (.rt x12)
def G8 (JP:(Nat×List (Int×Int))):Option Bool:=Op (Ip JP)
theorem N0 (W:Wd) (JP:(Nat×List (Int×Int))):VF (HD W) [.z ((Mc W) JP)] (rV D.bl) (G8 JP):=by
 refine MD (n:=1) (b:=Kx W) (p:=Ip JP) (B:=λ_=>[]) ?_;show VS [.z ((Mc W) JP)] _ _ _ _;unfold Kx Ip;exact (KZ (Ps Ge Kn (Xl (Xj (Lj rfl))) (RL (Te (Lj rfl)) (Xm (U7 (DO (Tf (Lj rfl) EQ) (λz8=>RM W z8.1) (λ_=>rfl) Vg))))))
def GY (BO:(List Int)) (FN:Int) (Dv:Int):Option (Fw (Int×(List (Int×Int))) Unit):=
 Ce (((some (1:Int)).bind λx10=>(((((some BO).bind λx2=>((some (0:Int)).bind λx3=>(some ()).bind λx4=>some (x3,x4)).bind λx5=>some (x2,x5)).bind λz6=>Cp z6.1 z6.2.1).bind λx7=>some (x7 / 4)).bind λx8=>(some FN).bind λx9=>Ow x8 x9).bind λx11=>some (x10+x11)).bind λx12=>some (.nx x12)) λv1=>Ce ((((((some BO).bind λx14=>((some (1:Int)).bind λx15=>(some ()).bind λx16=>some (x15,x16)).bind λx17=>some (x14,x17)).bind λz18=>Cp z18.1 z18.2.1).bind λx19=>((some v1).bind λx20=>(some ()).bind λx21=>some (x20,x21)).bind λx22=>some (x19,x22)).bind λz23=>FW z23.1 z23.2.1).bind λx24=>some (.nx x24)) λv13=>Ce (((some []).bind R6).bind λx26=>some (.nx x26)) λv25=>Ce (((some (1:Int)).bind λx27=>(some v1).bind λx28=>X6 x27 x28).bind λl104=>Hv l104 v25 λ(s29:(List (Int×Int))) x30=>Ce ((((((((some BO).bind λx34=>(((some (2:Int)).bind λx32=>(some x30).bind λx33=>some (x32+x33)).bind λx35=>(some ()).bind λx36=>some (x35,x36)).bind λx37=>some (x34,x37)).bind λz38=>Cp z38.1 z38.2.1).bind λx39=>(some x30).bind λx40=>some (x39+x40)).bind λx41=>((some (31:Int)).bind λx42=>(some ()).bind λx43=>some (x42,x43)).bind λx44=>some (x41,x44)).bind λz45=>EX z45.1 z45.2.1).bind λx46=>some (x46 / 8)).bind λx47=>some (.nx x47)) λv31=>Ce ((some x30).bind λx49=>some (.nx x49)) λv48=>Ce (((some Dv).bind λx50=>(some (1:Int)).bind λx51=>some (decide (x50=x51))).bind λx56=>if x56=true then Kp (λv52=>v52) (((some x30).bind λx53=>(some (3:Int)).bind λx54=>some (if x54 < x53 then x54 else x53)).bind λx55=>some (.nx x55)) else some (.nx v48)) λs57=>Ce (((some Dv).bind λx59=>(some (2:Int)).bind λx60=>some (decide (x59=x60))).bind λx68=>if x68=true then Kp (λv61=>v61) (((some (1:Int)).bind λx65=>(((some v31).bind λx62=>some (x62 / 1000)).bind λx63=>(some x30).bind λx64=>Ow x63 x64).bind λx66=>some (x65+x66)).bind λx67=>some (.nx x67)) else some (.nx s57)) λs69=>Kp (λs102=>s102) ((((some v31).bind λx73=>some (x73 % 9)).bind λx71=>(some (0:Int)).bind λx72=>some (decide (x72 < x71))).bind λx101=>if x101=true then Ce ((((some x30).bind λx76=>(some (1:Int)).bind λx77=>some (x76 - x77)).bind λx81=>(((some v31).bind λx78=>some (x78 / 9)).bind λx79=>(some s69).bind λx80=>Ow x79 x80).bind λx82=>some (x81 - x82)).bind λx83=>some (.nx x83)) λv74=>Kp (λv84=>v84) (((((some v13).bind λl87=>(some x30).bind λx88=>atI l87 x88).bind λx91=>((some v13).bind λl89=>(some v74).bind λx90=>atI l89 x90).bind λx92=>some (if x92 < x91 then x92 else x91)).bind λx99=>(((some v13).bind λl93=>(some x30).bind λx94=>atI l93 x94).bind λx97=>((some v13).bind λl95=>(some v74).bind λx96=>atI l95 x96).bind λx98=>some (if x98 > x97 then x98 else x97)).bind λx100=>some (x99,x100)).bind λx85=>(SA s29 x85).bind λl86=>some (.nx l86)) else some (.nx s29))) λs105=>(some v1).bind λx108=>((some s105).bind λx107=>some (LF x107)).bind λx109=>some (.rt (x108,x109))
def Ga (BO:(List Int)) (FN:Int) (Dv:Int):Option (Int×(List (Int×Int))):=Op (GY BO FN Dv)
theorem Pv (W:Wd) (BO:(List Int)) (FN:Int) (Dv:Int):VF (IX W) [.v (eF BO),.v (D.int FN),.v (D.int Dv)] (rP D.int (oL (eP D.int D.int))) (Ga BO FN Dv):=by
 refine MD (n:=10) (b:=Ih W) (p:=GY BO FN Dv) (B:=λ_=>[]) ?_;show VS [.v (eF BO),.v (D.int FN),.v (D.int Dv),.u,.u,.u,.u,.u,.u,.u] _ _ _ _;unfold Ih GY;exact (B2 (EO (HR (Fk rfl) (Ka (G6 rfl (DO (Gp (Az rfl) (Gp (Fk rfl) EQ)) (λz6=>E4 W z6.1 z6.2.1) (λ_=>rfl) JK)) (Az rfl)))) (λv1=>(B2 (Js (DO (Gp (DO (Gp (Az rfl) (Gp (Fk rfl) EQ)) (λz18=>E4 W z18.1 z18.2.1) (λ_=>rfl) JK) (Gp (Az rfl) EQ)) (λz23=>Of W z23.1 z23.2.1) (λ_=>rfl) Vg)) (λv13=>(B2 (Oa (JU (MB RI))) (λv25=>(B2 (Oc (s0:=v25) (B:=(λ(s106:(List (Int×Int)))=>[.v (eF BO),.v (D.int FN),.v (D.int Dv),.v (D.int v1),.y ((oL D.int) v13),.w 5 ((oL (eP D.int D.int)) s106),.u,.u,.u,.u])) (Tc (Fk rfl) (Az rfl)) OZ (.same (.same (.same (.same (.same (.same (.same (.same (.same (.same .nil)))))))))) (λs29 x30=>(B2 (EO (G6 rfl (DO (Gp (HR (DO (Gp (Az rfl) (Gp (HR (Fk rfl) (Az rfl)) EQ)) (λz38=>E4 W z38.1 z38.2.1) (λ_=>rfl) JK) (Az rfl)) (Gp (Fk rfl) EQ)) (λz45=>Jt W z45.1 z45.2.1) (λ_=>rfl) JK))) (λv31=>(B2 (EO (Az rfl)) (λv48=>(B2 (Nx (B:=(λ(s58:Int)=>[.v (eF BO),.v (D.int FN),.v (D.int Dv),.v (D.int v1),.y ((oL D.int) v13),.w 5 ((oL (eP D.int D.int)) s29),.v (D.int x30),.v (D.int v31),.v (D.int s58),.u])) (Pt (Ps Ge Kn (Az rfl) (Fk rfl))) (IF (EO (Oe (Az rfl) (Fk rfl))) (λv52=>(.same (.same (.same (.same (.same (.same (.same (.same (.same (.same .nil)))))))))))) (Nv (.same (.same (.same (.same (.same (.same (.same (.same (.same (.same .nil)))))))))))) (λs57=>(B2 (Nx (B:=(λ(s70:Int)=>[.v (eF BO),.v (D.int FN),.v (D.int Dv),.v (D.int v1),.y ((oL D.int) v13),.w 5 ((oL (eP D.int D.int)) s29),.v (D.int x30),.v (D.int v31),.v (D.int s70),.u])) (Pt (Ps Ge Kn (Az rfl) (Fk rfl))) (IF (EO (HR (Fk rfl) (Ka (G6 rfl (Az rfl)) (Az rfl)))) (λv61=>(.same (.same (.same (.same (.same (.same (.same (.same (.same (.same .nil)))))))))))) (Nv (.same (.same (.same (.same (.same (.same (.same (.same (.same (.same .nil)))))))))))) (λs69=>(IF (Nx (B:=(λ(s103:(List (Int×Int)))=>[.v (eF BO),.v (D.int FN),.v (D.int Dv),.v (D.int v1),.y ((oL D.int) v13),.w 5 ((oL (eP D.int D.int)) s103),.v (D.int x30),.v (D.int v31),.v (D.int s69),.u])) (Pt (dC (HP rfl (Az rfl)) (Fk rfl))) (B2 (EO (RL (RL (Az rfl) (Fk rfl)) (Ka (G6 rfl (Az rfl)) (Az rfl)))) (λv74=>(IF (U4 rfl (SS (Oe (HQ (Dq rfl) (Az rfl)) (HQ (Dq rfl) (Az rfl))) (SV (HQ (Dq rfl) (Az rfl)) (HQ (Dq rfl) (Az rfl)))) rfl) (λv84=>(.same (.same (.same (.same (.same (.same (.same (.same (.same (.drop .nil)))))))))))))) (Nv (.same (.same (.same (.same (.same (.same (.same (.same (.same (.same .nil)))))))))))) (λs102=>(.same (.same (.same (.same (.same (.same (.drop (.drop (.drop (.same .nil)))))))))))))))))))))) (λs105=>(Xa (Az rfl) (Pr (Od rfl)))))))))))
end M
namespace M
open PySem L2 L4
theorem aE {m:ME} {e:Lo} {S S1:Sto} {b:Bool} (h:m e S=.ok (.bl b) S1):Oy m e S=.ok b S1:=by
 unfold Oy;rw [h];rfl
open Classical in
def EV (w:Nat×List (Int×Int)):Option Bool:=if G8 w=some false then some true else none
theorem MK (W:Wd) (w:Nat×List (Int×Int)):VF (Fy W) [.z (Mc W w)] (rV D.bl) (EV w):=λv hv S ds ha=>by
 unfold EV at hv;split at hv
 ·rename_i hc
  cases hv;obtain ⟨d,S1,c1,k1,rfl⟩:=N0 W w false hc S ds ha
  match ds,ha with
  | [d1],⟨⟨n,h1,h2⟩,_⟩=>
   cases h1
   have er:D9 W [.ref n] S=.err W.NotWood S1:=by
    refine Vc (n:=3) (mb:=FK W) (e:=[some (.ref n),none,none]) ?_;unfold FK;have t:Ja (Oy (CC 1 (HD W) (AY (AL 0) BH))) [some (.ref n),none,none] S=.ok true S1:=IR (b:=false) (aE ((Gg (ds:=[.ref n]) (S1:=S) rfl rfl).trans c1));exact Oj ((Fu t).trans ((if_pos rfl).trans (MW rfl (by simp))))
   have s1:B3 1 (mC .non) (Eo 3 [.ref n]) S=.ok (.nx [some (.ref n),some .non,none]) S:=rfl;have body:C4 (CC 1 (D9 W) (AY (AL 0) BH)) [some (.ref n),some .non,none] S=.ok (.ex W.NotWood [some (.ref n),some .non,none]) S1:=UP ((Gg (ds:=[.ref n]) (S1:=S) rfl rfl).trans er);have s2:=aC (i:=2) (h:=B3 1 (AL 2)) (e2:=[some (.ref n),some (.exc W.NotWood),some (.exc W.NotWood)]) (S2:=S1) body (show W.NotWood∈W.excs by simp [Wd.excs]) rfl
   have t1:Fm W W.NotWood=some true:=by simp [Fm]
   have t2:D5 W W.NotWood=some true:=by simp [D5]
   have t3:Bo W W.NotWood=some false:=(if_neg C9).trans (if_pos (by simp [Wd.excs]))
   have i3:mOr (Ja (mB (mIs isN (Fm W) (AL 1)))) (Ja (mB (mIs isV (D5 W) (AL 1)))) [some (.ref n),some (.exc W.NotWood),none] S1=.ok false S1:=
    (Rg (IR (b:=true) (Ji (WR rfl t1)))).trans (IR (b:=true) (Ji (WR rfl t2)))
   have r4:Sj (WB (Bo W) (AL 1)) [some (.ref n),some (.exc W.NotWood),none] S1=.ok (.bl true) S1:=by
    unfold Sj;rw [bS rfl t3];rfl
   refine ⟨_,S1,IM (n:=3) (mb:=GD W) ?_,k1,rfl⟩;unfold GD;refine (Bn s1).trans ?_;refine (Bn s2).trans ?_;refine (Bn (e1:=[some (.ref n),some (.exc W.NotWood),none]) ((Fu i3).trans rfl)).trans ?_;exact HV r4
 ·cases hv
end M
namespace M
open PySem L2 L4
def Sf (BO:(List Int)):Option (Fw Bool Unit):=
 Ce ((((some BO).bind λx7=>((some (60:Int)).bind λx8=>(((((some BO).bind λx1=>((some (0:Int)).bind λx2=>(some ()).bind λx3=>some (x2,x3)).bind λx4=>some (x1,x4)).bind λz5=>Cp z5.1 z5.2.1).bind λx6=>some (x6 % 4)).bind λx9=>(some ()).bind λx10=>some (x9,x10)).bind λx11=>some (x8,x11)).bind λx12=>some (x7,x12)).bind λz13=>Ga z13.1 z13.2.1 z13.2.2.1).bind λx15=>some (.nx x15)) λv14=>Ce (((((some BO).bind λx17=>((some (2:Int)).bind λx18=>(some ()).bind λx19=>some (x18,x19)).bind λx20=>some (x17,x20)).bind λz21=>Cp z21.1 z21.2.1).bind λx22=>some (x22 % 4)).bind λx23=>some (.nx x23)) λv16=>Ce ((((some v14.2).bind λx35=>((some v14.1).bind λx36=>((((some BO).bind λl29=>((some (3:Int)).bind λx25=>some (some x25)).bind λx30=>(((some (3:Int)).bind λx26=>(some v16).bind λx27=>some (x26+x27)).bind λx28=>some (some x28)).bind λx31=>some (Ie l29 x30 x31)).bind λl34=>LL l34 (λx32=>some true) (λx32=>(some x32).bind λx33=>some (x33 / 240))).bind λx37=>(some ()).bind λx38=>some (x37,x38)).bind λx39=>some (x36,x39)).bind λx40=>some (x35,x40)).bind λz41=>Gb z41.1 z41.2.1 z41.2.2.1).bind λx42=>some (.nx x42)) λv24=>Ce (((some v14.1).bind λx44=>(some v24).bind λx45=>XW x44 x45).bind λx46=>some (.nx x46)) λv43=>Ce ((((some v43).bind λx48=>(some ()).bind λx49=>some (x48,x49)).bind λz50=>G8 z50.1).bind λx51=>some (.nx x51)) λv47=>Ce (((((some v47).bind λx52=>some true).bind λx53=>some (!x53)).bind λx61=>if x61=true then some true else (some v47).bind λx54=>(((some v14.1).bind λx56=>((some v24).bind λx57=>(some ()).bind λx58=>some (x57,x58)).bind λx59=>some (x56,x59)).bind λz60=>DH z60.1 z60.2.1).bind λx55=>some (!decide (x54=x55))).bind λx63=>if x63=true then (some false).bind λx62=>some (.rt x62) else some (.nx ())) λ_=>((some v47).bind λx69=>if x69=true then some true else ((some v43).bind λx66=>(some ()).bind λx67=>some (x66,x67)).bind λz68=>EV z68.1).bind λx70=>some (.rt x70)
def Vy (BO:(List Int)):Option Bool:=Op (Sf BO)
theorem dE (W:Wd) (BO:(List Int)):VF (Sz W) [.v (eF BO)] (rV D.bl) (Vy BO):=by
 refine MD (n:=6) (b:=W4 W) (p:=Sf BO) (B:=λ_=>[]) ?_;show VS [.v (eF BO),.u,.u,.u,.u,.u] _ _ _ _;unfold W4 Sf;exact (B2 (Xd (DO (Gp (Az rfl) (Gp (Fk rfl) (Gp (HP rfl (DO (Gp (Az rfl) (Gp (Fk rfl) EQ)) (λz5=>E4 W z5.1 z5.2.1) (λ_=>rfl) JK)) EQ))) (λz13=>Pv W z13.1 z13.2.1 z13.2.2.1) (λ_=>rfl) dZ)) (λv14=>(B2 (EO (HP rfl (DO (Gp (Az rfl) (Gp (Fk rfl) EQ)) (λz21=>E4 W z21.1 z21.2.1) (λ_=>rfl) JK))) (λv16=>(B2 (Js (DO (Tf (Dq rfl) (Gp (Az rfl) (Tf (U7 (JU (Po (VI.k (Z0 (Xo (Az rfl) (SQ (Fk rfl)) (SQ (HR (Fk rfl) (Az rfl)))))) (λx32=>SX) (λx32=>(G6 rfl (Az rfl)))))) EQ))) (λz41=>Pw W z41.1 z41.2.1 z41.2.2.1) (λ_=>rfl) Vg)) (λv24=>(B2 (Js (Z1 (Az rfl) (Dq rfl))) (λv43=>(B2 (EO (DO (Tf (Dq rfl) EQ) (λz50=>N0 W z50.1) (λ_=>rfl) JK)) (λv47=>(B2 (Nx (B:=(λ(_:Unit)=>[.v (eF BO),.v (D.int v14.1),.y ((oL (eP D.int D.int)) v24),.v (D.int v16),.y ((Mc W) v43),.v (D.bl v47)])) (dD (Z7 (Pt (dB (T:="bool") (Az rfl) (λ_ _=>rfl) (by decide +kernel)))) (Pt (ZR cE d6 (Az rfl) (DO (Gp (Az rfl) (Tf (Dq rfl) EQ)) (λz60=>LU W z60.1 z60.2.1) (λ_=>rfl) JK)))) (KZ (Fk rfl)) (Nv (.same (.same (.same (.same (.same (.same .nil)))))))) (λ_=>(KZ (Z2 (Az rfl) (DO (Tf (Dq rfl) EQ) (λz68=>MK W z68.1) (λ_=>rfl) JK)))))))))))))))
end M
namespace M
open PySem L2 L4
def ded:List Int->List Int
 | []=>[]
 | x :: l=>if x∈l then ded l else x :: ded l
theorem Gf {z:Int}:∀ {l:List Int},z∈ded l↔z∈l
 | []=>Iff.rfl
 | x :: l=>by
  unfold ded;split
  ·rename_i h
   rw [Gf,Ap];exact ⟨.inr,λq=>q.elim (λe=>e▸h) id⟩
  ·rw [Ap,Ap,Gf]
theorem Ic:∀l:List Int,(ded l).Nodup
 | []=>Eh
 | x :: l=>by
  unfold ded;split
  ·exact Ic l
  ·rename_i h
   exact Bq.mpr ⟨λq=>h (Gf.mp q),Ic l⟩
theorem Jw {a b:List Int} (ha:a.Nodup) (hb:b.Nodup) (h:∀z,z∈a↔z∈b):a.length=b.length:=Nat.le_antisymm (Rp ha λx hx=>(h x).mp hx) (Rp hb λx hx=>(h x).mpr hx)
def mkA (m:List Int) (x:Int):Int:=m.getD x.toNat 0
def Fn (m:List Int) (a b:Int):List Int:=m.map λz=>if z=mkA m b then mkA m a else z
section
variable {p:Nat} {m:List Int}
theorem Rq (hl:m.length=p) {x:Int} (h0:0<=x) (h1:x < p):mkA m x∈m:=by
 unfold mkA;rw [Bj,BB (by omega)];exact List.getElem_mem _
theorem bW (hl:m.length=p) {z:Int} (h:z∈m):∃x:Int,0<=x/\x < p/\mkA m x=z:=by
 obtain ⟨i,hi,rfl⟩:=Jk h;refine ⟨i,by omega,by omega,?_⟩;unfold mkA;rw [Bj,B1,BB hi];rfl
theorem VQ (hl:m.length=p) {a b x:Int} (h0:0<=x) (h1:x < p):mkA (Fn m a b) x=if mkA m x=mkA m b then mkA m a else mkA m x:=by
 have e:∀z:Int,mkA m x=z->mkA (Fn m a b) x=if z=mkA m b then mkA m a else z:=λz hz=>by
  unfold mkA at hz;show (Fn m a b).getD x.toNat 0=_;rw [Bj,BB (by omega)] at hz;unfold Fn;rw [Bj,Aj,BB (by omega)];show (if m[x.toNat]=mkA m b then mkA m a else m[x.toNat])=_;rw [show m[x.toNat]=z from hz]
 exact e _ rfl
theorem Tj (hl:m.length=p) (a b:Int):(Fn m a b).length=p:=by unfold Fn;rw [AG,hl]
theorem MQ (hl:m.length=p) {a b:Int} (a0:0<=a) (a1:a < p) (b0:0<=b) (b1:b < p) (h:mkA m a≠mkA m b):(ded (Fn m a b)).length+1=(ded m).length:=by
 have mem:∀z,z∈ded (Fn m a b)↔z∈(ded m).filter λz=>!decide (z=mkA m b):=λz=>by
  rw [Gf,CU,Gf];unfold Fn;rw [BG]
  constructor
  ·rintro ⟨y,hy,rfl⟩
   by_cases c:y=mkA m b
   ·rw [if_pos c]
    exact ⟨Rq hl a0 a1,by simp [h]⟩
   ·rw [if_neg c]
    exact ⟨hy,by simp [c]⟩
  ·rintro ⟨hz,q⟩
   have c:¬z=mkA m b:=by simpa using q
   exact ⟨z,hz,if_neg c⟩
 have e1:=Jw (Ic _) ((Ic m).filter _) mem
 have e2:=Jw (b:=mkA m b :: (ded m).filter λz=>!decide (z=mkA m b)) (Ic m) (Bq.mpr ⟨λq=>by simpa using (CU.mp q).2,(Ic m).filter _⟩) λz=>by
  rw [Ap,CU]
  by_cases c:z=mkA m b
  ·exact ⟨λ_=>.inl c,λ_=>by rw [c,Gf];exact Rq hl b0 b1⟩
  ·exact ⟨λq=>.inr ⟨q,by simp [c]⟩,λq=>q.elim (λe=>absurd e c) λq=>q.1⟩
 rw [Am] at e2;omega
theorem MP {a b:Int} (h:mkA m a=mkA m b):Fn m a b=m:=by
 unfold Fn
 conv=>rhs;rw [<-JF m]
 refine B0 λz _=>?_
 split
 ·rename_i e
  rw [h,<-e];rfl
 ·rfl
structure Mk (nb:Int->List Int) (p:Nat) (us:List (Int×Int)) (m:List Int):Prop where
 ln:m.length=p
 eq:∀t∈us,mkA m t.1=mkA m t.2
 on:∀x y:Int,0<=x->x < p->0<=y->y < p->mkA m x=mkA m y->∀C:List Int,(∀a∈C,∀b∈nb a,b∈C)->(x∈C↔y∈C)
variable {nb:Int->List Int} {us:List (Int×Int)}
theorem Mk.step (h:Mk nb p us m) (hr:∀t∈us,(0<=t.1/\t.1 < p)/\0<=t.2/\t.2 < p) {t:Int×Int} (ht:(0<=t.1/\t.1 < p)/\0<=t.2/\t.2 < p) (h1:t.2∈nb t.1) (h2:t.1∈nb t.2):Mk nb p (us++[t]) (Fn m t.1 t.2):=by
 have at':∀x:Int,0<=x->x < p->mkA (Fn m t.1 t.2) x=if mkA m x=mkA m t.2 then mkA m t.1 else mkA m x:=λx x0 x1=>VQ h.ln x0 x1
 refine ⟨Tj h.ln _ _,λu hu=>?_,λx y x0 x1 y0 y1 e C hC=>?_⟩
 ·rcases Au.mp hu with q | q
  ·have r:=hr u q
   rw [at' _ r.1.1 r.1.2,at' _ r.2.1 r.2.2,h.eq u q]
  ·rw [Ab.mp q,at' _ ht.1.1 ht.1.2,at' _ ht.2.1 ht.2.2,if_pos rfl]
   split <;> rfl
 ·have tie:t.1∈C↔t.2∈C:=⟨λq=>hC _ q _ h1,λq=>hC _ q _ h2⟩
  rw [at' x x0 x1,at' y y0 y1] at e
  by_cases cx:mkA m x=mkA m t.2
  ·have hx:=h.on x t.2 x0 x1 ht.2.1 ht.2.2 cx C hC
   by_cases cy:mkA m y=mkA m t.2
   ·have hy:=h.on y t.2 y0 y1 ht.2.1 ht.2.2 cy C hC
    exact hx.trans hy.symm
   ·rw [if_pos cx,if_neg cy] at e
    have hy:=h.on t.1 y ht.1.1 ht.1.2 y0 y1 e C hC;exact (hx.trans tie.symm).trans hy
  ·by_cases cy:mkA m y=mkA m t.2
   ·rw [if_neg cx,if_pos cy] at e
    have hy:=h.on y t.2 y0 y1 ht.2.1 ht.2.2 cy C hC;have hx:=h.on x t.1 x0 x1 ht.1.1 ht.1.2 e C hC;exact (hx.trans tie).trans hy.symm
   ·rw [if_neg cx,if_neg cy] at e
    exact h.on x y x0 x1 y0 y1 e C hC
theorem Mk.rest:∀(vs us:List (Int×Int)) (m:List Int),Mk nb p us m->(∀t∈us++vs,(0<=t.1/\t.1 < p)/\0<=t.2/\t.2 < p)->(∀t∈vs,t.2∈nb t.1/\t.1∈nb t.2)->∃m',Mk nb p (us++vs) m'/\(ded m).length<=(ded m').length+vs.length
 | [],us,m,h,_,_=>⟨m,by rw [Ax];exact h,Nat.le_add_right _ _⟩
 | t :: vs,us,m,h,hr,hn=>by
  have ht:=hr t (by simp);have ht2:=hn t (by simp);have h1:=h.step (λu hu=>hr u (A1 _ hu)) ht ht2.1 ht2.2;obtain ⟨m',a,b⟩:=Mk.rest vs (us++[t]) (Fn m t.1 t.2) h1 (λu hu=>hr u (by simpa using hu)) (λu hu=>hn u (AZ _ hu));refine ⟨m',by rw [At,Cj] at a;exact a,?_⟩;rw [Am]
  by_cases c:mkA m t.1=mkA m t.2
  ·rw [MP c] at b
   omega
  ·have:=MQ h.ln ht.1.1 ht.1.2 ht.2.1 ht.2.2 c
   omega
theorem Mk.parts (hnb:∀x:Int,0<=x->x < p->∀y∈nb x,0<=y/\y < p) (hsym:∀x y:Int,0<=x->0<=y->y∈nb x->x∈nb y) (h:Mk nb p us m) (hcl:∀x y:Int,0<=x->x < p->y∈nb x->(x,y)∈us∨(y,x)∈us):(wk nb p p).length=(ded m).length:=by
 have hw:=U1 hnb hsym p (AQ _)
 have cl:∀x y:Int,0<=x->x < p->y∈nb x->mkA m x=mkA m y:=λx y x0 x1 q=>by
  rcases hcl x y x0 x1 q with q | q
  ·exact h.eq _ q
  ·exact (h.eq _ q).symm
 have inj:∀s∈wk nb p p,∀t∈wk nb p p,mkA m s=mkA m t->s<=t:=λs hs t ht e=>by
  have s1:=(hw.of s hs).1;have t1:=(hw.of t ht).1;have fd:=Kw hnb s1;have:=(h.on s t (by omega) (by omega) (by omega) (by omega) e (Aq (Rn nb s p)) fd.closed).mp (Br.mpr ⟨0,fd.src⟩);have:=(hw.of s hs).2 _ this;omega
 have nd:((wk nb p p).map λs:Nat=>mkA m s).Nodup:=by
  unfold List.Nodup;rw [Bz]
  refine hw.up.imp_of_mem λ{s t} hs ht lt e=>?_
  have:=inj t ht s hs e.symm;omega
 rw [<-Jw nd (Ic m) λz=>?_,AG];rw [Gf,BG]
 constructor
 ·rintro ⟨s,hs,rfl⟩
  have s1:=(hw.of s hs).1;exact Rq h.ln (by omega) (by omega)
 ·intro hz
  obtain ⟨x,x0,x1,rfl⟩:=bW h.ln hz;have:=hw.all x.toNat (by omega);rw [DA x0] at this;obtain ⟨s,hs,hx⟩:=Lu.mp this;have s1:=(hw.of s hs).1;have fd:=Kw hnb s1;refine ⟨s,hs,?_⟩
  let C:List Int:=(Hs 0 p).filter λy=>decide (mkA m s=mkA m y)
  have hC:∀a∈C,∀b∈nb a,b∈C:=λa ha b hb=>by
   obtain ⟨a1,a2⟩:=CU.mp ha;obtain ⟨a3,a4⟩:=Me.mp a1;have br:=hnb a a3 (by omega) b hb;exact CU.mpr ⟨Me.mpr ⟨br.1,by omega⟩,decide_eq_true ((of_decide_eq_true a2).trans (cl a b a3 (by omega) hb))⟩
  have hs':(s:Int)∈C:=CU.mpr ⟨Me.mpr ⟨by omega,by omega⟩,decide_eq_true rfl⟩
  have key:∀(d:Nat) (z:Int),(z,(d:Int))∈Rn nb s p->z∈C:=by
   intro d
   induction d with
   | zero=>
    intro z hz;have e:z=s:=fd.zero _ hz rfl;rw [e];exact hs'
   | succ d ih=>
    intro z hz;obtain ⟨b,hb,e1,e2⟩:=fd.par _ hz (by dsimp only;omega)
    have e3:b.2=d:=by dsimp only at e1;omega
    exact hC b.1 (ih b.1 (by rw [<-e3];exact hb)) z e2
  obtain ⟨d,hd⟩:=Br.mp hx;have dn:=fd.nn _ hd;have:=key d.toNat x (by dsimp only at dn;rw [DA dn];exact hd);exact of_decide_eq_true (CU.mp this).2
end
end M
namespace M
open PySem L2 L4
theorem ZV {x y:Int} (h:(-1000000000000<=x/\x<=1000000000000)∨(-1000000000000<=y/\y<=1000000000000)):V6 x y=some (x * y):=if_pos (h.imp (λh=>⟨KU (by decide) h.1,Go h.2 (by decide)⟩) λh=>⟨KU (by decide) h.1,Go h.2 (by decide)⟩)
theorem cD {x y:Int} (h:0 < y) (h1:y<=1000000):Sy x y=some (x / y):=if_pos ⟨h,by omega⟩
theorem Si (c s:Int):∃v,EX c s=some v/\0<=v:=by
 have m0:=DR ((c % 2147483647+s) * 48271) (show (2147483647:Int)≠0 by decide);have m1:=DL ((c % 2147483647+s) * 48271) (show (0:Int) < 2147483647 by decide);unfold EX FV;simp only [AU,CK];generalize (c % 2147483647+s) * 48271 % 2147483647=m at m0 m1;rw [ZV (.inl ⟨by omega,by omega⟩)];simp only [AU,CK];rw [ZV (.inl ⟨by decide,by decide⟩)];exact ⟨_,rfl,DR _ (by decide)⟩
theorem WU {l:List Int} (i:Nat) (x:Int):(l.take i++[x]++l.drop i).Perm (x :: l):=by
 rw [At,Cj];exact List.perm_middle.trans (by rw [DW])
theorem YX (c:Int) {p:Nat} (hp:p<=60):Ok (FW c p) λl=>l.length=p/\l.Nodup/\∀x∈l,0<=x/\x < p:=by
 unfold FW FU;simp only [AU,CK,ef];rw [Sb (by omega) (by omega),B1];simp only [AU];refine OkF.out (OkF.seq (OkF.for (λpre (s:List Int)=>s.length=pre.length/\s.Nodup/\∀x:Int,x∈s->0<=x/\x < (pre.length:Int)) ⟨rfl,Eh,λx hx=>(nomatch hx)⟩ ?_) λs hs=>?_)
 ·rintro pre x s hx hp' ⟨s1,s2,s3⟩
  obtain ⟨e,lt⟩:=QB hp';rw [c5] at e;subst e;obtain ⟨v,ev,v0⟩:=Si c (7000+(pre.length:Int));rw [ev];simp only [AU];rw [Ir (by omega)];simp only [AU];have h0:=DR (v / 8) (show (pre.length:Int)+1≠0 by omega);have h1:=DL (v / 8) (show (0:Int) < (pre.length:Int)+1 by omega);rw [show Yq s (v / 8 % ((pre.length:Int)+1)) (pre.length:Int)=some _ from if_pos ⟨h0,by omega,by omega⟩];have pm:=WU (l:=s) (v / 8 % ((pre.length:Int)+1)).toNat (pre.length:Int);refine .nx ⟨by rw [pm.length_eq,Am,AR,s1];rfl,pm.nodup_iff.mpr (Bq.mpr ⟨λz=>?_,s2⟩),λy hy=>?_⟩
  ·have:=(s3 _ z).2
   omega
  ·rw [AR,A6]
   rcases Ap.mp (pm.mem_iff.mp hy) with q | q
   ·omega
   ·have:=s3 y q
    omega
 ·rw [IN] at hs
  exact .rt hs
def Gd (p:Nat) (ts:List (Int×Int)):Prop:=(∀t∈ts,0<=t.1/\t.1 < t.2/\t.2 < p)/\ts.Nodup
def nrP (x y:Int):Int×Int:=(if y < x then y else x,if y > x then y else x)
theorem Jv (l:List (Int×Int)):(LF l).Perm l:=by
 have:=(Fo (l.map λx=>[x.1,x.2])).map aF;rw [Be] at this
 have e:l.map (aF∘λx=>[x.1,x.2])=l:=by
  conv=>rhs;rw [<-JF l]
  exact B0 λ_ _=>rfl
 rw [e] at this;exact this
theorem Gd.perm {p:Nat} {a b:List (Int×Int)} (h:Gd p a) (q:b.Perm a):Gd p b:=⟨λt ht=>h.1 t (q.mem_iff.mp ht),q.nodup_iff.mpr h.2⟩
theorem Gd.add {p:Nat} {ts:List (Int×Int)} (h:Gd p ts) {x y:Int} (hx:0<=x/\x < p) (hy:0<=y/\y < p) (hne:x≠y) (hn:nrP x y∉ts):Gd p (ts++[nrP x y]):=by
 refine ⟨λt ht=>?_,?_⟩
 ·rcases Au.mp ht with q | q
  ·exact h.1 t q
  ·rw [Ab.mp q]
   unfold nrP;dsimp only
   split <;> split <;> omega
 ·rw [Ei]
  exact ⟨h.2,by simp,λa ha b hb e=>hn (by rw [Ab.mp hb] at e;rw [<-e];exact ha)⟩
theorem bG {p:Nat} (h1:1<=p) (hp:p<=60) {ts:List (Int×Int)} (h:Gd p ts) (hl:ts.length<=1000) {cs:List Int} (hc:cs.length<=1000):Ok (Gb ts p cs) λr=>Gd p r/\r.length<=ts.length+cs.length:=by
 unfold Gb GZ;simp only [AU,CK];refine OkF.out (OkF.seq (OkF.for (λpre s=>Gd p s/\s.length<=ts.length+pre.length) ⟨h,AQ _⟩ ?_) λs hs=>?_)
 ·rintro pre c s hx hp' ⟨s1,s2⟩
  have hpl:=hp'.length_le;rw [AR,A6] at hpl;rw [Ir (by omega),cD (by omega) (by omega)];simp only [AU,CK];rw [Ir (by omega)];simp only [AU,CK];have a0:=DR c (show (p:Int)≠0 by omega);have a1:=DL c (show (0:Int) < p by omega);have b0:=DR (c / p) (show (p:Int)≠0 by omega);have b1:=DL (c / p) (show (0:Int) < p by omega);generalize c % (p:Int)=x at a0 a1;generalize c / (p:Int) % (p:Int)=y at b0 b1;show OkF (Kp (λs32=>s32) ((if (!decide (x=y))=true then some (!inG (nrP x y) s) else some false).bind λx31=>if x31=true then Kp (λv28=>v28) ((SA s (nrP x y)).bind λl30=>some (.nx l30)) else some (.nx s))) _ _
  refine OkF.map (N:=λs'=>Gd p s'/\s'.length<=ts.length+(pre++[c]).length) ?_ λ_ q=>q
  rw [AR,A6]
  by_cases e:x=y
  ·rw [decide_eq_true e]
   exact .nx ⟨s1,by omega⟩
  ·rw [decide_eq_false e]
   by_cases q:nrP x y∈s
   ·rw [Sr.mpr q]
    exact .nx ⟨s1,by omega⟩
   ·rw [show inG (nrP x y) s=false from by rw [<-Bool.not_eq_true,Sr];exact q]
    simp only [Bool.not_false,if_true,AU];rw [TK (by omega)];exact .nx ⟨s1.add ⟨a0,a1⟩ ⟨b0,b1⟩ e q,by rw [AR,A6];omega⟩
 ·refine .rt ⟨hs.1.perm (Jv s),?_⟩
  rw [(Jv s).length_eq];exact hs.2
theorem Zf {l:List Int} {k:Int} (h0:0<=k) (h1:k < l.length):∃x,atI l k=some x/\l[k.toNat]?=some x:=W7 h0 h1
theorem Zx (ns:List Int) (st:Int):Ok (Ga ns 60 st) λv=>∃p:Nat,v.1=p/\1<=p/\p<=60/\Gd p v.2/\v.2.length<=60:=by
 have cell:∀k:Int,0<=k->∃c,Cp ns k=some c:=λk hk=>⟨_,if_pos hk⟩
 unfold Ga GY;simp only [AU];obtain ⟨c0,e0⟩:=cell 0 (by decide);obtain ⟨c1,e1⟩:=cell 1 (by decide);rw [e0,e1];simp only [AU];rw [Ir (by decide)];simp only [AU,CK]
 obtain ⟨p,ep,p1,p2⟩:∃p:Nat,1+c0 / 4 % 60=(p:Int)/\1<=p/\p<=60:=⟨(1+c0 / 4 % 60).toNat,by omega,by omega,by omega⟩
 rw [ep];obtain ⟨od,eo,o1,o2,o3⟩:=YX c1 p2;rw [eo];simp only [AU,CK,ef];rw [X5 (by decide) (by decide) (by omega) (by omega)];simp only [AU];refine OkF.out (OkF.seq (OkF.for (λpre s=>Gd p s/\s.length<=pre.length/\∀t∈s,∃(i j:Nat) (x y:Int),i<=pre.length/\j<=pre.length/\od[i]?=some x/\od[j]?=some y/\t=nrP x y) ⟨⟨λx hx=>(nomatch hx),Eh⟩,AQ _,λx hx=>(nomatch hx)⟩ ?_) λs hs=>?_)
 ·rintro pre k s hx hp' ⟨s1,s2,s3⟩
  obtain ⟨ek,lt⟩:=QB hp';obtain ⟨c,ec⟩:=cell (2+k) (by omega);rw [ec];simp only [AU];obtain ⟨v,ev,v0⟩:=Si (c+k) 31;rw [ev];simp only [AU,CK];generalize v / 8=w
  have keep:Gd p s/\s.length<=(pre++[k]).length/\∀t∈s,∃(i j:Nat) (x y:Int),i<=(pre++[k]).length/\j<=(pre++[k]).length/\od[i]?=some x/\od[j]?=some y/\t=nrP x y:=by
   rw [AR,A6];refine ⟨s1,by omega,λt ht=>?_⟩;obtain ⟨i,j,x,y,h1,h2,h3⟩:=s3 t ht;exact ⟨i,j,x,y,by omega,by omega,h3⟩
  refine OkF.seq (N:=λsp:Int=>1<=sp/\sp<=k) ?_ λsp1 hsp1=>OkF.seq (N:=λsp:Int=>1<=sp/\sp<=k) ?_ λsp hsp=>OkF.map (N:=λs'=>Gd p s'/\s'.length<=(pre++[k]).length/\∀t∈s',∃(i j:Nat) (x y:Int),i<=(pre++[k]).length/\j<=(pre++[k]).length/\od[i]?=some x/\od[j]?=some y/\t=nrP x y) ?_ λ_ q=>q
  ·refine OkF.ite (λ_=>.nx ?_) λ_=>.nx ⟨by omega,TX _⟩
   dsimp only
   split <;> omega
  ·refine OkF.ite (λ_=>?_) λ_=>.nx hsp1
   rw [Ir (by omega)];have:=DR (w / 1000) (show k≠0 by omega);have:=DL (w / 1000) (show 0 < k by omega);refine .nx ?_;dsimp only;exact ⟨by omega,by omega⟩
  ·refine OkF.ite (λ_=>?_) λ_=>.nx keep
   rw [Ir (by omega)];simp only [AU,CK];have j0:=DR (w / 9) (show sp≠0 by omega);have j1:=DL (w / 9) (show 0 < sp by omega);obtain ⟨x,ex,hx'⟩:=Zf (l:=od) (k:=k) (by omega) (by omega);obtain ⟨y,ey,hy'⟩:=Zf (l:=od) (k:=k - 1 - w / 9 % sp) (by omega) (by omega);rw [ex,ey];simp only [AU]
   have hne:x≠y:=λe=>by
    rw [e] at hx';have h1:=AD.mp hx';have h2:=AD.mp hy';have:=(Hl o2).mp (h1.2.trans h2.2.symm);omega
   have xin:=o3 x (BF hx');have yin:=o3 y (BF hy')
   have hn:nrP x y∉s:=λq=>by
    obtain ⟨i,j,x',y',i1,j1,hi,hj,e⟩:=s3 _ q
    have ne1:x≠x':=λe=>by
     rw [<-e] at hi;have h1:=AD.mp hx';have h2:=AD.mp hi;have:=(Hl o2).mp (h1.2.trans h2.2.symm);omega
    have ne2:x≠y':=λe=>by
     rw [<-e] at hj;have h1:=AD.mp hx';have h2:=AD.mp hj;have:=(Hl o2).mp (h1.2.trans h2.2.symm);omega
    unfold nrP at e;obtain ⟨e1,e2⟩:=Prod.mk.inj e
    split at e1 <;> split at e1 <;> split at e2 <;> split at e2 <;> omega
   show OkF (Kp (λv84=>v84) ((SA s (nrP x y)).bind λl86=>some (.nx l86))) _ _;rw [TK (by omega)];refine .nx ⟨s1.add xin yin hne hn,?_,λt ht=>?_⟩
   ·rw [AR,AR];simp;omega
   ·rcases Au.mp ht with q | q
    ·exact keep.2.2 t q
    ·rw [Ab.mp q,AR,A6]
     exact ⟨k.toNat,(k - 1 - w / 9 % sp).toNat,x,y,by omega,by omega,hx',hy',rfl⟩
 ·refine .rt ⟨p,rfl,p1,p2,hs.1.perm (Jv s),?_⟩
  show (LF s).length<=60;rw [(Jv s).length_eq];have:=hs.2.1;rw [IN] at this;omega
end M
namespace M
open PySem L2 L4
theorem Ze {m:List Int} {p:Nat} (hl:m.length=p) {x:Int} (h0:0<=x) (h1:x < p):atI m x=some (mkA m x):=by
 obtain ⟨y,e1,e2⟩:=W7 (l:=m) h0 (by omega);rw [e1];unfold mkA;rw [Bj,e2];rfl
theorem Re {p:Nat} (hp:p<=60) {ts:List (Int×Int)} {nb:Int->List Int} (hr:∀t∈ts,(0<=t.1/\t.1 < p)/\0<=t.2/\t.2 < p) (hn:∀t∈ts,t.2∈nb t.1/\t.1∈nb t.2) :
  Ok (DH p ts) λb=>∃m,Mk nb p ts m/\(if b=true then (ded m).length+ts.length=p else p < (ded m).length+ts.length):=by
 unfold DH D8;simp only [AU];rw [Sb (by omega) (by omega),B1];simp only [AU,CK]
 have init:∀x:Int,0<=x->x < p->mkA (Hs 0 p) x=x:=λx h0 h1=>by
  unfold mkA Hs;rw [Bj,Aj,BB (by rw [Uw];omega),List.getElem_range];show (0:Int)+(x.toNat:Int)=x;omega
 have nd0:(Hs 0 p).Nodup:=(X4 0 p).imp λh=>by omega
 refine OkF.out (OkF.seq (OkF.for (λpre m=>Mk nb p pre m/\(ded m).length+pre.length=p) ⟨⟨IN 0 p,λt ht=>(nomatch ht),λx y x0 x1 y0 y1 e C _=>?_⟩,?_⟩ ?_) λm hm=>?_)
 ·rw [init x x0 x1,init y y0 y1] at e
  rw [e]
 ·rw [Jw (Ic _) nd0 λz=>Gf,IN]
  rfl
 ·rintro pre t m ht hp' ⟨h,hc⟩
  have tr:=hr t ht;have tn:=hn t ht;obtain ⟨vs,hvs⟩:=hp'
  have prs:∀u∈pre,(0<=u.1/\u.1 < p)/\0<=u.2/\u.2 < p:=λu hu=>hr u (by rw [<-hvs];simp [hu])
  have st:=h.step prs tr tn.1 tn.2;rw [Ze h.ln tr.1.1 tr.1.2,Ze h.ln tr.2.1 tr.2.2];simp only [AU]
  by_cases c:mkA m t.1=mkA m t.2
  ·rw [decide_eq_true c,if_pos rfl]
   rw [MP c] at st;obtain ⟨m',a,b⟩:=Mk.rest vs (pre++[t]) m st (λu hu=>hr u (by rw [<-hvs];exact hu)) (λu hu=>hn u (by rw [<-hvs];exact As _ hu));refine .rt ⟨m',by rw [<-hvs];exact a,?_⟩;rw [if_neg AS,<-hvs,AR,AR,A6];omega
  ·rw [decide_eq_false c,if_neg AS]
   simp only [CK]
   have hml:m.length<=1000000:=by rw [h.ln];omega
   rw [OJ (f:=λz=>if z=mkA m t.2 then mkA m t.1 else z) hml λz _=>by
    rw [few2];simp only [AU]
    by_cases q:z=mkA m t.2
    ·rw [decide_eq_true q,if_pos rfl,if_pos q]
     rfl
    ·rw [decide_eq_false q,if_neg AS,if_neg q]
     rfl]
   refine .nx ⟨st,?_⟩;have:=MQ h.ln tr.1.1 tr.1.2 tr.2.1 tr.2.2 c;rw [AR,A6];show (ded (Fn m t.1 t.2)).length+(pre.length+1)=p;omega
 ·exact .rt ⟨m,hm.1,by rw [if_pos rfl];exact hm.2⟩
theorem Gd.nrm {p:Nat} {ts:List (Int×Int)} (h:Gd p ts):ts.map nrm=ts:=by
 conv=>rhs;rw [<-JF ts]
 refine B0 λx hx=>?_
 have:=(h.1 x hx).2.1;unfold M.nrm;rw [if_neg (by omega),if_pos (by omega)];rfl
theorem Gd.fit {p:Nat} {ts:List (Int×Int)} (h:Gd p ts):Dj p ts:=by
 refine ⟨λx hx=>?_,by rw [h.nrm];exact h.2⟩;obtain ⟨h1,h2,h3⟩:=h.1 x hx;unfold Fit
 have e:M.nrm x=x:=by
  unfold M.nrm;rw [if_neg (by omega),if_pos (by omega)]
 rw [e];omega
theorem T6 {us:List (Int×Int)} {x:Nat} {z:Int}:z∈CA us x↔((x:Int),z)∈us∨(z,(x:Int))∈us:=by
 unfold CA;rw [List.mem_flatMap]
 constructor
 ·rintro ⟨t,ht,hz⟩
  rcases Au.mp hz with q | q
  ·split at q
   ·rename_i e
    rw [Ab] at q
    left;rw [q,<-e];exact ht
   ·cases q
  ·split at q
   ·rename_i e
    rw [Ab] at q
    right;rw [q,<-e];exact ht
   ·cases q
 ·rintro (q | q)
  ·exact ⟨_,q,A1 _ (by rw [if_pos rfl];simp)⟩
  ·exact ⟨_,q,As _ (by rw [if_pos rfl];simp)⟩
theorem N7 (x:Nat):∀us:List (Int×Int),(CA us x).length<=2 * us.length
 | []=>AQ _
 | t :: us=>by
  have:=N7 x us;unfold CA at this ⊢;rw [Ux,AR,AR,Am]
  have h1:(if t.1=(x:Int) then [t.2] else []).length<=1:=by split <;> simp
  have h2:(if t.2=(x:Int) then [t.1] else []).length<=1:=by split <;> simp
  omega
theorem Gd.nb {p:Nat} {ts:List (Int×Int)} (h:Gd p ts) {x y:Int} (h0:0<=x):y∈nbW (GU ts) x↔(x,y)∈ts∨(y,x)∈ts:=by
 have pm:=Im ts;rw [h.nrm] at pm;unfold nbW;rw [(JW _).mem_iff,T6,DA h0,pm.mem_iff,pm.mem_iff]
theorem Gd.ok {p:Nat} {ts:List (Int×Int)} (h:Gd p ts) (hp:p<=60) (hl:ts.length<=400):et p (GU ts):=by
 have pm:=Im ts;rw [h.nrm] at pm;refine ⟨hp,λx x0 x1 y hy=>?_,λx=>?_,λx y x0 y0 q=>?_⟩
 ·rcases (h.nb x0).mp hy with q | q <;> (have:=h.1 _ q;omega)
 ·unfold nbW
  rw [(JW _).length_eq];have:=N7 x.toNat (GU ts);rw [pm.length_eq] at this;omega
 ·exact (h.nb y0).mpr ((h.nb x0).mp q).symm
theorem U0 {p:Nat} (h1:1<=p) (hp:p<=60) {ts:List (Int×Int)} (h:Gd p ts) (hl:ts.length<=400):∃b:Bool,G8 (p,GU ts)=some b/\DH p ts=some b:=by
 have ok:=h.ok hp hl;have pm:=Im ts;rw [h.nrm] at pm;obtain ⟨b,e,m,hm,hb⟩:=Re hp (nb:=nbW (GU ts)) (λt ht=>by have:=h.1 t ht;omega) (λt ht=>⟨(h.nb (h.1 t ht).1).mpr (.inl ht),(h.nb (by have:=h.1 t ht;omega)).mpr (.inr ht)⟩)
 have cnt:=hm.parts ok.2.1 ok.2.2.2 λx y x0 _ q=>(h.nb x0).mp q
 refine ⟨b,?_,e⟩;unfold G8 Ip;simp only [AU];rw [show HW (p,GU ts)=some _ from if_pos ok];simp only [AU,AG];show some (decide (((GU ts).length:Int)=(p:Int) - ((wk (nbW (GU ts)) p p).length:Int)))=some b;rw [pm.length_eq,cnt]
 congr 1
 cases b with
 | true=>
  rw [if_pos rfl] at hb;exact decide_eq_true (by omega)
 | false=>
  rw [if_neg AS] at hb;exact decide_eq_false (by omega)
theorem eN (ns:List Int) (hns:ns.length<=63):Vy ns=some true:=by
 refine Ok.is (v:=true) ?_
 have cell:∀k:Int,0<=k->∃c,Cp ns k=some c:=λk hk=>⟨_,if_pos hk⟩
 obtain ⟨c0,e0⟩:=cell 0 (by decide);obtain ⟨c2,e2⟩:=cell 2 (by decide);unfold Vy Sf;simp only [AU];rw [e0,e2];simp only [AU];obtain ⟨⟨p',ts⟩,ew,p,ep,p1,p2,hg,hl⟩:=Zx ns (c0 % 4);rw [ew];dsimp only at ep hg hl;subst ep;simp only [AU,CK];have cl:=Ww ns (some 3) (some (3+c2 % 4));rw [OJ (f:=λx=>x / 240) (by omega) λ_ _=>rfl];simp only [AU]
 have ml:((Ie ns (some 3) (some (3+c2 % 4))).map λx=>x / 240).length<=63:=by rw [AG];omega
 generalize (Ie ns (some 3) (some (3+c2 % 4))).map (λx=>x / 240)=cs at ml;obtain ⟨us,eu,hu,ul'⟩:=bG p1 p2 hg (by omega) (cs:=cs) (by omega)
 have ul:us.length<=400:=by omega
 rw [eu];simp only [AU,CK];rw [show XW (p:Int) us=some (p,GU us) from (if_pos ⟨by omega,by omega,hu.fit,by omega⟩).trans (by rw [B1])];simp only [AU,CK];obtain ⟨b,w1,w2⟩:=U0 p1 p2 hu ul;rw [w1,w2];simp only [AU,CK];simp only [decide_true,Pd,CI,if_false,AU,CK]
 cases b with
 | true=>exact ⟨true,rfl,rfl⟩
 | false=>
  rw [show EV (p,GU us)=some true from if_pos w1];exact ⟨true,rfl,rfl⟩
theorem good:∀(W:Wd),W.excs.Nodup->∀ns:List Int,ns.length<=63->∃S',Sz W [.fro (ns.map D.int)] []=.ok (.bl true) S':=λW _ ns h=>VF.law (by rw [<-eN ns h];exact dE W ns)
end M
def PySem.W.Fast.tw157859701763693835:Nat:=0
def PySem.W.Fast.tw16665897178543542640:Nat:=0
def PySem.W.Fast.tw11527735198801163555:Nat:=0
def PySem.W.Fast.tw17612036660638242901:Nat:=0
def PySem.W.Fast.tw13637092593019905889:Nat:=0
def PySem.W.Fast.tw5957197922606709781:Nat:=0
def PySem.W.Fast.tw3005544057918925467:Nat:=0
def PySem.W.Fast.tw436500437521942829:Nat:=0
def PySem.W.Fast.tw6172689442979087130:Nat:=0
def PySem.W.Fast.tw7417537216736519180:Nat:=0
def PySem.W.Fast.tw588293539917526926:Nat:=0
def PySem.W.Fast.tw17149549008557199678:Nat:=0
def PySem.W.Fast.tw6892977928332518963:Nat:=0
def PySem.W.Fast.tw13803051928439486204:Nat:=0
def PySem.W.Fast.tw15218757658203671548:Nat:=0
def PySem.W.Fast.tw17339749877861829583:Nat:=0
def PySem.W.Fast.tw1009767437289827194:Nat:=0
def PySem.W.Fast.tw9084956252248092326:Nat:=0
def PySem.W.Fast.tw753980667293868104:Nat:=0
def PySem.W.Fast.tw9670355988772275782:Nat:=0
def PySem.W.Fast.tw547028752305780913:Nat:=0
def PySem.W.Fast.tw18383477137413614427:Nat:=0
def PySem.W.Fast.tw6079081189552295052:Nat:=0
def PySem.W.Fast.tw15534627763971820515:Nat:=0
def PySem.W.Fast.tw11492779161289913072:Nat:=0
def PySem.W.Fast.tw7599956838716654099:Nat:=0
def PySem.W.Fast.tw11603969649329577233:Nat:=0
def PySem.W.Fast.tw5056387245365108339:Nat:=0
def PySem.W.Fast.tw8307167823748621431:Nat:=0
def PySem.W.Fast.tw16823332574110995673:Nat:=0
def PySem.W.Fast.tw9825580352762042631:Nat:=0
def PySem.W.Fast.tw6643072854990769232:Nat:=0
def PySem.W.Fast.tw14985127322015580111:Nat:=0
def PySem.W.Fast.tw4447339641511500763:Nat:=0
def PySem.W.Fast.tw14965327911594526628:Nat:=0
def PySem.W.Fast.tw15906760776012942930:Nat:=0
def PySem.W.Fast.tw17585397559567729245:Nat:=0
namespace M
open PySem PySem.Spec PyProof.Rows L2 PySem.W
theorem cI {l:OpenLaw} {w:A7} {K:Frag} {h:BY} {mg:Str->Option AC} {fa:AF} (X:K.In h) (G:h.Ns Ac mg) (hfa:mg "law" = some (.ref fa))
  {f1 f2 f3 f4 f5 f6 f7 f8 f9 f10 f11 f12 f13 f14 f15 f16 f17 cGuardError cBadPlaces cBadTie cNoPlace cTooLarge cNotTwo cNotWood cBadColony cWeb:AF} {tk_MOST_PLACES:Tok}
  {od1 an1 od2 an2 od3 an3 od4 an4 od5 an5 od6 an6 od7 an7 od8 an8 od9 an9 od10 an10 od11 an11 od12 an12 od13 an13 od14 an14 od15 an15 od16 an16 od17 an17:Option AF} {sl1 sl2 sl3 sl4 sl5 sl6 sl7 sl8 sl9 sl10 sl11 sl12 sl13 sl14 sl15 sl16 sl17:Array (Option AC)} {oc1 kV1 dc1 pm1 cd1 ct1 oc2 kV2 dc2 pm2 cd2 ct2 oc3 kV3 dc3 pm3 cd3 ct3 oc4 kV4 dc4 pm4 cd4 ct4 oc5 kV5 dc5 pm5 cd5 ct5 oc6 kV6 dc6 pm6 cd6 ct6 oc7 kV7 dc7 pm7 cd7 ct7 oc8 kV8 dc8 pm8 cd8 ct8 oc9 kV9 dc9 pm9 cd9 ct9 oc10 kV10 dc10 pm10 cd10 ct10 oc11 kV11 dc11 pm11 cd11 ct11 oc12 kV12 dc12 pm12 cd12 ct12 oc13 kV13 dc13 pm13 cd13 ct13 oc14 kV14 dc14 pm14 cd14 ct14 oc15 kV15 dc15 pm15 cd15 ct15 oc16 kV16 dc16 pm16 cd16 ct16 oc17 kV17 dc17 pm17 cd17 ct17:AC}
  (a_Web:nsIn K Ac "Web" = some (some (.ref cWeb)))
  (a_GuardError:nsIn K Ac "GuardError" = some (some (.ref cGuardError)))
  (a_BadPlaces:nsIn K Ac "BadPlaces" = some (some (.ref cBadPlaces)))
  (a_BadTie:nsIn K Ac "BadTie" = some (some (.ref cBadTie)))
  (a_NoPlace:nsIn K Ac "NoPlace" = some (some (.ref cNoPlace)))
  (a_TooLarge:nsIn K Ac "TooLarge" = some (some (.ref cTooLarge)))
  (a_NotTwo:nsIn K Ac "NotTwo" = some (some (.ref cNotTwo)))
  (a_NotWood:nsIn K Ac "NotWood" = some (some (.ref cNotWood)))
  (a_BadColony:nsIn K Ac "BadColony" = some (some (.ref cBadColony)))
  (a1:nsIn K Ac "checked_ties" = some (some (.ref f1)))
  (l1:K.lookup f1=some ⟨oc1,od1,.func (fnOf "checked_ties" "checked_ties" (CF C1) (Bw C1) (Av C1) .none kV1 dc1 pm1 an1 cd1 ct1),sl1⟩)
  (k1c:codeIn K cd1 "checked_ties" = true)
  (k1:keepIn K (.ref f1)=true)
  (a2:nsIn K Ac "near_sets_of" = some (some (.ref f2)))
  (l2:K.lookup f2=some ⟨oc2,od2,.func (fnOf "near_sets_of" "near_sets_of" (CF C0) (Bw C0) (Av C0) .none kV2 dc2 pm2 an2 cd2 ct2),sl2⟩)
  (k2c:codeIn K cd2 "near_sets_of" = true)
  (k2:keepIn K (.ref f2)=true)
  (a3:findIn K (.ref cWeb) "__init__" = some (some (.ref f3)))
  (i3:isFn K (.ref f3)=true)
  (l3:K.lookup f3=some ⟨oc3,od3,.func (fnOf "__init__" "Web.__init__" (CF Er) (Bw Er) (Av Er) .none kV3 dc3 pm3 an3 cd3 ct3),sl3⟩)
  (k3c:codeIn K cd3 "Web.__init__" = true)
  (k3:keepIn K (.ref f3)=true)
  (a4:nsIn K Ac "refuse_no_place" = some (some (.ref f4)))
  (l4:K.lookup f4=some ⟨oc4,od4,.func (fnOf "refuse_no_place" "refuse_no_place" (CF CO) (Bw CO) (Av CO) .none kV4 dc4 pm4 an4 cd4 ct4),sl4⟩)
  (k4c:codeIn K cd4 "refuse_no_place" = true)
  (k4:keepIn K (.ref f4)=true)
  (a5:nsIn K Ac "near" = some (some (.ref f5)))
  (l5:K.lookup f5=some ⟨oc5,od5,.func (fnOf "near" "near" (CF Kg) (Bw Kg) (Av Kg) .none kV5 dc5 pm5 an5 cd5 ct5),sl5⟩)
  (k5c:codeIn K cd5 "near" = true)
  (k5:keepIn K (.ref f5)=true)
  (a6:nsIn K Ac "steps_from" = some (some (.ref f6)))
  (l6:K.lookup f6=some ⟨oc6,od6,.func (fnOf "steps_from" "steps_from" (CF Dr) (Bw Dr) (Av Dr) .none kV6 dc6 pm6 an6 cd6 ct6),sl6⟩)
  (k6c:codeIn K cd6 "steps_from" = true)
  (k6:keepIn K (.ref f6)=true)
  (a7:nsIn K Ac "parts_of" = some (some (.ref f7)))
  (l7:K.lookup f7=some ⟨oc7,od7,.func (fnOf "parts_of" "parts_of" (CF Ep) (Bw Ep) (Av Ep) .none kV7 dc7 pm7 an7 cd7 ct7),sl7⟩)
  (k7c:codeIn K cd7 "parts_of" = true)
  (k7:keepIn K (.ref f7)=true)
  (a8:nsIn K Ac "is_wood" = some (some (.ref f8)))
  (l8:K.lookup f8=some ⟨oc8,od8,.func (fnOf "is_wood" "is_wood" (CF Fe) (Bw Fe) (Av Fe) .none kV8 dc8 pm8 an8 cd8 ct8),sl8⟩)
  (k8c:codeIn K cd8 "is_wood" = true)
  (k8:keepIn K (.ref f8)=true)
  (a9:nsIn K Ac "wood_colonies" = some (some (.ref f9)))
  (l9:K.lookup f9=some ⟨oc9,od9,.func (fnOf "wood_colonies" "wood_colonies" (CF Cm) (Bw Cm) (Av Cm) .none kV9 dc9 pm9 an9 cd9 ct9),sl9⟩)
  (k9c:codeIn K cd9 "wood_colonies" = true)
  (k9:keepIn K (.ref f9)=true)
  (a10:nsIn K Ac "_law_cell" = some (some (.ref f10)))
  (l10:K.lookup f10=some ⟨oc10,od10,.func (fnOf "_law_cell" "_law_cell" (CF EE) (Bw EE) (Av EE) .none kV10 dc10 pm10 an10 cd10 ct10),sl10⟩)
  (k10c:codeIn K cd10 "_law_cell" = true)
  (k10:keepIn K (.ref f10)=true)
  (a11:nsIn K Ac "_law_mixed" = some (some (.ref f11)))
  (l11:K.lookup f11=some ⟨oc11,od11,.func (fnOf "_law_mixed" "_law_mixed" (CF Dt) (Bw Dt) (Av Dt) .none kV11 dc11 pm11 an11 cd11 ct11),sl11⟩)
  (k11c:codeIn K cd11 "_law_mixed" = true)
  (k11:keepIn K (.ref f11)=true)
  (a12:nsIn K Ac "_law_order" = some (some (.ref f12)))
  (l12:K.lookup f12=some ⟨oc12,od12,.func (fnOf "_law_order" "_law_order" (CF Ds) (Bw Ds) (Av Ds) .none kV12 dc12 pm12 an12 cd12 ct12),sl12⟩)
  (k12c:codeIn K cd12 "_law_order" = true)
  (k12:keepIn K (.ref f12)=true)
  (a13:nsIn K Ac "_law_wood" = some (some (.ref f13)))
  (l13:K.lookup f13=some ⟨oc13,od13,.func (fnOf "_law_wood" "_law_wood" (CF EC) (Bw EC) (Av EC) .none kV13 dc13 pm13 an13 cd13 ct13),sl13⟩)
  (k13c:codeIn K cd13 "_law_wood" = true)
  (k13:keepIn K (.ref f13)=true)
  (a14:nsIn K Ac "_law_more" = some (some (.ref f14)))
  (l14:K.lookup f14=some ⟨oc14,od14,.func (fnOf "_law_more" "_law_more" (CF ED) (Bw ED) (Av ED) .none kV14 dc14 pm14 an14 cd14 ct14),sl14⟩)
  (k14c:codeIn K cd14 "_law_more" = true)
  (k14:keepIn K (.ref f14)=true)
  (a15:nsIn K Ac "_law_ringless" = some (some (.ref f15)))
  (l15:K.lookup f15=some ⟨oc15,od15,.func (fnOf "_law_ringless" "_law_ringless" (CF Cn) (Bw Cn) (Av Cn) .none kV15 dc15 pm15 an15 cd15 ct15),sl15⟩)
  (k15c:codeIn K cd15 "_law_ringless" = true)
  (k15:keepIn K (.ref f15)=true)
  (a16:nsIn K Ac "_law_refused" = some (some (.ref f16)))
  (l16:K.lookup f16=some ⟨oc16,od16,.func (fnOf "_law_refused" "_law_refused" (CF C2) (Bw C2) (Av C2) .none kV16 dc16 pm16 an16 cd16 ct16),sl16⟩)
  (k16c:codeIn K cd16 "_law_refused" = true)
  (k16:keepIn K (.ref f16)=true)
  (a17:nsIn K Ac "law" = some (some (.ref f17)))
  (l17:K.lookup f17=some ⟨oc17,od17,.func (fnOf "law" "law" (CF N2) (Bw N2) (Av N2) .none kV17 dc17 pm17 an17 cd17 ct17),sl17⟩)
  (k17c:codeIn K cd17 "law" = true)
  (k17:keepIn K (.ref f17)=true)
  (pg_Web:plainGet K cWeb Qs=true)
  (hd_Web:hasDictIn K cWeb=true)
  (po_Web:plainOver K cWeb=true)
  (sa_Web:findIn K (.ref cWeb) "__setattr__" = some (some (.builtin "object.__setattr__")))
  (mk_Web:makesIn K cWeb=true)
  (kc_Web:keepIn K (.ref cWeb)=true)
  (n_Web_places:findIn K (.ref cWeb) "places" = some none)
  (n_Web_ties:findIn K (.ref cWeb) "ties" = some none)
  (n_Web_near_sets:findIn K (.ref cWeb) "near_sets" = some none)
  (sp:specialIn K (.builtin "object.__class__") "__get__" = some (some (.builtin "getset_descriptor.__get__")))
  (tk:takesIn K (.builtin "object.__class__")=some true)
  (xnd:([cBadPlaces,cBadTie,cNoPlace,cNotWood]:List AF).Nodup)
  (xo_GuardError:mroIn K cGuardError (.type "object")=some true)
  (xb_GuardError:mroIn K cGuardError (.type "BaseException")=some true)
  (xt_GuardError:typeIn K (.ref cGuardError)=some (.type "type"))
  (xo_BadPlaces:mroIn K cBadPlaces (.type "object")=some true)
  (xb_BadPlaces:mroIn K cBadPlaces (.type "BaseException")=some true)
  (xo_BadTie:mroIn K cBadTie (.type "object")=some true)
  (xb_BadTie:mroIn K cBadTie (.type "BaseException")=some true)
  (xo_NoPlace:mroIn K cNoPlace (.type "object")=some true)
  (xb_NoPlace:mroIn K cNoPlace (.type "BaseException")=some true)
  (xo_NotWood:mroIn K cNotWood (.type "object")=some true)
  (xb_NotWood:mroIn K cNotWood (.type "BaseException")=some true)
  (xt_NotWood:typeIn K (.ref cNotWood)=some (.type "type"))
  (xe_BadPlaces:excIn K cBadPlaces M9 "ValueError.__new__" = true)
  (xg_BadPlaces:findIn K (.ref cBadPlaces) "__getattribute__" = some (some (.builtin "BaseException.__getattribute__")))
  (xn_BadPlaces:findIn K (.ref cBadPlaces) "__getattr__" = some none)
  (xa_BadPlaces:findIn K (.ref cBadPlaces) "__class__" = some (some (.builtin "object.__class__")))
  (xs_BadPlaces_GuardError:subIn K (.ref cBadPlaces) (.ref cGuardError)=some true)
  (xi_BadPlaces_NotWood:kitOne K (.ref cBadPlaces) (.ref cNotWood)=some false)
  (xi_BadPlaces_ValueError:kitOne K (.ref cBadPlaces) (.type "ValueError")=some true)
  (xi_BadPlaces_BadColony:kitOne K (.ref cBadPlaces) (.ref cBadColony)=some false)
  (xi_BadPlaces_NotTwo:kitOne K (.ref cBadPlaces) (.ref cNotTwo)=some false)
  (xi_BadPlaces_TooLarge:kitOne K (.ref cBadPlaces) (.ref cTooLarge)=some false)
  (xe_BadTie:excIn K cBadTie M9 "ValueError.__new__" = true)
  (xg_BadTie:findIn K (.ref cBadTie) "__getattribute__" = some (some (.builtin "BaseException.__getattribute__")))
  (xn_BadTie:findIn K (.ref cBadTie) "__getattr__" = some none)
  (xa_BadTie:findIn K (.ref cBadTie) "__class__" = some (some (.builtin "object.__class__")))
  (xs_BadTie_GuardError:subIn K (.ref cBadTie) (.ref cGuardError)=some true)
  (xi_BadTie_NotWood:kitOne K (.ref cBadTie) (.ref cNotWood)=some false)
  (xi_BadTie_ValueError:kitOne K (.ref cBadTie) (.type "ValueError")=some true)
  (xi_BadTie_BadColony:kitOne K (.ref cBadTie) (.ref cBadColony)=some false)
  (xi_BadTie_NotTwo:kitOne K (.ref cBadTie) (.ref cNotTwo)=some false)
  (xi_BadTie_TooLarge:kitOne K (.ref cBadTie) (.ref cTooLarge)=some false)
  (xe_NoPlace:excIn K cNoPlace M9 "ValueError.__new__" = true)
  (xg_NoPlace:findIn K (.ref cNoPlace) "__getattribute__" = some (some (.builtin "BaseException.__getattribute__")))
  (xn_NoPlace:findIn K (.ref cNoPlace) "__getattr__" = some none)
  (xa_NoPlace:findIn K (.ref cNoPlace) "__class__" = some (some (.builtin "object.__class__")))
  (xs_NoPlace_GuardError:subIn K (.ref cNoPlace) (.ref cGuardError)=some true)
  (xi_NoPlace_NotWood:kitOne K (.ref cNoPlace) (.ref cNotWood)=some false)
  (xi_NoPlace_ValueError:kitOne K (.ref cNoPlace) (.type "ValueError")=some true)
  (xi_NoPlace_BadColony:kitOne K (.ref cNoPlace) (.ref cBadColony)=some false)
  (xi_NoPlace_NotTwo:kitOne K (.ref cNoPlace) (.ref cNotTwo)=some false)
  (xi_NoPlace_TooLarge:kitOne K (.ref cNoPlace) (.ref cTooLarge)=some false)
  (xe_NotWood:excIn K cNotWood M9 "ValueError.__new__" = true)
  (xg_NotWood:findIn K (.ref cNotWood) "__getattribute__" = some (some (.builtin "BaseException.__getattribute__")))
  (xn_NotWood:findIn K (.ref cNotWood) "__getattr__" = some none)
  (xa_NotWood:findIn K (.ref cNotWood) "__class__" = some (some (.builtin "object.__class__")))
  (xs_NotWood_GuardError:subIn K (.ref cNotWood) (.ref cGuardError)=some true)
  (xi_NotWood_NotWood:kitOne K (.ref cNotWood) (.ref cNotWood)=some true)
  (xi_NotWood_ValueError:kitOne K (.ref cNotWood) (.type "ValueError")=some true)
  (xi_NotWood_BadColony:kitOne K (.ref cNotWood) (.ref cBadColony)=some false)
  (xi_NotWood_NotTwo:kitOne K (.ref cNotWood) (.ref cNotTwo)=some false)
  (xi_NotWood_TooLarge:kitOne K (.ref cNotWood) (.ref cTooLarge)=some false)
  (z_ValueError:nsIn K Ac "ValueError" = some none)
  (z_bool:nsIn K Ac "bool" = some none)
  (z_int:nsIn K Ac "int" = some none)
  (z_isinstance:nsIn K Ac "isinstance" = some none)
  (z_len:nsIn K Ac "len" = some none)
  (z_list:nsIn K Ac "list" = some none)
  (z_max:nsIn K Ac "max" = some none)
  (z_min:nsIn K Ac "min" = some none)
  (z_range:nsIn K Ac "range" = some none)
  (z_sorted:nsIn K Ac "sorted" = some none)
  (z_tuple:nsIn K Ac "tuple" = some none)
  (g_MOST_PLACES:nsIn K Ac "MOST_PLACES" = some (some (.int 60 tk_MOST_PLACES)))
  : ∃(W:Wd) (T:Txt K mg W),fa=T.d_law.f/\W.excs.Nodup/\∀(s:AE) (v:AC),Q1 s T.d_law.fd ⟨[v],[]⟩ [("script",v)]:=by
 have F1:=Dg (st:=C1) l1 k1c k1
 have b1:=F1.binds (ps:=["places", "ties"]) λ_ _ _ _ _ _ us hl=>by obtain ⟨a,b,rfl⟩:=Ng hl;rfl
 have F2:=Dg (st:=C0) l2 k2c k2
 have b2:=F2.binds (ps:=["places", "ties"]) λ_ _ _ _ _ _ us hl=>by obtain ⟨a,b,rfl⟩:=Ng hl;rfl
 have F3:=Dg (st:=Er) l3 k3c k3
 have b3:=F3.binds (ps:=["self", "places", "ties"]) λ_ _ _ _ _ _ us hl=>by obtain ⟨a,b,c,rfl⟩:=bJ hl;rfl
 have F4:=Dg (st:=CO) l4 k4c k4
 have b4:=F4.binds (ps:=["web", "place"]) λ_ _ _ _ _ _ us hl=>by obtain ⟨a,b,rfl⟩:=Ng hl;rfl
 have F5:=Dg (st:=Kg) l5 k5c k5
 have b5:=F5.binds (ps:=["web", "place"]) λ_ _ _ _ _ _ us hl=>by obtain ⟨a,b,rfl⟩:=Ng hl;rfl
 have F6:=Dg (st:=Dr) l6 k6c k6
 have b6:=F6.binds (ps:=["web", "start"]) λ_ _ _ _ _ _ us hl=>by obtain ⟨a,b,rfl⟩:=Ng hl;rfl
 have F7:=Dg (st:=Ep) l7 k7c k7
 have b7:=F7.binds (ps:=["web"]) λ_ _ _ _ _ _ us hl=>by obtain ⟨a,rfl⟩:=UA hl;rfl
 have F8:=Dg (st:=Fe) l8 k8c k8
 have b8:=F8.binds (ps:=["web"]) λ_ _ _ _ _ _ us hl=>by obtain ⟨a,rfl⟩:=UA hl;rfl
 have F9:=Dg (st:=Cm) l9 k9c k9
 have b9:=F9.binds (ps:=["web"]) λ_ _ _ _ _ _ us hl=>by obtain ⟨a,rfl⟩:=UA hl;rfl
 have F10:=Dg (st:=EE) l10 k10c k10
 have b10:=F10.binds (ps:=["script", "k"]) λ_ _ _ _ _ _ us hl=>by obtain ⟨a,b,rfl⟩:=Ng hl;rfl
 have F11:=Dg (st:=Dt) l11 k11c k11
 have b11:=F11.binds (ps:=["cell", "salt"]) λ_ _ _ _ _ _ us hl=>by obtain ⟨a,b,rfl⟩:=Ng hl;rfl
 have F12:=Dg (st:=Ds) l12 k12c k12
 have b12:=F12.binds (ps:=["cell", "many"]) λ_ _ _ _ _ _ us hl=>by obtain ⟨a,b,rfl⟩:=Ng hl;rfl
 have F13:=Dg (st:=EC) l13 k13c k13
 have b13:=F13.binds (ps:=["script", "most", "style"]) λ_ _ _ _ _ _ us hl=>by obtain ⟨a,b,c,rfl⟩:=bJ hl;rfl
 have F14:=Dg (st:=ED) l14 k14c k14
 have b14:=F14.binds (ps:=["ties", "many", "cells"]) λ_ _ _ _ _ _ us hl=>by obtain ⟨a,b,c,rfl⟩:=bJ hl;rfl
 have F15:=Dg (st:=Cn) l15 k15c k15
 have b15:=F15.binds (ps:=["many", "ties"]) λ_ _ _ _ _ _ us hl=>by obtain ⟨a,b,rfl⟩:=Ng hl;rfl
 have F16:=Dg (st:=C2) l16 k16c k16
 have b16:=F16.binds (ps:=["web"]) λ_ _ _ _ _ _ us hl=>by obtain ⟨a,rfl⟩:=UA hl;rfl
 have F17:=Dg (st:=N2) l17 k17c k17
 have b17:=F17.binds (ps:=["script"]) λ_ _ _ _ _ _ us hl=>by obtain ⟨a,rfl⟩:=UA hl;rfl
 let W:Wd:=⟨cGuardError,cBadPlaces,cBadTie,cNoPlace,cTooLarge,cNotTwo,cNotWood,cBadColony,cWeb⟩
 have xc_GuardError:(clsIn K cGuardError).isSome=true:=GC xo_GuardError;have xc_BadPlaces:(clsIn K cBadPlaces).isSome=true:=GC xo_BadPlaces;have xc_BadTie:(clsIn K cBadTie).isSome=true:=GC xo_BadTie;have xc_NoPlace:(clsIn K cNoPlace).isSome=true:=GC xo_NoPlace;have xc_NotWood:(clsIn K cNotWood).isSome=true:=GC xo_NotWood;have X_BadPlaces:XIs K cBadPlaces:=⟨xc_BadPlaces,xg_BadPlaces,xn_BadPlaces,xa_BadPlaces,sp,tk,xo_BadPlaces,xb_BadPlaces⟩;have X_BadTie:XIs K cBadTie:=⟨xc_BadTie,xg_BadTie,xn_BadTie,xa_BadTie,sp,tk,xo_BadTie,xb_BadTie⟩;have X_NoPlace:XIs K cNoPlace:=⟨xc_NoPlace,xg_NoPlace,xn_NoPlace,xa_NoPlace,sp,tk,xo_NoPlace,xb_NoPlace⟩;have X_NotWood:XIs K cNotWood:=⟨xc_NotWood,xg_NotWood,xn_NotWood,xa_NotWood,sp,tk,xo_NotWood,xb_NotWood⟩
 let T:Txt K mg W:={
  d_checked_ties:=⟨f1,_,F1,b1,Dl X G a1⟩
  d_near_sets_of:=⟨f2,_,F2,b2,Dl X G a2⟩
  d_Web_init:=⟨f3,_,F3,b3⟩
  d_refuse_no_place:=⟨f4,_,F4,b4,Dl X G a4⟩
  d_near:=⟨f5,_,F5,b5,Dl X G a5⟩
  d_steps_from:=⟨f6,_,F6,b6,Dl X G a6⟩
  d_parts_of:=⟨f7,_,F7,b7,Dl X G a7⟩
  d_is_wood:=⟨f8,_,F8,b8,Dl X G a8⟩
  d_wood_colonies:=⟨f9,_,F9,b9,Dl X G a9⟩
  d__law_cell:=⟨f10,_,F10,b10,Dl X G a10⟩
  d__law_mixed:=⟨f11,_,F11,b11,Dl X G a11⟩
  d__law_order:=⟨f12,_,F12,b12,Dl X G a12⟩
  d__law_wood:=⟨f13,_,F13,b13,Dl X G a13⟩
  d__law_more:=⟨f14,_,F14,b14,Dl X G a14⟩
  d__law_ringless:=⟨f15,_,F15,b15,Dl X G a15⟩
  d__law_refused:=⟨f16,_,F16,b16,Dl X G a16⟩
  d_law:=⟨f17,_,F17,b17,Dl X G a17⟩
  c_Web:=⟨⟨pg_Web,hd_Web,po_Web,sa_Web⟩,⟨mk_Web,a3,i3,kc_Web⟩,Dl X G a_Web⟩
  n_Web_places:=n_Web_places
  n_Web_ties:=n_Web_ties
  n_Web_near_sets:=n_Web_near_sets
  xm_GuardError:=Dl X G a_GuardError
  x_BadPlaces:=⟨⟨xe_BadPlaces⟩,Dl X G a_BadPlaces⟩
  x_BadTie:=⟨⟨xe_BadTie⟩,Dl X G a_BadTie⟩
  x_NoPlace:=⟨⟨xe_NoPlace⟩,Dl X G a_NoPlace⟩
  xm_TooLarge:=Dl X G a_TooLarge
  xm_NotTwo:=Dl X G a_NotTwo
  x_NotWood:=⟨⟨xe_NotWood⟩,Dl X G a_NotWood⟩
  xm_BadColony:=Dl X G a_BadColony
  nd:=xnd
  caught_GuardError:=(all_cons ⟨xt_GuardError,xc_GuardError,xb_GuardError,xs_BadPlaces_GuardError⟩ (all_cons ⟨xt_GuardError,xc_GuardError,xb_GuardError,xs_BadTie_GuardError⟩ (all_cons ⟨xt_GuardError,xc_GuardError,xb_GuardError,xs_NoPlace_GuardError⟩ (all_cons ⟨xt_GuardError,xc_GuardError,xb_GuardError,xs_NotWood_GuardError⟩ Hg))))
  is_NotWood:=RT (al:=[cNotWood]) (ex:=[cBadPlaces,cBadTie,cNoPlace,cNotWood]) (all_cons ⟨X_NotWood,xi_NotWood_NotWood⟩ Hg) (all_cons (λ_=>⟨X_BadPlaces,xi_BadPlaces_NotWood⟩) (all_cons (λ_=>⟨X_BadTie,xi_BadTie_NotWood⟩) (all_cons (λ_=>⟨X_NoPlace,xi_NoPlace_NotWood⟩) (all_cons (λn=>absurd (by simp) n) Hg))))
  i_NotWood:=⟨xc_NotWood,xt_NotWood⟩
  is_ValueError:=RT (al:=[cBadPlaces,cBadTie,cNoPlace,cNotWood]) (ex:=[cBadPlaces,cBadTie,cNoPlace,cNotWood]) (all_cons ⟨X_BadPlaces,xi_BadPlaces_ValueError⟩ (all_cons ⟨X_BadTie,xi_BadTie_ValueError⟩ (all_cons ⟨X_NoPlace,xi_NoPlace_ValueError⟩ (all_cons ⟨X_NotWood,xi_NotWood_ValueError⟩ Hg)))) (all_cons (λn=>absurd (by simp) n) (all_cons (λn=>absurd (by simp) n) (all_cons (λn=>absurd (by simp) n) (all_cons (λn=>absurd (by simp) n) Hg))))
  isT_BadColony_NotTwo_TooLarge:=RT (al:=[]) (ex:=[cBadPlaces,cBadTie,cNoPlace,cNotWood]) Hg (all_cons (λ_=>⟨X_BadPlaces,((FM xi_BadPlaces_BadColony).trans ((FM xi_BadPlaces_NotTwo).trans ((FM xi_BadPlaces_TooLarge).trans KI)))⟩) (all_cons (λ_=>⟨X_BadTie,((FM xi_BadTie_BadColony).trans ((FM xi_BadTie_NotTwo).trans ((FM xi_BadTie_TooLarge).trans KI)))⟩) (all_cons (λ_=>⟨X_NoPlace,((FM xi_NoPlace_BadColony).trans ((FM xi_NoPlace_NotTwo).trans ((FM xi_NoPlace_TooLarge).trans KI)))⟩) (all_cons (λ_=>⟨X_NotWood,((FM xi_NotWood_BadColony).trans ((FM xi_NotWood_NotTwo).trans ((FM xi_NotWood_TooLarge).trans KI)))⟩) Hg))))
  b_ValueError:=DZ X G z_ValueError
  b_bool:=DZ X G z_bool
  b_int:=DZ X G z_int
  b_isinstance:=DZ X G z_isinstance
  b_len:=DZ X G z_len
  b_list:=DZ X G z_list
  b_max:=DZ X G z_max
  b_min:=DZ X G z_min
  b_range:=DZ X G z_range
  b_sorted:=DZ X G z_sorted
  b_tuple:=DZ X G z_tuple
  g_MOST_PLACES:=⟨tk_MOST_PLACES,Dl X G g_MOST_PLACES⟩ }
 refine ⟨W,T,?_,xnd,λs v=>.of_eq rfl⟩;have e:=hfa.symm.trans (Dl X G a17);cases e;rfl
theorem walk {l:OpenLaw} {q:Ai} {loose:List Str} {XP:(Str->Option AC)->BY->Prop} {YP:A7->BY->Prop} {d:DefRec} {K:Params->Frag} (hn:l.most=some 63) (hdf:d.params.defaults=[])
  (hY:∀(w:A7) (h:BY),YP w h->(K w.params).In h)
  (F:∀(w:A7) (mg:Str->Option AC) (fa:AF) (h:BY),(K w.params).In h->h.Ns Ac mg->mg d.name=some (.ref fa) ->
   ∃(W:Wd) (T:Txt (K w.params) mg W),fa=T.d_law.f/\W.excs.Nodup/\∀(s:AE) (v:AC),Q1 s T.d_law.fd ⟨[v],[]⟩ [("script",v)])
  (good:∀(W:Wd),W.excs.Nodup->∀ns:List Int,ns.length<=63->∃S',Sz W [.fro (ns.map D.int)] []=.ok (.bl true) S') :
  WalkO q loose XP YP l.row.toRowW d [] (λf vs=>TU f vs):=
 L2.XX (n:=63) (k:=8) (x:="script") (CX:=λw=>CXG l.prog w) (sp:=λw=>VU (K w.params)) hn (by decide) hdf ⟨rfl,by decide,by decide⟩ hY
  (λw mg fa h KX G hmg=>by
   obtain ⟨W,T,e,nd,hb⟩:=F w mg fa h KX G hmg;subst e
   exact ⟨T.d_law.fd,hb,λbase _ _=>WK (bD T) (good W nd)⟩)
  (λ_ _ a ns hl hO hS=>⟨a,ns,rfl,cB hO hS,hl,λ_=>rfl⟩) (λw H s e s' z=>cG z)
end M
open PySem PySem.W PyProof.Rows
set_option maxRecDepth 100000 in
set_option maxHeartbeats 0 in
theorem PySem.Challenge.cw_guardround_k49_what_is_a_wood_holds : PySem.Challenge.rw_guardround_k49_what_is_a_wood.Holds := by
 w_on;o_law;k_head;(case hw=>w_witness2)
 k_fill
 refine M.walk (l:=E1) rfl rfl (λw h Y=>by first | exact kIn_of Y | exact km_in_of Y) ?F M.good
 case F=>
  intro w mg fa h KX G hmg;refine' M.cI (l:=E1) (w:=w) KX G hmg ?a_Web ?a_GuardError ?a_BadPlaces ?a_BadTie ?a_NoPlace ?a_TooLarge ?a_NotTwo ?a_NotWood ?a_BadColony ?a1 ?l1 ?k1c ?k1 ?a2 ?l2 ?k2c ?k2 ?a3 ?i3 ?l3 ?k3c ?k3 ?a4 ?l4 ?k4c ?k4 ?a5 ?l5 ?k5c ?k5 ?a6 ?l6 ?k6c ?k6 ?a7 ?l7 ?k7c ?k7 ?a8 ?l8 ?k8c ?k8 ?a9 ?l9 ?k9c ?k9 ?a10 ?l10 ?k10c ?k10 ?a11 ?l11 ?k11c ?k11 ?a12 ?l12 ?k12c ?k12 ?a13 ?l13 ?k13c ?k13 ?a14 ?l14 ?k14c ?k14 ?a15 ?l15 ?k15c ?k15 ?a16 ?l16 ?k16c ?k16 ?a17 ?l17 ?k17c ?k17 ?pg_Web ?hd_Web ?po_Web ?sa_Web ?mk_Web ?kc_Web ?n_Web_places ?n_Web_ties ?n_Web_near_sets ?sp ?tk ?xnd ?xo_GuardError ?xb_GuardError ?xt_GuardError ?xo_BadPlaces ?xb_BadPlaces ?xo_BadTie ?xb_BadTie ?xo_NoPlace ?xb_NoPlace ?xo_NotWood ?xb_NotWood ?xt_NotWood ?xe_BadPlaces ?xg_BadPlaces ?xn_BadPlaces ?xa_BadPlaces ?xs_BadPlaces_GuardError ?xi_BadPlaces_NotWood ?xi_BadPlaces_ValueError ?xi_BadPlaces_BadColony ?xi_BadPlaces_NotTwo ?xi_BadPlaces_TooLarge ?xe_BadTie ?xg_BadTie ?xn_BadTie ?xa_BadTie ?xs_BadTie_GuardError ?xi_BadTie_NotWood ?xi_BadTie_ValueError ?xi_BadTie_BadColony ?xi_BadTie_NotTwo ?xi_BadTie_TooLarge ?xe_NoPlace ?xg_NoPlace ?xn_NoPlace ?xa_NoPlace ?xs_NoPlace_GuardError ?xi_NoPlace_NotWood ?xi_NoPlace_ValueError ?xi_NoPlace_BadColony ?xi_NoPlace_NotTwo ?xi_NoPlace_TooLarge ?xe_NotWood ?xg_NotWood ?xn_NotWood ?xa_NotWood ?xs_NotWood_GuardError ?xi_NotWood_NotWood ?xi_NotWood_ValueError ?xi_NotWood_BadColony ?xi_NotWood_NotTwo ?xi_NotWood_TooLarge ?z_ValueError ?z_bool ?z_int ?z_isinstance ?z_len ?z_list ?z_max ?z_min ?z_range ?z_sorted ?z_tuple ?g_MOST_PLACES
  (case a_Web | a_GuardError | a_BadPlaces | a_BadTie | a_NoPlace | a_TooLarge | a_NotTwo | a_NotWood | a_BadColony | a1 | l1 | k1c | k1 | a2 | l2 | k2c | k2 | a3 | i3 | l3 | k3c | k3 | a4 | l4 | k4c | k4 | a5 | l5 | k5c | k5 | a6 | l6 | k6c | k6 | a7 | l7 | k7c | k7 | a8 | l8 | k8c | k8 | a9 | l9 | k9c | k9 | a10 | l10 | k10c | k10 | a11 | l11 | k11c | k11 | a12 | l12 | k12c | k12 | a13 | l13 | k13c | k13 | a14 | l14 | k14c | k14 | a15 | l15 | k15c | k15 | a16 | l16 | k16c | k16 | a17 | l17 | k17c | k17 | pg_Web | hd_Web | po_Web | sa_Web | mk_Web | kc_Web | n_Web_places | n_Web_ties | n_Web_near_sets | sp | tk=>k_is)
  (case xnd=>decide)
  (case xo_GuardError | xb_GuardError | xt_GuardError | xo_BadPlaces | xb_BadPlaces | xo_BadTie | xb_BadTie | xo_NoPlace | xb_NoPlace | xo_NotWood | xb_NotWood | xt_NotWood=>k_is)
  (case xe_BadPlaces=>k_exc)
  (case xg_BadPlaces | xn_BadPlaces | xa_BadPlaces | xs_BadPlaces_GuardError=>k_is)
  (case xi_BadPlaces_NotWood | xi_BadPlaces_ValueError | xi_BadPlaces_BadColony | xi_BadPlaces_NotTwo | xi_BadPlaces_TooLarge=>kit_is)
  (case xe_BadTie=>k_exc)
  (case xg_BadTie | xn_BadTie | xa_BadTie | xs_BadTie_GuardError=>k_is)
  (case xi_BadTie_NotWood | xi_BadTie_ValueError | xi_BadTie_BadColony | xi_BadTie_NotTwo | xi_BadTie_TooLarge=>kit_is)
  (case xe_NoPlace=>k_exc)
  (case xg_NoPlace | xn_NoPlace | xa_NoPlace | xs_NoPlace_GuardError=>k_is)
  (case xi_NoPlace_NotWood | xi_NoPlace_ValueError | xi_NoPlace_BadColony | xi_NoPlace_NotTwo | xi_NoPlace_TooLarge=>kit_is)
  (case xe_NotWood=>k_exc)
  (case xg_NotWood | xn_NotWood | xa_NotWood | xs_NotWood_GuardError=>k_is)
  (case xi_NotWood_NotWood | xi_NotWood_ValueError | xi_NotWood_BadColony | xi_NotWood_NotTwo | xi_NotWood_TooLarge=>kit_is)
  (case z_ValueError | z_bool | z_int | z_isinstance | z_len | z_list | z_max | z_min | z_range | z_sorted | z_tuple | g_MOST_PLACES=>k_is)
#print axioms PySem.Challenge.cw_guardround_k49_what_is_a_wood_holds
