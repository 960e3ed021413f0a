import PyProof.Rows.All
import Wide.All
import OpenK.AllK
import Wide.FinOn
import Lean
import PyProof.EqAt
import PyProof.EqKinds
import PyProof.TupleCall
import PyProof.ExcBaseAll.ValueError
import PyProof.NsDelKeeps
import PyProof.NeKinds
import PyProof.Rows.SortShell
import PyProof.Rows.FStr
import PyProof.FString
import PyProof.ExcAttrAll.ValueError
import PyProof.ExcArgsOwn
import PyProof.Rows.SortRuns
import PyProof.TupleIter
import PyProof.Dict
import KE.KDictSum
import PyProof.Rows.SetFrom
import PyProof.SetRoads
import PyProof.Rows.Range3
import PyProof.WalksMore
import PyProof.TupleOfSeq
import PyProof.EnumMake
import PyProof.SliceList
import PyProof.MinMaxWalk
import PyProof.Rows.EnumRows
import PyProof.WalkInts
import PyProof.Rows.SeqCalls
import KE.KRevIter
import PyProof.CollectIter
import PyProof.TupleOfGen
import PyProof.Rows.FactsT2
import PyProof.ListRange
import PyProof.Rows.CallKwBuiltin
import PyProof.ZipIter
import PyProof.Rows.ZipGen
import PyProof.Rows.RuleM_int
import PyProof.Rows.AssignMoreSeq
import KE.KIntText
import PyProof.Rows.StrKeys3
import PyProof.StrBlock
import PyProof.StrCalls2
import PyProof.StrWalks
import PyProof.StrLawsTight
import PyProof.StrLawsChain
import PyProof.StrLawsIn
import PyProof.Rows.StrItems
import PyProof.FitsReplace
import PySem.Challenge.RW_guardround_k56_webs_as_texts
set_option Elab.async false
set_option linter.all false
set_option maxRecDepth 100000
set_option maxHeartbeats 8000000
theorem qX{c:Prop}{h:Decidable c}(hc:c){α:Sort u}{t e:α}:ite c t e=t:=if_pos hc
theorem qY{c:Prop}{h:Decidable c}(hc:Not c){α:Sort u}{t e:α}:ite c t e=e:=if_neg hc
theorem wX{p:Prop}[i:Decidable p](h:p):decide p=true:=decide_eq_true h
theorem wY{p:Prop}[i:Decidable p](h:Not p):decide p=false:=decide_eq_false h
theorem zX{a b:Prop}(h:a)(n:Not a):b:=absurd h n
noncomputable section
open Array renaming append_assoc->UO,getD_eq_getD_getElem?->C9,getElem?_eq_getElem->Fv,getElem?_eq_none->Py,getElem?_eq_some_iff->CI,getElem?_setIfInBounds_ne->Kk,getElem?_toList->RC,length_toList->BB,mem_extract_iff_getElem->LP,mem_of_getElem?->Bl,mem_toList_iff->A3,perm_iff_toList_perm->DK,toList->aW,toList_append->An,toList_map->G0,toList_modify->Sk,toList_push->GH,toList_reverse->DJ,toList_setIfInBounds->NP
open Array.Perm renaming refl->KA
open Bool renaming and_eq_true->Br,false_eq_true->A1,false_ne_true->AW,false_or->aV,not_eq_true'->EJ,not_false->No,not_true->Bu,or_false->aU,true_and->aT
open Eq renaming trans->Hj
open False renaming elim->CU
open ForInStep renaming yield->Eh
open Int renaming emod_lt_of_pos->CK,emod_nonneg->C7,le_refl->Gs,toNat_natCast->Bj,toNat_of_nonneg->FV
open List renaming all_cons->aS,all_eq_true->DZ,all_map->Q9,any_cons->Eu,any_toArray->HU,append_assoc->BJ,append_nil->Bd,drop_drop->Nm,drop_eq_getElem_cons->GF,drop_eq_nil_of_le->Q8,drop_succ_cons->UM,drop_zero->Nl,ext_getElem?->GU,extract->Ki,filterMap_cons->JK,find?_cons->B2,forIn_cons->YL,forIn_nil->Z0,getD_eq_getElem?_getD->DT,getElem?_append_left->Ad,getElem?_append_right->A5,getElem?_cons_succ->HS,getElem?_drop->Fe,getElem?_eq_getElem->BD,getElem?_eq_none->CJ,getElem?_eq_none_iff->CO,getElem?_eq_some_iff->AJ,getElem?_map->Ao,getElem?_range->Dh,getElem?_replicate->B0,getElem?_set->GR,getElem?_set_ne->BC,getElem?_set_self->A7,getElem?_take_of_lt->Ps,getElem?_toArray->RN,getElem?_zipIdx->Sh,length->GP,length_append->At,length_cons->Af,length_drop->Em,length_map->AK,length_nil->C3,length_replicate->IT,length_set->YK,length_singleton->Bb,length_take->Ci,lookup->E0,lookup_cons->Bq,map->Nk,mapM_toArray->Vu,map_append->CP,map_congr_left->B7,map_cons->Ai,map_id->Sg,map_map->BE,map_nil->Hi,map_take->aR,mem_append->BP,mem_append_left->Ez,mem_append_right->A6,mem_cons->Aw,mem_cons_of_mem->AV,mem_cons_self->Ae,mem_filter->YJ,mem_filterMap->Vl,mem_iff_getElem->Sf,mem_map->A9,mem_of_getElem?->DS,mem_range->Fd,mem_reverse->X8,mem_singleton->A2,mergeSort_perm->UL,nodup_cons->Hq,nodup_nil->Zz,not_mem_nil->HR,of_mem_zip->NF,pairwise_append->BL,pairwise_iff_getElem->Og,pairwise_map->DE,pairwise_mergeSort->Px,pairwise_reverse->IS,perm_append_comm->RM,range->Be,range_succ->NE,replicate->A4,singleton_append->Ef,size_toArray->AZ,take_add_one->DD,take_append_drop->Ee,take_length->HQ,take_of_length_le->CA,take_sublist->Vt,zipIdx_nil->YI,zip_cons_cons->J9,zip_nil_left->Vr,zip_nil_right->Vk
open List.Pairwise renaming nil->dG
open List.Perm renaming append_left->Gz,append_right->NK,of_eq->Si
open List.cons renaming inj->Cr
open Nat renaming add_mul->fQ,add_zero->dF,le_of_eq->RL,le_of_lt->RK,le_of_not_lt->Ls,le_refl->AS,le_succ->ND,le_trans->Aq,lt_irrefl->CY,lt_of_le_of_lt->Cz,lt_of_lt_of_le->AX,lt_succ_of_lt->Gr,lt_succ_self->Co,lt_trans->dE,min_le_right->YH,ne_of_gt->K9,ne_of_lt->Ag,not_lt->Ho,zero_add->EN,zero_le->DV
open Nat.succ renaming inj->X7
open Ne renaming symm->Bp
open Option renaming bind_eq_some_iff->Of,bind_some->AL,getD_none->Vj,getD_some->Vi,isSome_iff_exists->Nj,isSome_map->J8,map->c6
open Option.some renaming inj->CD
open Or renaming inl->Se,inr->Pq
open Prod renaming ext->Ni
open PyProof.Rows renaming AllBare->FW,IntsAre->B1,IsTup->Vm,Keyed->Ac,SortKind->Dk,SortSt->Ay,Subscript_->aN,arrOf->AM,boot_all->fP,boot_int->fO,boot_isinstance->JJ,boot_max->Lr,boot_min->Lq,boot_sorted->fN,boot_str->Lp,boot_tuple->fM,bubble->aM,callWith_builtin1->fL,callWith_type1->JP,elem'_eq->YE,envOfC->Iq,failedOf->FZ,firstOfTuple'->UG,general'->RD,len_partsBetween->fK,listUpdate_at->UF,ltAt'->cx,lt_int->fJ,mirror->Gx,mirror_perm->Pp,pairsOf->Hh,pendingOf->AO,reverseSlice'->LO,reverseSlice'_eq->Ia,seqEpoch_at->YD,seqObj->Fq,slot_tuple_getitem->Do,sortedHeap->aI,split_le->fI,split_pos->fH,subscriptTail->UD,subscriptTail_builtinR->Vo,tuples'->cu,wpS_bind->AG,wpS_forRange->BQ,wpS_get->En,wpS_modify->CB,wpS_mono->B3,wpS_pure->AI
open PyProof.Rows.IsTup renaming new->Vv
open PyProof.Rows.SortSt renaming mk'->EZ
open PySem renaming Addr->AE,Around->Ak,BindsTo->RB,CmpOp->RO,DictEntry->Kj,FuncData->CQ,GenState->KF,Heap->BG,IsEnum->Vw,IsPart->Oh,Keyword->FU,Model->Pr,NameKind->NJ,Paired->Et,PassesOwn->Vh,Program->Aa,Result->aP,Scope->Fb,Shared->AD,Stmt->CW,Value->AB,Within->Pw,World->As,again->cy,argBest->Ep,assign->RF,assignEach->EM,atKey->RE,attributeBase->DR,backTo->Bi,backToKw->Eo,behindInMarks->Bz,binaryOp->Dj,bindC->Ve,bindL->Vd,bootBuiltins->Dy,boot_len->YG,builtinsNs->aL,cLine->Cy,call->UJ,call_meets->Lj,callerA->NI,cellsFrom->dB,checkBuiltinCall->Oa,codeAny->Ir,codeAny_call_builtin->KC,codeAny_mono->GM,compareOp->A8,concat_meets->Vp,eval->Ba,foldedSetIterable->DY,getItem->Kh,intText?->Ib,isTrue->aK,keywordEach->Ch,letOwnedTupleGo->JI,mainGlobals->Ah,mem_of_lookup->Ce,model->AR,noFill_tuple_add->OZ,noteFrame->Vc,pyIter->aJ,pyNext->OY,rawInt->DB,relabel->GK,seq_tuple_add->UE,setField->YC,sliceBounds->FX,slot_list_getitem->cw,starEach->AN,strValues->Vb,subscripted->Po,swapsWith->Dx,sysModules->DA,tupleKind->OX,tupleKind_room_in1->Gw,typeIs_str->Li,typeLookup->aH,valueAt->NH,wpAny->Ab,wpAny_Call_Name_kw->EL,wpAny_Name->aG,wpAny_assign_Name->cr,wpAny_attempt->FT,wpAny_bind->AC,wpAny_call->Lh,wpAny_callSpecial?_slot->EY,wpAny_call_entry->Dw,wpAny_comprehension_free->UC,wpAny_dictEntries->NG,wpAny_dictEpoch->Pv,wpAny_eqBool_int->dA,wpAny_execs_cons->c9,wpAny_execs_nil->Pu,wpAny_field->Di,wpAny_fieldsOf->KB,wpAny_holding->Cn,wpAny_isInstance->c8,wpAny_isOneOf_keyiter->JL,wpAny_isTrue_Compare1->X5,wpAny_loadPart'->EG,wpAny_mono->Cm,wpAny_newObj_type->Bk,wpAny_nextOf_list_end->X4,wpAny_of_eq->YB,wpAny_passesOwn->Fp,wpAny_pure->AH,wpAny_pyIter_enum->cq,wpAny_pyIter_list->Cg,wpAny_pyIter_tuple->Gv,wpAny_setField->Gu,wpAny_standAt->UB,wpAny_truthy_bool->Cf,wpAny_typeNameOfWhole_keyiter->C8,wpAny_typeNameOf_keyiter->EF
open PySem.Around renaming under->Pt
open PySem.Builtin.Dict renaming dictSlotNone->fS,showsAll->Lv
open PySem.Builtin.Dict_items renaming ownsTuple->Hk
open PySem.Builtin.List renaming listItems->Ff,listTooLong->FA
open PySem.Builtin.ObjectAttr renaming bindTo->X9
open PySem.Builtin.Range renaming rangeSize->dP
open PySem.Builtin.Slice renaming sliceAdjust->Ev,sliceApplied->JQ,sliceFields->dO,slicePartIndex->dN,slicePlaces->C4
open PySem.Builtin.Str renaming occurrences->Db,partsBetween->FC,strKind->Nn
open PySem.Builtin.Tuple renaming tupleCompareSizes->dM,tupleExact->DF,tupleItemsOf->dL
open PySem.Calls renaming Name_function_global->NO,evalArgs_plain->RP
open PySem.Challenge renaming pw_guardround_k56_webs_as_texts->aQ,rw_guardround_k56_webs_as_texts->Ek
open PySem.CmpOf renaming ints_gt->Z2,ints_lt->Z1
open PySem.Code renaming frames->dJ,isFrame->RA
open PySem.Data renaming fields->dI
open PySem.EntryCells renaming newEntry->Oi
open PySem.F renaming args_dict_keyiterator_next_1->Ic,args_str_split_2->LA,args_tuple_add_2->Ft,entry_dict_keyiterator_next->Ii,entry_str_split->Lu,entry_tuple_add->GN,excAttr_ValueError->Ln,plainAttrs_list->Nh,plainAttrs_str->Oe,slot_dict_iter->Od,slot_dict_keyiterator_next->Bc,slot_enumerate_next->Vn,slot_str_split->NN,slot_tuple_add->Gy
open PySem.Heap renaming ExtBut->dH,SameBut->Da,get?_none_of_le->Sj,get?_push_of_some->AF,get?_push_size->AU,get?_update_ne->UN,get?_update_other->Cv,get?_update_self->Eg,lt_size->AT,size_push->EI
open PySem.Heap.IsSliceOf renaming new->c7
open PySem.Heap.SameBut renaming refl->fR,update->NM
open PySem.NameKind renaming free->Fc
open PySem.Obj renaming cls_mapFields->K8,data_mapFields->Bt,isFreed_of_fields->El,mapFields->Bv,mapSeq->Fu
open PySem.Paired renaming length->Dg,snoc->Q7
open PySem.SeqAt.RcAt renaming tuples->dC
open PySem.Str renaming append_assoc->Es,cps_append->aO,empty->Er,empty_append->YF,join->By,length_append->K5,ofString->Fa
open PySem.Txt renaming contains->Hl,join->UI,split->Dc
open PySem.Value renaming bool->Hb,builtin->Zy,bytes->c5,float->RH,int->Ky,isInt->c0,isStrOf->Zx,none->BF,ref->Ap,str->Kx,type->Dz
open PySem.W renaming Frag->AA,InstAt->Vq,callWith_K->RJ,cellsFrom_some->Oc,clsIn->Ih,codeIn->Lm,emptyDict->Bf,excIn->X6,findIn->BY,findObj->Vg,fnOf->E3,handedIn->UK,hasDictIn->JO,hideAll->HP,hideAll_get->Q6,hideAll_none->Hn,instObj->CL,kdu_collect->Q5,keepIn->D0,kia_one->BV,kitOne->Bs,kitx_dict->Sd,kitx_list->Sb,lookIn->Ll,looks_findIn->Hm,makesIn->Vf,methodObj->JN,mg_none_of->DC,mg_of->FY,mroIn->Fs,nsOkIn->Lk,of_hideAll->Iu,plainGet->KD,plainOver->Sa,specialIn->JM,tail_of_in->RI,takerIn->K7,takesIn->K6
open PySem.W.Looks renaming here->dD
open PySem.W.WData renaming int->fF
open PySem.W.WShape renaming has->cz
open PySem.Walks renaming list->UH,tuple->RG
open PySem.Within renaming cons->fG
open Sum renaming inl->K0,inr->Kz
open True renaming intro->Cu
namespace L2
open PySem PySem.Spec PyProof.Rows
abbrev Key:=Sum Int Str
def OH:Key->AB->Bool
 | .inl k,v=>c0 k v
 | .inr x,v=>Zx x v
def keyH (w:As):Key->Int
 | .inl k=>hashInt k
 | .inr x=>hashStr w x
theorem B8:∀ {k:Key} {v:AB},OH k v=true->(∃i t,k=K0 i/\v=Ky i t)∨(∃x t,k=Kz x/\v=Kx x t)
 | .inl i,v,h=>by
  obtain ⟨t,e⟩:=AB.isInt_shape (k:=i) (v:=v) h;exact .inl ⟨i,t,rfl,e⟩
 | .inr x,v,h=>by
  obtain ⟨t,e⟩:=AB.isStrOf_shape (x:=x) (v:=v) h;exact .inr ⟨x,t,rfl,e⟩
theorem Uu (i:Int) (t:Tok):OH (.inl i) (.int i t)=true:=by simp [OH,c0]
theorem Ut (x:Str) (t:Tok):OH (.inr x) (.str x t)=true:=by simp [OH,Zx]
theorem cE (a b:Int):decide ((K0 a:Key)=K0 b)=(a==b):=by
 by_cases e:a=b
 ·subst e;simp
 ·have h:¬(K0 a:Key)=K0 b:=λq=>e (K0.inj q)
  rw [wY h];exact (beq_eq_false_iff_ne.mpr e).symm
theorem cB (a b:Str):decide ((Kz a:Key)=Kz b)=decide (a=b):=by
 by_cases e:a=b
 ·subst e;simp
 ·have h:¬(Kz a:Key)=Kz b:=λq=>e (Kz.inj q)
  rw [wY h,wY e]
theorem cD (a:Int) (b:Str):decide ((K0 a:Key)=Kz b)=false:=wY (λq=>nomatch q)
theorem cC (a:Str) (b:Int):decide ((Kz a:Key)=K0 b)=false:=wY (λq=>nomatch q)
def C6 (prog:Aa) (w:As):PySem.KeyKind prog w Key where
 is:=OH
 hash:=keyH w
 inj:=λv a b ha hb=>by
  rcases B8 ha with ⟨i,t,rfl,rfl⟩ | ⟨x,t,rfl,rfl⟩
  ·rcases B8 hb with ⟨j,u,rfl,e⟩ | ⟨y,u,rfl,e⟩
   ·injection e with e1 _;rw [e1]
   ·exact nomatch e
  ·rcases B8 hb with ⟨j,u,rfl,e⟩ | ⟨y,u,rfl,e⟩
   ·exact nomatch e
   ·injection e with e1 _;rw [e1]
 byValue:=λk v h=>by
  rcases B8 h with ⟨i,t,rfl,rfl⟩ | ⟨x,t,rfl,rfl⟩ <;> rfl
 pyHash:=λhv h=>by
  rcases B8 hv with ⟨i,t,rfl,rfl⟩ | ⟨x,t,rfl,rfl⟩
  ·exact wpAny_pyHash_int h
  ·exact wpAny_pyHash_str h
 eqBool:=λhu hv h=>by
  rcases B8 hu with ⟨i,t,rfl,rfl⟩ | ⟨x,t,rfl,rfl⟩
  ·rcases B8 hv with ⟨j,u,rfl,rfl⟩ | ⟨y,u,rfl,rfl⟩
   ·rw [cE] at h;exact dA h
   ·rw [cD] at h;exact SeqAt.EqAt.int_str i t y u _ _ _ _ h
  ·rcases B8 hv with ⟨j,u,rfl,rfl⟩ | ⟨y,u,rfl,rfl⟩
   ·rw [cC] at h;exact SeqAt.EqAt.str_int x t j u _ _ _ _ h
   ·rw [cB] at h;exact wpAny_eqBool_str h
 «strs»:=λk x t v h=>by
  rcases B8 h with ⟨i,u,rfl,e⟩ | ⟨y,u,rfl,e⟩
  ·exact nomatch e
  ·injection e with e1 _
   subst e1
   cases v <;> rfl
theorem QZ (prog:Aa) (w:As) (i:Int) (t:Tok):(C6 prog w).is (.inl i) (.int i t)=true:=Uu i t
theorem QY (prog:Aa) (w:As) (x:Str) (t:Tok):(C6 prog w).is (.inr x) (.str x t)=true:=Ut x t
inductive V where
 | non | bl (b:Bool) | int (i:Int) | str (x:Str) | byt (b:Array UInt8) | flt (b:UInt64) | ref (a:AE) | ty (n:String)
 deriving DecidableEq
def RelV:V->AB->Prop
 | .non,u=>u=BF
 | .bl b,u=>u=Hb b
 | .int i,u=>∃t,u=Ky i t
 | .str x,u=>∃t,u=Kx x t
 | .byt b,u=>∃t,u=c5 b t
 | .flt b,u=>∃t,u=RH b t
 | .ref a,u=>u=Ap a
 | .ty n,u=>u=Dz n
abbrev BK:List V->List AB->Prop:=Et RelV
theorem BK.length {xs:List V} {us:List AB} (r:BK xs us):xs.length=us.length:=Dg r
theorem BK.get:∀ {xs:List V} {us:List AB} {i:Nat} {x:V},BK xs us->xs[i]?=some x->∃u,us[i]?=some u/\RelV x u
 | _,_,_,_,.nil,e=>by simp at e
 | _,_,0,_,.cons r _,e=>by simp at e;subst e;exact ⟨_,rfl,r⟩
 | _,_,i+1,x,.cons _ t,e=>by
  obtain ⟨u,h1,h2⟩:=BK.get (i:=i) (x:=x) t (by simpa using e);exact ⟨u,by simpa using h1,h2⟩
theorem BK.append:∀ {xs ys:List V} {us ws:List AB},BK xs us->BK ys ws->BK (xs++ys) (us++ws)
 | _,_,_,_,.nil,s=>s
 | _,_,_,_,.cons r t,s=>.cons r (BK.append t s)
theorem BK.take:∀ {xs:List V} {us:List AB} (n:Nat),BK xs us->BK (xs.take n) (us.take n)
 | _,_,0,_=>.nil
 | _,_,_+1,.nil=>.nil
 | _,_,n+1,.cons r t=>.cons r (BK.take n t)
theorem BK.drop:∀ {xs:List V} {us:List AB} (n:Nat),BK xs us->BK (xs.drop n) (us.drop n)
 | _,_,0,r=>r
 | _,_,_+1,.nil=>.nil
 | _,_,n+1,.cons _ t=>BK.drop n t
def Kg:Option V->Option AB->Prop
 | some v,some u=>RelV v u
 | none,none=>True
 | _,_=>False
def KV {κ:Type}:List (κ×V)->List (κ×AB)->Prop:=Et λ(p:κ×V) (q:κ×AB)=>p.1=q.1/\RelV p.2 q.2
def kV:Key->V
 | .inl i=>.int i
 | .inr x=>.str x
inductive HO where
 | lst (xs:List V)
 | tup (xs:List V)
 | dK (kvs:List (Key×V)) | dT (kvs:List (List Key×V))
 | set (S:Int->Bool) (n:Nat)
 | ins (C dx:AE) (fs:List (Str×V))
 | own (x:AE)
 | xd (fs:List (Str×V))
 | met (f x:AE)
 | rng (lo hi:Int)
 | frz (o:Obj) (u:HO)
 | tbl (ps:Array AB)
 | ext (φ:BG->Prop)
abbrev Hp:=AE->Option HO
def upd (H:Hp) (a:AE) (o:HO):Hp:=λb=>if b=a then some o else H b
theorem BU {H:Hp} {a:AE} {o:HO}:upd H a o a=some o:=by unfold upd;rw [qX rfl]
theorem BI {H:Hp} {a b:AE} {o:HO} (h:b≠a):upd H a o b=H b:=by unfold upd;rw [qY h]
theorem eS {H:Hp} {a b:AE} {o u:HO} (h:H a=some o) (h':H b=some u) (d:o≠u):a≠b:=by
 intro e;subst e;rw [h] at h';exact d (CD h')
theorem BX {H:Hp} {a b:AE} {o:HO} (h:H a=some o) (h':H b=none):a≠b:=by
 intro e;subst e;rw [h] at h';cases h'
section
variable (P:Aa) (w:As)
def Bx (H:Hp) (h:BG) (a:AE):HO->Prop
 | .lst xs=>xs.length<=sizeLine/\∃(its:List AB) (n:Nat),BK xs its/\h.get? a=some { cls:=.type "list",data:=.seq its.toArray n }
 | .tup xs=>(xs.length<=sizeLine/\∃o,h.get? a=some o/\o.dict=none)/\∃its:List AB,BK xs its/\Vm h a its.toArray
 | .dK kvs=>kvs.length<=sizeLine/\(a==DA)=false/\∃vs,KV kvs vs/\h.DictOf (C6 P w) a vs
 | .dT kvs=>kvs.length<=sizeLine/\(a==DA)=false/\∃xs:List (List Key×AE×AB),
   Et (λ(p:List Key×V) (q:List Key×AE×AB)=>p.1=q.1/\H q.2.1=some (.tup (p.1.map kV))/\RelV p.2 q.2.2) kvs xs /\
   ∃o es ep,h.get? a=some o/\o.ExactDict/\o.data=.dict es ep/\es.toList=xs.map (entryOfKey (OX (C6 P w)))/\(xs.map (·.1)).Nodup
 | .set S n=>h.SetOf (intKind P w) a S n
 | .ins C dx fs=>H dx=some (.own a)/\fs.length<=1000/\dx≠a/\h.get? a=some (CL C dx) /\
   ∃mA,h.Ns1 dx mA/\(∀f,Kg (fs.lookup f) (mA f))/\Pw mA (fs.map (·.1))
 | .own _=>∃o,h.get? a=some o
 | .xd fs=>∃mA,h.Ns1 a mA/\∀f,Kg (fs.lookup f) (mA f)
 | .rng lo hi=>∃t u v,h.get? a=some { cls:=.type "range",data:=.fields #[.int lo t,.int hi u,.int 1 v] }
 | .frz o u=>h.get? a=some o/\Bx H h a u
 | .tbl ps=>h.get? a=some { cls:=.none,data:=.fields ps }
 | .met f x=>h.get? a=some (JN (.ref f) (.ref x))
 | .ext φ=>φ h/\(∃o,h.get? a=some o)/\∀h1 h2:BG,φ h1->(∀o,h1.get? a=some o->h2.get? a=some o)->φ h2
def HOk (H:Hp) (h:BG):Prop:=∀a o,H a=some o->Bx P w H h a o
end
section
variable {P:Aa} {w:As} {H H':Hp} {h h':BG} {a:AE} {o:HO}
theorem Bx.lt (x:Bx P w H h a o):a < h.objs.size:=by
 cases o with
 | lst xs=>obtain ⟨_,_,_,_,e⟩:=x;exact AT e
 | tup xs=>obtain ⟨_,_,_,p⟩:=x;exact p.lt
 | dK kvs=>obtain ⟨_,_,_,_,o,_,_,e,_⟩:=x;exact AT e
 | dT kvs=>obtain ⟨_,_,_,_,o,_,_,e,_⟩:=x;exact AT e
 | set S n=>obtain ⟨o,_,_,_,e,_⟩:=x;exact AT e
 | ins C dx fs=>obtain ⟨_,_,_,e,_⟩:=x;exact AT e
 | own y=>obtain ⟨_,e⟩:=x;exact AT e
 | xd fs=>obtain ⟨_,⟨_,_,_,e,_⟩,_⟩:=x;exact AT e
 | rng lo hi=>obtain ⟨_,_,_,e⟩:=x;exact AT e
 | frz ob u=>obtain ⟨e,_⟩:=x;exact AT e
 | tbl ps=>exact AT (show h.get? a=some _ from x)
 | met f y=>exact AT (show h.get? a=some _ from x)
 | ext φ=>obtain ⟨_,⟨_,e⟩,_⟩:=x;exact AT e
theorem Et.mapP {α β:Type} {F G:α->β->Prop}:∀ {l₁:List α} {l₂:List β},Et F l₁ l₂->(∀a b,F a b->G a b)->Et G l₁ l₂
 | _,_,.nil,_=>.nil
 | _,_,.cons r t,f=>.cons (f _ _ r) (Et.mapP t f)
theorem Bx.stay (x:Bx P w H h a o) (k:∀b u,(b=a∨H b=some (.own a))->h.get? b=some u->h'.get? b=some u)
  (ho:∀b,H b=some (.own a)->H' b=some (.own a)) (ht:∀b xs,H b=some (.tup xs)->H' b=some (.tup xs)):Bx P w H' h' a o:=by
 induction o with
 | lst xs=>obtain ⟨z,its,n,r,e⟩:=x;exact ⟨z,its,n,r,k _ _ (.inl rfl) e⟩
 | tup xs=>obtain ⟨⟨z,o2,e2,c2⟩,its,r,ob,e,c⟩:=x;exact ⟨⟨z,o2,k _ _ (.inl rfl) e2,c2⟩,its,r,ob,k _ _ (.inl rfl) e,c⟩
 | dK kvs=>obtain ⟨z,y,vs,r,ob,es,ep,e,c⟩:=x;exact ⟨z,y,vs,r,ob,es,ep,k _ _ (.inl rfl) e,c⟩
 | dT kvs=>
  obtain ⟨z,y,xs,r,ob,es,ep,e,c⟩:=x;exact ⟨z,y,xs,Et.mapP r λp q z=>⟨z.1,ht _ _ z.2.1,z.2.2⟩,ob,es,ep,k _ _ (.inl rfl) e,c⟩
 | set S n=>obtain ⟨ob,es,ep,t,e,c⟩:=x;exact ⟨ob,es,ep,t,k _ _ (.inl rfl) e,c⟩
 | ins C dx fs=>
  obtain ⟨d,z,ne,e,mA,⟨od,es,ep,e2,c⟩,r⟩:=x;exact ⟨ho _ d,z,ne,k _ _ (.inl rfl) e,mA,⟨od,es,ep,k _ _ (.inr d) e2,c⟩,r⟩
 | own y=>obtain ⟨ob,e⟩:=x;exact ⟨ob,k _ _ (.inl rfl) e⟩
 | xd fs=>obtain ⟨mA,⟨od,es,ep,e,c⟩,r⟩:=x;exact ⟨mA,⟨od,es,ep,k _ _ (.inl rfl) e,c⟩,r⟩
 | rng lo hi=>obtain ⟨t,u,v,e⟩:=x;exact ⟨t,u,v,k _ _ (.inl rfl) e⟩
 | frz ob u ih=>obtain ⟨e,q⟩:=x;exact ⟨k _ _ (.inl rfl) e,ih q⟩
 | tbl ps=>
  have e:h.get? a=some { cls:=.none,data:=.fields ps }:=x;show h'.get? a=some { cls:=.none,data:=.fields ps };exact k a _ (.inl rfl) e
 | met f y=>
  have e:h.get? a=some (JN (.ref f) (.ref y)):=x;show h'.get? a=some (JN (.ref f) (.ref y));exact k a _ (.inl rfl) e
 | ext φ=>obtain ⟨p,⟨o,e⟩,st⟩:=x;exact ⟨st _ _ p λo q=>k _ _ (.inl rfl) q,⟨o,k _ _ (.inl rfl) e⟩,st⟩
theorem HOk.lt (x:HOk P w H h) (e:H a=some o):a < h.objs.size:=(x a o e).lt
theorem HOk.fresh (x:HOk P w H h) (e:h.objs.size<=a):H a=none:=by
 cases q:H a with
 | none=>rfl
 | some u=>exact zX (AX (x.lt q) e) (CY _)
theorem HOk.kept (x:HOk P w H h) (k:∀b u,h.get? b=some u->h'.get? b=some u):HOk P w H h':=λa o e=>
 (x a o e).stay (λb u _ q=>k b u q) (λ_ q=>q) λ_ _ q=>q
theorem HOk.laid (x:HOk P w H h) (k:∀b u,h.get? b=some u->h'.get? b=some u) (hp:h.objs.size<=a) (new:Bx P w (upd H a o) h' a o):HOk P w (upd H a o) h':=λb u e=>by
 have hn:=x.fresh hp
 by_cases hb:b=a
 ·subst hb;rw [BU] at e;cases e;exact new
 ·rw [BI hb] at e
  exact (x b u e).stay (λc v _ q=>k c v q) (λc q=>by rw [BI (BX q hn)];exact q) λc xs q=>by rw [BI (BX q hn)];exact q
end
def Rd (H:Hp) (a:AE) (u:HO):Prop:=H a=some u∨∃o,H a=some (.frz o u)
theorem Rd.ok {P:Aa} {w:As} {H:Hp} {h:BG} {a:AE} {u:HO} (r:Rd H a u) (x:HOk P w H h):Bx P w H h a u:=by
 rcases r with r | ⟨o,r⟩
 ·exact x a u r
 ·obtain ⟨_,q⟩:=x a _ r
  exact q
def Mut:Option HO->Prop
 | some (.lst _)=>True
 | some (.dK _)=>True
 | some (.dT _)=>True
 | some (.set _ _)=>True
 | some (.ins _ _ _)=>True
 | some (.ext _)=>True
 | _=>False
section
variable {P:Aa} {w:As} {H:Hp} {h h':BG} {x e:AE} {o':HO}
theorem HOk.write (ok:HOk P w H h) (mu:Mut (H x)) (he:e=x∨H e=some (.own x)) (k:∀b u,b≠e->h.get? b=some u->h'.get? b=some u) (heo:∃u,h'.get? e=some u)
  (new:Bx P w (upd H x o') h' x o'):HOk P w (upd H x o') h':=λb u q=>by
 have nown:∀c y,H c=some (.own y)->c≠x:=λc y r z=>by subst z;rw [r] at mu;exact mu
 have ntup:∀c xs,H c=some (.tup xs)->c≠x:=λc xs r z=>by subst z;rw [r] at mu;exact mu
 by_cases hb:b=x
 ·subst hb;rw [BU] at q;cases q;exact new
 ·rw [BI hb] at q
  by_cases hbe:b=e
  ·have q':H b=some (.own x):=by
    rcases he with z | z
    ·exact zX (hbe.trans z) hb
    ·rw [hbe];exact z
   rw [q] at q';cases q';obtain ⟨v,hv⟩:=heo;exact ⟨v,by rw [hbe];exact hv⟩
  ·refine (ok b u q).stay (λc v hc r=>k c v ?_ r) (λc r=>by rw [BI (nown c b r)];exact r) λc xs r=>by rw [BI (ntup c xs r)];exact r
   rcases hc with rfl | hc
   ·exact hbe
   ·rintro rfl
    rcases he with z | z
    ·exact nown c b hc z
    ·rw [hc] at z;cases z;exact hb rfl
end
structure Un (fs ex:List AE) (H H':Hp) (h h':BG):Prop where
 keep:∀b o,h.get? b=some o->H b=none->b∉fs->b∉ex->h'.get? b=some o
 slot:∀b o,h.get? b=some o->H b=none->b∈fs->b∉ex->∃sl,h'.get? b=some { o with slots:=sl }
 free:∀b o,h.get? b=some o->H b=none->b∉ex->H' b=none
 there:∀b o,h.get? b=some o->b∉ex->∃o',h'.get? b=some o'
 tups:∀b xs,H b=some (.tup xs)->H' b=some (.tup xs)
 frzs:∀b o u,H b=some (.frz o u)->H' b=some (.frz o u)
 tbls:∀b ps,H b=some (.tbl ps)->∃more,H' b=some (.tbl (ps++more))
section
variable {fs fs' ex ex':List AE} {H H1 H2:Hp} {h h1 h2 h':BG} {a x e:AE} {o:HO}
theorem Un.any (u:Un fs ex H H1 h h1) {b:AE} {ob:Obj} (q:h.get? b=some ob) (n:H b=none) (hx:b∉ex):∃sl,h1.get? b=some { ob with slots:=sl }:=by
 by_cases hb:b∈fs
 ·exact u.slot b ob q n hb hx
 ·exact ⟨ob.slots,u.keep b ob q n hb hx⟩
theorem Un.kept (k:∀b u,h.get? b=some u->h'.get? b=some u):Un fs ex H H h h':=
 ⟨λb ob q _ _ _=>k b ob q,λb ob q _ _ _=>⟨ob.slots,k b ob q⟩,λ_ _ _ n _=>n,λb ob q _=>⟨ob,k b ob q⟩,λ_ _ q=>q,λ_ _ _ q=>q,λ_ ps q=>⟨#[],by rw [q];simp⟩⟩
theorem Un.refl:Un fs ex H H h h:=Un.kept λ_ _ q=>q
theorem Un.laid (k:∀b u,h.get? b=some u->h'.get? b=some u) (hp:h.objs.size<=a) (hn:H a=none):Un fs ex H (upd H a o) h h' where
 keep:=λb u q _ _ _=>k b u q
 slot:=λb u q _ _ _=>⟨u.slots,k b u q⟩
 free:=λb u q n _=>by rw [BI (Ag (AX (AT q) hp))];exact n
 there:=λb u q _=>⟨u,k b u q⟩
 tups:=λb xs q=>by rw [BI (BX q hn)];exact q
 frzs:=λb u xs q=>by rw [BI (BX q hn)];exact q
 tbls:=λb ps q=>⟨#[],by rw [BI (BX q hn),q];simp⟩
theorem Un.write (mu:Mut (H x)) (he:e=x∨H e=some (.own x)) (k:∀b u,b≠e->h.get? b=some u->h'.get? b=some u) (heo:∃u,h'.get? e=some u):Un fs ex H (upd H x o) h h':=by
 have hx:∀b,H b=none->b≠x:=λb n z=>by subst z;rw [n] at mu;exact mu
 have hb:∀b,H b=none->b≠e:=λb n z=>by
  subst z
  rcases he with r | r
  ·exact hx b n r
  ·rw [n] at r;cases r
 have hm:∀b u,H b=some u->¬Mut (some u)->b≠x:=λb u q nm z=>by subst z;rw [q] at mu;exact nm mu
 refine ⟨λb u q n _ _=>k b u (hb b n) q,λb u q n _ _=>⟨u.slots,k b u (hb b n) q⟩,λb u q n _=>by rw [BI (hx b n)];exact n,λb u q _=>?_,
  λb xs q=>by rw [BI (hm b _ q λz=>z)];exact q,λb u xs q=>by rw [BI (hm b _ q λz=>z)];exact q,λb ps q=>⟨#[],by rw [BI (hm b _ q λz=>z),q];simp⟩⟩
 by_cases hbe:b=e
 ·subst hbe;exact heo
 ·exact ⟨u,k b u hbe q⟩
end
def trk (h:BG) (H:Hp):List AE:=(Be h.objs.size).filter λa=>(H a).isSome
def PP (h:BG) (H:Hp):BG:=HP h (trk h H)
theorem Uz (h:BG) (H:Hp):(PP h H).objs.size=h.objs.size:=PySem.W.hideAll_size _ _
theorem XX {h:BG} {H:Hp} {b:AE} {o:Obj} (e:h.get? b=some o) (n:H b=none):(PP h H).get? b=some o:=
 Q6 _ e λhm=>by
  have q:(H b).isSome=true:=(YJ.mp hm).2;rw [n] at q;simp at q
theorem ZH {h:BG} {H:Hp} {b:AE} {o:Obj} (e:(PP h H).get? b=some o):h.get? b=some o/\H b=none:=by
 have e':h.get? b=some o:=Iu (trk h H) e;refine ⟨e',?_⟩
 cases q:H b with
 | none=>rfl
 | some x=>
  have hm:b∈trk h H:=YJ.mpr ⟨Fd.mpr (AT e'),by simp [q]⟩;have z:(PP h H).get? b=none:=Hn (trk h H) hm;rw [z] at e;cases e
structure Mod (K:AA) (mg:Str->Option AB) (base:BG):Prop where
 kin:K.In base
 glob:base.Ns Ah mg
 blt:∃mb,base.Ns aL mb/\∀x:Str,x≠"__name__"->mb x=Dy x
 nolimit:base.NoLimit
structure Cx where
 prog:Aa
 w:As
 K:AA
 mg:Str->Option AB
 base:BG
 A:Ak
 N:List Str
 s₀:AD
 H₀:Hp
 env:Env
 outer:List Env
 stack:List Env
 ex:List AE
 fn:Str->Bool
 calm:Bool
 pn:List (AE×Obj)
 xe:AB->AD->Prop
def frs (l:List Env):List AE:=l.filterMap (·.frame)
abbrev Cx.fs (X:Cx):List AE:=frs X.outer
def Vis (sc:Fb) (x:Str):Prop:=sc.names.lookup x=some .local∨sc.names.lookup x=some .cell∨sc.names.lookup x=some .free
def Loc (sc:Fb) (x:Str):Prop:=sc.names.lookup x=some .local∨sc.names.lookup x=some .cell
def Look (env:Env) (h:BG) (m:Str->Option AB) (x:Str) (u:AB):Prop:=
 (env.kindOf x=some .local/\m x=some u)∨((env.kindOf x=some .cell∨env.kindOf x=some .free)/\∃c,env.cells.lookup x=some c/\h.IsCell c (some u))
structure Cx.Ok (X:Cx):Prop where
 mod:Mod X.K X.mg X.base
 kind:X.env.scope.kind=.function
 glob:X.env.globals=Ah
 blt:X.env.builtins=aL
 above:X.s₀.heap.objs.size<=X.env.locals
 inj:∀x y c,X.env.cells.lookup x=some c->X.env.cells.lookup y=some c->x=y
 has:∀x,(X.env.kindOf x=some .cell∨X.env.kindOf x=some .free)->∃c,X.env.cells.lookup x=some c
 cab:∀x c,X.fn x=true->X.env.cells.lookup x=some c->X.s₀.heap.objs.size<=c
 hd:X.calm=true->X.A.handled=none
 frames:X.A.frames=some X.stack
 stk:X.stack=X.outer∨(X.stack=X.env :: X.outer/\X.env.frame=some X.env.locals)
 exf:∀b∈X.ex,b≠X.env.locals/\∀x c,X.env.cells.lookup x=some c->c≠b
 bs:∀b o,X.base.get? b=some o->X.s₀.heap.get? b=some o/\X.H₀ b=none
 bsz:X.base.objs.size<=X.s₀.heap.objs.size
 noex:∀b o,X.base.get? b=some o->b∉X.ex
 exfs:∀b∈X.ex,b∉X.fs
 funs:X.s₀.heap.FunFrames X.base X.outer
 frf:∀b∈X.fs,X.H₀ b=none
structure Inv (X:Cx) (pins:List (AE×Obj)) (σ:List (Option V)) (H:Hp) (s:AD):Prop where
 ok:X.Ok
 os:s.os=X.s₀.os
 bare:FW s.gens
 base:Un X.fs X.ex X.H₀ H X.s₀.heap s.heap
 loc:∃m,s.heap.Ns X.env.locals m/\∀(i:Nat) (x:Str) (v:V),X.N[i]?=some x->σ[i]?=some (some v)->Vis X.env.scope x->∃u,RelV v u/\Look X.env s.heap m x u
 cell:∀x c,X.env.cells.lookup x=some c->∃v,s.heap.IsCell c v
 free:H X.env.locals=none
 freeC:∀x c,X.env.cells.lookup x=some c->H c=none
 pin:∀p∈X.pn++pins,s.heap.get? p.1=some p.2/\H p.1=none/\p.1≠X.env.locals/\p.1∉X.fs/\∀v,p.2.data≠.cell v
 hok:HOk X.prog X.w H s.heap
 len:σ.length=X.N.length
section
variable {X:Cx} {pins:List (AE×Obj)} {σ:List (Option V)} {H H':Hp} {s:AD} {h':BG}
theorem Cx.Ok.nofr (ok:X.Ok) {b:AE} {o:Obj} (e:X.base.get? b=some o):b∉X.fs:=λhb=>by
 have:=(ok.funs.mem hb).1;rw [e] at this;cases this
theorem Inv.bs (I:Inv X pins σ H s):∀b o,X.base.get? b=some o->s.heap.get? b=some o/\H b=none:=λb o e=>
 ⟨I.base.keep b o (I.ok.bs b o e).1 (I.ok.bs b o e).2 (I.ok.nofr e) (I.ok.noex b o e),I.base.free b o (I.ok.bs b o e).1 (I.ok.bs b o e).2 (I.ok.noex b o e)⟩
theorem Inv.bk (I:Inv X pins σ H s):∀b o,X.base.get? b=some o->s.heap.get? b=some o:=λb o e=>(I.bs b o e).1
theorem Inv.mod (I:Inv X pins σ H s):Mod X.K X.mg X.base:=I.ok.mod
theorem Inv.kIn (I:Inv X pins σ H s):X.K.In s.heap:=I.ok.mod.kin.keeps I.bk
theorem Inv.lt (I:Inv X pins σ H s):X.env.locals < s.heap.objs.size:=let ⟨_,hn,_⟩:=I.loc;hn.lt
theorem Inv.sz (I:Inv X pins σ H s):X.s₀.heap.objs.size<=s.heap.objs.size:=Aq I.ok.above (RK I.lt)
theorem Inv.nofs (I:Inv X pins σ H s) {a:AE} (h:s.heap.objs.size<=a):a∉X.fs:=λhb=>by
 obtain ⟨_,o,ho,_⟩:=I.ok.funs.mem hb;exact zX (AX (AT ho) (Aq I.sz h)) (CY _)
theorem Inv.cne (I:Inv X pins σ H s):∀x c,X.env.cells.lookup x=some c->c≠X.env.locals:=λx c e z=>by
 obtain ⟨v,o,ho,hd⟩:=I.cell x c e;obtain ⟨m,⟨o',es,ep,ho',hd',_⟩,_⟩:=I.loc;rw [z,ho'] at ho;cases ho;rw [hd'] at hd;cases hd
theorem Inv.funs (I:Inv X pins σ H s):s.heap.FunFrames X.base X.outer:=by
 have all:∀(l:List Env),(∀b∈frs l,b∈X.fs)->X.s₀.heap.FunFrames X.base l->s.heap.FunFrames X.base l:=by
  intro l
  induction l with
  | nil=>intro _ _;trivial
  | cons env r ih=>
   intro hs hl;obtain ⟨hk,⟨L,o,hf,hn,ho,hd⟩,hr⟩:=hl;have hL:L∈X.fs:=hs L (by unfold frs;rw [JK,hf];exact Ae)
   obtain ⟨sl,e⟩:=I.base.slot L o ho (I.ok.frf L hL) hL λz=>I.ok.exfs L z hL
   exact ⟨hk,⟨L,_,hf,hn,e,hd⟩,ih (λb hb=>hs b (by unfold frs;rw [JK,hf];exact AV _ hb)) hr⟩
 exact all X.outer (λ_ hb=>hb) I.ok.funs
theorem Inv.stack (I:Inv X pins σ H s):s.heap.FunFrames X.base X.stack:=by
 rcases I.ok.stk with e | ⟨e,hf⟩
 ·rw [e];exact I.funs
 ·rw [e]
  obtain ⟨m,hn,_⟩:=I.loc;refine .cons (by rw [I.ok.kind];decide) hf hn ?_ I.funs;exact Sj (Aq I.ok.bsz I.ok.above)
theorem Inv.stkSub (I:Inv X pins σ H s):∀b∈frs X.stack,b∈X.env.locals :: X.fs:=λb hb=>by
 rcases I.ok.stk with e | ⟨e,hf⟩
 ·rw [e] at hb;exact AV _ hb
 ·rw [e] at hb
  unfold frs at hb;rw [JK,hf] at hb;exact hb
theorem Inv.stkFree (I:Inv X pins σ H s):∀b∈frs X.stack,H b=none:=λb hb=>by
 rcases Aw.mp (I.stkSub b hb) with e | hb
 ·rw [e];exact I.free
 ·obtain ⟨_,o,ho,_⟩:=I.ok.funs.mem hb
  exact I.base.free b o ho (I.ok.frf b hb) λz=>I.ok.exfs b z hb
theorem Inv.step {g':Array KF} {t':Nat} {d':Drawn} {ch:List AE} (I:Inv X pins σ H s)
  (hch:∀b∈ch,(b∈X.ex∨X.s₀.heap.objs.size<=b)/\b≠X.env.locals/\(∀x c,X.env.cells.lookup x=some c->c≠b)/\∀p∈X.pn++pins,p.1≠b)
  (keep:∀b o,b≠X.env.locals->b∉X.fs->b∉ch->s.heap.get? b=some o->H b=none->h'.get? b=some o)
  (slot:∀b o,b≠X.env.locals->b∈X.fs->b∉ch->s.heap.get? b=some o->H b=none->∃sl,h'.get? b=some { o with slots:=sl }) (free:∀b o,b∉ch->s.heap.get? b=some o->H b=none->H' b=none)
  (there:∀b o,b∉ch->s.heap.get? b=some o->∃o',h'.get? b=some o')
  (tups:∀b xs,H b=some (.tup xs)->H' b=some (.tup xs)) (frzs:∀b o u,H b=some (.frz o u)->H' b=some (.frz o u)) (tbls:∀b ps,H b=some (.tbl ps)->∃more,H' b=some (.tbl (ps++more)))
  (ns:∀m,s.heap.Ns X.env.locals m->h'.Ns X.env.locals m) (hok:HOk X.prog X.w H' h') (hg:FW g') :
  Inv X pins σ H' { s with heap:=h',gens:=g',drawn:=d',toks:=t' }:=by
 have neL:∀b o,X.s₀.heap.get? b=some o->b≠X.env.locals:=λb o e=>Ag (AX (AT e) I.ok.above)
 have neC:∀b o,X.s₀.heap.get? b=some o->b∉X.ex->b∉ch:=λb o e hx hb=>by
  rcases (hch b hb).1 with z | z
  ·exact hx z
  ·exact zX (AX (AT e) z) (CY _)
 have cellK:∀x c,X.env.cells.lookup x=some c->∀v,s.heap.IsCell c v->h'.IsCell c v:=λx c e v ⟨o,ho,hd⟩=>by
  have nch:c∉ch:=λz=>(hch c z).2.2.1 x c e rfl
  by_cases hc:c∈X.fs
  ·obtain ⟨sl,q⟩:=slot c o (I.cne x c e) hc nch ho (I.freeC x c e)
   exact ⟨_,q,hd⟩
  ·exact ⟨o,keep c o (I.cne x c e) hc nch ho (I.freeC x c e),hd⟩
 refine ⟨I.ok,I.os,hg,⟨λb o e n hb hx=>?_,λb o e n hb hx=>?_,λb o e n hx=>?_,λb o e hx=>?_,λb xs e=>tups b xs (I.base.tups b xs e),λb o xs e=>frzs b o xs (I.base.frzs b o xs e),λb ps e=>?_⟩,?_,λx c e=>?_,?_,λx c e=>?_,λp hp=>?_,hok,I.len⟩
 ·exact keep b o (neL b o e) hb (neC b o e hx) (I.base.keep b o e n hb hx) (I.base.free b o e n hx)
 ·obtain ⟨sl,e1⟩:=I.base.slot b o e n hb hx
  obtain ⟨sl',e2⟩:=slot b _ (neL b o e) hb (neC b o e hx) e1 (I.base.free b o e n hx);exact ⟨sl',e2⟩
 ·obtain ⟨o',e1⟩:=I.base.there b o e hx
  exact free b o' (neC b o e hx) e1 (I.base.free b o e n hx)
 ·obtain ⟨o',e1⟩:=I.base.there b o e hx
  exact there b o' (neC b o e hx) e1
 ·obtain ⟨m1,e1⟩:=I.base.tbls b ps e
  obtain ⟨m2,e2⟩:=tbls b _ e1;exact ⟨m1++m2,by rw [e2,UO]⟩
 ·obtain ⟨m,hn,hl⟩:=I.loc
  refine ⟨m,ns m hn,λi x v e1 e2 e3=>?_⟩;obtain ⟨u,r,l⟩:=hl i x v e1 e2 e3;refine ⟨u,r,?_⟩
  rcases l with l | ⟨k,c,e,z⟩
  ·exact .inl l
  ·exact .inr ⟨k,c,e,cellK x c e _ z⟩
 ·obtain ⟨v,z⟩:=I.cell x c e
  exact ⟨v,cellK x c e v z⟩
 ·obtain ⟨m,⟨o,_,_,ho,_⟩,_⟩:=I.loc
  exact free _ o (λz=>(hch _ z).2.1 rfl) ho I.free
 ·obtain ⟨v,o,ho,hd⟩:=I.cell x c e
  exact free c o (λz=>(hch c z).2.2.1 x c e rfl) ho (I.freeC x c e)
 ·obtain ⟨e,n,ne,nf,d⟩:=I.pin p hp
  have nch:p.1∉ch:=λz=>(hch p.1 z).2.2.2 p hp rfl
  exact ⟨keep p.1 p.2 ne nf nch e n,free p.1 p.2 nch e n,ne,nf,d⟩
theorem Inv.stepN {g':Array KF} {t':Nat} {d':Drawn} {ch:List AE} (I:Inv X pins σ H s)
  (hch:∀b∈ch,(b∈X.ex∨X.s₀.heap.get? b=none)/\b≠X.env.locals/\(∀x c,X.env.cells.lookup x=some c->c≠b)/\∀p∈X.pn++pins,p.1≠b)
  (keep:∀b o,b≠X.env.locals->b∉X.fs->b∉ch->s.heap.get? b=some o->H b=none->h'.get? b=some o)
  (slot:∀b o,b≠X.env.locals->b∈X.fs->b∉ch->s.heap.get? b=some o->H b=none->∃sl,h'.get? b=some { o with slots:=sl }) (free:∀b o,b∉ch->s.heap.get? b=some o->H b=none->H' b=none)
  (there:∀b o,b∉ch->s.heap.get? b=some o->∃o',h'.get? b=some o')
  (tups:∀b xs,H b=some (.tup xs)->H' b=some (.tup xs)) (frzs:∀b o u,H b=some (.frz o u)->H' b=some (.frz o u)) (tbls:∀b ps,H b=some (.tbl ps)->∃more,H' b=some (.tbl (ps++more)))
  (ns:∀m,s.heap.Ns X.env.locals m->h'.Ns X.env.locals m) (hok:HOk X.prog X.w H' h') (hg:FW g') :
  Inv X pins σ H' { s with heap:=h',gens:=g',drawn:=d',toks:=t' }:=by
 have neL:∀b o,X.s₀.heap.get? b=some o->b≠X.env.locals:=λb o e=>Ag (AX (AT e) I.ok.above)
 have neC:∀b o,X.s₀.heap.get? b=some o->b∉X.ex->b∉ch:=λb o e hx hb=>by
  rcases (hch b hb).1 with z | z
  ·exact hx z
  ·rw [z] at e;cases e
 have cellK:∀x c,X.env.cells.lookup x=some c->∀v,s.heap.IsCell c v->h'.IsCell c v:=λx c e v ⟨o,ho,hd⟩=>by
  have nch:c∉ch:=λz=>(hch c z).2.2.1 x c e rfl
  by_cases hc:c∈X.fs
  ·obtain ⟨sl,q⟩:=slot c o (I.cne x c e) hc nch ho (I.freeC x c e)
   exact ⟨_,q,hd⟩
  ·exact ⟨o,keep c o (I.cne x c e) hc nch ho (I.freeC x c e),hd⟩
 refine ⟨I.ok,I.os,hg,⟨λb o e n hb hx=>?_,λb o e n hb hx=>?_,λb o e n hx=>?_,λb o e hx=>?_,λb xs e=>tups b xs (I.base.tups b xs e),λb o xs e=>frzs b o xs (I.base.frzs b o xs e),λb ps e=>?_⟩,?_,λx c e=>?_,?_,λx c e=>?_,λp hp=>?_,hok,I.len⟩
 ·exact keep b o (neL b o e) hb (neC b o e hx) (I.base.keep b o e n hb hx) (I.base.free b o e n hx)
 ·obtain ⟨sl,e1⟩:=I.base.slot b o e n hb hx
  obtain ⟨sl',e2⟩:=slot b _ (neL b o e) hb (neC b o e hx) e1 (I.base.free b o e n hx);exact ⟨sl',e2⟩
 ·obtain ⟨o',e1⟩:=I.base.there b o e hx
  exact free b o' (neC b o e hx) e1 (I.base.free b o e n hx)
 ·obtain ⟨o',e1⟩:=I.base.there b o e hx
  exact there b o' (neC b o e hx) e1
 ·obtain ⟨m1,e1⟩:=I.base.tbls b ps e
  obtain ⟨m2,e2⟩:=tbls b _ e1;exact ⟨m1++m2,by rw [e2,UO]⟩
 ·obtain ⟨m,hn,hl⟩:=I.loc
  refine ⟨m,ns m hn,λi x v e1 e2 e3=>?_⟩;obtain ⟨u,r,l⟩:=hl i x v e1 e2 e3;refine ⟨u,r,?_⟩
  rcases l with l | ⟨k,c,e,z⟩
  ·exact .inl l
  ·exact .inr ⟨k,c,e,cellK x c e _ z⟩
 ·obtain ⟨v,z⟩:=I.cell x c e
  exact ⟨v,cellK x c e v z⟩
 ·obtain ⟨m,⟨o,_,_,ho,_⟩,_⟩:=I.loc
  exact free _ o (λz=>(hch _ z).2.1 rfl) ho I.free
 ·obtain ⟨v,o,ho,hd⟩:=I.cell x c e
  exact free c o (λz=>(hch c z).2.2.1 x c e rfl) ho (I.freeC x c e)
 ·obtain ⟨e,n,ne,nf,d⟩:=I.pin p hp
  have nch:p.1∉ch:=λz=>(hch p.1 z).2.2.2 p hp rfl
  exact ⟨keep p.1 p.2 ne nf nch e n,free p.1 p.2 nch e n,ne,nf,d⟩
theorem Inv.un {t':Nat} (I:Inv X pins σ H s) (u:Un X.fs [] H H' s.heap h') (hok:HOk X.prog X.w H' h'):Inv X pins σ H' { s with heap:=h',toks:=t' }:=by
 obtain ⟨m,⟨o,es,ep,ho,r⟩,_⟩:=id I.loc;obtain ⟨sl,hL⟩:=u.any ho I.free (by simp)
 exact I.step (g':=s.gens) (d':=s.drawn) (ch:=[]) (λ_ z=>nomatch z) (λb o _ hb _ e n=>u.keep b o e n hb (by simp)) (λb o _ hb _ e n=>u.slot b o e n hb (by simp)) (λb o _ e n=>u.free b o e n (by simp)) (λb o _ e=>u.there b o e (by simp)) u.tups u.frzs u.tbls (λm' hm=>by
  obtain ⟨o',es',ep',ho',r'⟩:=hm;rw [ho] at ho';cases ho'
  exact ⟨_,es',ep',hL,r'⟩) hok I.bare
theorem Inv.call {g':Array KF} {t':Nat} {d':Drawn} {ch:List AE} (I:Inv X pins σ H s) (u:Un (frs X.stack) ch H H' s.heap h') (hok:HOk X.prog X.w H' h') (hg:FW g')
  (hch:∀b∈ch,(b∈X.ex∨X.s₀.heap.objs.size<=b)/\b≠X.env.locals/\(∀x c,X.env.cells.lookup x=some c->c≠b)/\∀p∈X.pn++pins,p.1≠b) :
  Inv X pins σ H' { s with heap:=h',gens:=g',drawn:=d',toks:=t' }:=by
 obtain ⟨m,⟨o,es,ep,ho,r⟩,_⟩:=id I.loc
 obtain ⟨sl,hL⟩:=u.any ho I.free λz=>(hch _ z).2.1 rfl
 exact I.step (ch:=ch) hch (λb o hL hb hc e n=>u.keep b o e n (λz=>(Aw.mp (I.stkSub b z)).elim hL hb) hc) (λb o _ _ hc e n=>u.any e n hc) (λb o hc e n=>u.free b o e n hc) (λb o hc e=>u.there b o e hc) u.tups u.frzs u.tbls (λm' hm=>by
  obtain ⟨o',es',ep',ho',r'⟩:=hm;rw [ho] at ho';cases ho'
  exact ⟨_,es',ep',hL,r'⟩) hok hg
theorem Inv.turned {t':Nat} {it:AE} (I:Inv X pins σ H s) (k:∀b o,b≠it->s.heap.get? b=some o->h'.get? b=some o) (hn:H it=none) (hL:it≠X.env.locals)
  (h1:it∈X.ex∨X.s₀.heap.objs.size<=it) (h2:∀x c,X.env.cells.lookup x=some c->c≠it) (h3:∀p∈X.pn++pins,p.1≠it):Inv X pins σ H { s with heap:=h',toks:=t' }:=by
 have nit:∀b u,H b=some u->b≠it:=λb u e z=>by rw [z,hn] at e;cases e
 refine I.step (g':=s.gens) (d':=s.drawn) (ch:=[it]) (λb hb=>?_) (λb o _ _ hc e _=>k b o (λz=>hc (by simp [z])) e) (λb o _ _ hc e _=>⟨o.slots,k b o (λz=>hc (by simp [z])) e⟩) (λ_ _ _ _ n=>n)
  (λb o hc e=>⟨o,k b o (λz=>hc (by simp [z])) e⟩) (λ_ _ e=>e) (λ_ _ _ e=>e) (λb ps e=>⟨#[],by rw [e];simp⟩) (λm hm=>?_) (λb u e=>?_) I.bare
 ·have e:b=it:=by simpa using hb
  subst e;exact ⟨h1,hL,h2,h3⟩
 ·obtain ⟨o,es,ep,ho,r⟩:=hm
  exact ⟨o,es,ep,k _ o (Bp hL) ho,r⟩
 ·refine (I.hok b u e).stay (λc v hc q=>k c v ?_ q) (λ_ q=>q) λ_ _ q=>q
  rcases hc with z | z
  ·rw [z];exact nit b u e
  ·exact nit c _ z
theorem Inv.tok (I:Inv X pins σ H s) (t:Nat):Inv X pins σ H { s with toks:=t }:=I.un (h':=s.heap) (t':=t) Un.refl I.hok
theorem Inv.kept {t':Nat} (I:Inv X pins σ H s) (k:∀b u,s.heap.get? b=some u->h'.get? b=some u):Inv X pins σ H { s with heap:=h',toks:=t' }:=I.un (Un.kept k) (I.hok.kept k)
theorem Inv.laid {a:AE} {o:HO} {t':Nat} (I:Inv X pins σ H s) (k:∀b u,s.heap.get? b=some u->h'.get? b=some u) (hp:s.heap.objs.size<=a) (new:Bx X.prog X.w (upd H a o) h' a o) :
  Inv X pins σ (upd H a o) { s with heap:=h',toks:=t' }:=I.un (Un.laid k hp (I.hok.fresh hp)) (I.hok.laid k hp new)
theorem Inv.write {x e:AE} {o:HO} {t':Nat} (I:Inv X pins σ H s) (mu:Mut (H x)) (he:e=x∨H e=some (.own x)) (k:∀b u,b≠e->s.heap.get? b=some u->h'.get? b=some u) (heo:∃u,h'.get? e=some u)
  (new:Bx X.prog X.w (upd H x o) h' x o):Inv X pins σ (upd H x o) { s with heap:=h',toks:=t' }:=I.un (Un.write mu he k heo) (I.hok.write mu he k heo new)
theorem Inv.pins_of {pins':List (AE×Obj)} (I:Inv X pins σ H s) (h:∀p∈pins',s.heap.get? p.1=some p.2/\H p.1=none/\p.1≠X.env.locals/\p.1∉X.fs/\∀v,p.2.data≠.cell v):Inv X pins' σ H s:=
 ⟨I.ok,I.os,I.bare,I.base,I.loc,I.cell,I.free,I.freeC,λp hp=>(BP.mp hp).elim (λz=>I.pin p (Ez _ z)) (h p),I.hok,I.len⟩
theorem QW {N:List Str} (hN:N.Nodup) {i j:Nat} {x:Str} (a:N[i]?=some x) (b:N[j]?=some x):i=j:=by
 obtain ⟨h1,e1⟩:=AJ.mp a;obtain ⟨h2,e2⟩:=AJ.mp b;exact (List.getElem_inj hN).mp (e1.trans e2.symm)
theorem N0 {M:Pr} {A:Ak} {E:AB->AD->Prop} {i:Nat} {x:Str} {v:V} {u:AB} {Q:Unit->AD->Prop} (I:Inv X pins σ H s) (hN:X.N.Nodup) (hi:X.N[i]?=some x) (hx:Loc X.env.scope x) (r:RelV v u)
  (h:∀s',Inv X pins (σ.set i (some v)) H s'->(∃a,Da a s.heap s'.heap/\(a=X.env.locals∨X.env.cells.lookup x=some a))->Q () s') (hf:X.fn x=true∨X.env.scope.names.lookup x=some .local:=by first | exact .inl rfl | exact .inr rfl | assumption):Ab M A (storeName X.env x u) Q E s:=by
 obtain ⟨m,hn,hl⟩:=id I.loc
 have hcls:(X.env.scope.kind==.class||(X.env.scope.kind==.module&&X.env.locals != X.env.globals))=false:=by rw [I.ok.kind];rfl
 have hiσ:i < σ.length:=by rw [I.len];exact (AJ.mp hi).1
 have cne:=I.cne
 have tracked:∀ {a:AE} {h':BG},(∃o,s.heap.get? a=some o/\H a=none)->Da a s.heap h'->HOk X.prog X.w H h':=λ{a h'} ha hs b ob e=>by
  obtain ⟨_,_,hfree⟩:=ha
  refine (I.hok b ob e).stay (λc w' hc q=>(hs.2 c ?_).trans q) (λ_ q=>q) λ_ _ q=>q
  rintro rfl
  rcases hc with rfl | hc
  ·rw [hfree] at e;cases e
  ·rw [hfree] at hc;cases hc
 rcases hx with hk | hk
 ·refine wpAny_storeName_local hk hn (λh' hn' hs=>?_) hcls
  obtain ⟨oL,_,_,hoL,_⟩:=id hn;refine h _ ⟨I.ok,I.os,I.bare,⟨λb o e n hb hx=>?_,λb o e n hb hx=>?_,I.base.free,λb o e hx=>?_,I.base.tups,I.base.frzs,I.base.tbls⟩,⟨_,hn',λj y v' e1 e2 e3=>?_⟩,λy c e=>?_,I.free,I.freeC,λp hp=>?_,tracked ⟨oL,hoL,I.free⟩ hs,by simpa using I.len⟩ ⟨_,hs,.inl rfl⟩
  ·exact (hs.2 b (Ag (AX (AT e) I.ok.above))).trans (I.base.keep b o e n hb hx)
  ·obtain ⟨sl,e1⟩:=I.base.slot b o e n hb hx
   exact ⟨sl,(hs.2 b (Ag (AX (AT e) I.ok.above))).trans e1⟩
  ·obtain ⟨o',e1⟩:=I.base.there b o e hx
   exact ⟨o',(hs.2 b (Ag (AX (AT e) I.ok.above))).trans e1⟩
  ·by_cases hj:j=i
   ·subst hj
    rw [hi] at e1;cases e1;rw [A7 hiσ] at e2;cases e2;exact ⟨u,r,.inl ⟨hk,by simp⟩⟩
   ·rw [BC (Bp hj)] at e2
    obtain ⟨u',r',q⟩:=hl j y v' e1 e2 e3;refine ⟨u',r',?_⟩
    rcases q with ⟨k,e⟩ | ⟨k,c,e,z⟩
    ·refine .inl ⟨k,?_⟩
     have:y≠x:=λe=>hj (QW hN e1 (e▸hi))
     simp [this,e]
    ·exact .inr ⟨k,c,e,z.sameBut hs (cne y c e)⟩
  ·obtain ⟨w',z⟩:=I.cell y c e
   exact ⟨w',z.sameBut hs (cne y c e)⟩
  ·obtain ⟨e,n,ne,nf,d⟩:=I.pin p hp
   exact ⟨(hs.2 p.1 ne).trans e,n,ne,nf,d⟩
 ·have hfn:X.fn x=true:=by
   rcases hf with z | z
   ·exact z
   ·rw [z] at hk;cases hk
  obtain ⟨c,hc⟩:=I.ok.has x (.inl hk);obtain ⟨w',z⟩:=I.cell x c hc;refine wpAny_storeName_cell I.ok.kind hk hc z (λh' hc' hs=>?_);obtain ⟨oc,hoc,hocd⟩:=id z;refine h { s with heap:=h' } ⟨I.ok,I.os,I.bare,⟨λb o e n hb hx=>?_,λb o e n hb hx=>?_,I.base.free,λb o e hx=>?_,I.base.tups,I.base.frzs,I.base.tbls⟩,⟨m,hn.sameBut hs (Bp (cne x c hc)),λj y v' e1 e2 e3=>?_⟩,λy c' e=>?_,I.free,I.freeC,λp hp=>?_,tracked ⟨oc,hoc,I.freeC x c hc⟩ hs,by simpa using I.len⟩ ⟨c,hs,.inr hc⟩
  ·exact (hs.2 b (Ag (AX (AT e) (I.ok.cab x c hfn hc)))).trans (I.base.keep b o e n hb hx)
  ·obtain ⟨sl,e1⟩:=I.base.slot b o e n hb hx
   exact ⟨sl,(hs.2 b (Ag (AX (AT e) (I.ok.cab x c hfn hc)))).trans e1⟩
  ·obtain ⟨o',e1⟩:=I.base.there b o e hx
   exact ⟨o',(hs.2 b (Ag (AX (AT e) (I.ok.cab x c hfn hc)))).trans e1⟩
  ·by_cases hj:j=i
   ·subst hj
    rw [hi] at e1;cases e1;rw [A7 hiσ] at e2;cases e2;exact ⟨u,r,.inr ⟨.inl hk,c,hc,hc'⟩⟩
   ·rw [BC (Bp hj)] at e2
    obtain ⟨u',r',q⟩:=hl j y v' e1 e2 e3;refine ⟨u',r',?_⟩
    rcases q with q | ⟨k,c',e,z'⟩
    ·exact .inl q
    ·refine .inr ⟨k,c',e,z'.sameBut hs ?_⟩
     rintro rfl;exact hj (QW hN e1 (I.ok.inj _ _ _ e hc▸hi))
  ·by_cases hcc:c'=c
   ·subst hcc;exact ⟨_,hc'⟩
   ·obtain ⟨w2,z2⟩:=I.cell y c' e
    exact ⟨w2,z2.sameBut hs hcc⟩
  ·obtain ⟨e,n,ne,nf,d⟩:=I.pin p hp
   refine ⟨(hs.2 p.1 ?_).trans e,n,ne,nf,d⟩;intro q;rw [q,hoc] at e;have q':oc=p.2:=CD e;exact d w' (by rw [<-q'];exact hocd)
theorem QF {M:Pr} {A:Ak} {E:AB->AD->Prop} {i:Nat} {x:Str} {v:V} {u:AB} {Q:Unit->AD->Prop} (I:Inv X pins σ H s) (hN:X.N.Nodup) (hi:X.N[i]?=some x) (hx:Loc X.env.scope x) (r:RelV v u)
  (h:∀s',Inv X pins (σ.set i (some v)) H s'->Q () s') (hf:X.fn x=true∨X.env.scope.names.lookup x=some .local:=by first | exact .inl rfl | exact .inr rfl | assumption):Ab M A (storeName X.env x u) Q E s:=
 N0 I hN hi hx r (λs' I' _=>h s' I') hf
theorem Inv.call' {s':AD} {ch:List AE} (I:Inv X pins σ H s) (ho:s'.os=s.os) (u:Un (frs X.stack) ch H H' s.heap s'.heap) (hok:HOk X.prog X.w H' s'.heap) (hg:FW s'.gens)
  (hch:∀b∈ch,(b∈X.ex∨X.s₀.heap.objs.size<=b)/\b≠X.env.locals/\(∀x c,X.env.cells.lookup x=some c->c≠b)/\∀p∈X.pn++pins,p.1≠b):Inv X pins σ H' s':=by
 obtain ⟨h',g',d',t',o'⟩:=s';have e:o'=s.os:=ho;subst e;exact I.call (g':=g') (t':=t') (d':=d') u hok hg hch
end
abbrev XK:=AB->Option AE->Hp->Prop
abbrev St:=List (Option V)
abbrev VK:=V->Hp->Prop
abbrev TE:=St->Hp->VK->Prop
abbrev TT:=St->Hp->(Bool->Hp->Prop)->Prop
abbrev TA:=St->Hp->(List V->Hp->Prop)->Prop
structure SZ where
 nx:St->Hp->Prop
 rt:VK
 bk:St->Hp->Prop:=λ_ _=>False
 ct:St->Hp->Prop:=λ_ _=>False
abbrev TS:=SZ->St->Hp->Prop
def EP (X:Cx) (pins:List (AE×Obj)) (σ:St) (Q:VK) (u:AB) (s':AD):Prop:=∃v H',Inv X pins σ H' s'/\RelV v u/\Q v H'
def TP (X:Cx) (pins:List (AE×Obj)) (σ:St) (Q:Bool->Hp->Prop) (b:Bool) (s':AD):Prop:=∃H',Inv X pins σ H' s'/\Q b H'
def AP (X:Cx) (pins:List (AE×Obj)) (σ:St) (Q:List V->Hp->Prop) (us:List AB) (s':AD):Prop:=∃vs H',Inv X pins σ H' s'/\BK vs us/\Q vs H'
def SP (X:Cx) (pins:List (AE×Obj)) (D:SZ) (f:Flow) (s':AD):Prop:=
 match f with
 | .next=>∃σ' H',Inv X pins σ' H' s'/\D.nx σ' H'
 | .brk=>∃σ' H',Inv X pins σ' H' s'/\D.bk σ' H'
 | .cont=>∃σ' H',Inv X pins σ' H' s'/\D.ct σ' H'
 | .ret u=>∃v σ' H',Inv X pins σ' H' s'/\RelV v u/\D.rt v H'
def PE (X:Cx) (e:Expr) (t:TE):Prop:=
 ∀(pins:List (AE×Obj)) (s:AD) (σ:St) (H:Hp) (Q:VK),Inv X pins σ H s->t σ H Q->Ab (AR X.prog X.w) X.A (Ba e X.env) (EP X pins σ Q) X.xe s
def PT (X:Cx) (e:Expr) (t:TT):Prop:=
 ∀(pins:List (AE×Obj)) (s:AD) (σ:St) (H:Hp) (Q:Bool->Hp->Prop),Inv X pins σ H s->t σ H Q->Ab (AR X.prog X.w) X.A (aK e X.env (Ba e X.env)) (TP X pins σ Q) X.xe s
def PW (X:Cx) (e:Expr) (t:TT):Prop:=
 ∀(whole:Sem AB) (pins:List (AE×Obj)) (s:AD) (σ:St) (H:Hp) (Q:Bool->Hp->Prop),Inv X pins σ H s->t σ H Q->Ab (AR X.prog X.w) X.A (aK e X.env whole) (TP X pins σ Q) X.xe s
theorem PW.pt {X:Cx} {e:Expr} {t:TT} (h:PW X e t):PT X e t:=h _
def PA (X:Cx) (es:List Expr) (t:TA):Prop:=
 ∀(pos:Pos) (pins:List (AE×Obj)) (s:AD) (σ:St) (H:Hp) (Q:List V->Hp->Prop),Inv X pins σ H s->t σ H Q->Ab (AR X.prog X.w) X.A (spliced (Bi pos (AN es X.env))) (AP X pins σ Q) X.xe s
def PS (X:Cx) (st:CW) (t:TS):Prop:=
 ∀(pins:List (AE×Obj)) (s:AD) (σ:St) (H:Hp) (D:SZ),Inv X pins σ H s->t D σ H->Ab (AR X.prog X.w) X.A (exec st X.env) (SP X pins D) X.xe s
def PSs (X:Cx) (st:List CW) (t:TS):Prop:=
 ∀(pins:List (AE×Obj)) (s:AD) (σ:St) (H:Hp) (D:SZ),Inv X pins σ H s->t D σ H->Ab (AR X.prog X.w) X.A (execs st X.env) (SP X pins D) X.xe s
theorem thn {α:Type} {t:Sem α} {Q Q':α->AD->Prop} {M:Pr} {A:Ak} {E:AB->AD->Prop} {s:AD} (h:Ab M A t Q E s) (hQ:∀a s,Q a s->Q' a s):Ab M A t Q' E s:=Cm h hQ λ_ _ x=>x
section
variable {X:Cx}
def az (i:Nat):TE:=λσ H Q=>∃v,σ[i]?=some (some v)/\Q v H
def tC (v:V):TE:=λ_ H Q=>Q v H
theorem bX {i:Nat} {x:Str} {pos:Pos} (hN:X.N[i]?=some x) (hv:Vis X.env.scope x) (hd:(x==("__debug__" : Str))=false:=by decide) (hcd:(x==("__classdict__" : Str))=false:=by decide):PE X (.Name x pos) (az i):=by
 intro pins s σ H Q I h;obtain ⟨v,e,h⟩:=h;obtain ⟨m,hn,hl⟩:=I.loc;obtain ⟨u,r,l⟩:=hl i x v hN e hv;have fin:EP X pins σ Q u s:=⟨v,H,I,r,h⟩
 rcases l with ⟨hk,hm⟩ | ⟨hk,c,hc,hcell⟩
 ·exact aG (wpAny_loadName_local I.ok.kind hk hn hm fin) hd
 ·rcases hk with hk | hk
  ·exact aG (wpAny_loadName_cell I.ok.kind hk hc hcell fin) hd
  ·exact aG (wpAny_loadName_free I.ok.kind hk hc hcell fin hcd) hd
theorem Wq {i j pos}:PE X (.Constant (.int i) j pos) (tC (.int i)):=λ_ _ _ H _ I h=>wpAny_Constant_int ⟨.int i,H,I.tok _,⟨_,rfl⟩,h⟩
theorem d8 {b j pos}:PE X (.Constant (.bool b) j pos) (tC (.bl b)):=λ_ _ _ H _ I h=>Constant_bool ⟨.bl b,H,I,rfl,h⟩
theorem ba {j pos}:PE X (.Constant .none j pos) (tC .non):=λ_ _ _ H _ I h=>Constant_none ⟨.non,H,I,rfl,h⟩
theorem bZ {x j pos}:PE X (.Constant (.str x) j pos) (tC (.str x)):=λ_ _ _ H _ I h=>Calls.Constant_str ⟨.str x,H,I.tok _,⟨_,rfl⟩,h⟩
def Gl (X:Cx) (x:Str):Prop:=X.env.kindOf x=some .globalImplicit
theorem La {E:AB->AD->Prop} {pins:List (AE×Obj)} {s:AD} {σ:St} {H:Hp} {x:Str} {u:AB} {pos:Pos} {Q:AB->AD->Prop} (I:Inv X pins σ H s) (hg:Gl X x) (hm:X.mg x=some u) (h:Q u s)
  (hd:(x==("__debug__" : Str))=false:=by decide):Ab (AR X.prog X.w) X.A (Ba (.Name x pos) X.env) Q E s:=
 NO I.ok.kind hg (Calls.loadGlobal_global (by rw [I.ok.glob];exact I.mod.glob.keeps I.bk) hm h) hd
theorem Mo {E:AB->AD->Prop} {pins:List (AE×Obj)} {s:AD} {σ:St} {H:Hp} {x:Str} {u:AB} {pos:Pos} {Q:AB->AD->Prop} (I:Inv X pins σ H s) (hg:Gl X x) (hm:X.mg x=none) (hv:Dy x=some u) (h:Q u s)
  (hn:x≠"__name__":=by decide) (hd:(x==("__debug__" : Str))=false:=by decide):Ab (AR X.prog X.w) X.A (Ba (.Name x pos) X.env) Q E s:=by
 obtain ⟨mb,h1,h2⟩:=I.mod.blt;exact NO I.ok.kind hg (Calls.loadGlobal_builtin (by rw [I.ok.glob];exact I.mod.glob.keeps I.bk) hm (by rw [I.ok.blt];exact h1.keeps I.bk) ((h2 x hn).trans hv) h) hd
theorem O4 {x:Str} {v:V} {u:AB} {pos:Pos} (hg:Gl X x) (hm:X.mg x=some u) (r:RelV v u) (hd:(x==("__debug__" : Str))=false:=by decide):PE X (.Name x pos) (tC v):=
 λ_ _ _ H _ I h=>La I hg hm ⟨v,H,I,r,h⟩ hd
theorem ZA {x:Str} {v:V} {u:AB} {pos:Pos} (hg:Gl X x) (hm:X.mg x=none) (hv:Dy x=some u) (r:RelV v u) (hn:x≠"__name__":=by decide) (hd:(x==("__debug__" : Str))=false:=by decide):PE X (.Name x pos) (tC v):=
 λ_ _ _ H _ I h=>Mo I hg hm hv ⟨v,H,I,r,h⟩ hn hd
variable {a b:Expr} {ta tb:TE} {pos:Pos}
def PC (X:Cx) (op:RO) (a b:Expr) (t:TE):Prop:=
 ∀(pins:List (AE×Obj)) (s:AD) (σ:St) (H:Hp) (Q:VK),Inv X pins σ H s->t σ H Q ->
  Ab (AR X.prog X.w) X.A (Ba a X.env) (λv s₁=>Ab (AR X.prog X.w) X.A (Ba b X.env) (λu s₂=>Ab (AR X.prog X.w) X.A (A8 op v u) (EP X pins σ Q) X.xe s₂) X.xe s₁) X.xe s
def tB (t:TE):TT:=λσ H Q=>t σ H λx H1=>∃c,x=.bl c/\Q c H1
theorem Wf {op:RO} {t:TE} (h:PC X op a b t) (h1:Bz op b=false:=by first | exact nobehind _ (by decide) (by decide) | rfl):PT X (.Compare a [op] [b] pos) (tB t):=by
 intro pins s σ H Q I hw;refine X5 (thn (h pins s σ H _ I hw) λv s1 h1=>thn h1 λu s2 h2=>thn h2 λc s3 ⟨x,H1,I1,r1,q1⟩=>?_) h1;obtain ⟨d,rfl,q⟩:=q1;cases r1;exact Cf ⟨H1,I1,q⟩
theorem bO {e:Expr} {t:TE} (h:PE X e t) (he:∀whole,aK e X.env whole=(do let v <-whole;standAt e.pos;holding [v] (truthy v)):=by intro _;rfl):PT X e (tB t):=by
 intro pins s σ H Q I hw;refine isTrue_plain (thn (h pins s σ H _ I hw) λv s1 ⟨x,H1,I1,r1,q1⟩=>?_) (he _);obtain ⟨d,rfl,q⟩:=q1;cases r1;exact Cf ⟨H1,I1,q⟩
variable {tA tB':TT} {rest:List Expr}
def dj (t u:TT):TT:=λσ H Q=>t σ H λc H1=>if c=true then u σ H1 Q else Q false H1
def tOr (t u:TT):TT:=λσ H Q=>t σ H λc H1=>if c=true then Q true H1 else u σ H1 Q
def tNot (t:TT):TT:=λσ H Q=>t σ H λc H1=>Q (!c) H1
theorem Yr (ha:PT X a tA):PW X (.BoolOp .And [a] pos) tA:=by
 intro wh pins s σ H Q I h;refine isTrue_and (thn (ha pins s σ H Q I h) λc s1 e=>?_)
 cases c with
 | true=>exact isTrue_and_nil e
 | false=>exact e
theorem bM (ha:PT X a tA):PW X (.BoolOp .Or [a] pos) tA:=by
 intro wh pins s σ H Q I h;refine isTrue_or (thn (ha pins s σ H Q I h) λc s1 e=>?_)
 cases c with
 | false=>exact isTrue_or_nil e
 | true=>exact e
theorem bN (ha:PT X a tA) (hb:PW X (.BoolOp .And (b :: rest) pos) tB'):PW X (.BoolOp .And (a :: b :: rest) pos) (dj tA tB'):=by
 intro wh pins s σ H Q I h;refine isTrue_and (thn (ha pins s σ H _ I h) λc s1 ⟨H1,I1,q1⟩=>?_)
 cases c with
 | true=>exact hb wh pins s1 σ H1 Q I1 q1
 | false=>exact ⟨H1,I1,q1⟩
theorem dw (ha:PT X a tA) (hb:PW X (.BoolOp .Or (b :: rest) pos) tB'):PW X (.BoolOp .Or (a :: b :: rest) pos) (tOr tA tB'):=by
 intro wh pins s σ H Q I h;refine isTrue_or (thn (ha pins s σ H _ I h) λc s1 ⟨H1,I1,q1⟩=>?_)
 cases c with
 | true=>exact ⟨H1,I1,q1⟩
 | false=>exact hb wh pins s1 σ H1 Q I1 q1
theorem bP (ha:PT X a tA):PT X (.UnaryOp .Not a pos) (tNot tA):=by
 intro pins s σ H Q I h;exact isTrue_not (ha pins s σ H (λc H1=>Q (!c) H1) I h)
end
def SqL (K:AA) (H:Hp) (a:AE) (xs:List V):Prop:=
 Rd H a (.lst xs) ∨
  ∃(o:Obj) (its:Array AB) (n:Nat),K.lookup a=some o/\o.cls=.type "list"/\o.dict=none/\o.data=.seq its n/\its.size<=sizeLine/\BK xs its.toList
def SqT (K:AA) (H:Hp) (a:AE) (xs:List V):Prop:=
 Rd H a (.tup xs) ∨
  ∃(o:Obj) (its:Array AB) (n:Nat),K.lookup a=some o/\o.cls=.type "tuple"/\o.data=.seq its n/\its.size<=sizeLine/\BK xs its.toList
def absV:AB->Option V
 | .none=>some .non
 | .bool b=>some (.bl b)
 | .int i _=>some (.int i)
 | .str x _=>some (.str x)
 | .bytes b _=>some (.byt b)
 | .float b _=>some (.flt b)
 | .ref a=>some (.ref a)
 | .type n=>some (.ty n)
 | _=>none
theorem RelV.abs {x:V} {u:AB} (r:RelV x u):absV u=some x:=by
 cases x with
 | non=>cases r;rfl
 | bl _=>cases r;rfl
 | int _=>obtain ⟨t,rfl⟩:=r;rfl
 | str _=>obtain ⟨t,rfl⟩:=r;rfl
 | byt _=>obtain ⟨t,rfl⟩:=r;rfl
 | flt _=>obtain ⟨t,rfl⟩:=r;rfl
 | ref _=>cases r;rfl
 | ty _=>cases r;rfl
theorem RelV.inj {x y:V} {u:AB} (r:RelV x u) (q:RelV y u):x=y:=CD (r.abs.symm.trans q.abs)
theorem BK.inj:∀ {xs ys:List V} {us:List AB},BK xs us->BK ys us->xs=ys
 | _,_,_,.nil,.nil=>rfl
 | _,_,_,.cons r t,.cons r' t'=>by rw [r.inj r',BK.inj t t']
section
variable {X:Cx} {pins:List (AE×Obj)} {σ:St} {H:Hp} {s:AD} {a:AE} {xs ys:List V}
theorem Inv.list (I:Inv X pins σ H s) (h:SqL X.K H a xs):∃its:List AB,BK xs its/\PlainL s.heap a its.toArray/\xs.length<=sizeLine:=by
 rcases h with h | ⟨o,its,n,hk,hc,hd,hs,hz,r⟩
 ·obtain ⟨z,its,n,r,e⟩:=h.ok I.hok
  exact ⟨its,r,⟨_,n,e,rfl,rfl,rfl⟩,z⟩
 ·refine ⟨its.toList,r,⟨o,n,I.kIn a o hk,hc,hd,by simpa using hs⟩,?_⟩
  have e:=r.length;simp only [BB] at e
  lia
theorem Inv.tuple (I:Inv X pins σ H s) (h:SqT X.K H a xs):∃its:List AB,BK xs its/\Vm s.heap a its.toArray/\xs.length<=sizeLine:=by
 rcases h with h | ⟨o,its,n,hk,hc,hs,hz,r⟩
 ·obtain ⟨z,its,r,p⟩:=h.ok I.hok
  exact ⟨its,r,p,z.1⟩
 ·refine ⟨its.toList,r,⟨o,I.kIn a o hk,hc,n,by simpa using hs⟩,?_⟩
  have e:=r.length;simp only [BB] at e
  lia
theorem Inv.list_inj (I:Inv X pins σ H s) (h:SqL X.K H a xs) (h':SqL X.K H a ys):xs=ys:=by
 obtain ⟨its,r,⟨o,n,e,_,_,d⟩,_⟩:=I.list h;obtain ⟨its',r',⟨o',n',e',_,_,d'⟩,_⟩:=I.list h';rw [e] at e';cases e';rw [d] at d'
 injection d' with d1 _
 have:its=its':=by simpa using congrArg aW d1
 subst this;exact r.inj r'
theorem Inv.tuple_inj (I:Inv X pins σ H s) (h:SqT X.K H a xs) (h':SqT X.K H a ys):xs=ys:=by
 obtain ⟨its,r,⟨o,e,_,n,d⟩,_⟩:=I.tuple h;obtain ⟨its',r',⟨o',e',_,n',d'⟩,_⟩:=I.tuple h';rw [e] at e';cases e';rw [d] at d'
 injection d' with d1 _
 have:its=its':=by simpa using congrArg aW d1
 subst this;exact r.inj r'
end
section
variable {X:Cx} {pins:List (AE×Obj)} {σ:St} {H:Hp} {s:AD} {E:AB->AD->Prop}
end
section
variable {X:Cx} {st:CW} {rest:List CW} {t u:TS} {e:Expr} {te:TE} {pos:Pos}
def dZ:TS:=λD σ H=>D.nx σ H
def tSeq (t u:TS):TS:=λD σ H=>t { D with nx:=u D } σ H
theorem Yv:PSs X [] dZ:=λ_ _ σ H _ I h=>Pu ⟨σ,H,I,h⟩
theorem Wh (h1:PS X st t) (h2:PSs X rest u):PSs X (st :: rest) (tSeq t u):=by
 intro pins s σ H D I h;refine c9 (thn (h1 pins s σ H { D with nx:=u D } I h) λf s1 q=>?_)
 cases f with
 | next=>
  obtain ⟨σ',H',I',q⟩:=q;exact h2 pins s1 σ' H' D I' q
 | ret v=>exact q
 | brk=>exact q
 | cont=>exact q
theorem Yu (h1:PS X st t):PSs X [st] t:=by
 intro pins s σ H D I h;refine c9 (thn (h1 pins s σ H D I h) λf s1 q=>?_)
 cases f with
 | next=>exact Pu q
 | ret v=>exact q
 | brk=>exact q
 | cont=>exact q
theorem Inv.quiet {pins:List (AE×Obj)} {σ:St} {H:Hp} {s:AD} (I:Inv X pins σ H s):interactive X.env=false:=by simp [interactive,I.ok.kind]
def db (te:TE):TS:=λD σ H=>te σ H λ_ H1=>D.nx σ H1
theorem Yw (he:PE X e te) (hs:Dx e none pos.line X.env=pure false:=by rfl):PS X (.Expr e pos) (db te):=by
 intro pins s σ H D I h;exact wpAny_Expr_any (thn (he pins s σ H _ I h) λv s1 ⟨x,H1,I1,r1,q1⟩=>⟨σ,H1,I1,q1⟩) I.quiet hs
def tRet (te:TE):TS:=λD σ H=>te σ H D.rt
theorem bR (he:PE X e te):PS X (.Return (some e) pos) (tRet te):=by
 intro pins s σ H D I h;exact wpAny_Return_some (thn (he pins s σ H _ I h) λv s1 ⟨x,H1,I1,r1,q1⟩=>⟨x,σ,H1,I1,r1,q1⟩)
def tIfS (c:TT) (t u:TS):TS:=λD σ H=>c σ H λb H1=>if b=true then t D σ H1 else u D σ H1
theorem dy {c:Expr} {a b:List CW} {tc:TT} (hc:PT X c tc) (ha:PSs X a t) (hb:PSs X b u):PS X (.If c a b pos) (tIfS tc t u):=by
 intro pins s σ H D I h;refine wpAny_If (thn (hc pins s σ H _ I h) λd s1 ⟨H1,I1,q1⟩=>?_)
 cases d with
 | true=>exact ha pins s1 σ H1 D I1 q1
 | false=>exact hb pins s1 σ H1 D I1 q1
def bB:TS:=λ_ _ _=>False
theorem Wi:PS X st bB:=λ_ _ _ _ _ _ h=>h.elim
end
abbrev TG:=V->St->Hp->(St->Hp->Prop)->Prop
abbrev TGs:=List V->St->Hp->(St->Hp->Prop)->Prop
def PG (X:Cx) (target:Expr) (t:TG):Prop:=
 ∀(pins:List (AE×Obj)) (s:AD) (σ:St) (H:Hp) (v:V) (u:AB) (Q:St->Hp->Prop),Inv X pins σ H s->RelV v u->t v σ H Q ->
  Ab (AR X.prog X.w) X.A (RF target X.env u) (λ_ s'=>∃σ' H',Inv X pins σ' H' s'/\Q σ' H') X.xe s
def PGs (X:Cx) (ts:List Expr) (t:TGs):Prop:=
 ∀(pins:List (AE×Obj)) (s:AD) (σ:St) (H:Hp) (vs:List V) (us:List AB) (Q:St->Hp->Prop),Inv X pins σ H s->BK vs us->t vs σ H Q ->
  Ab (AR X.prog X.w) X.A (assignInOrder ((EM ts X.env).map (·.2)) us) (λ_ s'=>∃σ' H',Inv X pins σ' H' s'/\Q σ' H') X.xe s
section
variable {X:Cx} {pos:Pos}
def Tp (i:Nat):TG:=λv σ H Q=>Q (σ.set i (some v)) H
theorem Y3 {i:Nat} {x:Str} (hN:X.N.Nodup) (hi:X.N[i]?=some x) (hx:Loc X.env.scope x) (hf:X.fn x=true∨X.env.scope.names.lookup x=some .local:=by first | exact .inl rfl | exact .inr rfl | assumption):PG X (.Name x pos) (Tp i):=by
 intro pins s σ H v u Q I r h;exact cr (QF I hN hi hx r (λs' I'=>⟨_,H,I',h⟩) hf)
def gNil:TGs:=λvs σ H Q=>vs=[]/\Q σ H
def eu (t:TG) (u:TGs):TGs:=λvs σ H Q=>∃v r,vs=v :: r/\t v σ H λσ' H'=>u r σ' H' Q
theorem Y2:PGs X [] gNil:=by
 intro pins s σ H vs us Q I r h;obtain ⟨e,h⟩:=h;subst e;cases r;exact assignInOrder_nil ⟨σ,H,I,h⟩
theorem Wo {e:Expr} {es:List Expr} {t:TG} {u:TGs} (h1:PG X e t) (h2:PGs X es u)
  (hs:(EM (e :: es) X.env).map (·.2)=RF e X.env :: (EM es X.env).map (·.2):=by rfl):PGs X (e :: es) (eu t u):=by
 intro pins s σ H vs us Q I r h;obtain ⟨v,vr,e1,h⟩:=h;subst e1
 cases r with
 | cons r rr=>
  rw [hs];refine assignInOrder_cons (thn (h1 pins s σ H _ _ _ I r h) λ_ s1 ⟨σ1,H1,I1,q1⟩=>?_);exact h2 pins s1 σ1 H1 _ _ Q I1 rr q1
def gTup (K:AA) (n:Nat) (t:TGs):TG:=λv σ H Q=>∃a xs,v=.ref a/\SqT K H a xs/\xs.length=n/\t xs σ H Q
theorem bW {es:List Expr} {k:Nat} {t:TGs} {n:Nat} (hc:X.calm=true) (h:PGs X es t)
  (hn:(EM es X.env).length=n:=by rfl) (hst:(EM es X.env).findIdx? (·.1)=none:=by rfl):PG X (.Tuple es k pos) (gTup X.K n t):=by
 intro pins s σ H v u Q I r hw;obtain ⟨a,xs,e1,hq,hl,hw⟩:=hw;subst e1;cases r;obtain ⟨its,rv,ht,hz⟩:=I.tuple hq
 refine assign_Tuple_tuple (I.ok.hd hc) ht (by simp [hn,<-hl,rv.length]) hst λh' hx=>?_
 have I1:Inv X pins σ H { s with heap:=h' }:=I.kept (t':=s.toks) λb o e=>hx b o (Ag (AT e)) e
 exact h pins _ σ H xs _ Q I1 (by simpa using rv) hw
def di (te:TE) (g:TG):TS:=λD σ H=>te σ H λx H1=>g x σ H1 D.nx
theorem bQ {i:Nat} {x:Str} {e:Expr} {te:TE} {pos':Pos} (hN:X.N.Nodup) (hi:X.N[i]?=some x) (hx:Loc X.env.scope x) (he:PE X e te) (hs:Dx e (some (.Name x pos')) pos.line X.env=pure false:=by rfl) (hf:X.fn x=true∨X.env.scope.names.lookup x=some .local:=by first | exact .inl rfl | exact .inr rfl | assumption) :
  PS X (.Assign [.Name x pos'] e pos) (di te (Tp i)):=by
 intro pins s σ H D I h;refine wpAny_Assign_Name (thn (he pins s σ H _ I h) λv s1 ⟨y,H1,I1,r1,q1⟩=>?_) hs;exact QF I1 hN hi hx r1 (λs2 I2=>⟨_,H1,I2,q1⟩) hf
end
section
variable {X:Cx} {pos:Pos}
end
structure It where
 go:Nat->Hp->Prop
 yld:Nat->Hp->V->Hp->Prop
 stop:Nat->Hp->Prop
def J6 (X:Cx) (pins:List (AE×Obj)) (H:Hp) (b:AE):Prop:=
 H b=none/\b≠X.env.locals/\b∉X.fs/\(b∈X.ex∨X.s₀.heap.objs.size<=b)/\(∀x c,X.env.cells.lookup x=some c->c≠b)/\∀p∈X.pn++pins,p.1≠b
theorem Inv.fpOk {X:Cx} {pins:List (AE×Obj)} {σ:St} {H H':Hp} {s:AD} {b:AE} (I:Inv X pins σ H s) (hb:s.heap.objs.size<=b) (hn:H' b=none):J6 X pins H' b:=by
 refine ⟨hn,K9 (AX I.lt hb),I.nofs hb,.inr (Aq I.sz hb),λx c e z=>?_,λp hp z=>?_⟩
 ·obtain ⟨v,q⟩:=I.cell x c e
  exact zX (AX q.lt (by rw [z];exact hb)) (CY _)
 ·exact zX (AX (AT (I.pin p hp).1) (by rw [z];exact hb)) (CY _)
structure Q0 (P:Aa) (w:As) (K:AA) (tg:Expr) (J:It) (fp:List AE) (it:AE) (tn:Nat->BG->Prop):Prop where
 mem:it∈fp
 obj:∀i h,tn i h->∀b∈fp,∃o,h.get? b=some o/\∀v,o.data≠.cell v
 keep:∀i h h',tn i h->(∀b∈fp,∀o,h.get? b=some o->h'.get? b=some o)->tn i h'
 item:∀(X:Cx),X.prog=P->X.w=w->X.K=K->X.calm=true->∀(i:Nat) (pins:List (AE×Obj)) (s:AD) (σ:St) (H:Hp) (E:AB->AD->Prop),Inv X pins σ H s->(∀b∈fp,J6 X pins H b)->tn i s.heap->J.go i H ->
  Ab (AR P w) X.A (OY (.ref it)) (λr s1=>∃u,r=some u /\
   Ab (AR P w) X.A (JI tg (.ref it) u) (λ_ s2=>∃x H',Inv X pins σ H' s2/\RelV x u/\J.yld i H x H'/\tn (i+1) s2.heap/\∀b∈fp,H' b=none) E s1) E s
 done:∀(X:Cx),X.prog=P->X.w=w->X.K=K->X.calm=true->∀(i:Nat) (pins:List (AE×Obj)) (s:AD) (σ:St) (H:Hp) (E:AB->AD->Prop),Inv X pins σ H s->(∀b∈fp,J6 X pins H b)->tn i s.heap->J.stop i H ->
  Ab (AR P w) X.A (OY (.ref it)) (λr s1=>r=none/\Inv X pins σ H s1) E s
 self:∀(A:Ak) (i:Nat) (s:AD) (Q:AB->AD->Prop) (E:AB->AD->Prop),tn i s.heap->Q (.ref it) s->Ab (AR P w) A (aJ (.ref it)) Q E s
abbrev TI:=St->Hp->(It->Hp->Prop)->Prop
def PIE (X:Cx) (pins:List (AE×Obj)) (σ:St) (tg:Expr) (R:It->Hp->Prop) (itv:AB) (s2:AD):Prop:=
 ∃(it:AE) (fp:List AE) (tn:Nat->BG->Prop) (J:It) (H':Hp),itv=.ref it/\Inv X pins σ H' s2/\Q0 X.prog X.w X.K tg J fp it tn/\tn 0 s2.heap/\(∀b∈fp,J6 X pins H' b)/\R J H'
def PI (X:Cx) (tg iter:Expr) (wi:TI):Prop:=
 ∀(pins:List (AE×Obj)) (s:AD) (σ:St) (H:Hp) (R:It->Hp->Prop),Inv X pins σ H s->wi σ H R ->
  Ab (AR X.prog X.w) X.A (Ba iter X.env) (λv s1=>Ab (AR X.prog X.w) X.A (aJ v) (PIE X pins σ tg R) X.xe s1) X.xe s
theorem Th {M:Pr} {A:Ak} {E:AB->AD->Prop} {s:AD} {tg:Expr} {it:AE} {u:AB} {o:Obj} {n:String} {vs:Array AB} {Q:Unit->AD->Prop} (ho:s.heap.get? it=some o) (hc:o.cls=.type n) (hd:o.data=.fields vs)
  (hn:["enumerate", "zip", "dict_itemiterator", "dict_reverseitemiterator", "odict_iterator", "itertools.zip_longest", "itertools.pairwise"].contains n=false) (hQ:Q () s):Ab M A (JI tg (.ref it) u) Q E s:=by
 unfold JI
 cases tg <;> first
  | exact AH hQ
  | (cases u <;> first
    | exact AH hQ
    | (refine AC (wpAny_load ho ?_)
       rw [hc,hd];show Ab M A (if (["enumerate", "zip", "dict_itemiterator", "dict_reverseitemiterator", "odict_iterator", "itertools.zip_longest", "itertools.pairwise"].contains n&&vs[0]?==some (DB _))=true then _ else _) Q E s;rw [qY (by intro h;rw [hn,Bool.false_and] at h;cases h)]
       exact AH hQ))
def Itl (K:AA) (a:AE):It:=
 ⟨λi H=>∃xs x,SqL K H a xs/\xs[i]?=some x,λi H x H'=>H'=H/\∀xs,SqL K H a xs->xs[i]?=some x,λi H=>∃xs,SqL K H a xs/\xs.length<=i⟩
def Itt (K:AA) (a:AE):It:=
 ⟨λi H=>∃xs x,SqT K H a xs/\xs[i]?=some x,λi H x H'=>H'=H/\∀xs,SqT K H a xs->xs[i]?=some x,λi H=>∃xs,SqT K H a xs/\xs.length<=i⟩
def Itr (lo:Int) (n:Nat):It:=⟨λi _=>i < n,λi H x H'=>H'=H/\x=.int (lo+i),λi _=>n<=i⟩
theorem UR {P:Aa} {w:As} {K:AA} {tg:Expr} (a it:AE):Q0 P w K tg (Itl K a) [it] it (λi h=>h.IsListIter it a i) where
 mem:=by simp
 obj:=λi h st b hb=>by
  have e:b=it:=by simpa using hb
  subst e;obtain ⟨o,e,c,d⟩:=st;exact ⟨o,e,λv z=>by rw [d] at z;cases z⟩
 keep:=λi h h' st k=>st.at λo e=>k it (by simp) o e
 item:=by
  intro X hP hw hK hc i pins s σ H E I hf st hg;subst hP hw hK;obtain ⟨xs,x,hq,hx⟩:=hg;obtain ⟨its,rv,p,hz⟩:=I.list hq;obtain ⟨u,hu,ru⟩:=rv.get hx;obtain ⟨f0,f1,f2,f3,f4,f5⟩:=hf it (by simp)
  refine wpAny_pyNext_list_item st p.isList (x:=u) (by simpa using hu) λh' st' sb=>?_
  have I1:Inv X pins σ H { s with heap:=h' }:=I.turned (t':=s.toks) (λb o hb e=>(sb.2 b hb).trans e) f0 f1 f3 f4 f5;obtain ⟨o,e,c,d⟩:=id st';exact ⟨u,rfl,Th (s:={ s with heap:=h' }) e c d (by decide) ⟨x,H,I1,ru,⟨rfl,λys hy=>by rw [I.list_inj hy hq];exact hx⟩,st',λb hb=>(hf b hb).1⟩⟩
 done:=by
  intro X hP hw hK hc i pins s σ H E I hf st hg;subst hP hw hK;obtain ⟨xs,hq,hx⟩:=hg;obtain ⟨its,rv,p,hz⟩:=I.list hq;obtain ⟨f0,f1,f2,f3,f4,f5⟩:=hf it (by simp);have hl:=rv.length
  exact wpAny_pyNext_list_end (I.ok.hd hc) st p.isList (by simp;lia) λh' eb=>⟨rfl,I.turned (t':=s.toks) (λb o hb e=>eb b o hb e) f0 f1 f3 f4 f5⟩
 self:=λ_ _ _ _ _ st h=>wpAny_pyIter_listiter st h
theorem Rb {P:Aa} {w:As} {K:AA} {tg:Expr} (a it:AE):Q0 P w K tg (Itt K a) [it] it (λi h=>h.IsTupleIter it a i) where
 mem:=by simp
 obj:=λi h st b hb=>by
  have e:b=it:=by simpa using hb
  subst e;obtain ⟨o,e,c,d⟩:=st;exact ⟨o,e,λv z=>by rw [d] at z;cases z⟩
 keep:=λi h h' st k=>st.at λo e=>k it (by simp) o e
 item:=by
  intro X hP hw hK hc i pins s σ H E I hf st hg;subst hP hw hK;obtain ⟨xs,x,hq,hx⟩:=hg;obtain ⟨its,rv,p,hz⟩:=I.tuple hq;obtain ⟨u,hu,ru⟩:=rv.get hx;obtain ⟨f0,f1,f2,f3,f4,f5⟩:=hf it (by simp)
  refine wpAny_pyNext_tuple_item st (show s.heap.IsTuple a its.toArray from p) (x:=u) (by simpa using hu) λh' st' sb=>?_
  have I1:Inv X pins σ H { s with heap:=h' }:=I.turned (t':=s.toks) (λb o hb e=>(sb.2 b hb).trans e) f0 f1 f3 f4 f5;obtain ⟨o,e,c,d⟩:=id st';exact ⟨u,rfl,Th (s:={ s with heap:=h' }) e c d (by decide) ⟨x,H,I1,ru,⟨rfl,λys hy=>by rw [I.tuple_inj hy hq];exact hx⟩,st',λb hb=>(hf b hb).1⟩⟩
 done:=by
  intro X hP hw hK hc i pins s σ H E I hf st hg;subst hP hw hK;obtain ⟨xs,hq,hx⟩:=hg;obtain ⟨its,rv,p,hz⟩:=I.tuple hq;obtain ⟨f0,f1,f2,f3,f4,f5⟩:=hf it (by simp);have hl:=rv.length
  exact wpAny_pyNext_tuple_end (I.ok.hd hc) st (show s.heap.IsTuple a its.toArray from p) (by simp;lia) λh' eb=>⟨rfl,I.turned (t':=s.toks) (λb o hb e=>eb b o hb e) f0 f1 f3 f4 f5⟩
 self:=λ_ _ _ _ _ st h=>wpAny_pyIter_tupleiter st h
theorem Rc {P:Aa} {w:As} {K:AA} {tg:Expr} (it:AE) (lo:Int) (n:Nat):Q0 P w K tg (Itr lo n) [it] it (λi h=>IsRangeIter h it (lo+(i:Nat) * 1) ((n:Int) - (i:Nat)) 1) where
 mem:=by simp
 obj:=λi h st b hb=>by
  have e:b=it:=by simpa using hb
  subst e
  exact ⟨_,st,λv z=>by
   have z':dI _=Data.cell v:=z
   cases z'⟩
 keep:=λi h h' st k=>k it (by simp) _ st
 item:=by
  intro X hP hw hK hc i pins s σ H E I hf st hg;subst hP hw hK;obtain ⟨f0,f1,f2,f3,f4,f5⟩:=hf it (by simp);have W:=Walks.range (prog:=X.prog) (w:=X.w) (I.ok.hd hc) it lo 1 n
  refine W.item i s _ _ hg st λv h' tk hv st' kk=>?_
  obtain ⟨t,rfl⟩:=hv;have I1:Inv X pins σ H { s with heap:=h',toks:=tk }:=I.turned (λb o hb e=>kk b o (by simpa using hb) e) f0 f1 f3 f4 f5;refine ⟨_,rfl,Th (s:={ s with heap:=h',toks:=tk }) (n:="range_iterator") st' rfl rfl (by decide) ⟨.int (lo+i),H,I1,⟨t,?_⟩,⟨rfl,rfl⟩,st',λb hb=>(hf b hb).1⟩⟩;rw [Int.mul_one]
 done:=by
  intro X hP hw hK hc i pins s σ H E I hf st hg;subst hP hw hK;obtain ⟨f0,f1,f2,f3,f4,f5⟩:=hf it (by simp)
  exact wpAny_pyNext_range_end (I.ok.hd hc) st (by have:n<=i:=hg;lia) λh' eb=>⟨rfl,I.turned (t':=s.toks) (λb o hb e=>eb b o hb e) f0 f1 f3 f4 f5⟩
 self:=λ_ _ _ _ _ st h=>wpAny_pyIter_rangeiter st h
section
variable {X:Cx} {tg:Expr}
def em (K:AA) (tl:TE):TI:=λσ H R=>tl σ H λx H1=>∃a,x=.ref a/\(∃xs,SqL K H1 a xs)/\R (Itl K a) H1
def iTup (K:AA) (tl:TE):TI:=λσ H R=>tl σ H λx H1=>∃a,x=.ref a/\(∃xs,SqT K H1 a xs)/\R (Itt K a) H1
theorem Y1 {l:Expr} {tl:TE} (hl:PE X l tl):PI X tg l (em X.K tl):=by
 intro pins s σ H R I h
 refine thn (hl pins s σ H _ I h) λv s1 ⟨x,H1,I1,r1,q1⟩=>?_
 obtain ⟨a,e,⟨xs,hq⟩,q⟩:=q1;subst e;cases r1;obtain ⟨its,rv,p,hz⟩:=I1.list hq;refine Cg p.isList ?_;refine ⟨s1.heap.objs.size,[s1.heap.objs.size],_,_,H1,rfl,I1.kept (t':=s1.toks) λb o e=>AF _ e,UR a _,⟨_,AU _ rfl,rfl,rfl⟩,λb hb=>?_,q⟩
 have e:b=s1.heap.objs.size:=by simpa using hb
 subst e;exact I1.fpOk (AS _) (I1.hok.fresh (AS _))
theorem bU {l:Expr} {tl:TE} (hl:PE X l tl):PI X tg l (iTup X.K tl):=by
 intro pins s σ H R I h
 refine thn (hl pins s σ H _ I h) λv s1 ⟨x,H1,I1,r1,q1⟩=>?_
 obtain ⟨a,e,⟨xs,hq⟩,q⟩:=q1;subst e;cases r1;obtain ⟨its,rv,p,hz⟩:=I1.tuple hq;refine Gv (show s1.heap.IsTuple a its.toArray from p) ?_;refine ⟨s1.heap.objs.size,[s1.heap.objs.size],_,_,H1,rfl,I1.kept (t':=s1.toks) λb o e=>AF _ e,Rb a _,⟨_,AU _ rfl,rfl,rfl⟩,λb hb=>?_,q⟩
 have e:b=s1.heap.objs.size:=by simpa using hb
 subst e;exact I1.fpOk (AS _) (I1.hok.fresh (AS _))
theorem WY {pins:List (AE×Obj)} {σ:St} {H:Hp} {s:AD} {R:It->Hp->Prop} {E:AB->AD->Prop} {lo hi:Int} {t u v:Tok} {tk:Nat} (I:Inv X pins σ H s) (h1:-(2 ^ 62)<=lo) (h2:lo < 2 ^ 62) (h3:-(2 ^ 62)<=hi) (h4:hi < 2 ^ 62)
  (q:R (Itr lo (hi - lo).toNat) H):Ab (AR X.prog X.w) X.A (aJ (.ref s.heap.objs.size)) (PIE X pins σ tg R) E { s with heap:=s.heap.push { cls:=.type "range",data:=.fields #[.int lo t,.int hi u,.int 1 v] },toks:=tk }:=by
 refine wpAny_pyIter_range (IsRange.new ..) (small_one h1 h2 h3 h4) ?_
 have I1:Inv X pins σ H { s with heap:=s.heap.push { cls:=.type "range",data:=.fields #[.int lo t,.int hi u,.int 1 v] },toks:=tk }:=I.kept λb o e=>AF _ e
 refine ⟨(s.heap.push { cls:=.type "range",data:=.fields #[.int lo t,.int hi u,.int 1 v] }).objs.size,[(s.heap.push { cls:=.type "range",data:=.fields #[.int lo t,.int hi u,.int 1 v] }).objs.size],_,_,H,rfl,
  I1.kept (t':=tk) λb o e=>AF _ e,Rc _ lo (hi - lo).toNat,?_,λb hb=>?_,q⟩
 ·have e1:lo+((0:Nat):Int) * 1=lo:=by simp
  have e2:(((hi - lo).toNat:Nat):Int) - ((0:Nat):Int)=dP lo hi 1:=by rw [rangeSize_one];split <;> lia
  show IsRangeIter _ _ (lo+((0:Nat):Int) * 1) ((((hi - lo).toNat:Nat):Int) - ((0:Nat):Int)) 1;rw [e1,e2];exact AU _ rfl
 ·have e:b=(s.heap.push { cls:=.type "range",data:=.fields #[.int lo t,.int hi u,.int 1 v] }).objs.size:=by simpa using hb
  subst e;exact I1.fpOk (AS _) (I1.hok.fresh (AS _))
def ei (ta:TA):TI:=λσ H R=>ta σ H λvs H1=>∃j:Int,vs=[.int j]/\-(2 ^ 62)<=j/\j < 2 ^ 62/\R (Itr 0 j.toNat) H1
theorem Uf {a:Expr} {ta:TA} {p pos:Pos} (hg:Gl X "range") (hm:X.mg "range" = none) (ha:PA X [a] ta) (hs:AN [a] X.env=[(false,Ba a X.env)]:=by rfl):PI X tg (.Call (.Name "range" p) [a] [] pos) (ei ta):=by
 intro pins s σ H R I h;refine Call_ (Mo I hg hm boot_range (JP (thn (ha pos pins s σ H _ I h) λus s1 ⟨vs,H1,I1,r1,q1⟩=>?_) hs rfl));obtain ⟨j,e,q1,q2,q⟩:=q1;subst e
 cases r1 with
 | cons r rr=>
  cases rr;obtain ⟨t,rfl⟩:=r;exact call_range_1 (WY I1 (by lia) (by lia) q1 q2 (by simpa using q))
def tFor (wi:TI) (g:TG) (tb:TS):TS:=λD σ H=>wi σ H λJ H1=>∃W:Nat->Nat->St->Hp->Prop,(∃m,W 0 m σ H1)/\∀i m σ H,W i m σ H ->
 (J.stop i H/\D.nx σ H)∨(J.go i H/\∃N:St->Hp->Prop,(∀σ' H',N σ' H'->∃m',m' < m/\W (i+1) m' σ' H')/\∀x H',J.yld i H x H'->g x σ H' λσ2 H2=>tb { D with nx:=N,ct:=N,bk:=D.nx } σ2 H2)
def MZ (fp:List AE) (h:BG):List (AE×Obj):=fp.filterMap λb=>(h.get? b).map λo=>(b,o)
theorem HB {fp:List AE} {h:BG} {b:AE} {o:Obj} (hb:b∈fp) (e:h.get? b=some o):(b,o)∈MZ fp h:=Vl.mpr ⟨b,hb,by rw [e];rfl⟩
theorem Uk {fp:List AE} {h:BG} {p:AE×Obj} (hp:p∈MZ fp h):p.1∈fp/\h.get? p.1=some p.2:=by
 obtain ⟨b,hb,e⟩:=Vl.mp hp
 cases q:h.get? b with
 | none=>rw [q] at e;cases e
 | some o=>
  rw [q] at e;have e':(b,o)=p:=CD e;subst e';exact ⟨hb,q⟩
theorem Inv.pinned {pins:List (AE×Obj)} {σ:St} {H:Hp} {s:AD} {fp:List AE} (I:Inv X pins σ H s) (hf:∀b∈fp,J6 X pins H b) (ho:∀b∈fp,∃o,s.heap.get? b=some o/\∀v,o.data≠.cell v):Inv X (pins++MZ fp s.heap) σ H s:=
 I.pins_of λp hp=>(BP.mp hp).elim (λz=>I.pin p (A6 _ z)) λz=>by
  obtain ⟨hb,e⟩:=Uk z;obtain ⟨f0,f1,f2,_⟩:=hf p.1 hb;obtain ⟨o,e',d⟩:=ho p.1 hb;rw [e] at e';cases e';exact ⟨e,f0,f1,f2,d⟩
theorem Inv.unpinned {pins pl:List (AE×Obj)} {σ:St} {H:Hp} {s:AD} (I:Inv X (pins++pl) σ H s):Inv X pins σ H s:=I.pins_of λp hp=>I.pin p (A6 _ (Ez _ hp))
theorem bS {iter:Expr} {body:List CW} {wi:TI} {g:TG} {tb:TS} {pos:Pos} (hp:Vh (AR X.prog X.w) X.A X.env X.xe) (hc:X.calm=true) (hi:PI X tg iter wi) (hg:PG X tg g) (hb:PSs X body tb)
  (hs:∀x,DY iter X.env x=pure x:=by intro _;rfl):PS X (.For tg iter body [] pos) (tFor wi g tb):=by
 intro pins s σ H D I h;refine wpAny_For (thn (hi pins s σ H _ I h) λv s1 h1=>thn h1 λitv s2 h2=>?_) hs;obtain ⟨it,fp,tn,J,H2,e,I2,T,st2,f2,W,⟨m0,w0⟩,turn⟩:=h2;subst e
 have stat:∀ {H':Hp},(∀b∈fp,H' b=none)->∀b∈fp,J6 X pins H' b:=λhn b hb=>⟨hn b hb,(f2 b hb).2⟩
 refine codeAny_forLoop_any (λn s'=>∃i σ' H',Inv X pins σ' H' s'/\tn i s'.heap/\(∀b∈fp,H' b=none)/\W i n σ' H') ?_ m0 ⟨0,σ,H2,I2,st2,λb hb=>(f2 b hb).1,w0⟩;rintro n s3 ⟨i,σ3,H3,I3,st3,fr3,w3⟩
 rcases turn i n σ3 H3 w3 with ⟨stop,qn⟩ | ⟨go,N,hN,step⟩
 ·refine Fp hp (thn (T.done X rfl rfl rfl hc i pins s3 σ3 H3 X.xe I3 (stat fr3) st3 stop) λr s4 ⟨hr,I4⟩=>?_)
  subst hr;exact Pu ⟨σ3,H3,I4,qn⟩
 ·refine Fp hp (thn (T.item X rfl rfl rfl hc i pins s3 σ3 H3 X.xe I3 (stat fr3) st3 go) λr s4 ⟨u,hr,h4⟩=>?_)
  subst hr;refine Fp hp (thn h4 λ_ s5 ⟨x,H5,I5,r5,y5,st5,fr5⟩=>?_);have I5':=I5.pinned (stat fr5) (T.obj _ _ st5);refine Fp hp (thn (hg _ s5 σ3 H5 x u _ I5' r5 (step x H5 y5)) λ_ s6 ⟨σ6,H6,I6,q6⟩=>?_);refine Fp hp (thn (hb _ s6 σ6 H6 _ I6 q6) λf s7 q7=>?_)
  have cy:∀ {σ7:St} {H7:Hp},Inv X (pins++MZ fp s5.heap) σ7 H7 s7->N σ7 H7->∃m,m < n/\∃i σ' H',Inv X pins σ' H' s7/\tn i s7.heap/\(∀b∈fp,H' b=none)/\W i m σ' H':=λ{σ7 H7} I7 n7=>by
   obtain ⟨m',hm,w7⟩:=hN σ7 H7 n7;refine ⟨m',hm,i+1,σ7,H7,I7.unpinned,T.keep _ _ _ st5 λb hb o e=>(I7.pin (b,o) (A6 _ (A6 _ (HB hb e)))).1,λb hb=>?_,w7⟩;obtain ⟨o,e,d⟩:=T.obj _ _ st5 b hb;exact (I7.pin (b,o) (A6 _ (A6 _ (HB hb e)))).2.1
  cases f with
  | next=>obtain ⟨σ7,H7,I7,n7⟩:=q7;exact cy I7 n7
  | cont=>obtain ⟨σ7,H7,I7,n7⟩:=q7;exact cy I7 n7
  | brk=>obtain ⟨σ7,H7,I7,q7⟩:=q7;exact ⟨σ7,H7,I7.unpinned,q7⟩
  | ret v=>obtain ⟨x7,σ7,H7,I7,r7,q7⟩:=q7;exact ⟨x7,σ7,H7,I7.unpinned,r7,q7⟩
end
abbrev R2:=V->V->Hp->VK->Prop
def OpR (X:Cx) (f:AB->AB->Sem AB) (r:R2):Prop:=
 ∀(pins:List (AE×Obj)) (s:AD) (σ:St) (H:Hp) (x y:V) (v u:AB) (Q:VK),Inv X pins σ H s->RelV x v->RelV y u->r x y H Q ->
  Ab (AR X.prog X.w) X.A (f v u) (EP X pins σ Q) X.xe s
def UnR (X:Cx) (f:AB->Sem AB) (r:V->Hp->VK->Prop):Prop:=
 ∀(pins:List (AE×Obj)) (s:AD) (σ:St) (H:Hp) (x:V) (v:AB) (Q:VK),Inv X pins σ H s->RelV x v->r x H Q ->
  Ab (AR X.prog X.w) X.A (f v) (EP X pins σ Q) X.xe s
def Ej (X:Cx) (f:AB) (r:List V->Hp->VK->Prop):Prop:=
 ∀(pins:List (AE×Obj)) (s:AD) (σ:St) (H:Hp) (xs:List V) (us:List AB) (Q:VK),Inv X pins σ H s->BK xs us->r xs H Q ->
  Ab (AR X.prog X.w) X.A (call f us) (EP X pins σ Q) X.xe s
def tOp (r:R2) (ta tb:TE):TE:=λσ H Q=>ta σ H λx H1=>tb σ H1 λy H2=>r x y H2 Q
def tUn (r:V->Hp->VK->Prop) (ta:TE):TE:=λσ H Q=>ta σ H λx H1=>r x H1 Q
def rI (C:Int->Int->Prop) (g:Int->Int->V):R2:=λx y H Q=>∃i j,x=.int i/\y=.int j/\C i j/\Q (g i j) H
def rI0 (g:Int->Int->V):R2:=λx y H Q=>∃i j,x=.int i/\y=.int j/\Q (g i j) H
def rU (g:Int->V):V->Hp->VK->Prop:=λx H Q=>∃i,x=.int i/\Q (g i) H
section
variable {X:Cx} {a b c:Expr} {ta tb tc:TE} {pos:Pos}
theorem ci (ha:PE X a ta) (hb:PE X b tb) {pins:List (AE×Obj)} {s:AD} {σ:St} {H:Hp} {R:V->V->Hp->Prop} (I:Inv X pins σ H s)
  (h:ta σ H λx H1=>tb σ H1 λy H2=>R x y H2) {Q:AB->AD->Prop} {f:AB->AB->Sem AB}
  (hf:∀v u s2 x y H2,Inv X pins σ H2 s2->RelV x v->RelV y u->R x y H2->Ab (AR X.prog X.w) X.A (f v u) Q X.xe s2) :
  Ab (AR X.prog X.w) X.A (Ba a X.env) (λv s₁=>Ab (AR X.prog X.w) X.A (Ba b X.env) (λu s₂=>Ab (AR X.prog X.w) X.A (f v u) Q X.xe s₂) X.xe s₁) X.xe s:=by
 refine thn (ha pins s σ H _ I h) λv s1 ⟨x,H1,I1,r1,q1⟩=>?_
 refine thn (hb pins s1 σ H1 _ I1 q1) λu s2 ⟨y,H2,I2,r2,q2⟩=>?_
 exact hf v u s2 x y H2 I2 r1 r2 q2
theorem d6 {op:Operator} {r:R2} (ho:OpR X (Dj op) r) (ha:PE X a ta) (hb:PE X b tb):PE X (.BinOp a op b pos) (tOp r ta tb):=by
 intro pins s σ H Q I h;exact wpAny_BinOp (ci ha hb I h λv u s2 x y H2 I2 rx ry q=>ho pins s2 σ H2 x y v u Q I2 rx ry q)
theorem dz {op:UnaryOp} {r:V->Hp->VK->Prop} (ho:UnR X (unaryOp op) r) (ha:PE X a ta):PE X (.UnaryOp op a pos) (tUn r ta):=by
 intro pins s σ H Q I h;exact UnaryOp_ (thn (ha pins s σ H _ I h) λv s1 ⟨x,H1,I1,r1,q1⟩=>ho pins s1 σ H1 x v Q I1 r1 q1)
theorem opI {f:AB->AB->Sem AB} {C:Int->Int->Prop} {g:Int->Int->Int}
  (rule:∀(i j:Int) (t u:Tok) (s:AD) (Q:AB->AD->Prop) (E:AB->AD->Prop),C i j->Q (.int (g i j) s.toks) { s with toks:=s.toks+1 }->Ab (AR X.prog X.w) X.A (f (.int i t) (.int j u)) Q E s) :
  OpR X f (rI C λi j=>.int (g i j)):=by
 intro pins s σ H x y v u Q I rx ry h;obtain ⟨i,j,rfl,rfl,hc,q⟩:=h;obtain ⟨t,rfl⟩:=rx;obtain ⟨t',rfl⟩:=ry;exact rule i j t t' s _ _ hc ⟨.int (g i j),H,I.tok _,⟨_,rfl⟩,q⟩
theorem opI0 {f:AB->AB->Sem AB} {g:Int->Int->Int}
  (rule:∀(i j:Int) (t u:Tok) (s:AD) (Q:AB->AD->Prop) (E:AB->AD->Prop),Q (.int (g i j) s.toks) { s with toks:=s.toks+1 }->Ab (AR X.prog X.w) X.A (f (.int i t) (.int j u)) Q E s) :
  OpR X f (rI0 λi j=>.int (g i j)):=by
 intro pins s σ H x y v u Q I rx ry h;obtain ⟨i,j,rfl,rfl,q⟩:=h;obtain ⟨t,rfl⟩:=rx;obtain ⟨t',rfl⟩:=ry;exact rule i j t t' s _ _ ⟨.int (g i j),H,I.tok _,⟨_,rfl⟩,q⟩
theorem ZG {f:AB->AB->Sem AB} {g:Int->Int->Bool}
  (rule:∀(i j:Int) (t u:Tok) (s:AD) (Q:AB->AD->Prop) (E:AB->AD->Prop),Q (.bool (g i j)) s->Ab (AR X.prog X.w) X.A (f (.int i t) (.int j u)) Q E s) :
  OpR X f (rI0 λi j=>.bl (g i j)):=by
 intro pins s σ H x y v u Q I rx ry h;obtain ⟨i,j,rfl,rfl,q⟩:=h;obtain ⟨t,rfl⟩:=rx;obtain ⟨t',rfl⟩:=ry;exact rule i j t t' s _ _ ⟨.bl (g i j),H,I,rfl,q⟩
def X3 (i j:Int):Prop:=0 < j/\j < 1073741824
theorem bo:OpR X (Dj .Add) (rI0 λi j=>.int (i+j)):=opI0 λ_ _ _ _ _ _ _ q=>add_int q
theorem ZD:OpR X (Dj .FloorDiv) (rI X3 λi j=>.int (i / j)):=opI λi j _ _ _ _ _ hc q=>by
 have h1:(0:Int) < j:=hc.1;have h2:j < 1073741824:=hc.2;exact floordiv_int (by lia) (by rw [Int.fdiv_eq_ediv_of_nonneg i (by lia)];exact q) (.inl (PyProof.noPylong_small (by omega)))
theorem bh:OpR X (Dj .Mod) (rI (λ_ j=>0 < j) λi j=>.int (i % j)):=opI λi j _ _ _ _ _ hc q=>by
 have h1:(0:Int) < j:=hc;exact mod_int' (by lia) (by rw [Int.fmod_eq_emod_of_nonneg i (by lia)];exact q)
theorem unI {f:AB->Sem AB} {g:Int->Int}
  (rule:∀(i:Int) (t:Tok) (s:AD) (Q:AB->AD->Prop) (E:AB->AD->Prop),Q (.int (g i) s.toks) { s with toks:=s.toks+1 }->Ab (AR X.prog X.w) X.A (f (.int i t)) Q E s) :
  UnR X f (rU λi=>.int (g i)):=by
 intro pins s σ H x v Q I rx h;obtain ⟨i,rfl,q⟩:=h;obtain ⟨t,rfl⟩:=rx;exact rule i t s _ _ ⟨.int (g i),H,I.tok _,⟨_,rfl⟩,q⟩
theorem aw:UnR X (unaryOp .USub) (rU λi=>.int (-i)):=unI λ_ _ _ _ _ q=>neg_int q
end
section
variable {X:Cx} {a b c:Expr} {ta tb tc:TE} {pos:Pos}
theorem cX {pins:List (AE×Obj)} {σ:St} {H:Hp} {s:AD} {Q:VK} {k k':Bool} (I:Inv X pins σ H s) (q:Q (.bl k) H) (e:k=k'):EP X pins σ Q (.bool k') s:=by
 subst e;exact ⟨.bl k,H,I,rfl,q⟩
theorem d9:OpR X (A8 .Lt) (rI0 λi j=>.bl (decide (i < j))):=ZG λ_ _ _ _ _ _ _ q=>lt_int q
theorem eC:OpR X (A8 .LtE) (rI0 λi j=>.bl (decide (i<=j))):=ZG λ_ _ _ _ _ _ _ q=>le_int q
theorem eD:OpR X (A8 .Gt) (rI0 λi j=>.bl (decide (j < i))):=ZG λ_ _ _ _ _ _ _ q=>gt_int q
theorem eE:OpR X (A8 .GtE) (rI0 λi j=>.bl (decide (j<=i))):=ZG λ_ _ _ _ _ _ _ q=>ge_int q
theorem bj:OpR X (A8 .Is) (λx y H Q=>y=.non/\Q (.bl (decide (x=.non))) H):=by
 intro pins s σ H x y v u Q I rx ry h;obtain ⟨rfl,q⟩:=h;cases ry;refine is_none_gen (cX I q ?_)
 cases x <;> first
  | (cases rx;rfl)
  | (obtain ⟨t,rfl⟩:=rx;rfl)
theorem OpR.or {f:AB->AB->Sem AB} {r r':R2} (h:OpR X f r) (h':OpR X f r'):OpR X f (λx y H Q=>r x y H Q∨r' x y H Q):=by
 intro pins s σ H x y v u Q I rx ry q
 rcases q with q | q
 ·exact h pins s σ H x y v u Q I rx ry q
 ·exact h' pins s σ H x y v u Q I rx ry q
theorem DX (b:Expr) {op:RO} (h:op≠.In:=by decide) (h2:op≠.NotIn:=by decide):Bz op b=false:=by
 have e1:(op==RO.In)=false:=by cases op <;> first | rfl | exact zX rfl h
 have e2:(op==RO.NotIn)=false:=by cases op <;> first | rfl | exact zX rfl h2
 cases b <;> simp [Bz,e1,e2]
theorem Y8 {op:RO} {r:R2} (ho:OpR X (A8 op) r) (ha:PE X a ta) (hb:PE X b tb) (hm:Bz op b=false):PE X (.Compare a [op] [b] pos) (tOp r ta tb):=by
 intro pins s σ H Q I h;exact wpAny_Compare1 (ci ha hb I h λv u s2 x y H2 I2 rx ry q=>ho pins s2 σ H2 x y v u Q I2 rx ry q) hm
def Z4 (t:TE):TT:=λσ H Q=>t σ H λx H'=>∃k,x=.bl k/\Q k H'
theorem Yt {op:RO} {r:R2} (ho:OpR X (A8 op) r) (ha:PE X a ta) (hb:PE X b tb) (hm:Bz op b=false):PT X (.Compare a [op] [b] pos) (Z4 (tOp r ta tb)):=by
 intro pins s σ H Q I h
 refine X5 (thn (ha pins s σ H _ I h) λv s1 ⟨x,H1,I1,r1,q1⟩=>thn (hb pins s1 σ H1 _ I1 q1) λu s2 ⟨y,H2,I2,r2,q2⟩=>
  thn (ho pins s2 σ H2 x y v u _ I2 r1 r2 q2) λc s3 ⟨z,H3,I3,r3,k,e,q3⟩=>?_) hm
 subst e;cases r3;exact Cf ⟨H3,I3,q3⟩
def WK (r r':R2) (ta tb tc:TE):TE:=λσ H Q=>ta σ H λx H1=>tb σ H1 λy H2=>r x y H2 λz H3=>∃k,z=.bl k /\
 (if k=true then tc σ H3 λw' H4=>r' y w' H4 Q else Q (.bl false) H3)
theorem Wg {op op':RO} {r r':R2} (ho:OpR X (A8 op) r) (ho':OpR X (A8 op') r') (ha:PE X a ta) (hb:PE X b tb) (hc:PE X c tc)
  (hm:lastMarks [op,op'] [b,c]=false:=by with_unfolding_all rfl):PT X (.Compare a [op,op'] [b,c] pos) (Z4 (WK r r' ta tb tc)):=by
 intro pins s σ H Q I h
 refine isTrue_chain (thn (ha pins s σ H _ I h) λv s1 ⟨x,H1,I1,r1,q1⟩=>test_link (thn (hb pins s1 σ H1 _ I1 q1) λu s2 ⟨y,H2,I2,r2,q2⟩=>
  thn (ho pins s2 σ H2 x y v u _ I2 r1 r2 q2) λd s3 ⟨z,H3,I3,r3,k,e,q3⟩=>?_)) hm
 subst e;cases r3;refine Cf ?_
 cases k with
 | false=>
  obtain ⟨k',e',q'⟩:=q3;cases e';exact ite_ff ⟨H3,I3,q'⟩
 | true=>
  refine ite_tt (test_last (thn (hc pins s3 σ H3 _ I3 q3) λw' s4 ⟨z',H4,I4,r4,q4⟩=>thn (ho' pins s4 σ H4 y z' u w' _ I4 r2 r4 q4) λd' s5 ⟨z2,H5,I5,r5,k2,e2,q5⟩=>?_));subst e2;cases r5;exact Cf ⟨H5,I5,q5⟩
theorem Ml:(sizeLine:Nat) < 2 ^ 63:=by rw [sizeLine_eq];decide
theorem vals1 {x:V} {us:List AB} (r:BK [x] us):∃u,us=[u]/\RelV x u:=by
 cases r with
 | cons r1 r2=>cases r2;exact ⟨_,rfl,r1⟩
theorem vals2 {x y:V} {us:List AB} (r:BK [x,y] us):∃u w',us=[u,w']/\RelV x u/\RelV y w':=by
 cases r with
 | cons r1 r2=>
  cases r2 with
  | cons r3 r4=>cases r4;exact ⟨_,_,rfl,r1,r3⟩
theorem VU (hc:X.calm=true):Ej X (.builtin "max") (λxs H Q=>∃i j,xs=[.int i,.int j]/\Q (.int (if j > i then j else i)) H):=by
 intro pins s σ H xs us Q I r h;obtain ⟨i,j,rfl,q⟩:=h;obtain ⟨u,w',rfl,⟨t,rfl⟩,⟨t',rfl⟩⟩:=vals2 r
 refine max_two_ints (I.ok.hd hc) λh' tk k=>⟨_,H,I.kept k,?_,q⟩
 by_cases hj:j > i
 ·rw [qX hj,qX hj];exact ⟨_,rfl⟩
 ·rw [qY hj,qY hj];exact ⟨_,rfl⟩
theorem VQ (hc:X.calm=true):Ej X (.builtin "min") (λxs H Q=>∃i j,xs=[.int i,.int j]/\Q (.int (if j < i then j else i)) H):=by
 intro pins s σ H xs us Q I r h;obtain ⟨i,j,rfl,q⟩:=h;obtain ⟨u,w',rfl,⟨t,rfl⟩,⟨t',rfl⟩⟩:=vals2 r
 refine min_two_ints (I.ok.hd hc) λh' tk k=>⟨_,H,I.kept k,?_,q⟩
 by_cases hj:j < i
 ·rw [qX hj,qX hj];exact ⟨_,rfl⟩
 ·rw [qY hj,qY hj];exact ⟨_,rfl⟩
end
structure Va (h:BG) (x dx C:AE) (mA:Str->Option AB):Prop where
 obj:h.get? x=some (CL C dx)
 ns:h.Ns1 dx mA
 ne:dx≠x
theorem Ur {h:BG} {dx:AE} {mA:Str->Option AB} (n:h.Ns1 dx mA):∃od,h.get? dx=some od/\∀name,Ll name od=some (mA name):=by
 obtain ⟨o,es,ep,ho,hd,hk,_,hm⟩:=n;refine ⟨o,ho,λname=>?_⟩;have e:=hm name;unfold nsFind findBy at e;rw [<-Array.find?_toList] at e;unfold Ll;rw [hd];dsimp only;split
 ·rename_i y q
  rw [q] at e;exact congrArg some e
 ·rename_i q
  rw [q] at e
  have a:es.toList.any (·.refKey)=false:=by
   rw [List.any_eq_false];intro y hy;obtain ⟨z,t,hkey⟩:=hk y (A3.mp hy);simp [Kj.refKey,hkey]
  have a':¬es.toList.any (·.refKey)=true:=by rw [a];exact AW
  rw [qY a'];exact congrArg some e
theorem Va.look {h:BG} {x dx C:AE} {mA:Str->Option AB} (I:Va h x dx C mA):∃od,Vq h x (CL C dx) C (some od)/\∀name,Ll name od=some (mA name):=
 let ⟨od,ho,hl⟩:=Ur I.ns
 ⟨od,⟨I.obj,rfl,rfl,ho⟩,hl⟩
section
variable {prog:Aa} {w:As} {A:Ak} {E:AB->AD->Prop} {s:AD} {K:AA} {x dx C f:AE} {mA:Str->Option AB} {name:Str} {v:AB}
theorem ZW {expr:Bool} {Q:AB->AD->Prop} (X:K.In s.heap) (I:Va s.heap x dx C mA) (hg:KD K C name=true) (hh:JO K C=true)
  (ha:BY K (.ref C) name=some none) (hv:mA name=some v) (hv':UK v=true) (h:Q v { s with toks:=s.toks+1 }) :
  Ab (AR prog w) A (getAttr (.ref x) name expr) Q E s:=by
 obtain ⟨od,J,hl⟩:=I.look;exact PySem.W.get_value X J (PySem.W.plainGet_of hg).1 (PySem.W.findObj_own hh ha rfl (by rw [hl,hv])) hv' h
theorem Yj {ns:List Str} {Q:Unit->AD->Prop} (X:K.In s.heap) (I:Va s.heap x dx C mA)
  (hs:BY K (.ref C) "__setattr__" = some (some (.builtin "object.__setattr__"))) (hp:Sa K C=true) (ht:K7 K C name=some none) (hh:JO K C=true)
  (hw:Pw mA ns) (hsz:ns.length<=sizeLine)
  (h:∀h',Va h' x dx C (λy=>if y=name then some v else mA y)->Da dx s.heap h'->Q () { s with heap:=h',toks:=s.toks+2 }) :
  Ab (AR prog w) A (setAttr (.ref x) name v) Q E s:=by
 obtain ⟨od,J,hl⟩:=I.look;refine PySem.W.set_plain X J hs (PySem.W.osa_open (s:={ s with toks:=s.toks+1 }) (r:=none) X J hp ht λb=>?_);obtain ⟨cd,hc,hd'⟩:=PySem.W.any_some hh;have hx:s.heap.get? x=some ⟨.ref C,some dx,.plain,#[]⟩:=I.obj;refine AC (AH (AC (AC (wpAny_loadPart hx (AC (dD (s:={ s with toks:=s.toks+1 }) (PySem.W.looks_clsIn X hc) ?_))))));rw [hd'];refine AH (a:=some dx) (AC (AH (AC ?_)))
 refine wpAny_nsSet1 (s:={ s with toks:=s.toks+1 }) I.ns λh' hn2 hs2=>?_
 obtain ⟨oD,esD,epD,hoD,hdD,hcD⟩:=hn2.count (fG name v hw);refine AC (wpAny_lookBehind hoD (by rw [hdD];exact pastItsLine_dict (Aq hcD (by rw [Af];lia))) ?_);exact AH (h _ ⟨(hs2.2 _ (Bp I.ne)).trans I.obj,hn2,I.ne⟩ hs2)
theorem W6 {R:aP->AD->Prop} {vs:List AB} {kw:List (Str×AB)} (X:K.In s.heap) (hm:Vf K C=true)
  (hi:BY K (.ref C) "__init__" = some (some (.ref f))) (hf:PySem.W.typeIn K (.ref f)=some (.type "function"))
  (h:Ir (AR prog w) (A.under (.builtin "type.__call__" ⟨.ref C :: vs,kw⟩)) (.call (.ref f) ⟨.ref (s.heap.objs.size+1) :: vs,kw⟩) (PySem.W.InitBack (s.heap.objs.size+1) R)
   { s with heap:=(s.heap.push Bf).push (CL C s.heap.objs.size) }) :
  Ir (AR prog w) A (.call (.ref C) ⟨vs,kw⟩) R s:=by
 obtain ⟨hh,g,d,t,os⟩:=s;exact PySem.W.make_core (PySem.W.makes_of X hm) (Hm X hi) (λself=>PySem.W.bind_fn X self hf) (.inl rfl) h
end
def putF (f:Str) (v:V):List (Str×V)->List (Str×V)
 | []=>[(f,v)]
 | (g,x) :: r=>if g=f then (g,v) :: r else (g,x) :: putF f v r
theorem Kr (f g:Str) (v:V):∀fs:List (Str×V),(putF f v fs).lookup g=if g=f then some v else fs.lookup g
 | []=>by
  show E0 g [(f,v)]=_
  by_cases h:g=f
  ·have hb:(g==f)=true:=beq_iff_eq.mpr h
   simp only [E0,hb,qX h]
  ·have hb:(g==f)=false:=beq_eq_false_iff_ne.mpr h
   simp only [E0,hb,qY h]
 | (k,x) :: r=>by
  have ih:=Kr f g v r;rw [show putF f v ((k,x) :: r)=(if k=f then (k,v) :: r else (k,x) :: putF f v r) from rfl]
  by_cases hk:k=f
  ·rw [qX hk]
   by_cases h:g=k
   ·have hb:(g==k)=true:=beq_iff_eq.mpr h
    simp only [E0,hb,qX (h.trans hk)]
   ·have hb:(g==k)=false:=beq_eq_false_iff_ne.mpr h
    simp only [E0,hb,qY (λe:g=f=>h (e.trans hk.symm))]
  ·rw [qY hk]
   by_cases h:g=k
   ·have hb:(g==k)=true:=beq_iff_eq.mpr h
    simp only [E0,hb,qY (λe:g=f=>hk (h.symm.trans e))]
   ·have hb:(g==k)=false:=beq_eq_false_iff_ne.mpr h
    simp only [E0,hb];exact ih
theorem Ka (f:Str) (v:V):∀fs:List (Str×V),f∈(putF f v fs).map (·.1)/\∀g,g∈fs.map (·.1)->g∈(putF f v fs).map (·.1)
 | []=>⟨by simp [putF],λg h=>by simp at h⟩
 | (k,x) :: r=>by
  obtain ⟨i1,i2⟩:=Ka f v r;rw [show putF f v ((k,x) :: r)=(if k=f then (k,v) :: r else (k,x) :: putF f v r) from rfl]
  by_cases hk:k=f
  ·rw [qX hk]
   subst hk;exact ⟨by simp,λg h=>by simpa using h⟩
  ·rw [qY hk]
   refine ⟨?_,λg h=>?_⟩
   ·rw [Ai]
    exact AV _ i1
   ·rw [Ai] at h ⊢
    rcases Aw.mp h with e | e
    ·exact Aw.mpr (.inl e)
    ·exact AV _ (i2 g e)
theorem Kt (f:Str) (v:V):∀fs:List (Str×V),(putF f v fs).length<=fs.length+1
 | []=>by simp [putF]
 | (k,x) :: r=>by
  have ih:=Kt f v r;rw [show putF f v ((k,x) :: r)=(if k=f then (k,v) :: r else (k,x) :: putF f v r) from rfl]
  by_cases hk:k=f
  ·rw [qX hk,Af,Af];lia
  ·rw [qY hk,Af,Af];lia
theorem Kg.some_of {v:V} {o:Option AB} (r:Kg (some v) o):∃u,o=some u/\RelV v u:=by
 cases o with
 | none=>exact (show False from r).elim
 | some u=>exact ⟨u,rfl,r⟩
theorem U0 {v:V} {u:AB} (r:RelV v u):UK u=true:=by
 cases v with
 | non=>cases (show u=BF from r);rfl
 | bl b=>cases (show u=Hb b from r);rfl
 | int i=>obtain ⟨t,e⟩:=(show ∃t,u=Ky i t from r);cases e;rfl
 | str x=>obtain ⟨t,e⟩:=(show ∃t,u=Kx x t from r);cases e;rfl
 | byt b=>obtain ⟨t,e⟩:=(show ∃t,u=c5 b t from r);cases e;rfl
 | flt b=>obtain ⟨t,e⟩:=(show ∃t,u=RH b t from r);cases e;rfl
 | ref a=>cases (show u=Ap a from r);rfl
 | ty n=>cases (show u=Dz n from r);rfl
section
variable {P:Aa} {w:As} {H H':Hp} {h h':BG} {a C dx:AE} {fs fs':List (Str×V)}
theorem PM (hok:HOk P w H h) (e:H a=some (.ins C dx fs)):∃mA,Va h a dx C mA/\(∀f,Kg (fs.lookup f) (mA f))/\Pw mA (fs.map (·.1))/\fs.length<=1000/\H dx=some (.own a):=by
 obtain ⟨d,z,ne,ob,mA,n,r,q⟩:=(show Bx P w H h a (.ins C dx fs) from hok a _ e);exact ⟨mA,⟨ob,n,ne⟩,r,q,z,d⟩
end
structure Cls (K:AA) (C:AE):Prop where
 pg:KD K C Er=true
 hd:JO K C=true
 po:Sa K C=true
 sa:BY K (.ref C) "__setattr__" = some (some (.builtin "object.__setattr__"))
theorem Cls.get {K:AA} {C:AE} (c:Cls K C) (f:Str):KD K C f=true:=c.pg
def FS (K:AA) (C:AE) (f:Str):Prop:=BY K (.ref C) f=some none
theorem FS.taker {K:AA} {C:AE} {f:Str} (n:FS K C f):K7 K C f=some none:=by
 unfold K7;rw [show BY K (.ref C) f=some none from n];rfl
section
variable {X:Cx} {pins:List (AE×Obj)} {σ:St} {H:Hp} {s:AD} {a C dx:AE} {fs:List (Str×V)} {f:Str} {v:V} {A:Ak} {E:AB->AD->Prop}
theorem SH {b:Bool} {Q:AB->AD->Prop} (I:Inv X pins σ H s) (e:H a=some (.ins C dx fs)) (c:Cls X.K C) (n:FS X.K C f) (l:fs.lookup f=some v)
  (h:∀u s',Inv X pins σ H s'->RelV v u->Q u s'):Ab (AR X.prog X.w) A (getAttr (.ref a) f b) Q E s:=by
 obtain ⟨mA,O,r,_,_,_⟩:=PM I.hok e;obtain ⟨u,hu,ru⟩:=Kg.some_of (v:=v) (o:=mA f) (by rw [<-l];exact r f);exact ZW I.kIn O (c.get f) c.hd n hu (U0 ru) (h u _ (I.tok _) ru)
theorem Rp {y:V} {u:AB} {Q:Unit->AD->Prop} (I:Inv X pins σ H s) (e:H a=some (.ins C dx fs)) (c:Cls X.K C) (n:FS X.K C f) (hl:fs.length < 1000) (ry:RelV y u)
  (h:∀s',Inv X pins σ (upd H a (.ins C dx (putF f y fs))) s'->Q () s'):Ab (AR X.prog X.w) A (setAttr (.ref a) f u) Q E s:=by
 obtain ⟨mA,O,r,wi,_,ho⟩:=PM I.hok e
 have hz:(fs.map (·.1)).length<=sizeLine:=by rw [AK,sizeLine_eq];lia
 refine Yj I.kIn O c.sa c.po n.taker c.hd wi hz λh' O' sb=>h _ ?_
 have hd:∃o,h'.get? dx=some o:=let ⟨o,_,_,e',_⟩:=O'.ns;⟨o,e'⟩
 refine I.write (x:=a) (e:=dx) (by rw [e];exact Cu) (.inr ho) (λb q hb z=>(sb.2 b hb).trans z) hd ?_;refine ⟨by rw [BI O.ne];exact ho,?_,O.ne,O'.obj,_,O'.ns,λg=>?_,λg hg=>?_⟩
 ·have:=Kt f y fs;lia
 ·show Kg ((putF f y fs).lookup g) (if g=f then some u else mA g)
  rw [Kr]
  by_cases q:g=f
  ·rw [qX q,qX q];exact ry
  ·rw [qY q,qY q];exact r g
 ·by_cases q:g=f
  ·rw [q];exact (Ka f y fs).1
  ·refine (Ka f y fs).2 g (wi g λz=>hg ?_)
   show (if g=f then some u else mA g)=none;rw [qY q];exact z
theorem Inv.made (I:Inv X pins σ H s):Inv X pins σ (upd (upd H s.heap.objs.size (.own (s.heap.objs.size+1))) (s.heap.objs.size+1) (.ins C s.heap.objs.size []))
  { s with heap:=(s.heap.push Bf).push (CL C s.heap.objs.size) }:=by
 have e1:(s.heap.push Bf).get? s.heap.objs.size=some Bf:=AU s.heap rfl
 have e2:((s.heap.push Bf).push (CL C s.heap.objs.size)).get? (s.heap.objs.size+1)=some (CL C s.heap.objs.size):=by
  have:=AU (s.heap.push Bf) (o:=CL C s.heap.objs.size) rfl;rwa [EI] at this
 have e3:(s.heap.push Bf).Ns s.heap.objs.size (λ_=>none):=⟨Bf,#[],_,e1,rfl,(λe he=>zX he (by simp)),λ_=>rfl⟩;have I1:=I.laid (a:=s.heap.objs.size) (o:=.own (s.heap.objs.size+1)) (h':=s.heap.push Bf) (t':=s.toks) (λb u q=>AF _ q) (AS _) ⟨_,e1⟩;refine I1.laid (a:=s.heap.objs.size+1) (o:=.ins C s.heap.objs.size []) (t':=s.toks) (λb u q=>AF _ q) (RL (EI _ _)) ?_;have ne:s.heap.objs.size≠s.heap.objs.size+1:=Ag (Co _);refine ⟨by rw [BI ne,BU],DV _,ne,e2,λ_=>none,(BG.Ns1.of_empty e3).at λo q=>AF _ q,λ_=>Cu,λy hy=>zX rfl hy⟩
theorem Zn {prog:Aa} {w:As} {env:Env} {e:Expr} {f:Str} {pos:Pos} {s:AD} {Q:AB->AD->Prop} (hb:DR e f env (Ba e env)=Ba e env)
  (h:Ab (AR prog w) A (Ba e env) (λo s₁=>Ab (AR prog w) A (getAttr o f true) Q E s₁) E s):Ab (AR prog w) A (Ba (.Attribute e f pos) env) Q E s:=
 Attribute_any_ h (by rw [arm_eval_Attribute,hb])
end
def tFld (K:AA) (ta:TE) (f:Str):TE:=λσ H Q=>ta σ H λx H1=>∃a C dx fs v,x=.ref a/\H1 a=some (.ins C dx fs)/\Cls K C/\FS K C f/\fs.lookup f=some v/\Q v H1
def sFld (K:AA) (ta tv:TE) (f:Str):TS:=λD σ H=>tv σ H λy H1=>ta σ H1 λx H2=>∃a C dx fs,x=.ref a/\H2 a=some (.ins C dx fs)/\Cls K C/\FS K C f/\fs.length < 1000 /\
 D.nx σ (upd H2 a (.ins C dx (putF f y fs)))
section
variable {X:Cx} {o e value:Expr} {f:Str} {pos pos' tpos:Pos} {ta tv:TE}
theorem bd (he:PE X e ta) (hb:DR e f X.env (Ba e X.env)=Ba e X.env):PE X (.Attribute e f pos) (tFld X.K ta f):=by
 intro pins s σ H Q I h;refine Zn hb (thn (he pins s σ H _ I h) λu s1 ⟨x,H1,I1,rx,a,C,dx,fs,v,ex,ea,c,n,l,q⟩=>?_);subst ex;obtain rfl:u=Ap a:=rx
 exact SH I1 ea c n l λu' s2 I2 ru=>⟨v,H1,I2,ru,q⟩
theorem bT (ha:PE X o ta) (hv:PE X value tv) (hs:Dx value (some (.Attribute o f pos')) pos.line X.env=pure false):PS X (.Assign [.Attribute o f pos'] value pos) (sFld X.K ta tv f):=by
 intro pins s σ H D I h;refine plainObj_wpAny_Assign_Attribute (thn (hv pins s σ H _ I h) λu s1 ⟨y,H1,I1,ry,q⟩=>thn (ha pins s1 σ H1 _ I1 q) λov s2 ⟨x,H2,I2,rx,a,C,dx,fs,ex,ea,c,n,l,q2⟩=>?_) hs;subst ex;obtain rfl:ov=Ap a:=rx
 exact Rp I2 ea c n l ry λs3 I3=>⟨σ,_,I3,q2⟩
end
section
variable {X:Cx} {pins:List (AE×Obj)} {σ:St} {H:Hp} {s:AD} {A:Ak} {E:AB->AD->Prop} {Q:AB->AD->Prop} {c:AB} {b:Bool}
inductive JF (K:AA) (H:Hp):V->AB->Prop where
 | non:JF K H .non (.type "NoneType")
 | bl (x:Bool):JF K H (.bl x) (.type "bool")
 | int (i:Int):JF K H (.int i) (.type "int")
 | str (x:Str):JF K H (.str x) (.type "str")
 | flt (x:UInt64):JF K H (.flt x) (.type "float")
 | lst {a:AE} {xs:List V} (e:H a=some (.lst xs)):JF K H (.ref a) (.type "list")
 | frz {a:AE} {o:Obj} {xs:List V} (e:H a=some (.frz o (.lst xs))):JF K H (.ref a) (.type "list")
 | tup {a:AE} {xs:List V} (e:H a=some (.tup xs)):JF K H (.ref a) (.type "tuple")
 | dK {a:AE} {kvs:List (Key×V)} (e:H a=some (.dK kvs)):JF K H (.ref a) (.type "dict")
 | dT {a:AE} {kvs:List (List Key×V)} (e:H a=some (.dT kvs)):JF K H (.ref a) (.type "dict")
 | ins {a C dx:AE} {fs:List (Str×V)} (e:H a=some (.ins C dx fs)) (cl:Cls K C) (ha:BY K (.ref C) "__class__" = some (some (.builtin "object.__class__")))
   (hn:JM K (.builtin "object.__class__") "__get__" = some (some (.builtin "getset_descriptor.__get__"))) (htk:K6 K (.builtin "object.__class__")=some true)
   (hm:Fs K C (.type "object")=some true):JF K H (.ref a) (.ref C)
theorem OJ {x:V} {u t:AB} (I:Inv X pins σ H s) (rx:RelV x u) (ty:JF X.K H x t) (e:Bs X.K t c=some b) (h:∀tk,Q (.bool b) { s with toks:=tk }) :
  Ab (AR X.prog X.w) A (call (.builtin "isinstance") [u,c]) Q E s:=by
 cases ty with
 | non=>cases (show u=BF from rx);exact BV PySem.W.kitx_none I.kIn Cu e (λz=>nomatch z) h
 | bl y=>cases (show u=Hb y from rx);exact BV PySem.W.kitx_bool I.kIn Cu e (λz=>nomatch z) h
 | int i=>obtain ⟨t,q⟩:=(show ∃t,u=Ky i t from rx);cases q;exact BV PySem.W.kitx_int I.kIn Cu e (λz=>nomatch z) h
 | str y=>obtain ⟨t,q⟩:=(show ∃t,u=Kx y t from rx);cases q;exact BV PySem.W.kitx_str I.kIn Cu e (λz=>nomatch z) h
 | flt y=>obtain ⟨t,q⟩:=(show ∃t,u=RH y t from rx);cases q;exact BV PySem.W.kitx_float I.kIn Cu e (λz=>nomatch z) h
 | @lst a xs ea=>
  cases (show u=Ap a from rx);obtain ⟨_,_,n,_,h1⟩:=(show Bx X.prog X.w H s.heap a (.lst xs) from I.hok a _ ea);exact BV Sb I.kIn ⟨_,h1,rfl⟩ e (λz=>nomatch z) h
 | @frz a ob xs ea=>
  cases (show u=Ap a from rx);obtain ⟨_,_,_,n,_,h1⟩:=(show Bx X.prog X.w H s.heap a (.frz ob (.lst xs)) from I.hok a _ ea);exact BV Sb I.kIn ⟨_,h1,rfl⟩ e (λz=>nomatch z) h
 | @tup a xs ea=>
  cases (show u=Ap a from rx);obtain ⟨_,_,_,p⟩:=(show Bx X.prog X.w H s.heap a (.tup xs) from I.hok a _ ea);obtain ⟨o,h1,h2,_⟩:=p;exact BV PySem.W.kitx_tuple I.kIn ⟨o,h1,h2⟩ e (λz=>nomatch z) h
 | @dK a kvs ea=>
  cases (show u=Ap a from rx);obtain ⟨_,_,vs,_,p⟩:=(show Bx X.prog X.w H s.heap a (.dK kvs) from I.hok a _ ea);obtain ⟨o,es,ep,h1,h2,_⟩:=p;exact BV Sd I.kIn ⟨o,h1,h2.1⟩ e (λz=>nomatch z) h
 | @dT a kvs ea=>
  cases (show u=Ap a from rx);obtain ⟨_,_,xs,_,o,es,ep,h1,h2,_⟩:=(show Bx X.prog X.w H s.heap a (.dT kvs) from I.hok a _ ea);exact BV Sd I.kIn ⟨o,h1,h2.1⟩ e (λz=>nomatch z) h
 | @ins a C dx fs ea cl ha hn htk hm=>
  cases (show u=Ap a from rx);obtain ⟨mA,O,_⟩:=PM I.hok ea;obtain ⟨od,J,_⟩:=O.look;exact BV (PySem.W.kitx_own (cl.get _) cl.hd ha hn htk hm) I.kIn J e (λz=>nomatch z) h
end
structure Ey (k:Nat) (A:Ak):Prop where
 hd:A.handled=none
 dp:A.depth+3 * k+5 < recursionLimit
 un:A.units+16 * k+200 < Cy
theorem Ey.mono {j k:Nat} {A:Ak} (r:Ey k A) (h:j<=k):Ey j A:=⟨r.hd,by have:=r.dp;lia,by have:=r.un;lia⟩
theorem Ey.deeper {k:Nat} {A:Ak} (r:Ey (k+1) A) (env:Env):Ey k (A.deeper env):=
 ⟨r.hd,by have:=r.dp;show A.depth+1+3 * k+5 < _;lia,by have:=r.un;show A.units+3+16 * k+200 < _;lia⟩
theorem R3 {A:Ak} {C:AE} {us:List AB} {kw:List (Str×AB)}:(A.under (.builtin "type.__call__" ⟨.ref C :: us,kw⟩)).depth=A.depth+1:=by
 first | rfl | simp [Pt,Code.weight,Code.isCreation,Code.isGuard,Code.isCaller,dJ,RA,guardIds]
theorem R1 {A:Ak} {C:AE} {us:List AB} {kw:List (Str×AB)}:(A.under (.builtin "type.__call__" ⟨.ref C :: us,kw⟩)).units=A.units+1:=by
 first | rfl | simp [Pt,Code.cUnits,dJ,RA]
theorem Ey.make {k:Nat} {A:Ak} (r:Ey (k+1) A) (C:AE) (us:List AB) (kw:List (Str×AB)):Ey k (A.under (.builtin "type.__call__" ⟨.ref C :: us,kw⟩)):=
 ⟨r.hd,by have:=r.dp;rw [R3];lia,by have:=r.un;rw [R1];lia⟩
theorem Ey.depth {k:Nat} {A:Ak} (r:Ey k A):A.depth < recursionLimit:=by have:=r.dp;lia
theorem Ey.units {k:Nat} {A:Ak} (r:Ey k A):A.units+64 < Cy:=by have:=r.un;lia
def tNil:TA:=λ_ H Q=>Q [] H
def df (ta:TE) (tr:TA):TA:=λσ H Q=>ta σ H λx H1=>tr σ H1 λxs H2=>Q (x :: xs) H2
section
variable {X:Cx} {e:Expr} {es:List Expr} {te:TE} {t:TA} {pos:Pos}
theorem D4:PA X [] tNil:=λ_ _ _ _ H Q I h=>Calls.spliced_nil ⟨[],H,I,.nil,h⟩
theorem CV (ha:PE X e te) (hr:PA X es t) (hs:AN (e :: es) X.env=(false,Ba e X.env) :: AN es X.env:=by rfl):PA X (e :: es) (df te t):=by
 intro pos pins s σ H Q I h;rw [hs];show Ab _ _ (spliced ((false,Ba e X.env) :: Bi pos (AN es X.env))) _ _ s;refine Calls.spliced_cons (thn (ha pins s σ H _ I h) λu s1 ⟨x,H1,I1,r1,q1⟩=>?_)
 exact thn (hr pos pins s1 σ H1 _ I1 q1) λus s2 ⟨xs,H2,I2,r2,q2⟩=>⟨x :: xs,H2,I2,.cons r1 r2,q2⟩
def tTup (t:TA):TE:=λσ H Q=>t σ H λxs H1=>xs.length<=sizeLine/\∀p,H1 p=none->Q (.ref p) (upd H1 p (.tup xs))
def tLst (t:TA):TE:=λσ H Q=>t σ H λxs H1=>xs.length<=sizeLine/\∀p,H1 p=none->Q (.ref p) (upd H1 p (.lst xs))
theorem bY {x1} (h:PA X es t):PE X (.Tuple es x1 pos) (tTup t):=by
 intro pins s σ H Q I hq;refine wpAny_Tuple_spliced (thn (h pos pins s σ H _ I hq) λus s1 ⟨xs,H1,I1,r,z,q⟩=>⟨by rw [<-r.length];exact z,?_⟩);have hf:H1 s1.heap.objs.size=none:=I1.hok.fresh (AS _);refine ⟨.ref s1.heap.objs.size,upd H1 s1.heap.objs.size (.tup xs),I1.laid (t':=s1.toks) (λb u e=>AF _ e) (AS _) ?_,rfl,q _ hf⟩;exact ⟨⟨z,⟨_,AU _ rfl,rfl⟩⟩,us,r,⟨_,AU _ rfl,rfl,_,rfl⟩⟩
theorem bb (h:PA X es t):PE X (.List es pos) (tLst t):=by
 intro pins s σ H Q I hq;refine wpAny_List_spliced (thn (h pos pins s σ H _ I hq) λus s1 ⟨xs,H1,I1,r,z,q⟩=>⟨by rw [<-r.length];exact z,?_⟩);have hf:H1 s1.heap.objs.size=none:=I1.hok.fresh (AS _);refine ⟨.ref s1.heap.objs.size,upd H1 s1.heap.objs.size (.lst xs),I1.laid (t':=s1.toks) (λb u e=>AF _ e) (AS _) ?_,rfl,q _ hf⟩;exact ⟨z,us,0,r,AU _ rfl⟩
end
abbrev Sp:=List V->Hp->VK->XK->Prop
abbrev CXT:=List Env->Hp->AD->XK->AB->AD->Prop
structure SY (P:Aa) (w:As) (K:AA) (mg:Str->Option AB) (base:BG) (A:Ak) (outer:List Env) (s:AD) (H:Hp):Prop where
 frames:A.frames=some outer
 mod:Mod K mg base
 bs:∀b o,base.get? b=some o->s.heap.get? b=some o/\H b=none
 bsz:base.objs.size<=s.heap.objs.size
 funs:s.heap.FunFrames base outer
 frf:∀b∈frs outer,H b=none
 hok:HOk P w H s.heap
 bare:FW s.gens
def CE (outer:List Env) (P:Aa) (w:As) (H:Hp) (s:AD) (Q:VK) (u:AB) (s':AD):Prop:=
 ∃v H',s'.os=s.os/\FW s'.gens/\Un (frs outer) [] H H' s.heap s'.heap/\HOk P w H' s'.heap/\RelV v u/\Q v H'
def CR (CX:CXT) (outer:List Env) (P:Aa) (w:As) (H:Hp) (s:AD) (Q:VK) (E:XK) (r:aP) (s':AD):Prop:=
 match r with
 | .ok (.ret u)=>CE outer P w H s Q u s'
 | .ok _=>False
 | .error e=>CX outer H s E e s'
structure EE (P:Aa) (w:As) (K:AA) (mg:Str->Option AB) (base:BG) (CX:CXT) (k:Nat) (f:AE) (fd:CQ) (ps:List Str) (sp:Sp):Prop where
 len:∀vs H Q E,sp vs H Q E->vs.length=ps.length
 run:∀(A:Ak) (outer:List Env) (s:AD) (H:Hp) (args:Args) (us:List AB) (vs:List V) (Q:VK) (E:XK),Ey k A->SY P w K mg base A outer s H->RB s fd args (ps.zip us)->BK vs us->sp vs H Q E ->
  Ir (AR P w) A (.call (.ref f) args) (CR CX outer P w H s Q E) s
theorem EE.imp {P:Aa} {w:As} {K:AA} {mg:Str->Option AB} {base:BG} {CX:CXT} {k:Nat} {f:AE} {fd:CQ} {ps:List Str} {sp sp':Sp} (F:EE P w K mg base CX k f fd ps sp)
  (h:∀vs H Q E,sp' vs H Q E->sp vs H Q E):EE P w K mg base CX k f fd ps sp':=
 ⟨λvs H Q E q=>F.len vs H Q E (h _ _ _ _ q),λA outer s H args us vs Q E hr he hb hv hs=>F.run A outer s H args us vs Q E hr he hb hv (h _ _ _ _ hs)⟩
theorem SY.make {P:Aa} {w:As} {K:AA} {mg:Str->Option AB} {base:BG} {A:Ak} {outer:List Env} {s:AD} {H:Hp} (e:SY P w K mg base A outer s H) (C:AE) (us:List AB) (kw:List (Str×AB)) :
  SY P w K mg base (A.under (.builtin "type.__call__" ⟨.ref C :: us,kw⟩)) outer s H:=⟨by first | exact e.frames | (simpa [Pt,Code.envs,RA,pushEnvs] using e.frames),e.mod,e.bs,e.bsz,e.funs,e.frf,e.hok,e.bare⟩
section
variable {X:Cx} {pins:List (AE×Obj)} {σ:St} {H:Hp} {s s':AD}
theorem Inv.env0 (I:Inv X pins σ H s):SY X.prog X.w X.K X.mg X.base X.A X.stack s H:=
 ⟨I.ok.frames,I.ok.mod,I.bs,Aq I.ok.bsz I.sz,I.stack,I.stkFree,I.hok,I.bare⟩
theorem Inv.after {Q:VK} {u:AB} (I:Inv X pins σ H s) (h:CE X.stack X.prog X.w H s Q u s'):EP X pins σ Q u s':=by
 obtain ⟨v,H',os,bare,un,hok,r,q⟩:=h;obtain ⟨hh,g,d,t,os'⟩:=s';obtain rfl:os'=s.os:=os;exact ⟨v,H',I.call (h':=hh) (g':=g) (d':=d) (t':=t) (ch:=[]) un hok bare (λb z=>zX z (by simp)),r,q⟩
end
def dh (sp:Sp) (dvs:List V) (E:St->XK) (t:TA):TE:=λσ H Q=>t σ H λvs H1=>sp (vs++dvs) H1 Q (E σ)
def da (C:AE) (sp:Sp) (dvs:List V) (E:St->XK) (t:TA):TE:=λσ H Q=>t σ H λvs H1=>∀x dx,H1 x=none->H1 dx=none->dx≠x ->
 sp (.ref x :: (vs++dvs)) (upd (upd H1 dx (.own x)) x (.ins C dx [])) (λv H2=>v=.non/\Q (.ref x) H2) (E σ)
def Binds (K:AA) (fd:CQ) (ps:List Str) (ds:List AB):Prop:=
 ∀(s:AD) (us:List AB),K.In s.heap->(us++ds).length=ps.length->RB s fd ⟨us,[]⟩ (ps.zip (us++ds))
theorem Binds.all {K:AA} {fd:CQ} {ps:List Str} (h:∀us:List AB,us.length=ps.length->bindArgs fd ⟨us,[]⟩=pure (ps.zip us)):Binds K fd ps []:=λs us _ hl=>by
 rw [Bd] at hl ⊢;exact .of_eq (h us hl)
def JG (CX:CXT) (X:Cx) (E:St->XK):Prop:=∀(pins:List (AE×Obj)) (σ:St) (H:Hp) (s:AD) (e:AB) (s':AD),Inv X pins σ H s->CX X.stack H s (E σ) e s'->X.xe e s'
section
variable {X:Cx} {CX:CXT} {k:Nat} {f C:AE} {fd:CQ} {ps:List Str} {sp:Sp} {dvs:List V} {ds:List AB} {E:St->XK} {x m:Str} {p pos apos:Pos} {e o:Expr} {es:List Expr} {ta:TE} {t:TA}
theorem bJ {pins:List (AE×Obj)} {σ:St} {H:Hp} {s:AD} {Q:VK} {us:List AB} {vs:List V} (F:EE X.prog X.w X.K X.mg X.base CX k f fd ps sp) (hr:Ey k X.A) (hb:Binds X.K fd ps ds) (hd:BK dvs ds) (hx:JG CX X E)
  (I:Inv X pins σ H s) (r:BK vs us) (h:sp (vs++dvs) H Q (E σ)):Ab (AR X.prog X.w) X.A (call (.ref f) us) (EP X pins σ Q) X.xe s:=by
 have r2:BK (vs++dvs) (us++ds):=r.append hd
 have hl:(us++ds).length=ps.length:=by rw [<-r2.length];exact F.len _ _ _ _ h
 refine Lh (GM (F.run X.A X.stack s H ⟨us,[]⟩ (us++ds) (vs++dvs) Q (E σ) hr I.env0 (hb s us I.kIn hl) r2 h) λr s' hq=>?_)
 cases r with
 | error e=>exact hx pins σ H s e s' I hq
 | ok fl=>
  cases fl with
  | ret u=>exact I.after hq
  | next=>exact CU hq
  | brk=>exact CU hq
  | cont=>exact CU hq
theorem Y9 (F:EE X.prog X.w X.K X.mg X.base CX k f fd ps sp) (hr:Ey k X.A) (hg:Gl X x) (hm:X.mg x=some (.ref f)) (hk:D0 X.K (.ref f)=true) (hb:Binds X.K fd ps ds) (hd:BK dvs ds) (hx:JG CX X E)
  (ha:PA X (e :: es) t) (hdb:(x==("__debug__" : Str))=false:=by decide) (he:AN (e :: es) X.env=(false,Ba e X.env) :: AN es X.env:=by rfl) (hpl:(Bi pos (AN es X.env)).any (·.1)=false:=by rfl) :
  PE X (.Call (.Name x p) (e :: es) [] pos) (dh sp dvs E t):=by
 intro pins s σ H Q I h;refine EL (La I hg hm ?_ hdb);refine RJ (h₀:=X.base) I.ok.mod.kin hk (thn (ha pos pins s σ H _ I h) λus s1 ⟨vs,H1,I1,r,q⟩=>⟨I1.kIn,?_⟩) he hpl;exact bJ F hr hb hd hx I1 r q
structure Mk (K:AA) (C f:AE):Prop where
 makes:Vf K C=true
 init:BY K (.ref C) "__init__" = some (some (.ref f))
 fn:PySem.W.isFn K (.ref f)=true
 kp:D0 K (.ref C)=true
theorem WT {pins:List (AE×Obj)} {σ:St} {H:Hp} {s:AD} {Q:VK} {us:List AB} {vs:List V} (M:Mk X.K C f) (F:EE X.prog X.w X.K X.mg X.base CX k f fd ps sp) (hr:Ey (k+1) X.A) (hb:Binds X.K fd ps ds) (hd:BK dvs ds)
  (hx:JG CX X E) (I:Inv X pins σ H s) (r:BK vs us)
  (h:∀x dx,H x=none->H dx=none->dx≠x->sp (.ref x :: (vs++dvs)) (upd (upd H dx (.own x)) x (.ins C dx [])) (λv H2=>v=.non/\Q (.ref x) H2) (E σ)) :
  Ab (AR X.prog X.w) X.A (call (.ref C) us) (EP X pins σ Q) X.xe s:=by
 have hq:=h (s.heap.objs.size+1) s.heap.objs.size (I.hok.fresh (ND _)) (I.hok.fresh (AS _)) (Ag (Co _));have I2:=Inv.made (C:=C) I;have r2:BK (V.ref (s.heap.objs.size+1) :: (vs++dvs)) (Ap (s.heap.objs.size+1) :: (us++ds)):=.cons rfl (r.append hd)
 have hl:(Ap (s.heap.objs.size+1) :: us++ds).length=ps.length:=by
  have e:=r2.length;rw [F.len _ _ _ _ hq] at e;exact e.symm
 refine Lh (W6 (f:=f) I.kIn M.makes M.init (beq_iff_eq.mp M.fn) (GM (F.run _ X.stack _ _ ⟨Ap (s.heap.objs.size+1) :: us,[]⟩ (Ap (s.heap.objs.size+1) :: (us++ds)) _ _ (E σ) (hr.make C us [])
  (I2.env0.make C us []) (hb _ (Ap (s.heap.objs.size+1) :: us) I2.kIn hl) r2 hq) λr s' hq'=>?_))
 cases r with
 | error e=>exact hx pins σ _ _ e s' I2 hq'
 | ok fl=>
  cases fl with
  | ret u=>
   obtain ⟨v,H',I3,rv,ev,q3⟩:=I2.after hq';subst ev;exact ⟨rv,⟨V.ref (s.heap.objs.size+1),H',I3,rfl,q3⟩⟩
  | next=>exact CU hq'
  | brk=>exact CU hq'
  | cont=>exact CU hq'
theorem Y5 (M:Mk X.K C f) (F:EE X.prog X.w X.K X.mg X.base CX k f fd ps sp) (hr:Ey (k+1) X.A) (hg:Gl X x) (hm:X.mg x=some (.ref C)) (hb:Binds X.K fd ps ds) (hd:BK dvs ds) (hx:JG CX X E)
  (ha:PA X (e :: es) t) (hdb:(x==("__debug__" : Str))=false:=by decide) (he:AN (e :: es) X.env=(false,Ba e X.env) :: AN es X.env:=by rfl) (hpl:(Bi pos (AN es X.env)).any (·.1)=false:=by rfl) :
  PE X (.Call (.Name x p) (e :: es) [] pos) (da C sp dvs E t):=by
 intro pins s σ H Q I h;refine EL (La I hg hm ?_ hdb);refine RJ (h₀:=X.base) I.ok.mod.kin M.kp (thn (ha pos pins s σ H _ I h) λus s1 ⟨vs,H1,I1,r,q⟩=>⟨I1.kIn,?_⟩) he hpl;exact WT M F hr hb hd hx I1 r q
end
section
variable {X:Cx} {CX:CXT} {k:Nat} {f C:AE} {fd:CQ} {ps ks:List Str} {sp:Sp} {E:St->XK} {x m:Str} {p pos apos kpos:Pos} {e o:Expr} {es:List Expr} {kws:List FU} {te ta:TE} {t tk:TA} {nm:Option Str}
variable {g:List AB->List AB->List AB} {gV:List V->List V->List V}
end
structure CH (N P:List Str) (sc:Fb):Prop where
 kind:sc.kind=.function
 co:sc.isCoroutine=false
 gen:sc.isGenerator=false
 nd:N.Nodup
 pre:N.take P.length=P
 par:∀x∈P,sc.names.lookup x=some .local∨sc.names.lookup x=some .cell
 nofree:∀y∈sc.names,y.2≠.free
theorem OQ {kindOf:Str->Option NJ} {x:Str}:∀ {binds:List (Str×AB)} {m:Str->Option AB},(∀v,(x,v)∉binds)->Vd kindOf binds m x=m x
 | [],_,_=>rfl
 | (n,v) :: r,m,h=>by
  unfold Vd;rw [OQ λw hw=>h w (AV _ hw)];split
  ·have:x≠n:=by rintro rfl;exact h v Ae
   simp [this]
  ·rfl
theorem OS {kindOf:Str->Option NJ} {x:Str}:∀ {binds:List (Str×AB)} {m:Str->Option AB},(∀v,(x,v)∉binds)->Ve kindOf binds m x=m x
 | [],_,_=>rfl
 | (n,v) :: r,m,h=>by
  unfold Ve;rw [OS λw hw=>h w (AV _ hw)];split
  ·rfl
  ·have:x≠n:=by rintro rfl;exact h v Ae
   simp [this]
theorem OR {kindOf:Str->Option NJ} {x:Str} {v:AB}:∀ {P:List Str} {vs:List AB} {i:Nat} {m:Str->Option AB},P.Nodup->P[i]?=some x->vs[i]?=some v->kindOf x=some .local ->
  Vd kindOf (P.zip vs) m x=some v
 | [],_,_,_,_,h,_,_=>by simp at h
 | _ :: _,[],_,_,_,_,h,_=>by simp at h
 | p :: P,w :: vs,0,m,nd,h1,h2,hk=>by
  simp at h1 h2;subst h1;subst h2;show Vd kindOf ((p,w) :: P.zip vs) m p=_;unfold Vd;rw [OQ λv hv=>(Hq.mp nd).1 (NF hv).1,qX hk];simp
 | p :: P,w :: vs,i+1,m,nd,h1,h2,hk=>by
  show Vd kindOf ((p,w) :: P.zip vs) m x=_;unfold Vd;exact OR (i:=i) (Hq.mp nd).2 (by simpa using h1) (by simpa using h2) hk
theorem OT {kindOf:Str->Option NJ} {x:Str} {v:AB}:∀ {P:List Str} {vs:List AB} {i:Nat} {m:Str->Option AB},P.Nodup->P[i]?=some x->vs[i]?=some v->kindOf x≠some .local ->
  Ve kindOf (P.zip vs) m x=some v
 | [],_,_,_,_,h,_,_=>by simp at h
 | _ :: _,[],_,_,_,_,h,_=>by simp at h
 | p :: P,w :: vs,0,m,nd,h1,h2,hk=>by
  simp at h1 h2;subst h1;subst h2;show Ve kindOf ((p,w) :: P.zip vs) m p=_;unfold Ve;rw [OS λv hv=>(Hq.mp nd).1 (NF hv).1,qY hk];simp
 | p :: P,w :: vs,i+1,m,nd,h1,h2,hk=>by
  show Ve kindOf ((p,w) :: P.zip vs) m x=_;unfold Ve;exact OT (i:=i) (Hq.mp nd).2 (by simpa using h1) (by simpa using h2) hk
def start (N:List Str) (vs:List V):St:=vs.map some++A4 (N.length - vs.length) none
def Pa (CX:CXT) (P:Aa) (w:As) (K:AA) (mg:Str->Option AB) (base:BG) (N:List Str) (qual:Str) (scope:Fb) (f:AE) (cd:AB) (A:Ak) (outer:List Env) (s:AD) (H:Hp) (E:XK):Cx where
 prog:=P
 w:=w
 K:=K
 mg:=mg
 base:=base
 A:=A.deeper (Iq qual scope s.heap.objs.size f cd)
 N:=N
 s₀:=s
 H₀:=H
 env:=Iq qual scope s.heap.objs.size f cd
 outer:=outer
 stack:=Iq qual scope s.heap.objs.size f cd :: outer
 ex:=[]
 calm:=true
 fn:=λ_=>true
 pn:=[]
 xe:=λe s'=>Ab (AR P w) (A.deeper (Iq qual scope s.heap.objs.size f cd)) (leaving (Iq qual scope s.heap.objs.size f cd) e) (λ_ s''=>CX outer H s E e s'') (λe' s''=>CX outer H s E e' s'') s'
theorem Qu {sc:Fb} {n:Nat} {x:Str} (h:sc.names.lookup x=some .cell):∃c,(dB n sc.names []).lookup x=some c:=by
 have q:=Oc sc.names n [] (.inl h);exact Nj.mp q
theorem Ux {CX:CXT} {P:Aa} {w:As} {K:AA} {mg:Str->Option AB} {base:BG} {N ps:List Str} {qual:Str} {scope:Fb} {f:AE} {cd:AB} {A:Ak} {outer:List Env} {s s1:AD} {H:Hp} {E:XK} {us:List AB} {vs:List V}
  (S:CH N ps scope) (hd:A.handled=none) (e0:SY P w K mg base A outer s H) (hl:vs.length=ps.length) (r:BK vs us)
  (x:InCallC s s.heap.objs.size (Vd (Iq qual scope s.heap.objs.size f cd).kindOf (ps.zip us) λ_=>none) (dB (s.heap.objs.size+1) scope.names []) (Ve (Iq qual scope s.heap.objs.size f cd).kindOf (ps.zip us) λ_=>none) s1) :
  Inv (Pa CX P w K mg base N qual scope f cd A outer s H E) [] (start N vs) H s1:=by
 have hpl:ps.length<=N.length:=by have:=congrArg GP S.pre;rw [Ci] at this;lia
 obtain ⟨h1,tk,rfl,hk⟩:=x.done
 have noA:∀b:AE,b∉(Pa CX P w K mg base N qual scope f cd A outer s H E).ex:=λb z=>zX (show b∈([]:List AE) from z) (by simp)
 refine ⟨⟨e0.mod,S.kind,rfl,rfl,AS _,λy z c h1 h2=>?_,λy hy=>?_,λy c _ h=>?_,λ_=>hd,Ak.frames_deeper e0.frames,.inr ⟨rfl,rfl⟩,λb z=>zX z (noA b),e0.bs,e0.bsz,λb _ _=>noA b,λb z=>zX z (noA b),e0.funs,e0.frf⟩,
  rfl,e0.bare,Un.kept hk,⟨_,x.toInCall.ns,λi y v h1 h2 h3=>?_⟩,λy c h=>⟨_,x.cell y c h⟩,e0.hok.fresh (AS _),λy c h=>?_,λp hp=>zX (show p∈([]:List (AE×Obj)) from hp) (by simp),e0.hok.kept hk,?_⟩
 ·exact name_of_addr x.apart (Ce h1) (Ce h2)
 ·have hy:scope.names.lookup y=some .cell∨scope.names.lookup y=some .free:=hy
  rcases hy with hy | hy
  ·exact Qu hy
  ·exact zX rfl (S.nofree _ (Ce hy))
 ·exact RK (x.above y c (Ce h))
 ·have hi:i < vs.length:=by
   unfold start at h2
   by_cases hi:i < vs.length
   ·exact hi
   ·rw [A5 (by simpa using hi)] at h2
    rw [B0] at h2
    split at h2 <;> cases h2
  have ha:vs[i]?=some v:=by
   unfold start at h2;rw [Ad (by simpa using hi),Ao] at h2
   cases e:vs[i]? with
   | none=>rw [e] at h2;cases h2
   | some a=>rw [e] at h2;cases h2;rfl
  obtain ⟨u,hu,rv⟩:=r.get ha
  have hp:ps[i]?=some y:=by
   rw [<-S.pre,Ps (by lia)];exact h1
  have ndP:ps.Nodup:=by rw [<-S.pre];exact S.nd.sublist (Vt _ _)
  refine ⟨u,rv,?_⟩
  rcases S.par y (DS hp) with k | k
  ·exact .inl ⟨k,OR ndP hp hu k⟩
  ·obtain ⟨c,e⟩:=Qu (n:=s.heap.objs.size+1) k
   refine .inr ⟨.inl k,c,e,?_⟩;have q:=x.cell y c e;rw [OT ndP hp hu (by show scope.names.lookup y≠_;rw [k];decide)] at q;exact q
 ·exact e0.hok.fresh (RK (x.above y c (Ce h)))
 ·unfold start
  show _=N.length;rw [At,AK,IT]
  lia
theorem ez {CX:CXT} {P:Aa} {w:As} {K:AA} {mg:Str->Option AB} {base:BG} {k:Nat} {f:AE} {name qual:Str} {params:Arguments} {body:List CW} {scope:Fb} {dV kV doc pm cdv ct oc:AB} {an od:Option AE}
  {osl:Array (Option AB)} {N ps:List Str} {sp:Sp} (lk:K.lookup f=some ⟨oc,od,.func (E3 name qual params body scope dV kV doc pm an cdv ct),osl⟩) (hcd:Lm K cdv qual=true) (S:CH N ps scope)
  (len:∀vs H Q E,sp vs H Q E->vs.length=ps.length)
  (hbody:∀(A:Ak) (outer:List Env) (s:AD) (H:Hp) (vs:List V) (Q:VK) (E:XK),Ey k (A.deeper (Iq qual scope s.heap.objs.size f cdv))->sp vs H Q E ->
   ∃t,PSs (Pa CX P w K mg base N qual scope f cdv A outer s H E) body t/\t { nx:=λ_ H'=>Q .non H',rt:=Q } (start N vs) H) :
  EE P w K mg base CX (k+1) f (E3 name qual params body scope dV kV doc pm an cdv ct) ps sp:=by
 refine ⟨len,λA outer s H args us vs Q E hr e0 hb r hsp=>?_⟩;have hl:=len _ _ _ _ hsp
 have KX:K.In s.heap:=e0.mod.kin.keeps λb o e=>(e0.bs b o e).1
 have lim:s.heap.NoLimit:=e0.mod.nolimit.keeps λb o e=>(e0.bs b o e).1
 have hkind:∀y∈ps.zip us,scope.names.lookup y.1=some .local∨(scope.names.lookup y.1=some .cell/\((dB (s.heap.objs.size+1) scope.names []).lookup y.1).isSome=true):=λ⟨n,v⟩ hy=>by
  rcases S.par n (NF hy).1 with q | q
  ·exact .inl q
  ·exact .inr ⟨q,Oc _ _ _ (.inl q)⟩
 refine codeAny_call_function hr.depth (KX _ _ lk) rfl S.co S.gen rfl (PySem.W.codeRec_of KX hcd) (hb _ _ _ _ ?_)
 refine wpAny_newFunctionEnv_cells S.kind hkind λenv he s1 x=>?_
 subst he;refine ⟨lim.keeps x.toInCall.keep,codeAny_func ?_⟩;obtain ⟨t,ht,hq⟩:=hbody A outer s H vs Q E (hr.deeper _) hsp;have I:Inv (Pa CX P w K mg base N qual scope f cdv A outer s H E) [] (start N vs) H s1:=Ux S hr.hd e0 hl r x
 refine Cm (ht [] s1 (start N vs) H _ I hq) (λfl s' hs=>?_) λe s' hs=>hs
 have fin:∀ {σ':St} {H':Hp} {v:V} {u:AB},Inv (Pa CX P w K mg base N qual scope f cdv A outer s H E) [] σ' H' s'->RelV v u->Q v H'->CE outer P w H s Q u s':=
  λ{σ' H' v u} J rv q=>⟨v,H',J.os,J.bare,J.base,J.hok,rv,q⟩
 cases fl with
 | ret u=>
  obtain ⟨v,σ',H',J,rv,q⟩:=hs;exact fin J rv q
 | next=>
  obtain ⟨σ',H',J,q⟩:=hs;exact fin (v:=V.non) (u:=BF) J rfl q
 | brk=>
  obtain ⟨_,_,_,q⟩:=hs;exact CU q
 | cont=>
  obtain ⟨_,_,_,q⟩:=hs;exact CU q
section
variable {X:Cx} {x:Str} {p pos:Pos} {e:Expr} {es:List Expr} {t:TA} {id T:String} {r:List V->Hp->VK->Prop}
def tCB (r:List V->Hp->VK->Prop) (t:TA):TE:=λσ H Q=>t σ H λvs H1=>r vs H1 Q
theorem Gg (hc:Ej X (.builtin id) r) (hg:Gl X x) (hm:X.mg x=none) (hv:Dy x=some (.builtin id)) (ha:PA X (e :: es) t) (hn:x≠"__name__":=by decide) (hdb:(x==("__debug__" : Str))=false:=by decide)
  (he:AN (e :: es) X.env=(false,Ba e X.env) :: AN es X.env:=by rfl) (hpl:(Bi pos (AN es X.env)).any (·.1)=false:=by rfl):PE X (.Call (.Name x p) (e :: es) [] pos) (tCB r t):=by
 intro pins s σ H Q I h;refine EL (Mo I hg hm hv ?_ hn hdb);exact fL (thn (ha pos pins s σ H _ I h) λus s1 ⟨vs,H1,I1,r1,q1⟩=>hc pins s1 σ H1 vs us Q I1 r1 q1) he hpl
theorem KS (hc:Ej X (.type T) r) (hg:Gl X x) (hm:X.mg x=none) (hv:Dy x=some (.type T)) (ha:PA X (e :: es) t) (hn:x≠"__name__":=by decide) (hdb:(x==("__debug__" : Str))=false:=by decide)
  (he:AN (e :: es) X.env=(false,Ba e X.env) :: AN es X.env:=by rfl) (hpl:(Bi pos (AN es X.env)).any (·.1)=false:=by rfl):PE X (.Call (.Name x p) (e :: es) [] pos) (tCB r t):=by
 intro pins s σ H Q I h;refine EL (Mo I hg hm hv ?_ hn hdb);exact JP (thn (ha pos pins s σ H _ I h) λus s1 ⟨vs,H1,I1,r1,q1⟩=>hc pins s1 σ H1 vs us Q I1 r1 q1) he hpl
end
end L2
namespace HT
open PySem PyProof.Rows
def lexLt:List Int->List Int->Bool
 | [],[]=>false
 | [],_ :: _=>true
 | _ :: _,[]=>false
 | x :: xs,y :: ys=>if x=y then lexLt xs ys else decide (x < y)
theorem R6 (x y:Int) (xs ys:List Int):lexLt (x :: xs) (y :: ys)=if x=y then lexLt xs ys else decide (x < y):=rfl
theorem NZ:lexLt [] []=false:=rfl
theorem Mm (y:Int) (ys:List Int):lexLt [] (y :: ys)=true:=rfl
theorem Mn (x:Int) (xs:List Int):lexLt (x :: xs) []=false:=rfl
theorem Xo (A:Ak) (s:AD) (a:Int) (t:Tok) (c:Int) (u:Tok):∃e,SeqAt.EqAt A s (.int a t) (.int c u) e/\(e=true↔a=c):=
 ⟨(a==c),SeqAt.EqAt.int_int a t c u,by simp⟩
theorem WV (A:Ak) (s:AD) (a:Int) (t:Tok) (c:Int) (u:Tok) (prog:Aa) (w:As) (E:AB->AD->Prop) (Q:AB->AD->Prop) (h:Q (.bool (decide (a < c))) s) :
  Ab (AR prog w) A (richCompare .Lt (.int a t) (.int c u)) Q E s:=
 (fJ h:Ab (AR prog w) A (A8 .Lt (.int a t) (.int c u)) Q E s)
section
open PySem.SeqAt
open PySem.AutoSeq1 (wpAny_loadPart')
open PySem.MeetsSeq PySem.MeetsSeq2 PySem.MeetsSeq3
theorem NR (l b:AE) (items items2:Array AB) (n n2:Nat) (dd dd2:Option AE) (sl sl2:Array (Option AB)) (ns ms:List Int) (hi:B1 items.toList ns) (hj:B1 items2.toList ms) :
  Meets (Builtin.«tuple.__lt__» ⟨[.ref l,.ref b],[]⟩)
   (λ_ R s=>s.heap.get? l=some { cls:=.type "tuple",dict:=dd,data:=.seq items n,slots:=sl }/\s.heap.get? b=some { cls:=.type "tuple",dict:=dd2,data:=.seq items2 n2,slots:=sl2 } /\
    R (.ok (.ret (.bool (lexLt ns ms)))) s):=
 .of_wp λprog w A R s h=>by
  obtain ⟨hp,g,d,tk,os⟩:=s;obtain ⟨hl,hb,h⟩:=h;have f2:=AutoSeq1.sub_tuple_tuple
  have z1:items.size=ns.length:=by rw [<-hi.length];simp
  have z2:items2.size=ms.length:=by rw [<-hj.length];simp
  wp_walk using EG hl,EG hb,wpAny_forIn_list _ (λrest b s'=>b.1=none/\s'=⟨hp,g,d,tk,os⟩/\∃(vs ws:List AB) (ns' ms':List Int),rest=vs.zip ws /\
   B1 vs ns'/\B1 ws ms'/\ns'.length+items2.size=ms'.length+items.size/\R (.ok (.ret (.bool (lexLt ns' ms')))) ⟨hp,g,d,tk,os⟩) _
  case turn=>
   rintro ⟨y,x⟩ rest b s' ⟨hb',rfl,vs,ws,ns',ms',hz,hvi,hwi,hlen,hR⟩
   cases hvi with
   | nil=>rw [Vr] at hz;cases hz
   | cons a t hvi'=>
    cases hwi with
    | nil=>rw [Vk] at hz;cases hz
    | cons c u hwi'=>
     rw [J9] at hz
     injection hz with hyx hrest
     injection hyx with hy hx
     subst hy hx;rw [R6] at hR;simp only [Af] at hlen;obtain ⟨e,he,hiff⟩:=Xo A.in1 ⟨hp,g,d,tk,os⟩ a t c u;refine AC (he prog w _ _ ?_)
     cases e with
     | true=>
      rw [qX (hiff.mp rfl)] at hR
      wp_walk
      exact ⟨rfl,rfl,_,_,_,_,hrest,hvi',hwi',by lia,hR⟩
     | false=>
      rw [qY (λq=>zX (hiff.mpr q) AW)] at hR;have hri:=WV A.in1 ⟨hp,g,d,tk,os⟩ a t c u prog w
      wp_walk using hri
      exact ⟨_,rfl,by simpa using hR⟩
  case fin=>
   rintro ⟨b1,b2⟩ s' ⟨hb',rfl,vs,ws,ns',ms',hz,hvi,hwi,hlen,hR⟩;simp only at hb';subst hb'
   have hv:lexLt ns' ms'=decide (items.size < items2.size):=by
    cases hvi with
    | nil=>
     cases hwi with
     | nil=>
      simp only [C3] at hlen;rw [NZ];exact (wY (by lia)).symm
     | cons c u hw=>
      simp only [C3,Af] at hlen;rw [Mm];exact (wX (by lia)).symm
    | cons a t hv=>
     cases hwi with
     | nil=>
      simp only [C3,Af] at hlen;rw [Mn];exact (wY (by lia)).symm
     | cons c u hw=>
      rw [J9] at hz;cases hz
   rw [hv] at hR
   wp_walk
   exact ⟨_,rfl,by simpa [dM] using hR⟩
  case h=>
   exact ⟨rfl,rfl,items.toList,items2.toList,ns,ms,rfl,hi,hj,by lia,h⟩
end
section
variable {prog:Aa} {w:As} {A:Ak} {E:AB->AD->Prop} {s:AD}
theorem R5 {l b:AE} {items items2:Array AB} {ns ms:List Int} {Q:AB->AD->Prop} (hl:Vm s.heap l items) (hb:Vm s.heap b items2) (hi:B1 items.toList ns) (hj:B1 items2.toList ms)
  (hu:A.units < Cy) (h:Q (.bool (lexLt ns ms)) s):Ab (AR prog w) A (A8 .Lt (.ref l) (.ref b)) Q E s:=by
 obtain ⟨⟨cls,dd,data,sl⟩,ho,hc,n,hd⟩:=id hl;obtain ⟨⟨cls2,dd2,data2,sl2⟩,ho2,hc2,n2,hd2⟩:=id hb;simp only at hc hd hc2 hd2;subst hc hd hc2 hd2
 exact richCompare_meets_room (op:=.Lt) ⟨_,ho,rfl⟩ ⟨_,ho2,rfl⟩ PySem.F.slot_tuple_lt PySem.F.entry_tuple_lt (PySem.F.args_tuple_lt_2 _ _) (NR l b items items2 n n2 dd dd2 sl sl2 ns ms hi hj)
  ⟨ho,ho2,show Hb (lexLt ns ms)≠AB.notImplemented/\Q (.bool (lexLt ns ms)) s from ⟨(λx=>nomatch x),h⟩⟩ hu
theorem Zj {t b:AE} {vs ws:List AB} {Q:AB->AD->Prop} (ht:Vm s.heap t vs.toArray) (hb:Vm s.heap b ws.toArray) (hv:vs≠[])
  (h1:ws=[]->Q (.ref t) s) (h2:ws≠[]->Q (.ref s.heap.objs.size) { s with heap:=s.heap.push { cls:=.type "tuple",data:=.seq (vs++ws).toArray } })
  (hsz:vs.length+ws.length<=sizeLine):Ab (AR prog w) A (Dj .Add (.ref t) (.ref b)) Q E s:=by
 obtain ⟨⟨cls,dd,data,sl⟩,ho,hc,n,hd⟩:=id ht;obtain ⟨⟨cls2,dd2,data2,sl2⟩,ho2,hc2,n2,hd2⟩:=id hb;simp only at hc hd hc2 hd2;subst hc hd hc2 hd2
 have e:vs.toArray++ws.toArray=(vs++ws).toArray:=by simp
 by_cases hw:ws=[]
 ·exact Vp ⟨_,ho,rfl⟩ ⟨_,ho2,rfl⟩ OZ UE Gy GN (Ft _ _)
   (tuple_addW1 t b vs.toArray ws.toArray n n2 dd dd2 sl sl2 (by simpa using hv) (by simp [hw])) ⟨ho,ho2,h1 hw⟩
 ·refine Vp ⟨_,ho,rfl⟩ ⟨_,ho2,rfl⟩ OZ UE Gy GN (Ft _ _)
   (tuple_addW2 t b vs.toArray ws.toArray n n2 dd dd2 sl sl2 (by simpa using hv) (by simpa using hw) (by rw [AZ,AZ];exact hsz)) ⟨ho,ho2,?_⟩
  rw [e];exact h2 hw
def sIx (n d:Nat):Option Int->Nat
 | none=>d
 | some v=>if v < 0 then (v+(n:Int)).toNat else min v.toNat n
theorem WS (n d:Nat):sIx n d none=d:=rfl
theorem Yk (n d k:Nat):sIx n d (some (k:Int))=min k n:=by
 show (if (k:Int) < 0 then ((k:Int)+(n:Int)).toNat else min (k:Int).toNat n)=min k n;rw [qY (by lia),Bj]
theorem bH (n d:Nat) (hd:d<=n) (o:Option Int):sIx n d o<=n:=by
 cases o with
 | none=>exact hd
 | some v=>
  show (if v < 0 then (v+(n:Int)).toNat else min v.toNat n)<=n
  by_cases hv:v < 0
  ·rw [qX hv];lia
  ·rw [qY hv];exact YH _ _
theorem T3 (v:Int) (n d:Nat):(if v < 0 then max (v+(n:Int)) 0 else min v (n:Int))=((sIx n d (some v):Nat):Int):=by
 show (if v < 0 then max (v+(n:Int)) 0 else min v (n:Int))=(((if v < 0 then (v+(n:Int)).toNat else min v.toNat n):Nat):Int)
 by_cases hv:v < 0
 ·simp only [qX hv];lia
 ·simp only [qY hv];lia
theorem SV (lo hi:Option Int) (n:Nat):Ev lo hi 1 (n:Int)=(((sIx n 0 lo:Nat):Int),((sIx n n hi:Nat):Int)):=by
 have h1:¬((1:Int) < 0):=by lia
 unfold Ev;simp only [h1,if_false];refine Ni ?_ ?_
 ·cases lo with
  | none=>rfl
  | some v=>exact T3 v n 0
 ·cases hi with
  | none=>rfl
  | some v=>exact T3 v n n
theorem Rt (i j:Nat):C4 (i:Int) (j:Int) 1=j - i:=by
 unfold C4
 have h1:(1:Int) > 0:=by lia
 simp only [h1,if_true,Int.ediv_one]
 split <;> lia
theorem MM {v:AB} {o:Option Int} {Q:Option Int->AD->Prop} (p:Oh v o) (h:Q o s):Ab (AR prog w) A (dN v) Q E s:=by
 cases p with
 | none=>exact slicePart_none h
 | int i t=>exact slicePart_int h
theorem KN {sl:AE} {vl vu:AB} {lo hi:Option Int} {n:Nat} {Q:Int×Int×Nat->AD->Prop} (hs:s.heap.IsSliceOf sl vl vu .none) (pl:Oh vl lo) (pu:Oh vu hi)
  (h:Q (((sIx n 0 lo:Nat):Int),1,sIx n n hi - sIx n 0 lo) s):Ab (AR prog w) A (JQ (.ref sl) (pure (n:Int))) Q E s:=by
 obtain ⟨os,hos,hcs,hds⟩:=id hs;unfold JQ dO;refine AC (AC (Di hos hds (x:=vl) rfl (AC (Di hos hds (x:=vu) rfl (AC (Di hos hds (x:=.none) rfl (AH ?_)))))));refine AC (slicePart_none ?_);show Ab _ _ (if ((1:Int)==0)=true then _ else _) _ _ s;rw [qY (by decide)];refine AC (MM pl (AC (MM pu (AC (AH ?_)))));show Ab _ _ (match Ev lo hi 1 (n:Int) with | (lo,hi)=>pure (lo,(1:Int),C4 lo hi 1)) _ _ s;rw [SV lo hi n];show Ab _ _ (pure (((sIx n 0 lo:Nat):Int),(1:Int),C4 ((sIx n 0 lo:Nat):Int) ((sIx n n hi:Nat):Int) 1)) _ _ s;rw [Rt];exact AH h
theorem Wm (xs:Array AB) (i k:Nat):((Be k).filterMap λ(m:Nat)=>xs[((i:Int)+(m:Int) * 1).toNat]?).toArray=((xs.toList.drop i).take k).toArray:=by
 have e:(λ(m:Nat)=>xs[((i:Int)+(m:Int) * 1).toNat]?)=λm=>xs[i+m]?:=by
  funext m
  have:((i:Int)+(m:Int) * 1).toNat=i+m:=by lia
  rw [this]
 rw [e];have:=pick_run xs i k;rw [List.filterMap_map] at this
 have e2:((λx=>xs[x]?)∘λx=>i+x)=λm=>xs[i+m]?:=rfl
 rw [e2] at this;rw [this]
theorem Jw {t sl:AE} {items:Array AB} {vl vu:AB} {lo hi:Option Int} {Q:AB->AD->Prop} (ht:Vm s.heap t items) (hs:s.heap.IsSliceOf sl vl vu .none) (pl:Oh vl lo) (pu:Oh vu hi)
  (hw:¬(sIx items.size 0 lo=0/\sIx items.size items.size hi=items.size))
  (h:Q (.ref s.heap.objs.size) { s with heap:=s.heap.push { cls:=.type "tuple",data:=.seq ((items.toList.drop (sIx items.size 0 lo)).take (sIx items.size items.size hi - sIx items.size 0 lo)).toArray } })
  (hsz:items.size<=sizeLine):Ab (AR prog w) A (Kh (.ref t) (.ref sl)) Q E s:=by
 have htake:sizeOk (.seq ((items.toList.drop (sIx items.size 0 lo)).take (sIx items.size items.size hi - sIx items.size 0 lo)).toArray):=by
  show ((items.toList.drop (sIx items.size 0 lo)).take (sIx items.size items.size hi - sIx items.size 0 lo)).toArray.size<=sizeLine;rw [AZ,Ci,Em,BB];omega
 have hj:sIx items.size items.size hi<=items.size:=bH _ _ (AS _) hi;obtain ⟨os,hos,hcs,hds⟩:=id hs;have hTs:s.TypeIs (.ref sl) "slice":=⟨os,hos,hcs⟩;unfold Kh
 try with_reducible refine Cn ?_
 first | refine AC (AH ?_) | skip
 refine AC (wpAny_sequenceKey ht.typeIs (by decide) ?_)
 refine AC (EY (name:=Fa "__getitem__") ht.typeIs Do
  (Dw Do ht.typeIs entry_tuple_getitem ?_ (args_tuple_getitem _ _)))
 show Ab _ _ (dL (.ref t) >>= _) _ _ s;refine AC (tupleItemsOf_ ht ?_);refine AC (wpAny_typeOf hTs ?_);rw [qX (by decide)];refine AC (KN hs pl pu ?_)
 have hno:¬((((sIx items.size 0 lo:Nat):Int)==0&&(1:Int)==1&&(sIx items.size items.size hi - sIx items.size 0 lo)==items.size)=true):=by
  intro q;rw [Br,Br] at q;have q1:((sIx items.size 0 lo:Nat):Int)=0:=eq_of_beq q.1.1;have q2:sIx items.size items.size hi - sIx items.size 0 lo=items.size:=eq_of_beq q.2;exact hw ⟨by lia,by omega⟩
 show Ab _ _ (if (((sIx items.size 0 lo:Nat):Int)==0&&(1:Int)==1&&(sIx items.size items.size hi - sIx items.size 0 lo)==items.size)=true then _ else _) _ _ s;rw [qY hno,Wm]
 first
  | exact AC (m:=DF _) (Bk (AH ⟨_,rfl,AH h⟩) htake)
  | exact AC (m:=DF _) (Bk (AC (AH (AH ⟨_,rfl,AH h⟩))) htake)
  | exact AC (AC (m:=DF _) (Bk (AH (AH ⟨_,rfl,AH h⟩)) htake))
  | exact AC (AC (m:=DF _) (Bk (AH ⟨_,rfl,AH h⟩) htake))
end
end HT
namespace L2
open PySem PySem.Spec PyProof.Rows
abbrev TO:=St->Hp->(Option Int->Hp->Prop)->Prop
def PO (X:Cx) (e:Option Expr) (t:TO):Prop:=
 ∀(pins:List (AE×Obj)) (s:AD) (σ:St) (H:Hp) (Q:Option Int->Hp->Prop),Inv X pins σ H s->t σ H Q ->
  Ab (AR X.prog X.w) X.A (evalPart e X.env) (λu s'=>∃o H',Inv X pins σ H' s'/\Oh u o/\Q o H') X.xe s
def Yd:TO:=λ_ H Q=>Q none H
def dY (t:TE):TO:=λσ H Q=>t σ H λx H1=>∃i,x=.int i/\Q (some i) H1
theorem intsAre_of {ns:List Int}:∀ {us:List AB},BK (ns.map V.int) us->B1 us ns:=by
 induction ns with
 | nil=>intro us r;rw [Hi] at r;cases r;exact .nil
 | cons n ns ih=>
  intro us r;rw [Ai] at r
  cases r with
  | cons r1 r2=>
   obtain ⟨t,e⟩:=r1;subst e;exact .cons n t (ih r2)
section
variable {κ:Type} [DecidableEq κ]
def Hv (kvs:List (κ×V)) (k:κ):Option V:=(kvs.find? λkv=>decide (kv.1=k)).map (·.2)
def Hc (kvs:List (κ×V)) (k:κ) (v:V):List (κ×V):=
 if (kvs.any λkv=>decide (kv.1=k))=true then kvs.map (λkv=>if kv.1=k then (kv.1,v) else kv) else kvs++[(k,v)]
theorem MA {p:κ×V} {r:List (κ×V)} {k:κ} (e:p.1=k):Hv (p :: r) k=some p.2:=by simp [Hv,B2,e]
theorem MB {p:κ×V} {r:List (κ×V)} {k:κ} (e:¬p.1=k):Hv (p :: r) k=Hv r k:=by simp [Hv,B2,e]
theorem P4 (k:κ):∀kvs:List (κ×V),(kvs.any λkv=>decide (kv.1=k))=(Hv kvs k).isSome
 | []=>rfl
 | p :: r=>by
  rw [Eu]
  by_cases e:p.1=k
  ·simp only [MA e,wX e,Bool.true_or,Option.isSome_some]
  ·rw [MB e,wY e,aV];exact P4 k r
theorem Ks (kvs:List (κ×V)) (k:κ) (v:V):(Hc kvs k v).length<=kvs.length+1:=by
 unfold Hc;split
 ·rw [AK];lia
 ·rw [At,Af,C3];lia
theorem Kg.isSome_eq {o:Option V} {u:Option AB} (r:Kg o u):o.isSome=u.isSome:=by
 cases o with
 | none=>cases u with
  | none=>rfl
  | some _=>exact (show False from r).elim
 | some _=>cases u with
  | none=>exact (show False from r).elim
  | some _=>rfl
theorem KV.val {kvs:List (κ×V)} {vs:List (κ×AB)} (r:KV kvs vs) (k:κ):Kg (Hv kvs k) (NH vs k):=by
 unfold KV at r
 induction r with
 | nil=>exact Cu
 | @cons p q ps qs h t ih=>
  obtain ⟨h1,h2⟩:=h
  by_cases e:p.1=k
  ·have e':q.1=k:=h1.symm.trans e
   have b:NH (q :: qs) k=some q.2:=by simp [NH,B2,e']
   rw [MA e,b];exact h2
  ·have e':¬q.1=k:=λz=>e (h1.trans z)
   have b:NH (q :: qs) k=NH qs k:=by simp [NH,B2,e']
   rw [MB e,b];exact ih
theorem KV.any {kvs:List (κ×V)} {vs:List (κ×AB)} (r:KV kvs vs) (k:κ):(kvs.any λkv=>decide (kv.1=k))=vs.any λkv=>decide (kv.1=k):=by
 unfold KV at r
 induction r with
 | nil=>rfl
 | cons h t ih=>rw [Eu,Eu,ih,h.1]
theorem KV.repl {kvs:List (κ×V)} {vs:List (κ×AB)} (r:KV kvs vs) (k:κ) {y:V} {u:AB} (ry:RelV y u) :
  KV (kvs.map λkv=>if kv.1=k then (kv.1,y) else kv) (vs.map λkv=>if kv.1=k then (kv.1,u) else kv):=by
 unfold KV at r ⊢
 induction r with
 | nil=>exact .nil
 | @cons p q ps qs h t ih=>
  rw [Ai,Ai];refine .cons ?_ ih;obtain ⟨h1,h2⟩:=h
  by_cases e:p.1=k
  ·rw [qX e,qX (h1.symm.trans e)];exact ⟨h1,ry⟩
  ·rw [qY e,qY (λz=>e (h1.trans z))];exact ⟨h1,h2⟩
theorem KV.put {kvs:List (κ×V)} {vs:List (κ×AB)} (r:KV kvs vs) (k:κ) {y:V} {u:AB} (ry:RelV y u):KV (Hc kvs k y) (stored vs k u):=by
 unfold Hc stored;rw [r.any k]
 by_cases e:(vs.any λkv=>decide (kv.1=k))=true
 ·rw [qX e,qX e];exact r.repl k ry
 ·rw [qY e,qY e];exact Q7 r ⟨rfl,ry⟩
theorem KV.length {kvs:List (κ×V)} {vs:List (κ×AB)} (r:KV kvs vs):kvs.length=vs.length:=Dg r
end
theorem Qg {P:Aa} {w:As} {k:Key} {u:AB} (r:RelV (kV k) u):(C6 P w).is k u=true:=by
 cases k with
 | inl i=>obtain ⟨t,e⟩:=(show ∃t,u=Ky i t from r);subst e;exact QZ P w i t
 | inr x=>obtain ⟨t,e⟩:=(show ∃t,u=Kx x t from r);subst e;exact QY P w x t
theorem OI {P:Aa} {w:As}:∀ {ks:List Key} {us:List AB},BK (ks.map kV) us->ItemsAre (C6 P w) ks us
 | [],_,r=>by rw [Hi] at r;cases r;exact .nil
 | k :: ks,_,r=>by
  rw [Ai] at r
  cases r with
  | cons h t=>exact .cons (Qg h) (OI t)
abbrev KT (H:Hp):List (List Key×V)->List (List Key×AE×AB)->Prop:=Et λp q=>p.1=q.1/\H q.2.1=some (.tup (p.1.map kV))/\RelV p.2 q.2.2
theorem KT.val {H:Hp} {kvs:List (List Key×V)} {xs:List (List Key×AE×AB)} (r:KT H kvs xs) (k:List Key):Kg (Hv kvs k) ((RE xs k).map (·.2)):=by
 induction r with
 | nil=>exact Cu
 | @cons p q ps qs h t ih=>
  obtain ⟨h1,_,h2⟩:=h
  by_cases e:p.1=k
  ·have e':q.1=k:=h1.symm.trans e
   have b:RE (q :: qs) k=some q.2:=by simp [RE,B2,e']
   rw [MA e,b];exact h2
  ·have e':¬q.1=k:=λz=>e (h1.trans z)
   have b:RE (q :: qs) k=RE qs k:=by simp [RE,B2,e']
   rw [MB e,b];exact ih
theorem KT.repl {H:Hp} {kvs:List (List Key×V)} {xs:List (List Key×AE×AB)} (r:KT H kvs xs) (k:List Key) {y:V} {u:AB} (ry:RelV y u) :
  KT H (kvs.map λkv=>if kv.1=k then (kv.1,y) else kv) (xs.map (putAt k u)):=by
 induction r with
 | nil=>exact .nil
 | @cons p q ps qs h t ih=>
  rw [Ai,Ai];refine .cons ?_ ih;obtain ⟨h1,h2,h3⟩:=h;unfold putAt
  by_cases e:p.1=k
  ·rw [qX e,qX (h1.symm.trans e)];exact ⟨h1,h2,ry⟩
  ·rw [qY e,qY (λz=>e (h1.trans z))];exact ⟨h1,h2,h3⟩
theorem KT.put {H:Hp} {kvs:List (List Key×V)} {xs:List (List Key×AE×AB)} (r:KT H kvs xs) (k:List Key) {b:AE} {y:V} {u:AB} (hb:H b=some (.tup (k.map kV))) (ry:RelV y u) :
  KT H (Hc kvs k y) (storedH xs k b u):=by
 have e:(kvs.any λkv=>decide (kv.1=k))=(RE xs k).isSome:=by
  rw [P4,(r.val k).isSome_eq,J8]
 unfold Hc storedH;rw [e]
 by_cases q:(RE xs k).isSome=true
 ·rw [qX q,qX q];exact r.repl k ry
 ·rw [qY q,qY q];exact Q7 r ⟨rfl,hb,ry⟩
theorem KT.keeps {H H':Hp} {kvs:List (List Key×V)} {xs:List (List Key×AE×AB)} (r:KT H kvs xs) (ht:∀b ys,H b=some (.tup ys)->H' b=some (.tup ys)):KT H' kvs xs:=
 Et.mapP r λ_ _ z=>⟨z.1,ht _ _ z.2.1,z.2.2⟩
variable {X:Cx} {e:Expr} {te:TE} {lo hi:Option Expr} {tl th:TO} {pos p2:Pos}
theorem Y0:PO X none Yd:=by
 intro pins s σ H Q I h;rw [evalPart_none];exact AH ⟨none,H,I,.none,h⟩
theorem Yz (h:PE X e te):PO X (some e) (dY te):=by
 intro pins s σ H Q I hw;rw [evalPart_some]
 refine thn (h pins s σ H _ I hw) λu s1 ⟨x,H1,I1,r1,q1⟩=>?_
 obtain ⟨i,rfl,q⟩:=q1;obtain ⟨t,rfl⟩:=r1;exact ⟨some i,H1,I1,.int i t,q⟩
def SlR (X:Cx) (r:V->Option Int->Option Int->Hp->VK->Prop):Prop:=
 ∀(pins:List (AE×Obj)) (s:AD) (σ:St) (H:Hp) (x:V) (v vl vu:AB) (lo hi:Option Int) (sl:AE) (Q:VK),Inv X pins σ H s->RelV x v->s.heap.IsSliceOf sl vl vu .none->Oh vl lo->Oh vu hi->r x lo hi H Q ->
  ∃T id,aH (.type T) "__getitem__" = pure (some (.builtin id))/\s.TypeIs v T/\Ab (AR X.prog X.w) X.A (Kh v (.ref sl)) (EP X pins σ Q) X.xe s
theorem SlR.or {r r':V->Option Int->Option Int->Hp->VK->Prop} (h:SlR X r) (h':SlR X r'):SlR X (λx lo hi H Q=>r x lo hi H Q∨r' x lo hi H Q):=by
 intro pins s σ H x v vl vu lo hi sl Q I rx hs pl pu q
 rcases q with q | q
 ·exact h pins s σ H x v vl vu lo hi sl Q I rx hs pl pu q
 ·exact h' pins s σ H x v vl vu lo hi sl Q I rx hs pl pu q
def tSl (r:V->Option Int->Option Int->Hp->VK->Prop) (te:TE) (tl th:TO):TE:=λσ H Q=>te σ H λx H1=>tl σ H1 λl H2=>th σ H2 λu H3=>r x l u H3 Q
theorem Wp {r:V->Option Int->Option Int->Hp->VK->Prop} (hr:SlR X r) (he:PE X e te) (hl:PO X lo tl) (hu:PO X hi th):PE X (.Subscript e (.Slice lo hi none p2) pos) (tSl r te tl th):=by
 intro pins s σ H Q I h;refine aN (thn (he pins s σ H _ I h) λv s1 ⟨x,H1,I1,r1,q1⟩=>?_);refine wpAny_Slice (thn (hl pins s1 σ H1 _ I1 q1) λvl s2 ⟨l,H2,I2,pl,q2⟩=>thn (hu pins s2 σ H2 _ I2 q2) λvu s3 ⟨u,H3,I3,pu,q3⟩=>?_);rw [evalPart_none];refine AH ?_
 have I4:Inv X pins σ H3 { s3 with heap:=s3.heap.push { cls:=.type "slice",data:=.fields #[vl,vu,.none] } }:=I3.kept (t':=s3.toks) λb ob q=>AF _ q
 obtain ⟨T,id,hT,ht,hg⟩:=hr pins { s3 with heap:=s3.heap.push { cls:=.type "slice",data:=.fields #[vl,vu,.none] } } σ H3 x v vl vu l u s3.heap.objs.size Q I4 r1 (c7 ..) pl pu q3;show Ab (AR X.prog X.w) X.A (UD e (.Slice lo hi none p2) v (.ref s3.heap.objs.size)) (EP X pins σ Q) X.xe { s3 with heap:=s3.heap.push { cls:=.type "slice",data:=.fields #[vl,vu,.none] } };exact tail_any (ops:=[.ref s3.heap.objs.size,v]) ht hT hg (by with_unfolding_all rfl)
def M5 (xs:List V) (lo hi:Option Int):List V:=(xs.drop (HT.sIx xs.length 0 lo)).take (HT.sIx xs.length xs.length hi - HT.sIx xs.length 0 lo)
theorem Kv (xs:List V) (lo hi:Option Int):(M5 xs lo hi).length<=xs.length:=by
 unfold M5;rw [Ci,Em]
 lia
def rSlT (K:AA):V->Option Int->Option Int->Hp->VK->Prop:=λx lo hi H Q=>∃a xs,x=.ref a/\SqT K H a xs /\
 ¬(HT.sIx xs.length 0 lo=0/\HT.sIx xs.length xs.length hi=xs.length)/\∀p,H p=none->Q (.ref p) (upd H p (.tup (M5 xs lo hi)))
theorem bD:SlR X (rSlT X.K):=by
 intro pins s σ H x v vl vu lo hi sl Q I rx hs pl pu h;obtain ⟨a,xs,rfl,hx,hw,q⟩:=h;cases rx;obtain ⟨its,r,ht,hz⟩:=I.tuple hx
 have hlen:its.toArray.size=xs.length:=by rw [AZ];exact r.length.symm
 refine ⟨"tuple",_,Do.lookup,ht.typeIs,?_⟩;refine HT.Jw ht hs pl pu (by rw [hlen];exact hw) ?_ (by rw [hlen];exact hz);rw [hlen];refine ⟨.ref s.heap.objs.size,_,I.laid (t':=s.toks) (o:=.tup (M5 xs lo hi)) (λb ob q=>AF _ q) (AS _) ?_,rfl,q _ (I.hok.fresh (AS _))⟩;exact ⟨⟨Aq (Kv xs lo hi) hz,⟨_,AU _ rfl,rfl⟩⟩,_,(r.drop (HT.sIx xs.length 0 lo)).take (HT.sIx xs.length xs.length hi - HT.sIx xs.length 0 lo),Vv _ _⟩
def rLtT (K:AA):R2:=λx y H Q=>∃a b ns ms,x=.ref a/\y=.ref b/\SqT K H a (ns.map V.int)/\SqT K H b (ms.map V.int)/\Q (.bl (HT.lexLt ns ms)) H
theorem bi (hu:X.A.units < Cy):OpR X (A8 .Lt) (rLtT X.K):=by
 intro pins s σ H x y v u Q I rx ry h;obtain ⟨a,b,ns,ms,rfl,rfl,ha,hb,q⟩:=h;cases rx;cases ry;obtain ⟨its,r1,p1,_⟩:=I.tuple ha;obtain ⟨its2,r2,p2,_⟩:=I.tuple hb;have i1:B1 its.toArray.toList ns:=intsAre_of r1;have i2:B1 its2.toArray.toList ms:=intsAre_of r2;exact HT.R5 p1 p2 i1 i2 hu ⟨.bl (HT.lexLt ns ms),H,I,rfl,q⟩
def du (K:AA):R2:=λx y H Q=>∃a b xs ys,x=.ref a/\y=.ref b/\SqT K H a xs/\SqT K H b ys/\xs≠[]/\xs.length+ys.length<=sizeLine /\
 (ys=[]->Q (.ref a) H)/\(ys≠[]->∀p,H p=none->Q (.ref p) (upd H p (.tup (xs++ys))))
theorem BK.nil_iff {xs:List V} {us:List AB} (r:BK xs us):us=[]↔xs=[]:=by
 cases r with
 | nil=>simp
 | cons _ _=>simp
theorem ZE:OpR X (Dj .Add) (du X.K):=by
 intro pins s σ H x y v u Q I rx ry h;obtain ⟨a,b,xs,ys,rfl,rfl,ha,hb,hx,hz,q1,q2⟩:=h;cases rx;cases ry;obtain ⟨its,r1,p1,_⟩:=I.tuple ha;obtain ⟨its2,r2,p2,_⟩:=I.tuple hb;refine HT.Zj p1 p2 (λz=>hx (r1.nil_iff.mp z)) (λz=>⟨.ref a,H,I,rfl,q1 (r2.nil_iff.mp z)⟩) (λz=>?_) (by rw [<-r1.length,<-r2.length];exact hz);refine ⟨.ref s.heap.objs.size,_,I.laid (t':=s.toks) (o:=.tup (xs++ys)) (λb ob q=>AF _ q) (AS _) ?_,rfl,q2 (λw=>z (r2.nil_iff.mpr w)) _ (I.hok.fresh (AS _))⟩;exact ⟨⟨by rw [At];exact hz,⟨_,AU _ rfl,rfl⟩⟩,_,r1.append r2,Vv _ _⟩
def ixN (n:Nat) (i:Int):Option Nat:=if 0<=i then (if i < n then some i.toNat else none) else if -(n:Int)<=i then some (i+n).toNat else none
def atI {α:Type} (xs:List α) (i:Int):Option α:=(ixN xs.length i).bind λj=>xs[j]?
theorem ZQ {n:Nat} {i:Int} {j:Nat} (h:ixN n i=some j):seqIndex? i n=some j/\j < n/\-(n:Int)<=i/\i < n:=by
 unfold ixN at h
 by_cases h0:0<=i
 ·rw [qX h0] at h
  by_cases h1:i < n
  ·rw [qX h1] at h
   have e:i.toNat=j:=CD h;exact ⟨by rw [seqIndex_of h0 h1,e],by lia,by lia,h1⟩
  ·rw [qY h1] at h;cases h
 ·rw [qY h0] at h
  by_cases h1:-(n:Int)<=i
  ·rw [qX h1] at h
   have e:(i+n).toNat=j:=CD h;exact ⟨by rw [seqIndex_neg (by lia) h1,e],by lia,h1,by lia⟩
  ·rw [qY h1] at h;cases h
theorem Pk {α:Type} {xs:List α} {i:Int} {v:α} (h:atI xs i=some v):∃j,seqIndex? i xs.length=some j/\xs[j]?=some v/\j < xs.length/\-(xs.length:Int)<=i/\i < xs.length:=by
 unfold atI at h
 cases e:ixN xs.length i with
 | none=>rw [e] at h;cases h
 | some j=>
  rw [e] at h;obtain ⟨h1,h2,h3,h4⟩:=ZQ e;exact ⟨j,h1,h,h2,h3,h4⟩
def Pn (b:Expr):Prop:=∀o i,Po b false o i=operate [o,i] (Kh o i)
def IxR (X:Cx) (r:R2):Prop:=
 ∀(value slice:Expr) (pins:List (AE×Obj)) (s:AD) (σ:St) (H:Hp) (x y:V) (v u:AB) (Q:VK),Inv X pins σ H s->RelV x v->RelV y u->r x y H Q ->
  Po slice false v u=operate [v,u] (Kh v u)->Ab (AR X.prog X.w) X.A (UD value slice v u) (EP X pins σ Q) X.xe s
def MtR (X:Cx) (id:String) (r:V->List V->Hp->VK->Prop):Prop:=
 ∀(pins:List (AE×Obj)) (s:AD) (σ:St) (H:Hp) (x:V) (xs:List V) (v:AB) (us:List AB) (Q:VK),Inv X pins σ H s->RelV x v->BK xs us->r x xs H Q ->
  Ab (AR X.prog X.w) X.A (call (.builtin id) (v :: us)) (EP X pins σ Q) X.xe s
section
variable {P:Aa} {w:As} {H:Hp} {h:BG} {a:AE}
theorem Z6 {u:HO} (ok:HOk P w H h) (e:Rd H a u):Bx P w H h a u:=e.ok ok
theorem Qp {kvs:List (Key×V)} (ok:HOk P w H h) (e:Rd H a (.dK kvs)):kvs.length<=sizeLine/\(a==DA)=false/\∃vs,KV kvs vs/\h.DictOf (C6 P w) a vs:=
 show Bx P w H h a (.dK kvs) from Z6 ok e
theorem fB {kvs:List (Key×V)} (ok:HOk P w H h) (e:H a=some (.dK kvs)):kvs.length<=sizeLine/\(a==DA)=false/\∃vs,KV kvs vs/\h.DictOf (C6 P w) a vs:=Qp ok (.inl e)
theorem Ms {ks:List Key} (ok:HOk P w H h) (e:H a=some (.tup (ks.map kV))):(OX (C6 P w)).is h ks a:=by
 obtain ⟨_,its,r,o,h1,h2,n,h3⟩:=(show Bx P w H h a (.tup (ks.map kV)) from ok a _ e);exact ⟨o,its.toArray,n,h1,h2,h3,by simpa using OI r⟩
theorem Qo {kvs:List (List Key×V)} (ok:HOk P w H h) (e:Rd H a (.dT kvs)):kvs.length<=sizeLine/\(a==DA)=false /\
  ∃xs,KT H kvs xs/\h.DictOfH (OX (C6 P w)) a xs:=by
 obtain ⟨z,y,xs,r,o,es,ep,h1,h2,h3,h4,h5⟩:=(show Bx P w H h a (.dT kvs) from Z6 ok e);refine ⟨z,y,xs,r,o,es,ep,h1,h2,h3,h4,λx hx=>?_,h5⟩
 have all:∀ {l:List (List Key×V)} {m:List (List Key×AE×AB)},KT H l m->∀x∈m,(OX (C6 P w)).is h x.1 x.2.1:=by
  intro l m q
  induction q with
  | nil=>intro x hx;exact nomatch hx
  | @cons p q ps qs hq t ih=>
   intro x hx
   rcases Aw.mp hx with e | hx
   ·subst e
    exact Ms ok (by rw [<-hq.1];exact hq.2.1)
   ·exact ih x hx
 exact all r x hx
theorem fA {kvs:List (List Key×V)} (ok:HOk P w H h) (e:H a=some (.dT kvs)):kvs.length<=sizeLine/\(a==DA)=false /\
  ∃xs,KT H kvs xs/\h.DictOfH (OX (C6 P w)) a xs:=Qo ok (.inl e)
end
def J7 (H:Hp) (a:AE) (y:V) (r:Option V):Prop:=
 (∃kvs k,Rd H a (.dK kvs)/\y=kV k/\r=Hv kvs k)∨∃kvs k b,Rd H a (.dT kvs)/\y=.ref b/\H b=some (.tup (k.map kV))/\r=Hv kvs k
def Q3 (H:Hp) (a:AE) (y v:V) (H':Hp):Prop:=
 (∃kvs k,H a=some (.dK kvs)/\y=kV k/\kvs.length < sizeLine/\H'=upd H a (.dK (Hc kvs k v))) ∨
 ∃kvs k b,H a=some (.dT kvs)/\y=.ref b/\H b=some (.tup (k.map kV))/\kvs.length < sizeLine/\H'=upd H a (.dT (Hc kvs k v))
theorem J7.k {H:Hp} {a:AE} {kvs:List (Key×V)} {k:Key} (e:H a=some (.dK kvs)):J7 H a (kV k) (Hv kvs k):=.inl ⟨kvs,k,.inl e,rfl,rfl⟩
theorem J7.t {H:Hp} {a b:AE} {kvs:List (List Key×V)} {k:List Key} (e:H a=some (.dT kvs)) (eb:H b=some (.tup (k.map kV))):J7 H a (.ref b) (Hv kvs k):=.inr ⟨kvs,k,b,.inl e,rfl,eb,rfl⟩
theorem Q3.k {H:Hp} {a:AE} {kvs:List (Key×V)} {k:Key} {v:V} (e:H a=some (.dK kvs)) (hl:kvs.length < sizeLine):Q3 H a (kV k) v (upd H a (.dK (Hc kvs k v))):=.inl ⟨kvs,k,e,rfl,hl,rfl⟩
theorem Q3.t {H:Hp} {a b:AE} {kvs:List (List Key×V)} {k:List Key} {v:V} (e:H a=some (.dT kvs)) (eb:H b=some (.tup (k.map kV))) (hl:kvs.length < sizeLine) :
  Q3 H a (.ref b) v (upd H a (.dT (Hc kvs k v))):=.inr ⟨kvs,k,b,e,rfl,eb,hl,rfl⟩
variable {X:Cx} {a b:Expr} {ta tb:TE} {pos:Pos}
theorem IxR.or {r r':R2} (h:IxR X r) (h':IxR X r'):IxR X (λx y H Q=>r x y H Q∨r' x y H Q):=by
 intro value slice pins s σ H x y v u Q I rx ry q hs
 rcases q with q | q
 ·exact h value slice pins s σ H x y v u Q I rx ry q hs
 ·exact h' value slice pins s σ H x y v u Q I rx ry q hs
theorem d7 {r:R2} (hr:IxR X r) (ha:PE X a ta) (hb:PE X b tb) (hs:Pn b):PE X (.Subscript a b pos) (tOp r ta tb):=by
 intro pins s σ H Q I h;exact aN (ci ha hb I h λv u s2 x y H2 I2 rx ry q=>hr a b pins s2 σ H2 x y v u Q I2 rx ry q (hs _ _))
def rIxL (K:AA):R2:=λx y H Q=>∃p xs i v,x=.ref p/\y=.int i/\SqL K H p xs/\atI xs i=some v/\Q v H
def rIxT (K:AA):R2:=λx y H Q=>∃p xs i v,x=.ref p/\y=.int i/\SqT K H p xs/\atI xs i=some v/\Q v H
def rIxS:R2:=λx y H Q=>∃z i c,x=.str z/\y=.int i/\z.length<=sizeLine/\atI z.cps.toList i=some c/\Q (.str ⟨#[c]⟩) H
theorem ix_list:IxR X (rIxL X.K):=by
 intro value slice pins s σ H x y v u Q I rx ry h hs;obtain ⟨p,xs,i,z,rfl,rfl,hq,he,q⟩:=h;cases rx;obtain ⟨t,rfl⟩:=ry;obtain ⟨its,r,pl,hz⟩:=I.list hq;obtain ⟨j,h1,h2,h3,h4,h5⟩:=Pk he;obtain ⟨w,ew,rw'⟩:=r.get h2;have hl:=r.length;have hn:=Ml;have fin:EP X pins σ Q w s:=⟨z,H,I,rw',q⟩
 by_cases h0:0<=i
 ·have hj:i.toNat=j:=by
   rw [seqIndex_of h0 h5] at h1;exact CD h1
  exact item_listR pl.isList h0 (by lia) (by rw [hj];simpa using ew) fin hs
 ·have hj:(i+(its.toArray.size:Int)).toNat=j:=by
   rw [seqIndex_neg (by lia) h4] at h1;rw [AZ,<-hl];exact CD h1
  exact Vo (x:=w) pl.isList.typeIs cw.lookup
   (wpAny_getItem_list_neg (Q:=λr s'=>r=w/\EP X pins σ Q r s') pl.isList (by lia) (by rw [AZ] <;> lia) (by lia) (by rw [hj];simpa using ew) ⟨rfl,fin⟩) hs
theorem cF:IxR X (rIxT X.K):=by
 intro value slice pins s σ H x y v u Q I rx ry h hs;obtain ⟨p,xs,i,z,rfl,rfl,hq,he,q⟩:=h;cases rx;obtain ⟨t,rfl⟩:=ry;obtain ⟨its,r,pl,hz⟩:=I.tuple hq;obtain ⟨j,h1,h2,h3,h4,h5⟩:=Pk he;obtain ⟨w,ew,rw'⟩:=r.get h2;have hl:=r.length;have hn:=Ml;have fin:EP X pins σ Q w s:=⟨z,H,I,rw',q⟩
 exact Vo (x:=w) pl.typeIs slot_tuple_getitem.lookup
  (getItem_tuple (j:=j) (Q:=λr s'=>r=w/\EP X pins σ Q r s') pl (by lia) (by lia) (by rw [AZ,<-hl];exact h1) (by simpa using ew) ⟨rfl,fin⟩) hs
theorem cG:IxR X rIxS:=by
 intro value slice pins s σ H x y v u Q I rx ry h hs;obtain ⟨z,i,c,rfl,rfl,hz,he,q⟩:=h;obtain ⟨t,rfl⟩:=rx;obtain ⟨t',rfl⟩:=ry;obtain ⟨j,h1,h2,h3,h4,h5⟩:=Pk he
 have hl:z.cps.toList.length=z.length:=by simp [Str.length]
 rw [hl] at h1 h4 h5;have hn:=Ml
 exact tail_any (Li s z t) slot_str_getitem.lookup (getItem_str (c:=c) (by
  have e1:decide (i < -(2 ^ 63:Int))=false:=wY (by lia);have e2:decide (i ≥ 2 ^ 63)=false:=wY (by lia)
  rw [e1,e2,aU]) (by rw [h1];simpa using h2) ⟨.str ⟨#[c]⟩,H,I.tok _,⟨_,rfl⟩,q⟩) hs
theorem Ov (lo hi:Option Int) (n:Nat):(FX lo hi none n).1=((HT.sIx n 0 lo:Nat):Int)/\(FX lo hi none n).2.1=((HT.sIx n n hi:Nat):Int)/\(FX lo hi none n).2.2=1:=by
 refine ⟨?_,?_,rfl⟩
 ·cases lo with
  | none=>simp [FX,HT.sIx]
  | some i=>
   simp only [FX,HT.sIx,Vj,show (1:Int) > 0 by decide,if_true]
   by_cases h:i < 0
   ·simp only [h,if_true] <;> lia
   ·simp only [h,if_false] <;> lia
 ·cases hi with
  | none=>simp [FX,HT.sIx]
  | some i=>
   simp only [FX,HT.sIx,Vj,show (1:Int) > 0 by decide,if_true]
   by_cases h:i < 0
   ·simp only [h,if_true] <;> lia
   ·simp only [h,if_false] <;> lia
theorem NS (its:List AB) (lo hi:Option Int):slicePick its.toArray lo hi none=((its.drop (HT.sIx its.length 0 lo)).take (HT.sIx its.length its.length hi - HT.sIx its.length 0 lo)).toArray:=by
 obtain ⟨h1,h2,h3⟩:=Ov lo hi its.toArray.size;unfold slicePick;rw [h1,h2,h3]
 simp only [sliceRange_one,pick_run,AZ] <;> rfl
def dr (K:AA):V->Option Int->Option Int->Hp->VK->Prop:=λx lo hi H Q=>∃a xs,x=.ref a/\SqL K H a xs/\∀p,H p=none->Q (.ref p) (upd H p (.lst (M5 xs lo hi)))
theorem Yi:SlR X (dr X.K):=by
 intro pins s σ H x v vl vu lo hi sl Q I rx hs pl pu h;obtain ⟨a,xs,rfl,hx,q⟩:=h;cases rx;obtain ⟨its,r,ht,hz⟩:=I.list hx;have hlen:=r.length;refine ⟨"list",_,cw.lookup,ht.isList.typeIs,?_⟩;refine wpAny_getItem_list_slice ht.isList hs pl pu .none (by simp) ?_ (by rw [AZ] <;> lia);rw [NS,<-hlen];refine ⟨.ref s.heap.objs.size,_,I.laid (t':=s.toks) (o:=.lst (M5 xs lo hi)) (λb ob q=>AF _ q) (AS _) ?_,rfl,q _ (I.hok.fresh (AS _))⟩;exact ⟨Aq (Kv xs lo hi) hz,_,0,(r.drop (HT.sIx xs.length 0 lo)).take (HT.sIx xs.length xs.length hi - HT.sIx xs.length 0 lo),AU _ rfl⟩
theorem Pi:Ej X (.builtin "len") (λxs H Q=>∃p ys,xs=[.ref p]/\(SqL X.K H p ys∨SqT X.K H p ys)/\Q (.int ys.length) H):=by
 intro pins s σ H xs us Q I r h;obtain ⟨p,ys,rfl,hq,q⟩:=h;obtain ⟨u,rfl,rx⟩:=vals1 r;cases rx;have hn:=Ml
 rcases hq with hq | hq
 ·obtain ⟨its,r',pl,hz⟩:=I.list hq
  have hlen:=r'.length;exact Calls.call_len_list pl.isList (by simp only [AZ] <;> lia) ⟨.int ys.length,H,I.tok _,⟨s.toks+1,by rw [AZ,hlen]⟩,q⟩
 ·obtain ⟨its,r',pl,hz⟩:=I.tuple hq
  have hlen:=r'.length;exact len_tuple pl (by simp only [AZ] <;> lia) ⟨.int ys.length,H,I.tok _,⟨s.toks+1,by rw [AZ,hlen]⟩,q⟩
theorem Ph:Ej X (.builtin "len") (λxs H Q=>∃z,xs=[.str z]/\z.length<=sizeLine/\Q (.int z.length) H):=by
 intro pins s σ H xs us Q I r h;obtain ⟨z,rfl,hz,q⟩:=h;obtain ⟨u,rfl,t,rfl⟩:=vals1 r;have hn:=Ml;exact len_str (by lia) ⟨.int z.length,H,I.tok _,⟨_,rfl⟩,q⟩
theorem Nb:Ej X (.type "tuple") (λxs H Q=>∃p ys,xs=[.ref p]/\((SqL X.K H p ys/\∀l,H l=none->Q (.ref l) (upd H l (.tup ys)))∨(SqT X.K H p ys/\Q (.ref p) H))):=by
 intro pins s σ H xs us Q I r h;obtain ⟨p,ys,rfl,h⟩:=h;obtain ⟨u,rfl,rx⟩:=vals1 r;cases rx
 rcases h with ⟨hq,q⟩ | ⟨hq,q⟩
 ·obtain ⟨its,r',pl,hz⟩:=I.list hq
  have hlen:=r'.length;refine call_tuple_list pl.isList (λh' kp=>?_) (by simp only [AZ] <;> lia);have I1:Inv X pins σ H { s with heap:=h' }:=I.kept (t':=s.toks) kp
  have I2:Inv X pins σ (upd H h'.objs.size (.tup ys)) { s with heap:=h'.push { cls:=.type "tuple",data:=.seq its.toArray } }:=
   I1.laid (t':=s.toks) (λb o e=>AF _ e) (AS _) (show Bx X.prog X.w _ _ _ (.tup ys) from ⟨⟨hz,⟨_,AU _ rfl,rfl⟩⟩,its,r',Vv _ _⟩)
  exact ⟨.ref h'.objs.size,_,I2,rfl,q _ (I1.hok.fresh (AS _))⟩
 ·obtain ⟨its,r',pl,hz⟩:=I.tuple hq
  exact call_tuple_same pl ⟨.ref p,H,I,rfl,q⟩
def tyV (K:AA) (T:String) (x:V) (H:Hp):Prop:=match x with
 | .str _=>T = "str"
 | .int _=>T = "int"
 | .ref p=>(T = "list"/\∃xs,SqL K H p xs)∨(T = "tuple"/\∃o,K.lookup p=some o/\o.cls=.type "tuple"/\o.dict=none) ∨
   (T = "dict"/\((∃kvs,H p=some (.dK kvs))∨∃kvs,H p=some (.dT kvs)))∨(T = "set"/\∃S n,H p=some (.set S n))
 | _=>False
theorem ax {pins:List (AE×Obj)} {σ:St} {H:Hp} {s:AD} {T:String} {x:V} {v:AB} (I:Inv X pins σ H s) (r:RelV x v) (ty:tyV X.K T x H) :
  s.TypeIs v T/\∀a,v=.ref a->∃ob,s.heap.get? a=some ob/\ob.dict=none:=by
 cases x with
 | str z=>
  obtain ⟨t,rfl⟩:=r;cases (show T = "str" from ty);exact ⟨Li s z t,λ_ e=>nomatch e⟩
 | int i=>
  obtain ⟨t,rfl⟩:=r;cases (show T = "int" from ty);exact ⟨typeIs_int s i t,λ_ e=>nomatch e⟩
 | ref p=>
  cases r
  rcases ty with ⟨rfl,xs,hq⟩ | ⟨rfl,o,hk,hc,hd⟩ | ⟨rfl,hk⟩ | ⟨rfl,S,n,hk⟩
  ·obtain ⟨its,_,pl,_⟩:=I.list hq
   refine ⟨pl.isList.typeIs,λa e=>?_⟩;cases e;obtain ⟨o,n,e,c,hd,_⟩:=pl;exact ⟨o,e,hd⟩
  ·refine ⟨⟨o,I.kIn p o hk,hc⟩,λa e=>?_⟩
   cases e;exact ⟨o,I.kIn _ o hk,hd⟩
  ·have z:∃o,s.heap.get? p=some o/\o.ExactDict:=by
    rcases hk with ⟨kvs,hk⟩ | ⟨kvs,hk⟩
    ·obtain ⟨_,_,_,_,o,_,_,e,ex,_⟩:=I.hok p _ hk
     exact ⟨o,e,ex⟩
    ·obtain ⟨_,_,_,_,o,_,_,e,ex,_⟩:=I.hok p _ hk
     exact ⟨o,e,ex⟩
   obtain ⟨o,e,ex⟩:=z;refine ⟨⟨o,e,ex.1⟩,λa e2=>?_⟩;cases e2;exact ⟨o,e,ex.2.1⟩
  ·obtain ⟨o,_,_,_,e,ex,_⟩:=I.hok p _ hk
   refine ⟨⟨o,e,ex.1⟩,λa e2=>?_⟩;cases e2;exact ⟨o,e,ex.2.1⟩
 | _=>exact CU ty
def tBM (K:AA) (T:String) (r:V->List V->Hp->VK->Prop) (to:TE) (t:TA):TE:=λσ H Q=>to σ H λx H1=>tyV K T x H1/\t σ H1 λxs H2=>r x xs H2 Q
variable {o e:Expr} {es:List Expr} {to:TE} {t:TA} {name:Str} {apos cpos:Pos} {T id:String} {r:V->List V->Hp->VK->Prop}
theorem TQ (pa:PlainAttrs T) (slot:Slot T name id) (hty:typeOf (.builtin id)=pure (.type "method_descriptor")) (hm:MtR X id r) (ho:PE X o to) (ha:PA X (e :: es) t)
  (hbase:DR o name X.env (Ba o X.env)=Ba o X.env:=by rfl)
  (hfew:((Bi cpos (AN (e :: es) X.env)).all (λx=>!x.1)&&(Eo cpos (Ch [] X.env)).all (λx=>x.1.isSome)
    &&decide ((e :: es).length+([]:List FU).length+(if ([]:List FU).isEmpty then 0 else 1) < 30))=true:=by rfl)
  (hline:(apos.endLine==cpos.line)=true:=by rfl) (hs:AN (e :: es) X.env=(false,Ba e X.env) :: AN es X.env:=by rfl) (hplain:(Bi cpos (AN es X.env)).any (·.1)=false:=by rfl) :
  PE X (.Call (.Attribute o name apos) (e :: es) [] cpos) (tBM X.K T r to t):=by
 intro pins s σ H Q I h;refine wpAny_Call_method_late hbase hfew hline rfl (thn (ho pins s σ H _ I h) λv s1 ⟨x,H1,I1,r1,ty,q1⟩=>?_);obtain ⟨h1,h2⟩:=ax I1 r1 ty;refine ⟨T,id,pa,slot,hty,h1,h2,?_⟩;have hA:=ha cpos pins s1 σ H1 _ I1 q1;rw [hs] at hA ⊢;refine Calls.callWith_builtin (by show (false||(Bi cpos (AN es X.env)).any (·.1))=false;rw [hplain] <;> rfl) (RP ?_)
 exact thn hA λus s2 ⟨vs,H2,I2,r2,q2⟩=>hm pins s2 σ H2 x vs v us Q I2 r1 r2 q2
def MtM (X:Cx) (id:String) (r:V->List V->Hp->VK->Prop):Prop:=
 ∀(pins:List (AE×Obj)) (s:AD) (σ:St) (H:Hp) (x:V) (xs:List V) (v:AB) (us:List AB) (Q:VK),Inv X pins σ H s->RelV x v->BK xs us->r x xs H Q ->
  Ab (AR X.prog X.w) X.A (call (.builtin id) (v :: us)) (EP X pins σ Q) X.xe s
theorem BK.one:∀ {x:V} {us:List AB},BK [x] us->∃u,us=[u]/\RelV x u
 | _,_,.cons r .nil=>⟨_,rfl,r⟩
section
variable {X:Cx} {pins:List (AE×Obj)} {σ:St} {H:Hp} {s:AD} {a:AE} {y v:V} {u r:AB} {o:Option V} {A:Ak} {E:AB->AD->Prop}
theorem Inv.big (I:Inv X pins σ H s):DA < s.heap.objs.size:=by
 have h:Ah < s.heap.objs.size:=(I.mod.glob.keeps I.bk).lt;exact dE (by decide) h
theorem VD {Q:AB->AD->Prop} (hu:A.units+1 < Cy) (I:Inv X pins σ H s) (g:J7 H a y (some v)) (ry:RelV y u) (h:∀w' s',Inv X pins σ H s'->RelV v w'->Q w' s') :
  Ab (AR X.prog X.w) A (Kh (.ref a) u) Q E s:=by
 rcases g with ⟨kvs,k,e,ey,l⟩ | ⟨kvs,k,b,e,ey,eb,l⟩
 ·subst ey
  obtain ⟨z,hd,vs,rel,dd⟩:=Qp I.hok e;obtain ⟨w',hw,rw'⟩:=Kg.some_of (v:=v) (o:=NH vs k) (by rw [l];exact rel.val k);exact wpAny_getItem_of (Qg ry) dd.mapOf hw (h w' _ (I.tok _) rw')
 ·subst ey
  cases (show u=Ap b from ry);obtain ⟨z,hd,xs,rel,dd⟩:=Qo I.hok e;obtain ⟨w',hw,rw'⟩:=Kg.some_of (v:=v) (o:=(RE xs k).map (·.2)) (by rw [l];exact rel.val k);obtain ⟨p,hp,hp2⟩:=Option.map_eq_some_iff.mp hw;refine wpAny_getItem_heap (Gw hu) (Ms I.hok eb) dd hp ?_;rw [hp2];exact h w' _ (I.tok _) rw'
theorem d_in {Q:AB->AD->Prop} (hu:A.units+1 < Cy) (I:Inv X pins σ H s) (g:J7 H a y o) (ry:RelV y u) (h:∀s',Inv X pins σ H s'->Q (.bool o.isSome) s') :
  Ab (AR X.prog X.w) A (A8 .In u (.ref a)) Q E s:=by
 rcases g with ⟨kvs,k,e,ey,l⟩ | ⟨kvs,k,b,e,ey,eb,l⟩
 ·subst ey
  obtain ⟨z,hd,vs,rel,dd⟩:=Qp I.hok e;refine wpAny_in_of (Qg ry) hd dd.mapOf ?_;rw [<-(rel.val k).isSome_eq,<-l];exact h _ (I.tok _)
 ·subst ey
  cases (show u=Ap b from ry);obtain ⟨z,hd,xs,rel,dd⟩:=Qo I.hok e;refine wpAny_in_heap (Gw hu) (Ms I.hok eb) hd dd ?_;have q:=(rel.val k).isSome_eq;rw [J8] at q;rw [<-q,<-l];exact h _ (I.tok _)
theorem Zg {Q:AB->AD->Prop} (hu:A.units+1 < Cy) (I:Inv X pins σ H s) (g:J7 H a y o) (ry:RelV y u) (h:∀s',Inv X pins σ H s'->Q (.bool (!o.isSome)) s') :
  Ab (AR X.prog X.w) A (A8 .NotIn u (.ref a)) Q E s:=by
 rcases g with ⟨kvs,k,e,ey,l⟩ | ⟨kvs,k,b,e,ey,eb,l⟩
 ·subst ey
  obtain ⟨z,hd,vs,rel,dd⟩:=Qp I.hok e;refine wpAny_notIn_of (Qg ry) hd dd.mapOf ?_;rw [<-(rel.val k).isSome_eq,<-l];exact h _ (I.tok _)
 ·subst ey
  cases (show u=Ap b from ry);obtain ⟨z,hd,xs,rel,dd⟩:=Qo I.hok e;refine wpAny_notIn_heap (Gw hu) (Ms I.hok eb) hd dd ?_;have q:=(rel.val k).isSome_eq;rw [J8] at q;rw [<-q,<-l];exact h _ (I.tok _)
theorem Tx {h':BG} {t':Nat} {ob:HO} (I:Inv X pins σ H s) (mu:Mut (H a)) (hs:Da a s.heap h') (he:∃q,h'.get? a=some q) (new:Bx X.prog X.w (upd H a ob) h' a ob) :
  Inv X pins σ (upd H a ob) { s with heap:=h',toks:=t' }:=
 I.write (x:=a) (e:=a) mu (.inl rfl) (λb q hb z=>(hs.2 b hb).trans z) he new
theorem cb {P:Aa} {w:As} {H':Hp} {h':BG} {kvs:List (Key×V)} {vs:List (Key×AB)} (z:kvs.length<=sizeLine) (hd:(a==DA)=false) (rel:KV kvs vs) (dd:h'.DictOf (C6 P w) a vs) :
  Bx P w H' h' a (.dK kvs):=⟨z,hd,vs,rel,dd⟩
theorem VC {H':Hp} {Q:Unit->AD->Prop} (hu:A.units+1 < Cy) (I:Inv X pins σ H s) (g:Q3 H a y v H') (ry:RelV y u) (rv:RelV v r) (h:∀s',Inv X pins σ H' s'->Q () s') :
  Ab (AR X.prog X.w) A (setItem (.ref a) u r) Q E s:=by
 rcases g with ⟨kvs,k,e,ey,l,eH⟩ | ⟨kvs,k,b,e,ey,eb,l,eH⟩
 ·subst ey eH
  obtain ⟨z,hd,vs,rel,dd⟩:=fB I.hok e
  have hz:vs.length<=sizeLine:=by rw [<-rel.length];exact z
  have hl:(Hc kvs k v).length<=sizeLine:=by have:=Ks kvs k v;lia
  refine wpAny_setItem_pairs (hsz:=hz) (Qg ry) dd λh' dd' hs=>h _ ?_
  have he:∃q,h'.get? a=some q:=let ⟨q,_,_,hq,_⟩:=dd';⟨q,hq⟩
  exact Tx I (by rw [e];exact Cu) hs he (cb hl hd (rel.put k rv) dd')
 ·subst ey eH
  cases (show u=Ap b from ry);obtain ⟨z,hd,xs,rel,dd⟩:=fA I.hok e
  have hz:xs.length<=sizeLine:=by rw [<-Dg rel];exact z
  have hl:(Hc kvs k v).length<=sizeLine:=by have:=Ks kvs k v;lia
  refine wpAny_setItem_heap (hsz:=hz) (Gw hu) (Ms I.hok eb) dd λh' dd' hs=>h _ ?_
  obtain ⟨q,es,ep,hq,h2,h3,h4,_,h5⟩:=dd';refine Tx I (by rw [e];exact Cu) hs ⟨q,hq⟩ ⟨hl,hd,_,(rel.put k eb rv).keeps λc ys ec=>?_,q,es,ep,hq,h2,h3,h4,h5⟩;rw [BI (eS ec e (λz=>nomatch z))];exact ec
variable {X:Cx} {pins:List (AE×Obj)} {σ:St} {H:Hp} {s:AD} {l b:AE} {xs ys zs:List V}
theorem Inv.lset {its its':List AB} {n:Nat} {f:Array AB->Array AB} {t':Nat} (I:Inv X pins σ H s) (hH:H l=some (.lst xs))
  (e:s.heap.get? l=some { cls:=.type "list",data:=.seq its.toArray n }) (hf:f its.toArray=its'.toArray) (hv:BK ys its') (hz:ys.length<=sizeLine) :
  Inv X pins σ (upd H l (.lst ys)) { s with heap:=s.heap.update l (Fu f),toks:=t' }:=by
 have q:=PySem.IsL.update e f;rw [hf] at q;refine I.write (x:=l) (e:=l) (by rw [hH];exact trivial) (.inl rfl) (λb' u hb hu=>(Cv s.heap (Fu f) (Bp hb)).trans hu) ⟨_,q⟩ ?_;exact ⟨hz,its',_,hv,q⟩
theorem Inv.lnew {its:List AB} {t':Nat} (I:Inv X pins σ H s) (hv:BK ys its) (hz:ys.length<=sizeLine) :
  Inv X pins σ (upd H s.heap.objs.size (.lst ys)) { s with heap:=s.heap.push { cls:=.type "list",data:=.seq its.toArray },toks:=t' }:=
 I.laid (λ_ _ q=>AF _ q) (AS _) ⟨hz,its,0,hv,AU _ rfl⟩
theorem Inv.fresh (I:Inv X pins σ H s):H s.heap.objs.size=none:=I.hok.fresh (AS _)
theorem Inv.lstM (I:Inv X pins σ H s) (hH:H l=some (.lst xs)):xs.length<=sizeLine/\∃(its:List AB) (n:Nat),BK xs its/\xs.length=its.length/\s.heap.get? l=some { cls:=.type "list",data:=.seq its.toArray n }:=by
 obtain ⟨z,its,n,r,e⟩:=I.hok l _ hH;exact ⟨z,its,n,r,r.length,e⟩
theorem W0 {n:Nat} (h:n<=sizeLine):FA n=false:=by
 unfold FA;exact wY (by lia)
end
section
variable {X:Cx} {pins:List (AE×Obj)} {σ:St} {H:Hp} {s:AD} {a:AE} {kvs:List (Key×V)} {k:Key} {u:AB} {A:Ak} {E:AB->AD->Prop}
end
def ck (i:Expr):Prop:=∀ov iv,Po i false ov iv=operate [ov,iv] (Kh ov iv)
theorem Yg {prog:Aa} {w:As} {A:Ak} {E:AB->AD->Prop} {s:AD} {env:Env} {value slice:Expr} {pos:Pos} {T id:String} {Q:AB->AD->Prop}
  (hl:aH (.type T) "__getitem__" = pure (some (.builtin id))) (hs:ck slice)
  (h:Ab (AR prog w) A (Ba value env) (λo s₁=>Ab (AR prog w) A (Ba slice env) (λi s₂=>s₂.TypeIs o T/\Ab (AR prog w) A (Kh o i) Q E s₂) E s₁) E s) :
  Ab (AR prog w) A (Ba (.Subscript value slice pos) env) Q E s:=by
 refine aN (Cm h (λo s₁ h₁=>Cm h₁ (λi s₂ h₂=>?_) λ_ _ x=>x) λ_ _ x=>x);obtain ⟨hT,h₂⟩:=h₂;unfold UD;refine AC ?_;rw [getitemInPython_of_ne hT.not_modules];refine AC (wpAny_specialOf hT hl ?_)
 have fin:Ab (AR prog w) A (Po slice false o i) (λr s₃=>Ab (AR prog w) A (letTemporaryGo value o r >>= λ_=>pure r) Q E s₃) E s₂:=by
  rw [hs o i];exact wpAny_operating (Cm h₂ (λr s₃ h₃=>AC (wpAny_letTemporaryGo (AH h₃))) λ_ _ x=>x)
 first
  | exact AH (AC fin)
  | exact AC (AH (AC fin))
  | exact AC fin
theorem Qq {X:Cx} {pins:List (AE×Obj)} {σ:St} {H:Hp} {s:AD} {a:AE} {y:V} {o:Option V} (I:Inv X pins σ H s) (g:J7 H a y o):s.TypeIs (.ref a) "dict":=by
 rcases g with ⟨kvs,k,e,_,_⟩ | ⟨kvs,k,b,e,_,_,_⟩
 ·obtain ⟨_,_,vs,_,dd⟩:=Qp I.hok e
  exact dd.typeIs
 ·obtain ⟨_,_,xs,_,dd⟩:=Qo I.hok e
  exact dd.typeIs
def de (td ty:TE):TE:=λσ H Q=>td σ H λx H1=>ty σ H1 λy H2=>∃a v,x=.ref a/\J7 H2 a y (some v)/\Q v H2
def dc (ty td:TE):TE:=λσ H Q=>ty σ H λy H1=>td σ H1 λx H2=>∃a o,x=.ref a/\J7 H2 a y o/\Q (.bl o.isSome) H2
def TB (ty td:TE):TE:=λσ H Q=>ty σ H λy H1=>td σ H1 λx H2=>∃a o,x=.ref a/\J7 H2 a y o/\Q (.bl (!o.isSome)) H2
def dm (td ty tv:TE):TS:=λD σ H=>tv σ H λv H1=>td σ H1 λx H2=>ty σ H2 λy H3=>∃a H4,x=.ref a/\Q3 H3 a y v H4/\D.nx σ H4
variable {X:Cx}
def Yq:V->List V->Hp->VK->Prop:=λx vs H Q=>∃l xs y,x=.ref l/\vs=[y]/\H l=some (.lst xs)/\xs.length < sizeLine/\Q .non (upd H l (.lst (xs++[y])))
theorem OB:MtM X "list.append" Yq:=by
 intro pins s σ H x vs v us Q I rx rv h;obtain ⟨l,xs,y,rfl,rfl,hH,hz,q⟩:=h;cases rx;obtain ⟨u,rfl,ru⟩:=rv.one;obtain ⟨z,its,n,r,hl,e⟩:=I.lstM hH;refine Lj F.slot_list_append ⟨_,e,rfl⟩ F.entry_list_append (F.args_list_append_2 _ _) (PySem.list_append l its.toArray n u (by rw [AZ];lia)) ⟨e,?_⟩;refine ⟨.non,_,I.lset (its':=its++[u]) hH e (by simp) (r.append (.cons ru .nil)) ?_,rfl,q⟩;rw [At,Bb]
 lia
def Yp:V->List V->Hp->VK->Prop:=λx vs H Q=>∃l b xs zs,x=.ref l/\vs=[.ref b]/\H l=some (.lst xs)/\H b=some (.lst zs)/\xs.length+zs.length<=sizeLine/\Q .non (upd H l (.lst (xs++zs)))
theorem Ul:MtM X "list.extend" Yp:=by
 intro pins s σ H x vs v us Q I rx rv h;obtain ⟨l,b,xs,zs,rfl,rfl,hH,hB,hz,q⟩:=h;cases rx;obtain ⟨u,rfl,ru⟩:=rv.one;cases ru;obtain ⟨z,its,n,r,hl,e⟩:=I.lstM hH;obtain ⟨z2,its2,n2,r2,hl2,e2⟩:=I.lstM hB
 have hsz:its.toArray.size+its2.toArray.size<=sizeLine:=by rw [AZ,AZ];lia
 have hlong:¬(!its.toArray.isEmpty&&FA (its.toArray.size+its2.toArray.size))=true:=by
  rw [W0 hsz,Bool.and_false];exact AW
 refine Lj F.slot_list_extend ⟨_,e,rfl⟩ F.entry_list_extend (F.args_list_extend_2 _ _)
  (AutoSeq1.list_extend_list_list_0 l its.toArray n b its2.toArray n2 hlong (by rw [AZ];lia) (by lia)) ⟨e,e2,?_⟩
 refine ⟨.non,_,I.lset (its':=its++its2) hH e (by simp) (r.append r2) ?_,rfl,q⟩;rw [At];omega
def rCat:R2:=λx y H Q=>∃l b xs zs,x=.ref l/\y=.ref b/\H l=some (.lst xs)/\H b=some (.lst zs)/\xs.length+zs.length<=sizeLine/\∀p,H p=none->Q (.ref p) (upd H p (.lst (xs++zs)))
theorem bn:OpR X (Dj .Add) rCat:=by
 intro pins s σ H x y v u Q I rx ry h;obtain ⟨l,b,xs,zs,rfl,rfl,hH,hB,hz,q⟩:=h;cases rx;cases ry;obtain ⟨z,its,n,r,hl,e⟩:=I.lstM hH;obtain ⟨z2,its2,n2,r2,hl2,e2⟩:=I.lstM hB;refine PySem.P.add_list e e2 ?_ (by rw [AZ,AZ];lia)
 have ea:its.toArray++its2.toArray=(its++its2).toArray:=by simp
 rw [ea];exact ⟨.ref _,_,I.lnew (t':=s.toks) (r.append r2) (by rw [At];omega),rfl,q _ I.fresh⟩
section
variable {X:Cx} {o i e value:Expr} {pos pos' tpos:Pos} {td ty tv:TE}
theorem Y6 (hu:X.A.units+1 < Cy) (ho:PE X o td) (hi:PE X i ty) (hs:ck i):PE X (.Subscript o i pos) (de td ty):=by
 intro pins s σ H Q I h;refine Yg PySem.F.slot_dict_getitem.lookup hs (thn (ho pins s σ H _ I h) λu s1 ⟨x,H1,I1,rx,q1⟩=>thn (hi pins s1 σ H1 _ I1 q1) λiv s2 ⟨y,H2,I2,ry,a,v,ex,g,q2⟩=>?_);subst ex;obtain rfl:u=Ap a:=rx;exact ⟨Qq I2 g,VD hu I2 g ry λw' s3 I3 rw'=>⟨v,H2,I3,rw',q2⟩⟩
theorem bf (hu:X.A.units+1 < Cy) (hi:PE X i ty) (ho:PE X o td):PC X .In i o (dc ty td):=by
 intro pins s σ H Q I h
 refine thn (hi pins s σ H _ I h) λiv s1 ⟨y,H1,I1,ry,q1⟩=>thn (ho pins s1 σ H1 _ I1 q1) λu s2 ⟨x,H2,I2,rx,a,ov,ex,g,q2⟩=>?_
 subst ex;obtain rfl:u=Ap a:=rx
 exact d_in hu I2 g ry λs3 I3=>⟨.bl ov.isSome,H2,I3,rfl,q2⟩
theorem Ug (hu:X.A.units+1 < Cy) (hi:PE X i ty) (ho:PE X o td):PC X .NotIn i o (TB ty td):=by
 intro pins s σ H Q I h
 refine thn (hi pins s σ H _ I h) λiv s1 ⟨y,H1,I1,ry,q1⟩=>thn (ho pins s1 σ H1 _ I1 q1) λu s2 ⟨x,H2,I2,rx,a,ov,ex,g,q2⟩=>?_
 subst ex;obtain rfl:u=Ap a:=rx
 exact Zg hu I2 g ry λs3 I3=>⟨.bl (!ov.isSome),H2,I3,rfl,q2⟩
theorem Yx (hu:X.A.units+1 < Cy) (ho:PE X o td) (hi:PE X i ty) (hv:PE X value tv) (hs:Dx value (some (.Subscript o i pos')) pos.line X.env=pure false) :
  PS X (.Assign [.Subscript o i pos'] value pos) (dm td ty tv):=by
 intro pins s σ H D I h;refine wpAny_Assign_Subscript (thn (hv pins s σ H _ I h) λr s1 ⟨v,H1,I1,rv,q1⟩=>thn (ho pins s1 σ H1 _ I1 q1) λu s2 ⟨x,H2,I2,rx,q2⟩=>thn (hi pins s2 σ H2 _ I2 q2) λiv s3 ⟨y,H3,I3,ry,a,H4,ex,g,q3⟩=>?_) hs;subst ex;obtain rfl:u=Ap a:=rx
 exact VC hu I3 g ry rv λs4 I4=>⟨σ,H4,I4,q3⟩
end
theorem Xp {P:Aa} {w:As} {H:Hp} (h:BG) (hb:DA < h.objs.size):Bx P w H (h.push { cls:=.type "dict",data:=.dict #[] }) h.objs.size (.dT []):=
 ⟨DV _,beq_eq_false_iff_ne.mpr (Bp (Ag hb)),[],.nil,_,#[],0,AU _ rfl,⟨rfl,rfl,rfl⟩,rfl,rfl,Zz⟩
def bC:TE:=λ_ H Q=>∀p,H p=none->Q (.ref p) (upd H p (.dT []))
variable {prog:Aa} {w:As} {A:Ak} {E:AB->AD->Prop} {s:AD}
section
variable {X:Cx} {pos:Pos}
theorem Wr:PE X (.Dict [] [] pos) bC:=λpins s σ H Q I h=>
 wpAny_Dict_empty ⟨.ref s.heap.objs.size,_,I.laid (a:=s.heap.objs.size) (o:=.dT []) (t':=s.toks) (λ_ _ q=>AF _ q) (AS _) (Xp s.heap I.big),rfl,h _ (I.hok.fresh (AS _))⟩
end
section
variable {X:Cx} {pins:List (AE×Obj)} {σ:St} {H:Hp} {s:AD} {a:AE} {y d:V} {u r:AB} {o:Option V} {A:Ak} {E:AB->AD->Prop}
end
section
variable {X:Cx} {o e f:Expr} {apos cpos:Pos} {td ty tx:TE}
end
section
variable {X:Cx} {pins:List (AE×Obj)} {σ:St} {H:Hp} {s:AD} {a:AE} {kvs:List (Key×V)} {A:Ak} {E:AB->AD->Prop}
end
section
variable {X:Cx} {pins:List (AE×Obj)} {σ:St} {H:Hp} {s:AD} {a:AE} {y:V} {u:AB} {A:Ak} {E:AB->AD->Prop}
variable {X:Cx}
end
end L2
namespace Att
open PySem PySem.W PySem.Calls PyProof.Rows
theorem LL {P:Params} {h:BG}:∀(ns:List Int) (vs:List AB),WellAll P h vs (ns.map fF)->B1 vs ns:=by
 intro ns
 induction ns with
 | nil=>
  intro vs w;rw [Hi] at w;cases w;exact .nil
 | cons n ns ih=>
  intro vs w;rw [Ai] at w
  cases w with
  | cons a b=>
   cases a;exact .cons _ _ (ih _ b)
theorem UX {l:OpenLaw} {n:Nat} (hn:l.most=some n) {P:Params} {h:BG} {args:List WData} {vals:List AB}
  (hpre:l.row.toRowW.claim.pre args=true) (hwl:WellAll P h vals args) :
  ∃a vs ns,vals=[Ap a]/\args=[WData.list (ns.map fF)]/\h.get? a=some { cls:=.type "list",data:=.seq vs.toArray }/\B1 vs ns/\ns.length<=n:=by
 have hsh:WShape.hasAll [] args [.list .int]=true:=(pre_splitW hpre).1;have hc:l.pre.holds [] { args:=args }=true:=(pre_splitW hpre).2;obtain ⟨d,r,rfl,h1,h2⟩:=hasAllW_cons hsh;obtain rfl:=hasAllW_nil h2;obtain ⟨xs,rfl,h3⟩:=hasW_list h1;obtain ⟨ns,rfl⟩:=items_int h3
 have hlen:ns.length<=n:=by
  unfold OpenLaw.pre at hc
  have h4:(WTm.not (.lt (.lit (.int (n:Int))) (.len (.arg 0)))).holds [] { args:=[.list (ns.map .int)] }=true:=by
   have h4:=(holds_andW hc).1;rw [hn] at h4;exact h4
  have h5:=condW_of h4 (w_not (w_lt w_lit (w_len_list (w_arg rfl))));rw [AK] at h5
  refine Ls λq=>?_
  have q':(n:Int) < ((ns.length:Nat):Int):=by omega
  first
   | (rw [wX q'] at h5;exact zX h5 (by decide))
   | (simp at h5;omega)
 cases hwl with
 | cons w1 w2=>
  cases w2
  cases w1 with
  | list ho hall=>exact ⟨_,_,ns,rfl,rfl,ho,LL ns _ hall,hlen⟩
theorem Ue (l:OpenLaw) (args:List WData):l.row.toRowW.claim.post args (.bool true) args=true:=
 postW_of (r:=l.row.toRowW) (X:=(true==true))
  (show cz [] (.bool true) .bool=true by first | rfl | decide | simp [cz,WShape.arms,WShape.armsAll])
  (show (WTm.eq .res (.lit (.bool true))).value [] { args:=args,res:=some (.bool true),after:=args }=some (.bool (true==true)) from w_eq_bool (w_res rfl) w_lit) rfl
theorem Qx {l:OpenLaw} {n:Nat} {q:Aa} {loose:List Str} {XP:(Str->Option AB)->BG->Prop} {YP:As->BG->Prop} {d:DefRec}
  (hn:l.most=some n) (hdf:d.params.defaults=[])
  (call:∀(w:As) (s₀ s₁:AD) (mg mb:Str->Option AB) (fa:AE) (o:Obj) (pm cd doc:AB) (a:AE) (vs:List AB) (ns:List Int),
   Ground q loose [] XP w s₀ mg mb s₁.heap->YP w s₁.heap ->
   s₁.heap.get? fa=some o->o.data=.func (docDef d.name d.params d.body d.scope pm cd doc)->s₁.heap.CodeRec cd d.name->mg d.name=some (.ref fa) ->
   s₁.heap.get? a=some { cls:=.type "list",data:=.seq vs.toArray }->B1 vs ns->ns.length<=n->s₁.gens = #[] ->
   Ir (AR l.prog w) NI (.call (.ref fa) ⟨[.ref a],[]⟩) (λr s'=>r=.ok (.ret (.bool true))/\OldK s₁.heap s'.heap/\s'.os=s₁.os/\FW s'.gens) s₁) :
  WalkO q loose XP YP l.row.toRowW d [] (λf vs=>UJ f vs):=by
 intro w s₀ s₁ mg mb G Y fa o pm cd doc dV kV ho hd hcd hD hmg hg args vals as hpre hlay hrd hwl hlo;obtain rfl:dV=.none:=Dflts.none hD hdf;obtain rfl:kV=.none:=Dflts.noKw hD;obtain ⟨a,vs,ns,rfl,rfl,hobj,hints,hlen⟩:=UX hn hpre hwl;refine enter_call (GM (call w s₀ s₁ mg mb fa o pm cd doc a vs ns G Y ho (fd_plain hd) hcd hmg hobj hints hlen hg) λr s' hq=>?_);obtain ⟨rfl,h2,h3,h4⟩:=hq;exact ⟨.inl ⟨.bool true,.bool true,[],rfl,λ_=>rfl,.bool true,Ue l _,λ_=>⟨dG,λ_ hm=>(nomatch hm)⟩⟩,h2,h3,h4⟩
section
variable {prog:Aa} {w:As} {A:Ak} {E:AB->AD->Prop} {s:AD} {K:Frag}
end
end Att
namespace L2
open PySem PySem.Spec PyProof.Rows
theorem Nu:∀ {vs:List AB} {ns:List Int},B1 vs ns->BK (ns.map V.int) vs
 | _,_,.nil=>.nil
 | _,_,.cons n t h=>.cons ⟨t,rfl⟩ (Nu h)
def Zw (H:Hp):Prop:=∀b,H b=none∨∃o xs,H b=some (.frz o (.lst xs))
theorem XH {P:Aa} {w:As} {K:AA} {mg mb:Str->Option AB} {CX:CXT} {k:Nat} {fa a:AE} {fd:CQ} {x:Str} {sp:Sp} {s₁:AD} {vs:List AB} {ns:List Int}
  (KX:K.In s₁.heap) (hns:s₁.heap.Ns Ah mg) (hb:s₁.heap.Ns aL mb) (hbb:∀x:Str,x≠"__name__"->mb x=Dy x) (hlim:s₁.heap.NoLimit) (hg:s₁.gens = #[])
  (ha:s₁.heap.get? a=some { cls:=.type "list",data:=.seq vs.toArray }) (hi:B1 vs ns) (hl:ns.length<=sizeLine) (hr:Ey k NI)
  (F:∀base:BG,K.In base->base.Ns Ah mg->EE P w K mg base CX k fa fd [x] sp) (hbind:∀(s:AD) (u:AB),RB s fd ⟨[u],[]⟩ [(x,u)])
  (hsp:∀H:Hp,Zw H->SqL K H a (ns.map V.int)->sp [.ref a] H (λv _=>v=.bl true) λ_ _ _=>False)
  (hCX:∀H e s',CX [] H s₁ (λ_ _ _=>False) e s'->False) :
  Ir (AR P w) NI (.call (.ref fa) ⟨[.ref a],[]⟩) (λr s'=>r=.ok (.ret (.bool true))/\OldK s₁.heap s'.heap/\s'.os=s₁.os/\FW s'.gens) s₁:=by
 have rv:=Nu hi;have lenV:=hi.length
 have core:∀H:Hp,Zw H->SqL K H a (ns.map V.int)->HOk P w H s₁.heap->(∀b,H b≠none->b=a)->(H a≠none->K.lookup a=none) ->
   Ir (AR P w) NI (.call (.ref fa) ⟨[.ref a],[]⟩) (λr s'=>r=.ok (.ret (.bool true))/\OldK s₁.heap s'.heap/\s'.os=s₁.os/\FW s'.gens) s₁:=by
  intro H hO hS hok hA hK
  have base_of:∀ {b:AE} {o:Obj},s₁.heap.get? b=some o->H b=none->(PP s₁.heap H).get? b=some o:=λe n=>XX e n
  have noA:∀ {b:AE} {o:Obj} {es:Array Kj} {ep:Nat},s₁.heap.get? b=some o->o.data=.dict es ep->H b=none:=λ{b o es ep} e d=>by
   cases q:H b with
   | none=>rfl
   | some u=>
    have e':b=a:=hA b (by rw [q];simp);subst e';rw [ha] at e;cases e;have d':Data.seq vs.toArray _=Data.dict es ep:=d;cases d'
  have nsK:∀ {b:AE} {m:Str->Option AB},s₁.heap.Ns b m->(PP s₁.heap H).Ns b m:=λ{b m} ⟨o,es,ep,e,d,r⟩=>⟨o,es,ep,base_of e (noA e d),d,r⟩
  have hKb:K.In (PP s₁.heap H):=λb o e=>base_of (KX b o e) (by
   cases q:H b with
   | none=>rfl
   | some u=>
    have e':b=a:=hA b (by rw [q];simp);subst e'
    rw [hK (by rw [q];simp)] at e;cases e)
  have hM:Mod K mg (PP s₁.heap H):=⟨hKb,nsK hns,⟨mb,nsK hb,hbb⟩,let ⟨mc,h1,h2⟩:=hlim;⟨mc,nsK h1,h2⟩⟩;have e0:SY P w K mg (PP s₁.heap H) NI [] s₁ H:=⟨rfl,hM,λb o e=>ZH e,RL (Uz _ _),trivial,λb hb=>zX (show b∈([]:List AE) from hb) (by simp),hok,.of_eq hg⟩
  refine GM ((F _ hKb (nsK hns)).run NI [] s₁ H ⟨[.ref a],[]⟩ [.ref a] [.ref a] _ _ hr e0 (hbind s₁ (.ref a)) (.cons rfl .nil) (hsp H hO hS)) λr s' h=>?_
  cases r with
  | error e=>exact (hCX H e s' h).elim
  | ok fl=>
   cases fl with
   | next=>exact CU h
   | brk=>exact CU h
   | cont=>exact CU h
   | ret u=>
    obtain ⟨v,H',os,bare,un,hok',r',q⟩:=h;have q':v=.bl true:=q;subst q';obtain rfl:u=Hb true:=r';refine ⟨rfl,OldK.of_keep λb o e=>?_,os,bare⟩
    cases q:H b with
    | none=>exact un.keep b o e q (by intro z;exact zX (show b∈([]:List AE) from z) (by simp)) (by simp)
    | some u=>
     rcases hO b with z | ⟨ob,xs,z⟩
     ·rw [q] at z;cases z
     ·have z2:=un.frzs b ob _ z
      obtain ⟨e1,_⟩:=hok b _ z;obtain ⟨e2,_⟩:=hok' b _ z2;rw [e] at e1;cases e1;exact e2
 cases hk:K.lookup a with
 | some o=>
  have e:=KX a o hk;rw [ha] at e;cases e
  refine core (λ_=>none) (λ_=>.inl rfl) (.inr ⟨_,vs.toArray,_,hk,rfl,rfl,rfl,by rw [AZ,lenV];exact hl,by simpa using rv⟩) (λb u z=>by have z':(none:Option HO)=some u:=z;cases z') (λb z=>zX rfl z) λz=>zX rfl z
 | none=>
  refine core (λb=>if b=a then some (.frz { cls:=.type "list",data:=.seq vs.toArray } (.lst (ns.map V.int))) else none) (λb=>?_) (.inl (.inr ⟨{ cls:=.type "list",data:=.seq vs.toArray },qX rfl⟩)) (λb u z=>?_) (λb z=>?_) λ_=>hk
  ·by_cases hb:b=a
   ·exact .inr ⟨_,_,qX hb⟩
   ·exact .inl (qY hb)
  ·by_cases hb:b=a
   ·have z':=(qX hb).symm.trans z
    cases z';subst hb;exact ⟨ha,by rw [AK];exact hl,vs,_,rv,ha⟩
   ·have z':=(qY hb).symm.trans z
    cases z'
  ·by_cases hb:b=a
   ·exact hb
   ·exact zX (qY hb) z
theorem YR {l:PySem.W.OpenLaw} {n k:Nat} {q:Aa} {loose:List Str} {XP:(Str->Option AB)->BG->Prop} {YP:As->BG->Prop} {d:DefRec} {K:Params->AA} {CX:As->CXT} {sp:As->Sp} {x:Str}
  (hn:l.most=some n) (hn2:n<=sizeLine) (hdf:d.params.defaults=[]) (hr:Ey k NI)
  (hY:∀(w:As) (h:BG),YP w h->(K w.params).In h)
  (F:∀(w:As) (mg:Str->Option AB) (fa:AE) (h:BG),(K w.params).In h->h.Ns Ah mg->mg d.name=some (.ref fa) ->
   ∃fd:CQ,(∀(s:AD) (u:AB),RB s fd ⟨[u],[]⟩ [(x,u)]) /\
    ∀base:BG,(K w.params).In base->base.Ns Ah mg->EE l.prog w (K w.params) mg base (CX w) k fa fd [x] (sp w))
  (hsp:∀(w:As) (H:Hp) (a:AE) (ns:List Int),ns.length<=n->Zw H->SqL (K w.params) H a (ns.map V.int)->sp w [.ref a] H (λv _=>v=.bl true) λ_ _ _=>False)
  (hCX:∀(w:As) (H:Hp) (s:AD) (e:AB) (s':AD),CX w [] H s (λ_ _ _=>False) e s'->False) :
  PySem.W.WalkO q loose XP YP l.row.toRowW d [] (λf vs=>UJ f vs):=by
 refine Att.Qx hn hdf λw s₀ s₁ mg mb fa o pm cd doc a vs ns G Y ho hd hcd hmg hobj hints hlen hg=>?_
 have KX:=hY w _ Y;obtain ⟨fd,hb,hF⟩:=F w mg fa _ KX G.T.g hmg
 exact XH KX G.T.g G.T.b G.T.builtins G.T.nolimit hg hobj hints (Aq hlen hn2) hr hF hb (λH hO hS=>hsp w H a ns hlen hO hS) λH e s'=>hCX w H s₁ e s'
def ZT (s:CW) (j:Nat):CW:=match s with
 | .ClassDef _ _ _ body _ _ _ _ _ _ _=>body.getD j (.Pass ⟨0,0,0,0⟩)
 | _=>.Pass ⟨0,0,0,0⟩
def CN (s:CW):Arguments:=match s with
 | .FunctionDef _ a _ _ _ _ _ _ _ _=>a
 | _=>{ posonlyargs:=[],args:=[],vararg:=none,kwonlyargs:=[],kw_defaults:=[],kwarg:=none,defaults:=[] }
def B6 (s:CW):List CW:=match s with
 | .FunctionDef _ _ b _ _ _ _ _ _ _=>b
 | _=>[]
def A0 (s:CW):Fb:=match s with
 | .FunctionDef _ _ _ _ _ _ sc _ _ _=>sc
 | _=>{ kind:=.function,names:=[],isGenerator:=false,isCoroutine:=false }
structure Fun (K:AA) (x qual:Str) (st:CW) (f:AE) (fd:CQ):Prop where
 ex:∃(oc:AB) (od:Option AE) (kV doc pm:AB) (an:Option AE) (cdv ct:AB) (osl:Array (Option AB)),
  fd=E3 x qual (CN st) (B6 st) (A0 st) .none kV doc pm an cdv ct/\K.lookup f=some ⟨oc,od,.func fd,osl⟩/\Lm K cdv qual=true
 kp:D0 K (.ref f)=true
section
variable {P:Aa} {w:As} {K:AA} {mg:Str->Option AB} {base:BG}
theorem Fun.binds {x qual:Str} {st:CW} {f:AE} {fd:CQ} {ps:List Str} (F:Fun K x qual st f fd)
  (h:∀(kV doc pm:AB) (an:Option AE) (cdv ct:AB) (us:List AB),us.length=ps.length->bindArgs (E3 x qual (CN st) (B6 st) (A0 st) .none kV doc pm an cdv ct) ⟨us,[]⟩=pure (ps.zip us)):Binds K fd ps []:=by
 obtain ⟨oc,od,kV,doc,pm,an,cdv,ct,osl,rfl,lk,hcd⟩:=F.ex;exact .all (h kV doc pm an cdv ct)
theorem EV {x qual:Str} {st:CW} {f:AE} {oc:AB} {od an:Option AE} {osl:Array (Option AB)} {kV doc pm cdv ct:AB} (l:K.lookup f=some ⟨oc,od,.func (E3 x qual (CN st) (B6 st) (A0 st) .none kV doc pm an cdv ct),osl⟩)
  (c:Lm K cdv qual=true) (k:D0 K (.ref f)=true):Fun K x qual st f (E3 x qual (CN st) (B6 st) (A0 st) .none kV doc pm an cdv ct):=⟨⟨oc,od,kV,doc,pm,an,cdv,ct,osl,rfl,l,c⟩,k⟩
end
section
variable {X:Cx}
theorem pv (i:Nat) {x:Str} {pos:Pos} (hN:X.N[i]?=some x:=by rfl) (hv:Vis X.env.scope x:=by first | exact Se rfl | exact Pq (Se rfl) | exact Pq (Pq rfl)) (hd:(x==("__debug__" : Str))=false:=by decide)
  (hcd:(x==("__classdict__" : Str))=false:=by decide):PE X (.Name x pos) (az i):=bX hN hv hd hcd
end
section
variable {κ:Type} [DecidableEq κ]
end
inductive D where
 | non | bl (b:Bool) | int (i:Int) | str (x:Str) | tup (ds:List D) | fro (ds:List D) | ref (n:Nat) | exc (C:AE)
def Nf (K:AA) (H:Hp) (a:AE) (vs:List V):Prop:=
 (∃o,H a=some (.frz o (.lst vs))) ∨
  ∃(o:Obj) (its:Array AB) (n:Nat),K.lookup a=some o/\o.cls=.type "list"/\o.dict=none/\o.data=.seq its n/\its.size<=sizeLine/\BK vs its.toList
theorem Nf.sq {K:AA} {H:Hp} {a:AE} {vs:List V} (h:Nf K H a vs):SqL K H a vs:=by
 rcases h with h | h
 ·exact .inl (.inr h)
 ·exact .inr h
def Q1 (o:Obj) (C:AE):Prop:=o.cls=.ref C/\o.dict=none/\∃vs,o.data=.fields vs
mutual
inductive BM (K:AA) (ρ:List AE) (H:Hp):D->V->Prop where
 | non:BM K ρ H .non .non
 | bl (b:Bool):BM K ρ H (.bl b) (.bl b)
 | int (i:Int):BM K ρ H (.int i) (.int i)
 | str (x:Str):BM K ρ H (.str x) (.str x)
 | tup {ds:List D} {a:AE} {vs:List V}:H a=some (.tup vs)->Aj K ρ H ds vs->BM K ρ H (.tup ds) (.ref a)
 | fro {ds:List D} {a:AE} {vs:List V}:Nf K H a vs->Aj K ρ H ds vs->BM K ρ H (.fro ds) (.ref a)
 | ref {n:Nat} {a:AE}:ρ[n]?=some a->BM K ρ H (.ref n) (.ref a)
 | exc {C a:AE} {o:Obj} {u:HO}:H a=some (.frz o u)->Q1 o C->BM K ρ H (.exc C) (.ref a)
inductive Aj (K:AA) (ρ:List AE) (H:Hp):List D->List V->Prop where
 | nil:Aj K ρ H [] []
 | cons {d:D} {v:V} {ds:List D} {vs:List V}:BM K ρ H d v->Aj K ρ H ds vs->Aj K ρ H (d :: ds) (v :: vs)
end
structure Le (K:AA) (ρ:List AE) (H:Hp) (ρ':List AE) (H':Hp):Prop where
 pre:∀(n:Nat) a,ρ[n]?=some a->ρ'[n]?=some a
 tup:∀a xs,H a=some (.tup xs)->H' a=some (.tup xs)
 frz:∀a o u,H a=some (.frz o u)->H' a=some (.frz o u)
 oth:∀a o,H a=some o->(∀n:Nat,ρ[n]?≠some a)->H' a=some o/\∀n:Nat,ρ'[n]?≠some a
theorem Nf.mono {K:AA} {H H':Hp} {a:AE} {xs:List V} (l:∀a o u,H a=some (.frz o u)->H' a=some (.frz o u)) (h:Nf K H a xs):Nf K H' a xs:=by
 rcases h with ⟨o,h⟩ | h
 ·exact .inl ⟨o,l _ _ _ h⟩
 ·exact .inr h
section
variable {K:AA} {ρ ρ' ρ'':List AE} {H H' H'':Hp}
theorem Le.fro (l:Le K ρ H ρ' H'):∀a xs,Nf K H a xs->Nf K H' a xs:=λ_ _ h=>h.mono l.frz
theorem Le.refl:Le K ρ H ρ H:=⟨λ_ _ h=>h,λ_ _ h=>h,λ_ _ _ h=>h,λ_ _ h n=>⟨h,n⟩⟩
theorem Le.trans (a:Le K ρ H ρ' H') (b:Le K ρ' H' ρ'' H''):Le K ρ H ρ'' H'':=
 ⟨λn x h=>b.pre n x (a.pre n x h),λx xs h=>b.tup x xs (a.tup x xs h),λx o u h=>b.frz x o u (a.frz x o u h),λx o h n=>b.oth x o (a.oth x o h n).1 (a.oth x o h n).2⟩
mutual
theorem BM.mono (l:Le K ρ H ρ' H'):∀ {d:D} {v:V},BM K ρ H d v->BM K ρ' H' d v
 | _,_,.non=>.non
 | _,_,.bl b=>.bl b
 | _,_,.int i=>.int i
 | _,_,.str x=>.str x
 | _,_,.tup h r=>.tup (l.tup _ _ h) (Aj.mono l r)
 | _,_,.fro h r=>.fro (l.fro _ _ h) (Aj.mono l r)
 | _,_,.ref h=>.ref (l.pre _ _ h)
 | _,_,.exc h e=>.exc (l.frz _ _ _ h) e
theorem Aj.mono (l:Le K ρ H ρ' H'):∀ {ds:List D} {vs:List V},Aj K ρ H ds vs->Aj K ρ' H' ds vs
 | _,_,.nil=>.nil
 | _,_,.cons r t=>.cons (BM.mono l r) (Aj.mono l t)
end
mutual
theorem BM.more (l:∀(n:Nat) a,ρ[n]?=some a->ρ'[n]?=some a):∀ {d:D} {v:V},BM K ρ H d v->BM K ρ' H d v
 | _,_,.non=>.non
 | _,_,.bl b=>.bl b
 | _,_,.int i=>.int i
 | _,_,.str x=>.str x
 | _,_,.tup h r=>.tup h (Aj.more l r)
 | _,_,.fro h r=>.fro h (Aj.more l r)
 | _,_,.ref h=>.ref (l _ _ h)
 | _,_,.exc h e=>.exc h e
theorem Aj.more (l:∀(n:Nat) a,ρ[n]?=some a->ρ'[n]?=some a):∀ {ds:List D} {vs:List V},Aj K ρ H ds vs->Aj K ρ' H ds vs
 | _,_,.nil=>.nil
 | _,_,.cons r t=>.cons (BM.more l r) (Aj.more l t)
end
mutual
theorem BM.keep (h1:∀a xs,H a=some (.tup xs)->H' a=some (.tup xs)) (h2:∀a o u,H a=some (.frz o u)->H' a=some (.frz o u)):∀ {d:D} {v:V},BM K ρ H d v->BM K ρ H' d v
 | _,_,.non=>.non
 | _,_,.bl b=>.bl b
 | _,_,.int i=>.int i
 | _,_,.str x=>.str x
 | _,_,.tup h r=>.tup (h1 _ _ h) (Aj.keep h1 h2 r)
 | _,_,.fro h r=>.fro (h.mono h2) (Aj.keep h1 h2 r)
 | _,_,.ref h=>.ref h
 | _,_,.exc h e=>.exc (h2 _ _ _ h) e
theorem Aj.keep (h1:∀a xs,H a=some (.tup xs)->H' a=some (.tup xs)) (h2:∀a o u,H a=some (.frz o u)->H' a=some (.frz o u)):∀ {ds:List D} {vs:List V},Aj K ρ H ds vs->Aj K ρ H' ds vs
 | _,_,.nil=>.nil
 | _,_,.cons r t=>.cons (BM.keep h1 h2 r) (Aj.keep h1 h2 t)
end
theorem Aj.length:∀ {ds:List D} {vs:List V},Aj K ρ H ds vs->ds.length=vs.length
 | _,_,.nil=>rfl
 | _,_,.cons _ t=>by rw [Af,Af,Aj.length t]
theorem Aj.get:∀ {ds:List D} {vs:List V} {i:Nat} {d:D},Aj K ρ H ds vs->ds[i]?=some d->∃v,vs[i]?=some v/\BM K ρ H d v
 | _,_,_,_,.nil,e=>by simp at e
 | _,_,0,_,.cons r _,e=>by simp at e;subst e;exact ⟨_,rfl,r⟩
 | _,_,i+1,d,.cons _ t,e=>by
  obtain ⟨v,h1,h2⟩:=Aj.get (i:=i) (d:=d) t (by simpa using e);exact ⟨v,by simpa using h1,h2⟩
theorem Aj.get':∀ {ds:List D} {vs:List V} {i:Nat} {v:V},Aj K ρ H ds vs->vs[i]?=some v->∃d,ds[i]?=some d/\BM K ρ H d v
 | _,_,_,_,.nil,e=>by simp at e
 | _,_,0,_,.cons r _,e=>by simp at e;subst e;exact ⟨_,rfl,r⟩
 | _,_,i+1,d,.cons _ t,e=>by
  obtain ⟨v,h1,h2⟩:=Aj.get' (i:=i) (v:=d) t (by simpa using e);exact ⟨v,by simpa using h1,h2⟩
theorem Aj.append:∀ {ds es:List D} {vs us:List V},Aj K ρ H ds vs->Aj K ρ H es us->Aj K ρ H (ds++es) (vs++us)
 | _,_,_,_,.nil,s=>s
 | _,_,_,_,.cons r t,s=>.cons r (Aj.append t s)
theorem Aj.take:∀ {ds:List D} {vs:List V} (n:Nat),Aj K ρ H ds vs->Aj K ρ H (ds.take n) (vs.take n)
 | _,_,0,_=>.nil
 | _,_,_+1,.nil=>.nil
 | _,_,n+1,.cons r t=>.cons r (Aj.take n t)
theorem Aj.drop:∀ {ds:List D} {vs:List V} (n:Nat),Aj K ρ H ds vs->Aj K ρ H (ds.drop n) (vs.drop n)
 | _,_,0,r=>r
 | _,_,_+1,.nil=>.nil
 | _,_,n+1,.cons _ t=>Aj.drop n t
theorem Aj.of_ints:∀(ns:List Int),Aj K ρ H (ns.map D.int) (ns.map V.int)
 | []=>.nil
 | n :: ns=>.cons (.int n) (Aj.of_ints ns)
theorem Aj.ints:∀ {ns:List Int} {vs:List V},Aj K ρ H (ns.map D.int) vs->vs=ns.map V.int
 | [],_,.nil=>rfl
 | n :: ns,_,.cons r t=>by
  cases r;rw [Aj.ints (ns:=ns) t];rfl
end
inductive Ob where
 | lst (ds:List D)
 | dK (kvs:List (Key×D))
 | dT (kvs:List (List Key×D))
 | ins (C:AE) (fs:List (Str×D))
abbrev Sto:=List Ob
abbrev KVR {κ:Type} (K:AA) (ρ:List AE) (H:Hp):List (κ×D)->List (κ×V)->Prop:=Et λ(p:κ×D) (q:κ×V)=>p.1=q.1/\BM K ρ H p.2 q.2
def DU (K:AA) (ρ:List AE) (H:Hp) (a:AE):Ob->Prop
 | .lst ds=>∃vs,H a=some (.lst vs)/\Aj K ρ H ds vs
 | .dK kvs=>∃kvs',H a=some (.dK kvs')/\KVR K ρ H kvs kvs'
 | .dT kvs=>∃kvs',H a=some (.dT kvs')/\KVR K ρ H kvs kvs'
 | .ins C fs=>∃dx fs',H a=some (.ins C dx fs')/\KVR K ρ H fs fs'
structure BW (K:AA) (ρ:List AE) (S:Sto) (H:Hp):Prop where
 len:ρ.length=S.length
 nd:∀(i j:Nat) a,ρ[i]?=some a->ρ[j]?=some a->i=j
 ob:∀(n:Nat) o a,S[n]?=some o->ρ[n]?=some a->DU K ρ H a o
section
variable {K:AA} {ρ ρ':List AE} {H H':Hp} {S:Sto} {a p:AE} {o:Ob} {n:Nat} {ho:HO}
theorem KVR.mono {κ:Type} (l:Le K ρ H ρ' H') {x:List (κ×D)} {y:List (κ×V)} (h:KVR K ρ H x y):KVR K ρ' H' x y:=Et.mapP h λ_ _ z=>⟨z.1,z.2.mono l⟩
theorem DU.mut (h:DU K ρ H a o):Mut (H a):=by
 cases o with
 | lst ds=>obtain ⟨_,e,_⟩:=h;rw [e];trivial
 | dK ds=>obtain ⟨_,e,_⟩:=h;rw [e];trivial
 | dT ds=>obtain ⟨_,e,_⟩:=h;rw [e];trivial
 | ins C fs=>obtain ⟨_,_,e,_⟩:=h;rw [e];trivial
theorem DU.mono (l:Le K ρ H ρ' H') (e:H' a=H a) (h:DU K ρ H a o):DU K ρ' H' a o:=by
 cases o with
 | lst ds=>obtain ⟨vs,h1,h2⟩:=h;exact ⟨vs,e.trans h1,h2.mono l⟩
 | dK ds=>obtain ⟨vs,h1,h2⟩:=h;exact ⟨vs,e.trans h1,h2.mono l⟩
 | dT ds=>obtain ⟨vs,h1,h2⟩:=h;exact ⟨vs,e.trans h1,h2.mono l⟩
 | ins C fs=>obtain ⟨dx,vs,h1,h2⟩:=h;exact ⟨dx,vs,e.trans h1,h2.mono l⟩
theorem DU.keep (h1:∀a xs,H a=some (.tup xs)->H' a=some (.tup xs)) (h2:∀a o u,H a=some (.frz o u)->H' a=some (.frz o u)) (e:H' a=H a) (h:DU K ρ H a o):DU K ρ H' a o:=by
 cases o with
 | lst ds=>obtain ⟨vs,q1,q2⟩:=h;exact ⟨vs,e.trans q1,q2.keep h1 h2⟩
 | dK ds=>obtain ⟨vs,q1,q2⟩:=h;exact ⟨vs,e.trans q1,Et.mapP q2 λ_ _ z=>⟨z.1,z.2.keep h1 h2⟩⟩
 | dT ds=>obtain ⟨vs,q1,q2⟩:=h;exact ⟨vs,e.trans q1,Et.mapP q2 λ_ _ z=>⟨z.1,z.2.keep h1 h2⟩⟩
 | ins C fs=>obtain ⟨dx,vs,q1,q2⟩:=h;exact ⟨dx,vs,e.trans q1,Et.mapP q2 λ_ _ z=>⟨z.1,z.2.keep h1 h2⟩⟩
theorem DU.mono' (l:∀(n:Nat) a,ρ[n]?=some a->ρ'[n]?=some a) (h:DU K ρ H a o):DU K ρ' H a o:=by
 cases o with
 | lst ds=>obtain ⟨vs,h1,h2⟩:=h;exact ⟨vs,h1,h2.more l⟩
 | dK ds=>obtain ⟨vs,h1,h2⟩:=h;exact ⟨vs,h1,Et.mapP h2 λ_ _ z=>⟨z.1,z.2.more l⟩⟩
 | dT ds=>obtain ⟨vs,h1,h2⟩:=h;exact ⟨vs,h1,Et.mapP h2 λ_ _ z=>⟨z.1,z.2.more l⟩⟩
 | ins C fs=>obtain ⟨dx,vs,h1,h2⟩:=h;exact ⟨dx,vs,h1,Et.mapP h2 λ_ _ z=>⟨z.1,z.2.more l⟩⟩
theorem D9 (hp:H p=none∨Mut (H p)):(∀a xs,H a=some (.tup xs)->upd H p ho a=some (.tup xs))/\∀a o u,H a=some (.frz o u)->upd H p ho a=some (.frz o u):=by
 have ne:∀a u,H a=some u->¬Mut (some u)->a≠p:=λa u e nm z=>by
  subst z
  rcases hp with h | h
  ·rw [e] at h;cases h
  ·rw [e] at h;exact nm h
 refine ⟨λa xs e=>?_,λa o u e=>?_⟩
 ·rw [BI (ne a _ e λz=>z)];exact e
 ·rw [BI (ne a _ e λz=>z)];exact e
theorem Le.fresh (hp:H p=none):Le K ρ H ρ (upd H p ho):=
 ⟨λ_ _ h=>h,(D9 (.inl hp)).1,(D9 (.inl hp)).2,λa o e n=>⟨by rw [BI (BX e hp)];exact e,n⟩⟩
theorem Le.write (hn:ρ[n]?=some p) (hm:Mut (H p)):Le K ρ H ρ (upd H p ho):=
 ⟨λ_ _ h=>h,(D9 (.inr hm)).1,(D9 (.inr hm)).2,λa o e h=>⟨by rw [BI λz=>h n (by rw [z];exact hn)];exact e,h⟩⟩
theorem FK {α:Type} {l:List α} {x:α} {m:Nat} {a:α} (e:(l++[x])[m]?=some a):(l[m]?=some a/\m < l.length)∨(m=l.length/\a=x):=by
 by_cases hm:m < l.length
 ·rw [Ad hm] at e;exact .inl ⟨e,hm⟩
 ·rw [A5 (by lia)] at e
  have:m - l.length=0:=by
   have:=(AJ.mp e).1;simp at this;omega
  rw [this] at e;exact .inr ⟨by lia,by simpa using e.symm⟩
theorem Le.alloc (hp:H p=none):Le K ρ H (ρ++[p]) (upd H p ho):=by
 refine ⟨λn a h=>by rw [Ad (AJ.mp h).1];exact h,(D9 (.inl hp)).1,(D9 (.inl hp)).2,λa o e h=>⟨by rw [BI (BX e hp)];exact e,λn q=>?_⟩⟩
 rcases FK q with ⟨q,_⟩ | ⟨_,q⟩
 ·exact h n q
 ·exact BX e hp q
theorem BW.there (h:BW K ρ S H) {m:Nat} (e:ρ[m]?=some a):∃o,S[m]?=some o/\DU K ρ H a o:=by
 have hn:m < S.length:=by rw [<-h.len];exact (AJ.mp e).1
 exact ⟨S[m],by simp [hn],h.ob m _ a (by simp [hn]) e⟩
theorem BW.notIn (h:BW K ρ S H) (hp:H p=none) {m:Nat} (e:ρ[m]?=some p):False:=by
 obtain ⟨o,_,r⟩:=h.there e;have:=r.mut;rw [hp] at this;exact this
theorem BW.alloc (h:BW K ρ S H) (hp:H p=none) (hob:DU K (ρ++[p]) (upd H p ho) p o):BW K (ρ++[p]) (S++[o]) (upd H p ho)/\Le K ρ H (ρ++[p]) (upd H p ho)/\(ρ++[p])[S.length]?=some p:=by
 have le:Le K ρ H (ρ++[p]) (upd H p ho):=Le.alloc hp
 have at':∀(m:Nat) a,(ρ++[p])[m]?=some a->(ρ[m]?=some a/\m < ρ.length)∨(m=ρ.length/\a=p):=λm a e=>FK e
 refine ⟨⟨by simp [h.len],λi j a hi hj=>?_,λm ob a hm ha=>?_⟩,le,by rw [<-h.len];simp⟩
 ·rcases at' i a hi with ⟨hi1,_⟩ | ⟨hi1,ea⟩ <;> rcases at' j a hj with ⟨hj1,_⟩ | ⟨hj1,ea'⟩
  ·exact h.nd i j a hi1 hj1
  ·rw [ea'] at hi1;exact (h.notIn hp hi1).elim
  ·rw [ea] at hj1;exact (h.notIn hp hj1).elim
  ·lia
 ·rcases at' m a ha with ⟨ha1,hlt⟩ | ⟨rfl,rfl⟩
  ·rw [Ad (by rw [<-h.len];exact hlt)] at hm
   refine (h.ob m ob a hm ha1).mono le (BI λz=>?_);rw [z] at ha1;exact h.notIn hp ha1
  ·rw [h.len] at hm
   simp at hm;subst hm;exact hob
theorem BW.write (h:BW K ρ S H) (hn:ρ[n]?=some a) (hob:DU K ρ (upd H a ho) a o):BW K ρ (S.set n o) (upd H a ho)/\Le K ρ H ρ (upd H a ho):=by
 obtain ⟨o',e',r'⟩:=h.there hn;have le:Le K ρ H ρ (upd H a ho):=Le.write hn r'.mut;refine ⟨⟨by simp [h.len],h.nd,λm ob b hm hb=>?_⟩,le⟩
 by_cases e:m=n
 ·subst e
  rw [hn] at hb;cases hb;rw [A7 (by rw [<-h.len];exact (AJ.mp hn).1)] at hm;cases hm;exact hob
 ·rw [BC (Bp e)] at hm
  refine (h.ob m ob b hm hb).mono le (BI λz=>?_);subst z;exact e (h.nd m n b hb hn)
theorem Le.back {S':Sto} (l:Le K ρ H ρ' H') (s:BW K ρ S H) (s':BW K ρ' S' H') (hp:H' p=none):H p=none:=by
 cases q:H p with
 | none=>rfl
 | some o=>
  by_cases hn:∃n:Nat,ρ[n]?=some p
  ·obtain ⟨n,hn⟩:=hn
   exact (s'.notIn hp (l.pre n p hn)).elim
  ·have:=(l.oth p o q λn h=>hn ⟨n,h⟩).1
   rw [hp] at this;cases this
theorem BW.adopt (h:BW K ρ S H) (hn:∀m:Nat,ρ[m]?≠some p) (hob:DU K (ρ++[p]) H p o):BW K (ρ++[p]) (S++[o]) H/\(ρ++[p])[S.length]?=some p:=by
 have le:∀a ob,DU K ρ H a ob->DU K (ρ++[p]) H a ob:=λa ob r=>by
  have l0:∀(n:Nat) a,ρ[n]?=some a->(ρ++[p])[n]?=some a:=λn a h=>by rw [Ad (AJ.mp h).1];exact h
  exact r.mono' l0
 refine ⟨⟨by simp [h.len],λi j a hi hj=>?_,λm ob a hm ha=>?_⟩,by rw [<-h.len];simp⟩
 ·rcases FK hi with ⟨hi1,_⟩ | ⟨hi1,ea⟩ <;> rcases FK hj with ⟨hj1,_⟩ | ⟨hj1,ea'⟩
  ·exact h.nd i j a hi1 hj1
  ·rw [ea'] at hi1;exact (hn i hi1).elim
  ·rw [ea] at hj1;exact (hn j hj1).elim
  ·lia
 ·rcases FK ha with ⟨ha,hlt⟩ | ⟨rfl,rfl⟩
  ·rw [Ad (by rw [<-h.len];exact hlt)] at hm
   exact le a ob (h.ob m ob a hm ha)
  ·rw [h.len] at hm
   simp at hm;subst hm;exact hob
end
inductive Res (α:Type) where
 | ok (a:α) (S:Sto) | err (c:AE) (S:Sto) | bad
def Res.bind {α β:Type} (r:Res α) (f:α->Sto->Res β):Res β:=match r with
 | .ok a S=>f a S
 | .err c S=>.err c S
 | .bad=>.bad
abbrev Lo:=List (Option D)
abbrev ME:=Lo->Sto->Res D
abbrev MT:=Lo->Sto->Res Bool
abbrev ML:=Lo->Sto->Res (List D)
inductive Fl where
 | nx (e:Lo) | rt (d:D) | bk (e:Lo) | ct (e:Lo) | ex (c:AE) (e:Lo)
abbrev MS:=Lo->Sto->Res Fl
abbrev MG:=D->Lo->Sto->Res Lo
abbrev Gq:=Sto->Option (List D)
abbrev MI:=Lo->Sto->Res Gq
structure Dm (K:AA) (ρ:List AE) (H:Hp) (e:Lo) (σ:St):Prop where
 len:e.length=σ.length
 at':∀(i:Nat) d,e[i]?=some (some d)->∃v,σ[i]?=some (some v)/\BM K ρ H d v
section
variable {K:AA} {ρ ρ':List AE} {H H':Hp} {S:Sto} {e:Lo} {σ:St}
theorem Dm.mono (l:Le K ρ H ρ' H') (h:Dm K ρ H e σ):Dm K ρ' H' e σ:=⟨h.len,λi d q=>by
 obtain ⟨v,h1,h2⟩:=h.at' i d q
 exact ⟨v,h1,h2.mono l⟩⟩
theorem Dm.set {d:D} {v:V} (h:Dm K ρ H e σ) (r:BM K ρ H d v) (i:Nat):Dm K ρ H (e.set i (some d)) (σ.set i (some v)):=by
 refine ⟨by simp [h.len],λj d' q=>?_⟩
 by_cases hj:i=j
 ·subst hj
  have hi:i < e.length:=by
   have:=(AJ.mp q).1;simpa using this
  rw [A7 hi] at q;cases q;exact ⟨v,by rw [A7 (by rw [<-h.len];exact hi)],r⟩
 ·rw [BC hj] at q ⊢
  exact h.at' j d' q
end
abbrev EW:=AE->St->Hp->Prop
abbrev EH:=AE->Hp->Prop
abbrev noE:EW:=λ_ _ _=>False
abbrev noH:EH:=λ_ _=>False
def BO {α:Type} (K:AA) (E:EH) (ρ:List AE) (H:Hp) (r:Res α) (k:α->Sto->Prop):Prop:=match r with
 | .ok a S=>k a S
 | .err c S=>∀ρ' H',Le K ρ H ρ' H'->BW K ρ' S H'->E c H'
 | .bad=>False
section
variable {α β:Type} {K:AA} {E:EH} {ρ ρ1:List AE} {H H1:Hp}
theorem BO.seq {r:Res α} {F:α->Sto->Res β} {k:β->Sto->Prop} {k':α->Sto->Prop} (h:BO K E ρ H (r.bind F) k) (f:∀a S,BO K E ρ H (F a S) k->k' a S):BO K E ρ H r k':=by
 cases r with
 | ok a S=>exact f a S h
 | err c S=>exact h
 | bad=>exact h
theorem BO.later {r:Res α} {k:α->Sto->Prop} (h:BO K E ρ H r k) (l:Le K ρ H ρ1 H1):BO K E ρ1 H1 r k:=by
 cases r with
 | ok a S=>exact h
 | err c S=>exact λρ' H' l'=>h ρ' H' (l.trans l')
 | bad=>exact h
theorem BO.imp {r:Res α} {k k':α->Sto->Prop} (h:BO K E ρ H r k) (f:∀a S,k a S->k' a S):BO K E ρ H r k':=by
 cases r with
 | ok a S=>exact f a S h
 | err c S=>exact h
 | bad=>exact h
theorem BO.go {r:Res α} {k k':α->Sto->Prop} (h:BO K E ρ H r k) (l:Le K ρ H ρ1 H1) (f:∀a S,k a S->k' a S):BO K E ρ1 H1 r k':=(h.later l).imp f
end
def okR {α:Type}:Res α->Res α
 | .ok a S=>.ok a S
 | _=>.bad
theorem BO.okR {α:Type} {K:AA} {E:EH} {ρ:List AE} {H:Hp} {r:Res α} {k:α->Sto->Prop} (h:BO K E ρ H (L2.okR r) k):∃a S,r=.ok a S/\k a S:=by
 cases r with
 | ok a S=>exact ⟨a,S,rfl,h⟩
 | err c S=>exact h.elim
 | bad=>exact h.elim
section
variable (K:AA) (E:EW)
def gE (m:ME):TE:=λσ H Q=>∃ρ e S,Dm K ρ H e σ/\BW K ρ S H/\BO K (λc=>E c σ) ρ H (m e S) λd S'=>∀ρ' H' x,Le K ρ H ρ' H'->BW K ρ' S' H'->BM K ρ' H' d x->Q x H'
def gT (m:MT):TT:=λσ H Q=>∃ρ e S,Dm K ρ H e σ/\BW K ρ S H/\BO K (λc=>E c σ) ρ H (m e S) λb S'=>∀ρ' H',Le K ρ H ρ' H'->BW K ρ' S' H'->Q b H'
def gA (m:ML):TA:=λσ H Q=>∃ρ e S,Dm K ρ H e σ/\BW K ρ S H/\BO K (λc=>E c σ) ρ H (m e S) λds S'=>∀ρ' H' xs,Le K ρ H ρ' H'->BW K ρ' S' H'->Aj K ρ' H' ds xs->Q xs H'
def gL (m:ML):TE:=λσ H Q=>∃ρ e S,Dm K ρ H e σ/\BW K ρ S H/\BO K (λc=>E c σ) ρ H (m e S) λds S'=>∀ρ' H' p xs,Le K ρ H ρ' H'->BW K ρ' S' H'->Aj K ρ' H' ds xs->H' p=some (.lst xs)->(∀n:Nat,ρ'[n]?≠some p)->H p=none->Q (.ref p) H'
def gQ (m:ML):TE:=λσ H Q=>∃ρ e S,Dm K ρ H e σ/\BW K ρ S H/\BO K (λc=>E c σ) ρ H (m e S) λds S'=>∀ρ' H' p xs,Le K ρ H ρ' H'->BW K ρ' S' H'->Aj K ρ' H' ds xs->(SqL K H' p xs∨SqT K H' p xs)->Q (.ref p) H'
def PY (K:AA) (E:EW) (ρ:List AE) (H:Hp) (S':Sto) (D:SZ):Fl->Prop
 | .ex c e'=>∀ρ' H' σ',Le K ρ H ρ' H'->BW K ρ' S' H'->Dm K ρ' H' e' σ'->E c σ' H'
 | .nx e'=>∀ρ' H' σ',Le K ρ H ρ' H'->BW K ρ' S' H'->Dm K ρ' H' e' σ'->D.nx σ' H'
 | .bk e'=>∀ρ' H' σ',Le K ρ H ρ' H'->BW K ρ' S' H'->Dm K ρ' H' e' σ'->D.bk σ' H'
 | .ct e'=>∀ρ' H' σ',Le K ρ H ρ' H'->BW K ρ' S' H'->Dm K ρ' H' e' σ'->D.ct σ' H'
 | .rt d=>∀ρ' H' x,Le K ρ H ρ' H'->BW K ρ' S' H'->BM K ρ' H' d x->D.rt x H'
def gS (m:MS):TS:=λD σ H=>∃ρ e S,Dm K ρ H e σ/\BW K ρ S H/\BO K noH ρ H (m e S) λfl S'=>PY K E ρ H S' D fl
def gG (m:MG):TG:=λv σ H Q=>∃ρ e S d,BM K ρ H d v/\Dm K ρ H e σ/\BW K ρ S H/\BO K noH ρ H (m d e S) λe' S'=>∀ρ' H' σ',Le K ρ H ρ' H'->BW K ρ' S' H'->Dm K ρ' H' e' σ'->Q σ' H'
def Kf (ρ0:List AE) (H0:Hp) (J:It) (v:Gq):Prop:=∀ρ H S ds (i:Nat),Le K ρ0 H0 ρ H->BW K ρ S H->v S=some ds ->
 (ds[i]?=none->J.stop i H)/\∀d,ds[i]?=some d->J.go i H/\∀x H',J.yld i H x H'->∃ρ',Le K ρ H ρ' H'/\BW K ρ' S H'/\BM K ρ' H' d x
def gI (m:MI):TI:=λσ H R=>∃ρ e S,Dm K ρ H e σ/\BW K ρ S H/\BO K (λc=>E c σ) ρ H (m e S) λv S'=>∀ρ' H' J,Le K ρ H ρ' H'->BW K ρ' S' H'->Kf K ρ' H' J v->R J H'
end
abbrev GE (X:Cx) (E:EW) (e:Expr) (m:ME):Prop:=PE X e (gE X.K E m)
abbrev GT (X:Cx) (E:EW) (e:Expr) (m:MT):Prop:=PT X e (gT X.K E m)
abbrev GA (X:Cx) (E:EW) (es:List Expr) (m:ML):Prop:=PA X es (gA X.K E m)
abbrev GL (X:Cx) (E:EW) (e:Expr) (m:ML):Prop:=PE X e (gL X.K E m)
abbrev GQ (X:Cx) (E:EW) (e:Expr) (m:ML):Prop:=PE X e (gQ X.K E m)
abbrev GS (X:Cx) (E:EW) (s:CW) (m:MS):Prop:=PS X s (gS X.K E m)
abbrev GSs (X:Cx) (E:EW) (s:List CW) (m:MS):Prop:=PSs X s (gS X.K E m)
abbrev GG (X:Cx) (t:Expr) (m:MG):Prop:=PG X t (gG X.K m)
abbrev GI (X:Cx) (E:EW) (tg t:Expr) (m:MI):Prop:=PI X tg t (gI X.K E m)
theorem PE.imp {X:Cx} {e:Expr} {t t':TE} (h:PE X e t) (i:∀σ H Q,t' σ H Q->t σ H Q):PE X e t':=λpins s σ H Q I q=>h pins s σ H Q I (i σ H Q q)
theorem PT.imp {X:Cx} {e:Expr} {t t':TT} (h:PT X e t) (i:∀σ H Q,t' σ H Q->t σ H Q):PT X e t':=λpins s σ H Q I q=>h pins s σ H Q I (i σ H Q q)
theorem PW.imp {X:Cx} {e:Expr} {t t':TT} (h:PW X e t) (i:∀σ H Q,t' σ H Q->t σ H Q):PW X e t':=λwh pins s σ H Q I q=>h wh pins s σ H Q I (i σ H Q q)
theorem PA.imp {X:Cx} {e:List Expr} {t t':TA} (h:PA X e t) (i:∀σ H Q,t' σ H Q->t σ H Q):PA X e t':=λpos pins s σ H Q I q=>h pos pins s σ H Q I (i σ H Q q)
theorem PS.imp {X:Cx} {e:CW} {t t':TS} (h:PS X e t) (i:∀D σ H,t' D σ H->t D σ H):PS X e t':=λpins s σ H D I q=>h pins s σ H D I (i D σ H q)
theorem PSs.imp {X:Cx} {e:List CW} {t t':TS} (h:PSs X e t) (i:∀D σ H,t' D σ H->t D σ H):PSs X e t':=λpins s σ H D I q=>h pins s σ H D I (i D σ H q)
theorem PG.imp {X:Cx} {e:Expr} {t t':TG} (h:PG X e t) (i:∀v σ H Q,t' v σ H Q->t v σ H Q):PG X e t':=λpins s σ H v u Q I r q=>h pins s σ H v u Q I r (i v σ H Q q)
theorem PI.imp {X:Cx} {tg e:Expr} {t t':TI} (h:PI X tg e t) (i:∀σ H R,t' σ H R->t σ H R):PI X tg e t':=λpins s σ H R I q=>h pins s σ H R I (i σ H R q)
theorem OpR.imp {X:Cx} {f:AB->AB->Sem AB} {r r':R2} (h:OpR X f r) (i:∀x y H Q,r' x y H Q->r x y H Q):OpR X f r':=λpins s σ H x y v u Q I rx ry q=>h pins s σ H x y v u Q I rx ry (i x y H Q q)
theorem IxR.imp {X:Cx} {r r':R2} (h:IxR X r) (i:∀x y H Q,r' x y H Q->r x y H Q):IxR X r':=λva sl pins s σ H x y v u Q I rx ry q=>h va sl pins s σ H x y v u Q I rx ry (i x y H Q q)
def AY (i:Nat):ME:=λe S=>match e[i]? with
 | some (some d)=>.ok d S
 | _=>.bad
def mC (d:D):ME:=λ_ S=>.ok d S
section
variable {X:Cx} {E:EW} {e a b:Expr} {pos:Pos} {ma mb:ME}
theorem AQ {i:Nat} (h:PE X e (az i)):GE X E e (AY i):=h.imp λσ H Q ⟨ρ,l,S,hl,hs,hm⟩=>by
 unfold AY at hm;split at hm
 ·rename_i d' hd
  obtain ⟨v,h1,h2⟩:=hl.at' i _ hd;exact ⟨v,h1,hm ρ H v .refl hs h2⟩
 ·exact hm.elim
theorem U3 {v:V} {d:D} (h:PE X e (tC v)) (hd:∀ρ H,BM X.K ρ H d v):GE X E e (mC d):=h.imp λσ H Q ⟨ρ,l,S,hl,hs,hm⟩=>by
 exact hm ρ H v .refl hs (hd _ _)
theorem ge_int {i j pos}:GE X E (.Constant (.int i) j pos) (mC (.int i)):=U3 Wq λ_ _=>.int i
theorem Xf {b j pos}:GE X E (.Constant (.bool b) j pos) (mC (.bl b)):=U3 d8 λ_ _=>.bl b
theorem Kd {j pos}:GE X E (.Constant .none j pos) (mC .non):=U3 ba λ_ _=>.non
theorem C2 {x j pos}:GE X E (.Constant (.str x) j pos) (mC (.str x)):=U3 bZ λ_ _=>.str x
theorem Jy {x:Str} {i:Int} {tk:Tok} {pos:Pos} (hg:Gl X x) (hm:X.mg x=some (.int i tk)) (hd:(x==("__debug__" : Str))=false:=by decide):GE X E (.Name x pos) (mC (.int i)):=
 U3 (O4 (v:=.int i) hg hm ⟨tk,rfl⟩ hd) λ_ _=>.int i
def m2 (f:D->D->Sto->Res D) (ma mb:ME):ME:=λe S=>(ma e S).bind λx S1=>(mb e S1).bind λy S2=>okR (f x y S2)
def rD (K:AA) (f:D->D->Sto->Res D):R2:=λu v H Q=>∃ρ S x y d S',BW K ρ S H/\BM K ρ H x u/\BM K ρ H y v/\f x y S=.ok d S' /\
 ∀ρ' H' z,Le K ρ H ρ' H'->BW K ρ' S' H'->BM K ρ' H' d z->Q z H'
theorem Iw {K:AA} {f:D->D->Sto->Res D} {σ:St} {H:Hp} {Q:VK} (h:gE K E (m2 f ma mb) σ H Q):tOp (rD K f) (gE K E ma) (gE K E mb) σ H Q:=by
 obtain ⟨ρ,l,S,hl,hs,hm⟩:=h;refine ⟨ρ,l,S,hl,hs,hm.seq λx S1 hm ρ1 H1 u l1 s1 r1=>⟨ρ1,l,S1,hl.mono l1,s1,(hm.later l1).seq λy S2 hm ρ2 H2 v l2 s2 r2=>?_⟩⟩;obtain ⟨d,S',e,k⟩:=hm.okR;exact ⟨ρ2,S2,x,y,d,S',s2,r1.mono l2,r2,e,λρ' H' z l' s' r'=>k ρ' H' z (l1.trans (l2.trans l')) s' r'⟩
theorem Cq {op:Operator} {f:D->D->Sto->Res D} (ho:OpR X (Dj op) (rD X.K f)) (ha:GE X E a ma) (hb:GE X E b mb):GE X E (.BinOp a op b pos) (m2 f ma mb):=(d6 ho ha hb).imp λ_ _ _ h=>Iw h
theorem Xe {op:RO} {f:D->D->Sto->Res D} (ho:OpR X (A8 op) (rD X.K f)) (ha:GE X E a ma) (hb:GE X E b mb) (hm:Bz op b=false):GE X E (.Compare a [op] [b] pos) (m2 f ma mb):=(Y8 ho ha hb hm).imp λ_ _ _ h=>Iw h
theorem aD {f:D->D->Sto->Res D} (ho:IxR X (rD X.K f)) (ha:GE X E a ma) (hb:GE X E b mb) (hs:Pn b:=by intro _ _;rfl):GE X E (.Subscript a b pos) (m2 f ma mb):=(d7 ho ha hb hs).imp λ_ _ _ h=>Iw h
def mB (m:ME):MT:=λe S=>(m e S).bind λd S1=>match d with
 | .bl b=>.ok b S1
 | _=>.bad
theorem SE (h:GE X E e ma) (he:∀whole,aK e X.env whole=(do let v <-whole;standAt e.pos;holding [v] (truthy v)):=by intro _;rfl):GT X E e (mB ma):=(bO h he).imp λσ H Q ⟨ρ,l,S,hl,hs,hm⟩=>by
 refine ⟨ρ,l,S,hl,hs,hm.seq λd S1 hm ρ1 H1 x l1 s1 r1=>?_⟩
 cases d <;> first | exact hm.elim | skip
 cases r1;exact ⟨_,rfl,hm ρ1 H1 l1 s1⟩
theorem DI {op:RO} {f:D->D->Sto->Res D} (ho:OpR X (A8 op) (rD X.K f)) (ha:GE X E a ma) (hb:GE X E b mb) (hm:Bz op b=false):GT X E (.Compare a [op] [b] pos) (mB (m2 f ma mb)):=(Yt ho ha hb hm).imp λσ H Q ⟨ρ,l,S,hl,hs,hm⟩=>by
 refine Iw (Q:=λx H'=>∃k,x=.bl k/\Q k H') ⟨ρ,l,S,hl,hs,hm.seq λd S1 hm ρ1 H1 x l1 s1 r1=>?_⟩
 cases d <;> first | exact hm.elim | skip
 cases r1;exact ⟨_,rfl,hm ρ1 H1 l1 s1⟩
def KZ (m:MT):MT:=λe S=>(m e S).bind λb S1=>.ok (!b) S1
def NX (ma mb:MT):MT:=λe S=>(ma e S).bind λb S1=>if b=true then mb e S1 else .ok false S1
def mOr (ma mb:MT):MT:=λe S=>(ma e S).bind λb S1=>if b=true then .ok true S1 else mb e S1
variable {ta tb:MT} {rest:List Expr}
theorem IE (h:GT X E a ta):GT X E (.UnaryOp .Not a pos) (KZ ta):=(bP h).imp λσ H Q ⟨ρ,l,S,hl,hs,hm⟩=>by
 exact ⟨ρ,l,S,hl,hs,hm.seq λd S1 hm ρ1 H1 l1 s1=>hm ρ1 H1 l1 s1⟩
theorem Yf {K:AA} {σ:St} {H:Hp} {Q:Bool->Hp->Prop} (h:gT K E (NX ta tb) σ H Q):dj (gT K E ta) (gT K E tb) σ H Q:=by
 obtain ⟨ρ,l,S,hl,hs,hm⟩:=h;refine ⟨ρ,l,S,hl,hs,hm.seq λc S1 hm ρ1 H1 l1 s1=>?_⟩
 cases c with
 | true=>rw [qX rfl] at hm ⊢;exact ⟨ρ1,l,S1,hl.mono l1,s1,hm.go l1 λ_ _ k ρ2 H2 l2 s2=>k ρ2 H2 (l1.trans l2) s2⟩
 | false=>rw [qY AW] at hm ⊢;exact hm ρ1 H1 l1 s1
theorem bA {K:AA} {σ:St} {H:Hp} {Q:Bool->Hp->Prop} (h:gT K E (mOr ta tb) σ H Q):tOr (gT K E ta) (gT K E tb) σ H Q:=by
 obtain ⟨ρ,l,S,hl,hs,hm⟩:=h;refine ⟨ρ,l,S,hl,hs,hm.seq λc S1 hm ρ1 H1 l1 s1=>?_⟩
 cases c with
 | false=>rw [qY AW] at hm ⊢;exact ⟨ρ1,l,S1,hl.mono l1,s1,hm.go l1 λ_ _ k ρ2 H2 l2 s2=>k ρ2 H2 (l1.trans l2) s2⟩
 | true=>rw [qX rfl] at hm ⊢;exact hm ρ1 H1 l1 s1
abbrev GW (X:Cx) (E:EW) (e:Expr) (m:MT):Prop:=PW X e (gT X.K E m)
theorem Te (ha:GT X E a ta):GW X E (.BoolOp .And [a] pos) ta:=Yr ha
theorem JB (ha:GT X E a ta):GW X E (.BoolOp .Or [a] pos) ta:=bM ha
theorem SD (ha:GT X E a ta) (hb:GW X E (.BoolOp .And (b :: rest) pos) tb):GW X E (.BoolOp .And (a :: b :: rest) pos) (NX ta tb):=(bN ha hb).imp λ_ _ _ h=>Yf h
theorem Im (ha:GT X E a ta) (hb:GW X E (.BoolOp .Or (b :: rest) pos) tb):GW X E (.BoolOp .Or (a :: b :: rest) pos) (mOr ta tb):=(dw ha hb).imp λ_ _ _ h=>bA h
theorem PQ {t:MT} (h:GW X E e t):GT X E e t:=PW.pt h
def m3 (f g:D->D->Sto->Res D) (ma mb mc:ME):ME:=λe S=>(ma e S).bind λx S1=>(mb e S1).bind λy S2=>(okR (f x y S2)).bind λz S3=>match z with
 | .bl true=>(mc e S3).bind λw S4=>okR (g y w S4)
 | .bl false=>.ok (.bl false) S3
 | _=>.bad
def BZ:ML:=λ_ S=>.ok [] S
def Al (m:ME) (r:ML):ML:=λe S=>(m e S).bind λd S1=>(r e S1).bind λds S2=>.ok (d :: ds) S2
variable {es:List Expr} {ml:ML}
theorem BR:GA X E [] BZ:=D4.imp λσ H Q ⟨ρ,l,S,hl,hs,hm⟩=>by
 exact hm ρ H [] .refl hs .nil
theorem Am (ha:GE X E e ma) (hr:GA X E es ml) (hs:AN (e :: es) X.env=(false,Ba e X.env) :: AN es X.env:=by rfl):GA X E (e :: es) (Al ma ml):=(CV ha hr hs).imp λσ H Q ⟨ρ,l,S,hl,hs,hm⟩=>by
 exact ⟨ρ,l,S,hl,hs,hm.seq λd S1 hm ρ1 H1 x l1 s1 r1=>⟨ρ1,l,S1,hl.mono l1,s1,(hm.later l1).seq λds' S2 hm ρ2 H2 xs l2 s2 r2=>hm ρ2 H2 (x :: xs) (l1.trans l2) s2 (.cons (r1.mono l2) r2)⟩⟩
def Iy (m:ML):ME:=λe S=>(m e S).bind λds S1=>if ds.length<=sizeLine then .ok (.tup ds) S1 else .bad
theorem Fh {K:AA} {ρ:List AE} {H:Hp} {S:Sto} {p:AE} {ho:HO} (hs:BW K ρ S H) (hp:H p=none):BW K ρ S (upd H p ho)/\Le K ρ H ρ (upd H p ho):=by
 have le:Le K ρ H ρ (upd H p ho):=Le.fresh hp;refine ⟨⟨hs.len,hs.nd,λn o a h1 h2=>(hs.ob n o a h1 h2).mono le (BI λz=>?_)⟩,le⟩;subst z;exact hs.notIn hp h2
theorem JC {x1} (h:GA X E es ml):GE X E (.Tuple es x1 pos) (Iy ml):=(bY h).imp λσ H Q ⟨ρ,l,S,hl,hs,hm⟩=>by
 refine ⟨ρ,l,S,hl,hs,hm.seq λds S1 hm ρ1 H1 xs l1 s1 r1=>?_⟩;split at hm
 ·rename_i hz
  refine ⟨by rw [<-r1.length];exact hz,λp hp=>?_⟩;obtain ⟨s2,l2⟩:=Fh (ho:=.tup xs) s1 hp;exact hm ρ1 _ _ (l1.trans l2) s2 (.tup BU (r1.mono l2))
 ·exact hm.elim
def FI (m:ML):ML:=λe S=>(m e S).bind λds S1=>if ds.length<=sizeLine then .ok ds S1 else .bad
theorem Kc (h:GA X E es ml):GL X E (.List es pos) (FI ml):=(bb h).imp λσ H Q ⟨ρ,l,S,hl,hs,hm⟩=>by
 refine ⟨ρ,l,S,hl,hs,hm.seq λds S1 hm ρ1 H1 xs l1 s1 r1=>?_⟩;split at hm
 ·rename_i hz
  refine ⟨by rw [<-r1.length];exact hz,λp hp=>?_⟩;obtain ⟨s2,l2⟩:=Fh (ho:=.lst xs) s1 hp;exact hm ρ1 _ p xs (l1.trans l2) s2 (r1.mono l2) BU (λn q=>s1.notIn hp q) (l1.back hs s1 hp)
 ·exact hm.elim
def Gh (m:ML):ME:=λe S=>(m e S).bind λds S1=>.ok (.ref S1.length) (S1++[.lst ds])
theorem FL (h:GL X E e ml):GE X E e (Gh ml):=PE.imp h λσ H Q ⟨ρ,l,S,hl,hs,hm⟩=>by
 refine ⟨ρ,l,S,hl,hs,hm.seq λds S1 hm ρ1 H1 p xs l1 s1 r1 hp hn hp0=>?_⟩
 have l0:∀(n:Nat) a,ρ1[n]?=some a->(ρ1++[p])[n]?=some a:=λn a h=>by rw [Ad (AJ.mp h).1];exact h
 obtain ⟨s2,at2⟩:=s1.adopt (o:=.lst ds) hn ⟨xs,hp,r1.more l0⟩;refine hm _ _ _ ⟨λn a h=>l0 n a (l1.pre n a h),l1.tup,l1.frz,λa o e h=>⟨(l1.oth a o e h).1,λn q=>?_⟩⟩ s2 (.ref at2)
 rcases FK q with ⟨q,_⟩ | ⟨_,q⟩
 ·exact (l1.oth a o e h).2 n q
 ·exact BX e hp0 q
def Ga (d:D) (S:Sto):Option (List D):=match d with
 | .tup ds=>some ds
 | .fro ds=>some ds
 | .ref n=>match S[n]? with
  | some (.lst ds)=>some ds
  | _=>none
 | _=>none
def Iz (m:ME):ML:=λe S=>(m e S).bind λd S1=>match Ga d S1 with
 | some ds=>.ok ds S1
 | none=>.bad
theorem LV {K:AA} {ρ:List AE} {H:Hp} {S:Sto} {d:D} {x:V} {ds:List D} (hs:BW K ρ S H) (r:BM K ρ H d x) (h:Ga d S=some ds):∃p xs,x=.ref p/\Aj K ρ H ds xs/\(SqL K H p xs∨SqT K H p xs):=by
 cases r with
 | tup h1 h2=>cases h;exact ⟨_,_,rfl,h2,.inr (.inl (.inl h1))⟩
 | fro h1 h2=>cases h;exact ⟨_,_,rfl,h2,.inl h1.sq⟩
 | @ref n a hn=>
  obtain ⟨o,ho,ro⟩:=hs.there hn;unfold Ga at h;simp only [ho] at h
  cases o with
  | lst es=>cases h;obtain ⟨vs,e,rr⟩:=ro;exact ⟨_,_,rfl,rr,.inl (.inl (.inl e))⟩
  | _=>cases h
 | _=>cases h
theorem Tg (h:GE X E e ma):GQ X E e (Iz ma):=PE.imp h λσ H Q ⟨ρ,l,S,hl,hs,hm⟩=>by
 refine ⟨ρ,l,S,hl,hs,hm.seq λx S1 hm ρ1 H1 v l1 s1 r1=>?_⟩
 cases hq:Ga x S1 with
 | none=>rw [hq] at hm;exact hm.elim
 | some ds=>
  rw [hq] at hm;obtain ⟨p,xs,rfl,r2,sq⟩:=LV s1 r1 hq;exact hm ρ1 H1 p xs l1 s1 r2 sq
end
def Res.lift {α:Type} (r:Res α) (e:Lo) (f:α->Sto->Res Fl):Res Fl:=match r with
 | .ok a S=>f a S
 | .err c S=>.ok (.ex c e) S
 | .bad=>.bad
theorem BO.lift {α:Type} {K:AA} {E:EW} {ρ ρ1:List AE} {H H1:Hp} {σ:St} {e:Lo} {D:SZ} {r:Res α} {F:α->Sto->Res Fl} {k':α->Sto->Prop} (h:BO K noH ρ1 H1 (r.lift e F) λfl S'=>PY K E ρ H S' D fl) (hl:Dm K ρ1 H1 e σ) (l:Le K ρ H ρ1 H1)
  (f:∀a S,(BO K noH ρ1 H1 (F a S) λfl S'=>PY K E ρ H S' D fl)->k' a S):BO K (λc=>E c σ) ρ1 H1 r k':=by
 cases r with
 | ok a S=>exact f a S h
 | err c S=>exact λρ' H' l' s'=>h ρ' H' σ (l.trans l') s' (hl.mono l')
 | bad=>exact h
def sNx:MS:=λe S=>.ok (.nx e) S
def Yl:MS:=λ_ _=>.bad
def Bh (a b:MS):MS:=λe S=>(a e S).bind λf S1=>match f with
 | .nx e1=>b e1 S1
 | f=>.ok f S1
def Gc (m:ME):MS:=λe S=>(m e S).lift e λ_ S1=>.ok (.nx e) S1
def Ei (m:ME):MS:=λe S=>(m e S).lift e λd S1=>.ok (.rt d) S1
def sIf (t:MT) (a b:MS):MS:=λe S=>(t e S).lift e λc S1=>if c=true then a e S1 else b e S1
def dn (m:ME) (g:MG):MS:=λe S=>(m e S).lift e λd S1=>(g d e S1).bind λe1 S2=>.ok (.nx e1) S2
def tgN (i:Nat):MG:=λd e S=>.ok (e.set i (some d)) S
def DM (i:Nat) (m:ME):MS:=dn m (tgN i)
section
variable {X:Cx} {E:EW} {st:CW} {rest:List CW} {e:Expr} {pos:Pos} {a b:MS} {m:ME} {t:MT}
theorem PY.later {K:AA} {ρ ρ1:List AE} {H H1:Hp} {S:Sto} {D:SZ} {f:Fl} (l:Le K ρ H ρ1 H1) (h:PY K E ρ H S D f):PY K E ρ1 H1 S D f:=by
 cases f with
 | nx e=>exact λρ' H' σ' l'=>h ρ' H' σ' (l.trans l')
 | bk e=>exact λρ' H' σ' l'=>h ρ' H' σ' (l.trans l')
 | ct e=>exact λρ' H' σ' l'=>h ρ' H' σ' (l.trans l')
 | ex c e=>exact λρ' H' σ' l'=>h ρ' H' σ' (l.trans l')
 | rt d=>exact λρ' H' x l'=>h ρ' H' x (l.trans l')
theorem DN:GSs X E [] sNx:=Yv.imp λD σ H ⟨ρ,l,S,hl,hs,hm⟩=>by
 exact hm ρ H σ .refl hs hl
theorem Au (h1:GS X E st a) (h2:GSs X E rest b):GSs X E (st :: rest) (Bh a b):=(Wh h1 h2).imp λD σ H ⟨ρ,l,S,hl,hs,hm⟩=>by
 refine ⟨ρ,l,S,hl,hs,hm.seq λg S1 hm=>?_⟩
 cases g with
 | nx e'=>exact λρ1 H1 σ1 l1 s1 r1=>⟨ρ1,e',S1,r1,s1,hm.go l1 λ_ _ k=>k.later l1⟩
 | rt d=>exact hm
 | bk d=>exact hm
 | ct d=>exact hm
 | ex c d=>exact hm
theorem BH (h1:GS X E st a):GSs X E [st] a:=Yu h1
theorem Qk:GS X E st Yl:=(Wi (X:=X) (st:=st)).imp λD σ H ⟨ρ,l,S,hl,hs,hm⟩=>hm.elim
theorem IV (he:GE X E e m) (hs:Dx e none pos.line X.env=pure false:=by rfl):GS X E (.Expr e pos) (Gc m):=(Yw he hs).imp λD σ H ⟨ρ,l,S,hl,hs,hm⟩=>by
 exact ⟨ρ,l,S,hl,hs,hm.lift hl .refl λd S1 hm ρ1 H1 x l1 s1 r1=>hm ρ1 H1 σ l1 s1 (hl.mono l1)⟩
theorem C1 (he:GE X E e m):GS X E (.Return (some e) pos) (Ei m):=(bR he).imp λD σ H ⟨ρ,l,S,hl,hs,hm⟩=>by
 exact ⟨ρ,l,S,hl,hs,hm.lift hl .refl λd S1 hm ρ1 H1 x l1 s1 r1=>hm ρ1 H1 x l1 s1 r1⟩
theorem Gk {c:Expr} {sa sb:List CW} (hc:GT X E c t) (ha:GSs X E sa a) (hb:GSs X E sb b):GS X E (.If c sa sb pos) (sIf t a b):=(dy hc ha hb).imp λD σ H ⟨ρ,l,S,hl,hs,hm⟩=>by
 refine ⟨ρ,l,S,hl,hs,hm.lift hl .refl λc S1 hm ρ1 H1 l1 s1=>?_⟩
 cases c with
 | true=>rw [qX rfl] at hm ⊢;exact ⟨ρ1,l,S1,hl.mono l1,s1,hm.go l1 λ_ _ k=>k.later l1⟩
 | false=>rw [qY AW] at hm ⊢;exact ⟨ρ1,l,S1,hl.mono l1,s1,hm.go l1 λ_ _ k=>k.later l1⟩
theorem ZV {i:Nat} {tg:Expr} (h:PG X tg (Tp i)):GG X tg (tgN i):=h.imp λv σ H Q ⟨ρ,l,S,d,hd,hl,hs,hm⟩=>by
 exact hm ρ H _ .refl hs (hl.set hd i)
theorem cL {i:Nat} {x:Str} {pos':Pos} (hN:X.N.Nodup) (hi:X.N[i]?=some x) (hx:Loc X.env.scope x) (he:GE X E e m) (hs:Dx e (some (.Name x pos')) pos.line X.env=pure false:=by rfl)
  (hf:X.fn x=true∨X.env.scope.names.lookup x=some .local:=by first | exact .inl rfl | exact .inr rfl | assumption):GS X E (.Assign [.Name x pos'] e pos) (DM i m):=(bQ hN hi hx he hs hf).imp λD σ H ⟨ρ,l,S,hl,hs,hm⟩=>by
 exact ⟨ρ,l,S,hl,hs,hm.lift hl .refl λd S1 hm ρ1 H1 x l1 s1 r1=>hm ρ1 H1 _ l1 s1 ((hl.mono l1).set r1 i)⟩
def He (v:Gq) (g:MG) (b:MS):Nat->Nat->Lo->Sto->Res Fl
 | k,i,e,S=>match v S with
  | none=>.bad
  | some ds=>match ds[i]? with
   | none=>.ok (.nx e) S
   | some d=>match k with
    | 0=>.bad
    | k+1=>(g d e S).bind λe1 S1=>(b e1 S1).bind λf S2=>match f with
     | .nx e2=>He v g b k (i+1) e2 S2
     | .ct e2=>He v g b k (i+1) e2 S2
     | .bk e2=>.ok (.nx e2) S2
     | .rt d=>.ok (.rt d) S2
     | .ex c e2=>.ok (.ex c e2) S2
def CF (v:Gq) (S:Sto):Nat:=match v S with
 | none=>0
 | some ds=>ds.length
def MQ (m:MI) (g:MG) (b:MS):MS:=λe S=>(m e S).lift e λv S1=>He v g b (CF v S1) 0 e S1
theorem Kb {tg iter:Expr} {body:List CW} {mi:MI} {g:MG} (hp:Vh (AR X.prog X.w) X.A X.env X.xe) (hc:X.calm=true) (hi:GI X E tg iter mi) (hg:GG X tg g) (hb:GSs X E body b)
  (hs:∀x,DY iter X.env x=pure x:=by intro _;rfl):GS X E (.For tg iter body [] pos) (MQ mi g b):=(bS hp hc hi hg hb hs).imp λD σ H ⟨ρ,l,S,hl,hs,hm⟩=>by
 refine ⟨ρ,l,S,hl,hs,hm.lift hl .refl λv S1 hm ρ1 H1 J l1 s1 vo=>?_⟩;refine ⟨λi n σ2 H2=>∃ρ2 e2 S2,Le X.K ρ1 H1 ρ2 H2/\Dm X.K ρ2 H2 e2 σ2/\BW X.K ρ2 S2 H2/\BO X.K noH ρ2 H2 (He v g b n i e2 S2) λfl S'=>PY X.K E ρ H S' D fl,⟨CF v S1,ρ1,l,S1,.refl,hl.mono l1,s1,hm.later l1⟩,?_⟩;rintro i n σ2 H2 ⟨ρ2,e2,S2,l2,r2,s2,hm2⟩;unfold He at hm2
 cases hv:v S2 with
 | none=>rw [hv] at hm2;exact hm2.elim
 | some ds=>
  rw [hv] at hm2;dsimp only at hm2;obtain ⟨v1,v2⟩:=vo ρ2 H2 S2 ds i l2 s2 hv
  cases hd:ds[i]? with
  | none=>
   rw [hd] at hm2;exact .inl ⟨v1 hd,hm2 ρ2 H2 σ2 (l1.trans l2) s2 r2⟩
  | some d=>
   rw [hd] at hm2;dsimp only at hm2;obtain ⟨go,yl⟩:=v2 d hd
   cases n with
   | zero=>exact hm2.elim
   | succ n=>
    dsimp only at hm2;refine .inr ⟨go,λσ' H'=>∃ρ2 e2 S2,Le X.K ρ1 H1 ρ2 H'/\Dm X.K ρ2 H' e2 σ'/\BW X.K ρ2 S2 H'/\BO X.K noH ρ2 H' (He v g b n (i+1) e2 S2) λfl S'=>PY X.K E ρ H S' D fl,λσ' H' q=>⟨n,Co n,q⟩,λx H' y=>?_⟩;obtain ⟨ρ3,l3,s3,rd⟩:=yl x H' y;refine ⟨ρ3,e2,S2,d,rd,r2.mono l3,s3,(hm2.later l3).seq λe3 S3 hm2 ρ4 H4 σ4 l4 s4 r4=>?_⟩;refine ⟨ρ4,e3,S3,r4,s4,(hm2.later l4).seq λf4 S4 hm2=>?_⟩
    cases f4 with
    | nx e5=>exact λρ5 H5 σ5 l5 s5 r5=>⟨ρ5,e5,S4,l2.trans (l3.trans (l4.trans l5)),r5,s5,hm2.later l5⟩
    | ct e5=>exact λρ5 H5 σ5 l5 s5 r5=>⟨ρ5,e5,S4,l2.trans (l3.trans (l4.trans l5)),r5,s5,hm2.later l5⟩
    | bk e5=>exact λρ5 H5 σ5 l5 s5 r5=>hm2 ρ5 H5 σ5 (l1.trans (l2.trans (l3.trans (l4.trans l5)))) s5 r5
    | ex c e5=>exact λρ5 H5 σ5 l5 s5 r5=>hm2 ρ5 H5 σ5 (l1.trans (l2.trans (l3.trans (l4.trans l5)))) s5 r5
    | rt d5=>exact λρ5 H5 x5 l5 s5 r5=>hm2 ρ5 H5 x5 (l1.trans (l2.trans (l3.trans (l4.trans l5)))) s5 r5
end
section
variable {X:Cx} {E:EW} {tg e:Expr} {m:ME} {ml:ML} {K:AA}
def Fg (d:D):Gq:=λS=>match d with
 | .ref n=>match S[n]? with
  | some (.lst ds)=>some ds
  | _=>none
 | .fro ds=>some ds
 | _=>none
def HV (ds:List D):Gq:=λ_=>some ds
def ej (m:ME):MI:=λe S=>(m e S).bind λd S1=>match Fg d S1 with
 | some _=>.ok (Fg d) S1
 | none=>.bad
def aB (m:ME):MI:=λe S=>(m e S).bind λd S1=>match d with
 | .tup ds=>.ok (HV ds) S1
 | _=>.bad
theorem L5 {ρ:List AE} {H:Hp} {S:Sto} {a:AE} {d:D} {ds:List D} (s:BW K ρ S H) (r:BM K ρ H d (.ref a)) (hv:Fg d S=some ds):∃xs,SqL K H a xs/\Aj K ρ H ds xs:=by
 cases r with
 | tup h1 h2=>cases hv
 | exc _ _=>cases hv
 | fro h1 h2=>cases hv;exact ⟨_,h1.sq,h2⟩
 | @ref n _ hn=>
  obtain ⟨o,ho,ro⟩:=s.there hn;unfold Fg at hv;simp only [ho] at hv
  cases o with
  | lst es=>
   cases hv;obtain ⟨vs,e,rr⟩:=ro;exact ⟨vs,.inl (.inl e),rr⟩
  | _=>cases hv
theorem L3 {ρ:List AE} {H:Hp} {a:AE} {d:D} (r:BM K ρ H d (.ref a)):Kf K ρ H (Itl K a) (Fg d):=by
 intro ρ2 H2 S ds i l s hv;obtain ⟨xs,sq,rr⟩:=L5 s (r.mono l) hv;refine ⟨λhn=>⟨xs,sq,by rw [<-rr.length];exact CO.mp hn⟩,λd hd=>?_⟩;obtain ⟨x,hx,rx⟩:=rr.get hd;refine ⟨⟨xs,x,sq,hx⟩,λy H' ⟨e,hy⟩=>?_⟩;subst e;have:=hy xs sq;rw [hx] at this;cases this;exact ⟨ρ2,.refl,s,rx⟩
theorem cO (h:GE X E e m):GI X E tg e (ej m):=(Y1 h).imp λσ H R ⟨ρ,l,S,hl,hs,hm⟩=>by
 refine ⟨ρ,l,S,hl,hs,hm.seq λd S1 hm ρ1 H1 x l1 s1 r1=>?_⟩
 cases hv:Fg d S1 with
 | none=>rw [hv] at hm;exact hm.elim
 | some ds=>
  rw [hv] at hm
  have:∃a,x=.ref a:=by
   cases r1 <;> first | exact ⟨_,rfl⟩ | (cases hv;done)
  obtain ⟨a,rfl⟩:=this;obtain ⟨xs,sq,_⟩:=L5 s1 r1 hv;exact ⟨a,rfl,⟨xs,sq⟩,hm ρ1 H1 _ l1 s1 (L3 r1)⟩
theorem RU {ρ:List AE} {H:Hp} {a:AE} {ds:List D} {xs:List V} (h1:H a=some (.tup xs)) (h2:Aj K ρ H ds xs):Kf K ρ H (Itt K a) (HV ds):=by
 intro ρ2 H2 S ds' i l s hv;cases hv;have rr:=h2.mono l;have sq:SqT K H2 a xs:=.inl (.inl (l.tup _ _ h1));refine ⟨λhn=>⟨xs,sq,by rw [<-rr.length];exact CO.mp hn⟩,λd hd=>?_⟩;obtain ⟨x,hx,rx⟩:=rr.get hd;refine ⟨⟨xs,x,sq,hx⟩,λy H' ⟨e,hy⟩=>?_⟩;subst e;have:=hy xs sq;rw [hx] at this;cases this;exact ⟨ρ2,.refl,s,rx⟩
theorem cM (h:GE X E e m):GI X E tg e (aB m):=(bU h).imp λσ H R ⟨ρ,l,S,hl,hs,hm⟩=>by
 refine ⟨ρ,l,S,hl,hs,hm.seq λd S1 hm ρ1 H1 x l1 s1 r1=>?_⟩
 cases d <;> first | exact hm.elim | skip
 cases r1 with
 | tup q1 q2=>exact ⟨_,rfl,⟨_,.inl (.inl q1)⟩,hm ρ1 H1 _ l1 s1 (RU q1 q2)⟩
def Gf (lo:Int) (n:Nat):List D:=(Be n).map λi:Nat=>D.int (lo+i)
theorem N4 (lo:Int) (n i:Nat):(Gf lo n)[i]?=if i < n then some (.int (lo+i)) else none:=by
 unfold Gf;rw [Ao]
 by_cases h:i < n
 ·rw [Dh h,qX h];rfl
 ·rw [qY h,CO.mpr (by simpa using h)];rfl
theorem RV {ρ:List AE} {H:Hp} (lo:Int) (n:Nat):Kf K ρ H (Itr lo n) (HV (Gf lo n)):=by
 intro ρ2 H2 S ds' i l s hv;cases hv;rw [N4];refine ⟨λhn=>?_,λd hd=>?_⟩
 ·split at hn
  ·cases hn
  ·rename_i h;exact Ls h
 ·split at hd
  ·rename_i h
   cases hd;refine ⟨h,λy H' ⟨e,hy⟩=>?_⟩;subst e;subst hy;exact ⟨ρ2,.refl,s,.int _⟩
  ·cases hd
def iR1 (ml:ML):MI:=λe S=>(ml e S).bind λds S1=>match ds with
 | [.int j]=>if -(2 ^ 62)<=j/\j < 2 ^ 62 then .ok (HV (Gf 0 j.toNat)) S1 else .bad
 | _=>.bad
theorem OL {a:Expr} {p pos:Pos} (hg:Gl X "range") (hm:X.mg "range" = none) (ha:GA X E [a] ml) (hs:AN [a] X.env=[(false,Ba a X.env)]:=by rfl):GI X E tg (.Call (.Name "range" p) [a] [] pos) (iR1 ml):=(Uf hg hm ha hs).imp λσ H R ⟨ρ,l,S,hl,hs,hm⟩=>by
 refine ⟨ρ,l,S,hl,hs,hm.seq λds S1 hm ρ1 H1 xs l1 s1 r1=>?_⟩;split at hm
 ·rename_i j
  split at hm
  ·rename_i hj
   cases r1 with
   | cons r t=>
    cases t;cases r;exact ⟨j,rfl,hj.1,hj.2,hm ρ1 H1 _ l1 s1 (RV 0 j.toNat)⟩
  ·exact hm.elim
 ·exact hm.elim
end
def Hw:List D->Lo->Sto->Res Lo
 | [],e,S=>.ok e S
 | _,_,_=>.bad
def CS (g:MG) (r:List D->Lo->Sto->Res Lo):List D->Lo->Sto->Res Lo
 | d :: ds,e,S=>(g d e S).bind λe1 S1=>r ds e1 S1
 | [],_,_=>.bad
def HW (n:Nat) (r:List D->Lo->Sto->Res Lo):MG:=λd e S=>match d with
 | .tup ds=>if ds.length=n then r ds e S else .bad
 | _=>.bad
section
variable {X:Cx} {E:EW} {pos:Pos}
def gGs (K:AA) (r:List D->Lo->Sto->Res Lo):TGs:=λvs σ H Q=>∃ρ e S ds,Aj K ρ H ds vs/\Dm K ρ H e σ/\BW K ρ S H/\BO K noH ρ H (r ds e S) λe' S'=>∀ρ' H' σ',Le K ρ H ρ' H'->BW K ρ' S' H'->Dm K ρ' H' e' σ'->Q σ' H'
abbrev GGs (X:Cx) (ts:List Expr) (r:List D->Lo->Sto->Res Lo):Prop:=PGs X ts (gGs X.K r)
theorem PGs.imp {X:Cx} {ts:List Expr} {t t':TGs} (h:PGs X ts t) (i:∀vs σ H Q,t' vs σ H Q->t vs σ H Q):PGs X ts t':=λpins s σ H vs us Q I r q=>h pins s σ H vs us Q I r (i vs σ H Q q)
theorem Jv:GGs X [] Hw:=Y2.imp λvs σ H Q ⟨ρ,l,S,ds,hd,hl,hs,hm⟩=>by
 cases ds with
 | nil=>cases hd;exact ⟨rfl,hm ρ H σ .refl hs hl⟩
 | cons d ds=>exact hm.elim
theorem Df {e:Expr} {es:List Expr} {g:MG} {r:List D->Lo->Sto->Res Lo} (h1:GG X e g) (h2:GGs X es r)
  (hs:(EM (e :: es) X.env).map (·.2)=RF e X.env :: (EM es X.env).map (·.2):=by rfl):GGs X (e :: es) (CS g r):=(Wo h1 h2 hs).imp λvs σ H Q ⟨ρ,l,S,ds,hd,hl,hs,hm⟩=>by
 cases ds with
 | nil=>exact hm.elim
 | cons d ds=>
  cases hd with
  | cons q1 q2=>
   exact ⟨_,_,rfl,ρ,l,S,d,q1,hl,hs,hm.seq λe1 S1 hm ρ1 H1 σ1 l1 s1 r1=>⟨ρ1,e1,S1,ds,q2.mono l1,r1,s1,hm.go l1 λ_ _ k ρ2 H2 σ2 l2 s2 r2=>k ρ2 H2 σ2 (l1.trans l2) s2 r2⟩⟩
theorem Mx {es:List Expr} {k:Nat} {r:List D->Lo->Sto->Res Lo} {n:Nat} (hc:X.calm=true) (h:GGs X es r)
  (hn:(EM es X.env).length=n:=by rfl) (hst:(EM es X.env).findIdx? (·.1)=none:=by rfl):GG X (.Tuple es k pos) (HW n r):=(bW hc h hn hst).imp λv σ H Q ⟨ρ,l,S,d,hd,hl,hs,hm⟩=>by
 cases d <;> first | exact hm.elim | skip
 rename_i ds
 cases hd with
 | tup q1 q2=>
  unfold HW at hm;dsimp only at hm;split at hm
  ·rename_i hlen
   exact ⟨_,_,rfl,.inl (.inl q1),by rw [<-q2.length];exact hlen,ρ,l,S,ds,q2,hl,hs,hm⟩
  ·exact hm.elim
end
def spM (K:AA) (n:Nat) (f:List D->Sto->Res D):Sp:=λvs H Q E=>∃ρ ds S,ds.length=n/\Aj K ρ H ds vs/\BW K ρ S H/\BO K (λc H'=>E (.ref c) none H') ρ H (f ds S) λd S'=>
 ∀ρ' H' x,Le K ρ H ρ' H'->BW K ρ' S' H'->BM K ρ' H' d x->Q x H'
theorem spM.len {K:AA} {n:Nat} {f:List D->Sto->Res D} {vs:List V} {H:Hp} {Q:VK} {E:XK} (h:spM K n f vs H Q E):vs.length=n:=by
 obtain ⟨ρ,ds,S,h1,h2,_⟩:=h;rw [<-h2.length];exact h1
def D7 (n:Nat) (f:List D->Sto->Res D) (m:ML):ME:=λe S=>(m e S).bind λds S1=>if ds.length=n then f ds S1 else .bad
def Mg (C:AE) (n:Nat) (f:List D->Sto->Res D) (m:ML):ME:=λe S=>(m e S).bind λds S1=>if ds.length+1=n then (f (.ref S1.length :: ds) (S1++[.ins C []])).bind (λd S2=>match d with
  | .non=>.ok (.ref S1.length) S2
  | _=>.bad) else .bad
def UP (E:EW) (σ:St):XK:=λv o H=>o=none/\∃c,v=.ref c/\E c σ H
section
variable {X:Cx} {E:EW} {CX:CXT} {k n:Nat} {f C:AE} {fd:CQ} {ps:List Str} {x:Str} {p pos:Pos} {e:Expr} {es:List Expr} {ml:ML} {g:List D->Sto->Res D}
theorem BO.xk {α:Type} {K:AA} {σ:St} {ρ ρ1:List AE} {H H1:Hp} {r:Res α} {k k':α->Sto->Prop} (h:BO K (λc=>E c σ) ρ H r k) (l:Le K ρ H ρ1 H1) (f:∀a S,k a S->k' a S):BO K (λc H'=>UP E σ (.ref c) none H') ρ1 H1 r k':=by
 cases r with
 | ok a S=>exact f a S h
 | err c S=>exact λρ' H' l' s=>⟨rfl,c,rfl,h ρ' H' (l.trans l') s⟩
 | bad=>exact h
theorem DO (F:EE X.prog X.w X.K X.mg X.base CX k f fd ps (spM X.K n g)) (hx:JG CX X (UP E)) (hr:Ey k X.A) (hg:Gl X x) (hm:X.mg x=some (.ref f)) (hk:D0 X.K (.ref f)=true) (hb:Binds X.K fd ps [])
  (ha:GA X E (e :: es) ml) (hdb:(x==("__debug__" : Str))=false:=by decide) (he:AN (e :: es) X.env=(false,Ba e X.env) :: AN es X.env:=by rfl) (hpl:(Bi pos (AN es X.env)).any (·.1)=false:=by rfl) :
  GE X E (.Call (.Name x p) (e :: es) [] pos) (D7 n g ml):=(Y9 (E:=UP E) F hr hg hm hk hb .nil hx ha hdb he hpl).imp λσ H Q ⟨ρ,l,S,hl,hs,hm⟩=>by
 refine ⟨ρ,l,S,hl,hs,hm.seq λds S1 hm ρ1 H1 xs l1 s1 r1=>?_⟩;split at hm
 ·rename_i hlen
  rw [Bd];exact ⟨ρ1,ds,S1,hlen,r1,s1,hm.xk l1 λ_ _ k ρ' H' z l' s' r'=>k ρ' H' z (l1.trans l') s' r'⟩
 ·exact hm.elim
theorem Tk (M:Mk X.K C f) (F:EE X.prog X.w X.K X.mg X.base CX k f fd ps (spM X.K n g)) (hx:JG CX X (UP E)) (hr:Ey (k+1) X.A) (hg:Gl X x) (hm:X.mg x=some (.ref C)) (hb:Binds X.K fd ps [])
  (ha:GA X E (e :: es) ml) (hdb:(x==("__debug__" : Str))=false:=by decide) (he:AN (e :: es) X.env=(false,Ba e X.env) :: AN es X.env:=by rfl) (hpl:(Bi pos (AN es X.env)).any (·.1)=false:=by rfl) :
  GE X E (.Call (.Name x p) (e :: es) [] pos) (Mg C n g ml):=(Y5 (E:=UP E) M F hr hg hm hb .nil hx ha hdb he hpl).imp λσ H Q ⟨ρ,l,S,hl,hs,hm⟩=>by
 refine ⟨ρ,l,S,hl,hs,hm.seq λds S1 hm ρ1 H1 xs l1 s1 r1 a dx ha hdx hne=>?_⟩;split at hm
 ·rename_i hlen
  rw [Bd];obtain ⟨s2,l2⟩:=Fh (ho:=.own a) s1 hdx
  have ha2:upd H1 dx (.own a) a=none:=by rw [BI (Bp hne)];exact ha
  obtain ⟨s3,l3,at3⟩:=s2.alloc (p:=a) (ho:=.ins C dx []) (o:=.ins C []) ha2 ⟨dx,[],BU,.nil⟩;refine ⟨ρ1++[a],.ref S1.length :: ds,S1++[.ins C []],by simpa using hlen,.cons (.ref at3) (r1.mono (l2.trans l3)),s3,BO.xk (hm.seq λz S2 hm=>hm) (l1.trans (l2.trans l3)) λz S2 hm ρ' H' y l' s' r'=>?_⟩
  cases z <;> first | exact hm.elim | skip
  cases r';exact ⟨rfl,hm ρ' H' _ (l1.trans (l2.trans (l3.trans l'))) s' (.ref (l'.pre _ _ at3))⟩
 ·exact hm.elim
end
theorem KVR.lookup {K:AA} {ρ:List AE} {H:Hp} (f:Str):∀ {x:List (Str×D)} {y:List (Str×V)} {d:D},KVR K ρ H x y->x.lookup f=some d->∃v,y.lookup f=some v/\BM K ρ H d v
 | _,_,_,.nil,h=>by simp at h
 | (g,a) :: x,(g',b) :: y,d,.cons r t,h=>by
  obtain ⟨r1,r2⟩:=r;dsimp only at r1 r2;subst r1;rw [Bq] at h ⊢
  cases hq:(f==g) with
  | true=>rw [hq] at h;cases h;exact ⟨b,rfl,r2⟩
  | false=>rw [hq] at h;exact KVR.lookup f t h
def LF (f:Str) (v:D):List (Str×D)->List (Str×D)
 | []=>[(f,v)]
 | (g,x) :: r=>if g=f then (g,v) :: r else (g,x) :: LF f v r
theorem KVR.putF {K:AA} {ρ:List AE} {H:Hp} (f:Str) {d:D} {v:V} (rd:BM K ρ H d v):∀ {x:List (Str×D)} {y:List (Str×V)},KVR K ρ H x y->KVR K ρ H (LF f d x) (putF f v y)
 | _,_,.nil=>.cons ⟨rfl,rd⟩ .nil
 | (g,a) :: x,(g',b) :: y,.cons r t=>by
  obtain ⟨r1,r2⟩:=r;dsimp only at r1 r2;subst r1;unfold LF L2.putF
  by_cases hq:g=f
  ·rw [qX hq,qX hq];exact .cons ⟨rfl,rd⟩ t
  ·rw [qY hq,qY hq];exact .cons ⟨rfl,r2⟩ (KVR.putF f rd t)
theorem KVR.length {κ:Type} {K:AA} {ρ:List AE} {H:Hp} {x:List (κ×D)} {y:List (κ×V)} (h:KVR K ρ H x y):x.length=y.length:=Dg h
def LK (C:AE) (f:Str) (m:ME):ME:=λe S=>(m e S).bind λd S1=>match d with
 | .ref n=>match S1[n]? with
  | some (.ins C' fs)=>if C'=C then (match fs.lookup f with | some v=>.ok v S1 | none=>.bad) else .bad
  | _=>.bad
 | _=>.bad
def N3 (C:AE) (f:Str) (mo mv:ME):MS:=λe S=>(mv e S).lift e λv S1=>(mo e S1).lift e λd S2=>match d with
 | .ref n=>match S2[n]? with
  | some (.ins C' fs)=>if C'=C/\fs.length < 1000 then .ok (.nx e) (S2.set n (.ins C (LF f v fs))) else .bad
  | _=>.bad
 | _=>.bad
section
variable {X:Cx} {E:EW} {o e value:Expr} {f:Str} {pos pos':Pos} {m mv:ME} {C:AE}
theorem Mz (hc:Cls X.K C) (hn:FS X.K C f) (he:GE X E e m) (hb:DR e f X.env (Ba e X.env)=Ba e X.env:=by rfl):GE X E (.Attribute e f pos) (LK C f m):=(bd he hb).imp λσ H Q ⟨ρ,l,S,hl,hs,hm⟩=>by
 refine ⟨ρ,l,S,hl,hs,hm.seq λx S1 hm ρ1 H1 v l1 s1 r1=>?_⟩
 cases x <;> first | exact hm.elim | skip
 rename_i n;dsimp only at hm
 cases ho:S1[n]? with
 | none=>rw [ho] at hm;exact hm.elim
 | some ob=>
  rw [ho] at hm
  cases ob <;> first | exact hm.elim | skip
  rename_i C' fs;dsimp only at hm;split at hm
  ·rename_i hC
   rw [hC] at ho
   cases r1 with
   | ref hn'=>
    obtain ⟨dx,fs',e1,e2⟩:=s1.ob n _ _ ho hn'
    cases hq:fs.lookup f with
    | none=>rw [hq] at hm;exact hm.elim
    | some w=>
     rw [hq] at hm;obtain ⟨v,h3,h4⟩:=KVR.lookup f e2 hq;exact ⟨_,_,dx,fs',v,rfl,e1,hc,hn,h3,hm ρ1 H1 v l1 s1 h4⟩
  ·exact hm.elim
theorem SF (hc:Cls X.K C) (hn:FS X.K C f) (ha:GE X E o m) (hv:GE X E value mv) (hs:Dx value (some (.Attribute o f pos')) pos.line X.env=pure false:=by rfl):GS X E (.Assign [.Attribute o f pos'] value pos) (N3 C f m mv):=(bT ha hv hs).imp λD σ H ⟨ρ,l,S,hl,hs,hm⟩=>by
 refine ⟨ρ,l,S,hl,hs,hm.lift hl .refl λv S1 hm ρ1 H1 y l1 s1 r1=>⟨ρ1,l,S1,hl.mono l1,s1,(hm.later l1).lift (hl.mono l1) l1 λx S2 hm ρ2 H2 u l2 s2 r2=>?_⟩⟩
 cases x <;> first | exact hm.elim | skip
 rename_i n;dsimp only at hm
 cases ho:S2[n]? with
 | none=>rw [ho] at hm;exact hm.elim
 | some ob=>
  rw [ho] at hm
  cases ob <;> first | exact hm.elim | skip
  rename_i C' fs;dsimp only at hm;split at hm
  ·rename_i hC
   obtain ⟨hC,hlen⟩:=hC;rw [hC] at ho
   cases r2 with
   | ref hn'=>
    obtain ⟨dx,fs',e1,e2⟩:=s2.ob n _ _ ho hn';have le:Le X.K ρ2 H2 ρ2 (upd H2 _ (.ins C dx (putF f y fs'))):=Le.write hn' (by rw [e1];trivial);obtain ⟨s3,l3⟩:=s2.write (ho:=.ins C dx (putF f y fs')) (o:=.ins C (LF f v fs)) hn' ⟨dx,_,BU,(KVR.putF f (r1.mono l2) e2).mono le⟩;refine ⟨_,C,dx,fs',rfl,e1,hc,hn,by rw [<-KVR.length e2];exact hlen,?_⟩;exact hm ρ2 _ σ (l1.trans (l2.trans l3)) s3 (hl.mono (l1.trans (l2.trans l3)))
  ·exact hm.elim
end
theorem Bx.get {P:Aa} {w:As} {H:Hp} {h:BG} {a:AE} {o:HO} (x:Bx P w H h a o):∃u,h.get? a=some u:=by
 cases o with
 | lst xs=>obtain ⟨_,_,_,_,e⟩:=x;exact ⟨_,e⟩
 | tup xs=>obtain ⟨_,_,_,o,e,_⟩:=x;exact ⟨_,e⟩
 | dK kvs=>obtain ⟨_,_,_,_,o,_,_,e,_⟩:=x;exact ⟨_,e⟩
 | dT kvs=>obtain ⟨_,_,_,_,o,_,_,e,_⟩:=x;exact ⟨_,e⟩
 | set S n=>obtain ⟨o,_,_,_,e,_⟩:=x;exact ⟨_,e⟩
 | ins C dx fs=>obtain ⟨_,_,_,e,_⟩:=x;exact ⟨_,e⟩
 | own y=>exact x
 | xd fs=>obtain ⟨_,⟨_,_,_,e,_⟩,_⟩:=x;exact ⟨_,e⟩
 | rng lo hi=>obtain ⟨_,_,_,e⟩:=x;exact ⟨_,e⟩
 | frz ob u=>obtain ⟨e,_⟩:=x;exact ⟨_,e⟩
 | tbl ps=>exact ⟨_,(show h.get? a=some _ from x)⟩
 | met f y=>exact ⟨_,(show h.get? a=some _ from x)⟩
 | ext φ=>obtain ⟨_,e,_⟩:=x;exact e
def Ng (Nw:AE->Prop) (F:Option AB->Prop) (ea C:AE) (H:Hp) (h:BG):Prop:=
 H ea=none/\Nw ea/\∃(oe:Obj) (vs:Array AB) (a0:AB),h.get? ea=some oe/\oe.cls=.ref C/\(oe.dict=none/\oe.data=.fields vs)/\vs[0]?=some a0 /\
  ((F none/\vs[1]?=some .none)∨∃(T:AE) (oT:Obj) (ts:Array AB) (fl:AB),F (some fl)/\vs[1]?=some (.ref T)/\T≠ea/\H T=none/\Nw T/\h.get? T=some oT/\oT.data=.fields ts/\ts[3]?=some fl)
theorem Ng.imp {Nw:AE->Prop} {h:BG} {F G:Option AB->Prop} {ea C:AE} {H:Hp} (x:Ng Nw F ea C H h) (f:∀o,F o->G o):Ng Nw G ea C H h:=by
 obtain ⟨n1,n2,oe,vs,a0,g1,g2,g3,g4,g5⟩:=x;refine ⟨n1,n2,oe,vs,a0,g1,g2,g3,g4,?_⟩
 rcases g5 with ⟨a,b⟩ | ⟨T,oT,ts,fl,a,b⟩
 ·exact .inl ⟨f _ a,b⟩
 ·exact .inr ⟨T,oT,ts,fl,f _ a,b⟩
structure HZ (X:Cx):Prop where
 st:X.stack=X.env :: X.outer
 fr:X.env.frame=some X.env.locals
 ex:X.ex=[]
def Nw (X:Cx) (b:AE):Prop:=X.s₀.heap.get? b=none/\∀p∈X.pn,p.1≠b
section
variable {X:Cx} {pins:List (AE×Obj)} {σ:St} {H:Hp} {s:AD} {h':BG} {ea C:AE} {F:Option AB->Prop}
theorem Inv.old (I:Inv X pins σ H s) (O:HZ X) {b:AE} (e:s.heap.get? b=none):H b=none/\Nw X b:=by
 refine ⟨?_,?_,λp hp z=>?_⟩
 ·cases q:H b with
  | none=>rfl
  | some u=>
   obtain ⟨o,ho⟩:=(I.hok b u q).get;rw [e] at ho;cases ho
 ·cases q:X.s₀.heap.get? b with
  | none=>rfl
  | some o=>
   obtain ⟨o',ho⟩:=I.base.there b o q (by rw [O.ex];simp);rw [e] at ho;cases ho
 ·have:=(I.pin p (Ez _ hp)).1
  rw [z,e] at this;cases this
theorem Inv.recs {ch:List AE} (I:Inv X [] σ H s) (O:HZ X) (hc:∀b∈ch,H b=none/\Nw X b/\∃o vs,s.heap.get? b=some o/\o.data=.fields vs)
  (st:(HP s.heap (frs X.stack++ch)).StaysIn h') (up:s.heap.UpToSlots h'):Inv X [] σ H { s with heap:=h' }:=by
 have keepB:∀b o,b∉frs X.stack->b∉ch->s.heap.get? b=some o->h'.get? b=some o:=λb o h1 h2 e=>
  st b o (Q6 _ e λz=>(BP.mp z).elim h1 h2)
 have noL:∀b∈ch,b≠X.env.locals:=λb hb z=>by
  obtain ⟨_,_,o,vs,e,d⟩:=hc b hb;obtain ⟨m,⟨o',es,ep,ho',hd',_⟩,_⟩:=I.loc;rw [z,ho'] at e;cases e;rw [hd'] at d;cases d
 have noC:∀b∈ch,∀x c,X.env.cells.lookup x=some c->c≠b:=λb hb x c q z=>by
  obtain ⟨_,_,o,vs,e,d⟩:=hc b hb;obtain ⟨v,o',ho',hd'⟩:=I.cell x c q;rw [z,e] at ho';cases ho';rw [d] at hd';cases hd'
 refine I.stepN (g':=s.gens) (t':=s.toks) (d':=s.drawn) (ch:=ch) (λb hb=>⟨.inr (hc b hb).2.1.1,noL b hb,noC b hb,λp hp=>(hc b hb).2.1.2 p (by rwa [Bd] at hp)⟩)
  (λb o nl nf nc e _=>keepB b o (λz=>(Aw.mp (I.stkSub b z)).elim nl nf) nc e) (λb o _ hf _ e _=>?_) (λ_ _ _ _ n=>n) (λb o nc e=>?_) (λ_ _ q=>q) (λ_ _ _ q=>q) (λb ps q=>⟨#[],by rw [q];simp⟩) (λm hm=>up.ns hm) (λa o e=>?_) I.bare
 ·obtain ⟨o',ho',nf⟩:=(I.funs.mem hf).2
  rw [e] at ho';cases ho';exact up b o e nf
 ·by_cases hb:b∈frs X.stack
  ·obtain ⟨o',ho',nf⟩:=(I.stack.mem hb).2
   rw [e] at ho';cases ho';obtain ⟨sl,q⟩:=up b o e nf;exact ⟨_,q⟩
  ·exact ⟨o,keepB b o hb nc e⟩
 ·have tr:∀b u,H b=some u->∀v,s.heap.get? b=some v->h'.get? b=some v:=λb u q v r=>
   keepB b v (λz=>by rw [I.stkFree b z] at q;cases q) (λz=>by rw [(hc b z).1] at q;cases q) r
  refine (I.hok a o e).stay (λb u hb q=>?_) (λ_ q=>q) λ_ _ q=>q
  rcases hb with z | z
  ·subst z;exact tr _ _ e u q
  ·exact tr _ _ z u q
abbrev XY (X:Cx) (h:BG) (ch:List AE):BG:=HP h (frs X.stack++ch)
theorem OK {h:BG} {ch:List AE} {b:AE} (hb:b∈ch):(XY X h ch).get? b=none:=Hn _ (A6 _ hb)
theorem IL (f:Array AB->Array AB) (o:Obj):(Bv f o).dict=o.dict:=by
 obtain ⟨c,d,dt,sl⟩:=o
 cases dt <;> rfl
theorem Qm {M:Pr} {A:Ak} {E:AB->AD->Prop} {Q:Unit->AD->Prop} {base:BG} {env:Env} {outer:List Env} {L e:AE} {oe:Obj} {vs:Array AB} {head:AB} {hadNext:Bool}
  (hfr:A.frames=some (env :: outer)) (hl:s.heap.FunFrames base (env :: outer)) (hf:env.frame=some L) (he:s.heap.get? e=some oe) (hd:oe.data=.fields vs) (hsz:1 < vs.size)
  (k:∀h2 T oT ts,T≠e->s.heap.get? T=none->(∀b o,b≠e->b∉frs (env :: outer)->s.heap.get? b=some o->h2.get? b=some o)->(∀b o,b≠e->s.heap.get? b=some o->∃sl,h2.get? b=some { o with slots:=sl }) ->
   h2.get? e=some (Bv (·.setIfInBounds 1 (.ref T)) oe)->h2.get? T=some oT->oT.data=.fields ts->ts[3]?=some (DB L)->Q () { s with heap:=h2 }) :
  Ab M A (do let a <-frameOf env;let pl <-entryPlaceOf L hadNext;let b <-Oi head a .none (DB L) .none pl;YC (.ref e) 1 b) Q E s:=by
 have hnot:e∉frs (env :: outer):=λz=>by
  obtain ⟨_,o,ho,nf⟩:=hl.mem z;rw [he] at ho;cases ho;exact nf vs hd
 refine AC (wpAny_frameOf_fun hfr hl hf λg1 so=>AC (wpAny_entryPlaceOf λpl hpl=>?_));unfold Oi newFields;refine AC (Bk ?_ (hpl.sizeOk5 _ _ _ _ _));have e1:g1.get? e=some oe:=(so.2.1 e hnot).trans he;have e2:=AF (h:=g1) { cls:=.type "traceback",dict:=none,data:=.fields ([head,.ref L,.none,DB L,.none]++(if pl.isEmpty then A4 6 BF else pl)).toArray } e1;refine Gu e2 hd hsz ?_;have nTe:g1.objs.size≠e:=K9 (AT e1);have dd:=Bt hd (·.setIfInBounds 1 (Ap g1.objs.size))
 have old:∀b o,b≠e->g1.get? b=some o->((g1.push { cls:=.type "traceback",dict:=none,data:=.fields ([head,.ref L,.none,DB L,.none]++(if pl.isEmpty then A4 6 BF else pl)).toArray }).update e (Bv (·.setIfInBounds 1 (Ap g1.objs.size)))).get? b=some o:=λb o ne q=>by
  rw [Cv _ _ (Bp ne)];exact AF _ q
 refine k _ g1.objs.size { cls:=.type "traceback",dict:=none,data:=.fields ([head,.ref L,.none,DB L,.none]++(if pl.isEmpty then A4 6 BF else pl)).toArray } _ nTe (Sj (RL so.1.symm)) (λb o ne nf q=>old b o ne ((so.2.1 b nf).trans q)) (λb o ne q=>?_) (Eg _ e2 (El dd)) ?_ rfl ?_
 ·obtain ⟨sl,z⟩:=so.2.2 b o q
  exact ⟨sl,old b _ ne z⟩
 ·rw [Cv _ _ (Bp nTe)]
  exact AU g1 rfl
 ·rcases hpl with rfl | ⟨_,_,_,_,_,_,_,rfl⟩ <;> simp
theorem QG {h:BG} {ch:List AE} (keep:∀b o,b∉frs X.stack->b∉ch->h.get? b=some o->h'.get? b=some o):(XY X h ch).StaysIn h':=λb o q=>by
 have hb:b∉frs X.stack++ch:=λz=>by
  have:=Hn (h:=h) (frs X.stack++ch) z;rw [show (XY X h ch).get? b=(HP h (frs X.stack++ch)).get? b from rfl,this] at q;cases q
 exact keep b o (λz=>hb (Ez _ z)) (λz=>hb (A6 _ z)) (Iu _ q)
theorem TV {M:Pr} {A:Ak} {E:AB->AD->Prop} {Q:Unit->AD->Prop} (I:Inv X [] σ H s) (O:HZ X) (hA:A.frames=some X.stack) (x:Ng (Nw X) F ea C H s.heap)
  (hF:∀o,F o->o=none∨o=some .none∨o=some (DB X.env.locals))
  (k:∀h',Inv X [] σ H { s with heap:=h' }->Ng (Nw X) (· = some (DB X.env.locals)) ea C H h'->Q () { s with heap:=h' }):Ab M A (Vc (.ref ea) X.env) Q E s:=by
 obtain ⟨n1,n2,oe,vs,a0,g1,g2,⟨g0,g3⟩,g4,g5⟩:=x
 have hA':A.frames=some (X.env :: X.outer):=by rw [hA,O.st]
 have hst:frs (X.env :: X.outer)=frs X.stack:=by rw [O.st]
 have fr:s.heap.FunFrames X.base (X.env :: X.outer):=by rw [<-O.st];exact I.stack
 rcases g5 with ⟨_,h1⟩ | ⟨T,oT,ts,fl,hf,h1,ne,m1,m2,gT,dT,h3⟩
 ·have hsz:=(CI.mp h1).1
  unfold Vc;simp only [O.fr];refine AC (Di g1 g3 h1 ?_);rw [qY (by decide)]
  refine Qm hA' fr O.fr g1 g3 hsz λh2 T oT ts nT fT kp up q1 q2 q3 q4=>?_
  rw [hst] at kp;have hT:=I.old O fT
  have hc:∀b∈[ea],H b=none/\Nw X b/\∃o vs,s.heap.get? b=some o/\o.data=.fields vs:=λb hb=>by
   cases A2.mp hb;exact ⟨n1,n2,oe,vs,g1,g3⟩
  refine k h2 (I.recs O hc (QG λb o z1 z2 q=>kp b o (λz=>z2 (A2.mpr z)) z1 q) λb o q nf=>up b o (λz=>?_) q) ?_
  ·rw [z,g1] at q
   cases q;exact nf vs g3
  ·exact ⟨n1,n2,_,_,a0,q1,by rw [K8];exact g2,⟨by rw [IL];exact g0,Bt g3 _⟩,by rw [Kk (by decide)];exact g4,.inr ⟨T,oT,ts,_,rfl,by simp [hsz],nT,hT.1,hT.2,q2,q3,q4⟩⟩
 ·rcases hF _ hf with e | e | e
  ·cases e
  ·cases e
   have hsz:=(CI.mp h1).1;unfold Vc;simp only [O.fr];refine AC (Di g1 g3 h1 ?_);rw [qX (show (Ap T != BF)=true from by simp)];refine AC (Di gT dT h3 ?_);rw [qY (show ¬((BF==DB X.env.locals)=true) from by simp [DB])];refine AC (Gu gT dT (CI.mp h3).1 ?_)
   have oth:∀b,b≠T->(s.heap.update T (Bv (·.setIfInBounds 3 BF))).get? b=s.heap.get? b:=λb hb=>Cv _ _ (Bp hb)
   have nrec:∀b o,s.heap.get? b=some o->(∀vs,o.data≠.fields vs)->b≠T:=λb o hb nf q=>by
    rw [q,gT] at hb;cases hb;exact nf ts dT
   have fr2:(s.heap.update T (Bv (·.setIfInBounds 3 BF))).FunFrames X.base (X.env :: X.outer):=fr.of_keeps λb o hb nf=>⟨o,(oth b (nrec b o hb nf)).trans hb,rfl⟩
   have gU:(s.heap.update T (Bv (·.setIfInBounds 3 BF))).get? T=some (Bv (·.setIfInBounds 3 BF) oT):=Eg _ gT (El (Bt dT _))
   have hc:∀b∈[ea,T],H b=none/\Nw X b/\∃o vs,s.heap.get? b=some o/\o.data=.fields vs:=λb hb=>by
    rcases Aw.mp hb with rfl | hb
    ·exact ⟨n1,n2,oe,vs,g1,g3⟩
    ·cases A2.mp hb
     exact ⟨m1,m2,oT,ts,gT,dT⟩
   refine Qm (s:={ s with heap:=s.heap.update T (Bv (·.setIfInBounds 3 BF)) }) hA' fr2 O.fr ((oth ea (Bp ne)).trans g1) g3 hsz λh2 T2 oT2 ts2 nT fT kp up q1 q2 q3 q4=>?_
   rw [hst] at kp
   have fT':s.heap.get? T2=none:=by
    have z:T2≠T:=λz=>by rw [z] at fT;exact zX (fT.symm.trans gU) (by simp)
    rw [<-oth T2 z];exact fT
   have hT:=I.old O fT';refine k h2 (I.recs O hc (QG λb o z1 z2 q=>kp b o (λz=>z2 (by rw [z];exact Ae)) z1 ((oth b λz=>z2 (by rw [z];exact AV _ (A2.mpr rfl))).trans q)) λb o q nf=>up b o (λz=>?_) ((oth b (nrec b o q nf)).trans q)) ?_
   ·rw [z,g1] at q
    cases q;exact nf vs g3
   ·exact ⟨n1,n2,_,_,a0,q1,by rw [K8];exact g2,⟨by rw [IL];exact g0,Bt g3 _⟩,by rw [Kk (by decide)];exact g4,.inr ⟨T2,oT2,ts2,_,rfl,by simp [hsz],nT,hT.1,hT.2,q2,q3,q4⟩⟩
  ·cases e
   have hTn:(XY X s.heap [ea,T]).get? T=none:=OK (AV _ (A2.mpr rfl));refine wpAny_noteFrame_againW (base:=XY X s.heap [ea,T]) (cls:=.ref C) (a0:=a0) O.fr ⟨oe,vs,T,oT,ts,g1,⟨g2,g4⟩,g3,h1,hTn,ne,gT,dT,h3⟩ ?_;exact k s.heap I ⟨n1,n2,oe,vs,a0,g1,g2,⟨g0,g3⟩,g4,.inr ⟨T,oT,ts,_,rfl,h1,ne,m1,m2,gT,dT,h3⟩⟩
theorem ON {M:Pr} {A:Ak} {E:AB->AD->Prop} {Q:Unit->AD->Prop} (f:Option AE) (I:Inv X [] σ H s) (O:HZ X) (x:Ng (Nw X) F ea C H s.heap) (hF:¬F none)
  (k:∀h',Inv X [] σ H { s with heap:=h' }->Ng (Nw X) (· = some (f.elim BF λa=>DB a)) ea C H h'->Q () { s with heap:=h' }):Ab M A (setFlight (.ref ea) f) Q E s:=by
 obtain ⟨n1,n2,oe,vs,a0,g1,g2,⟨g0,g3⟩,g4,g5⟩:=x
 rcases g5 with ⟨z,_⟩ | ⟨T,oT,ts,fl,hf,h1,ne,m1,m2,gT,dT,h3⟩
 ·exact (hF z).elim
 ·have hc:∀b∈[ea,T],H b=none/\Nw X b/\∃o vs,s.heap.get? b=some o/\o.data=.fields vs:=λb hb=>by
   rcases Aw.mp hb with rfl | hb
   ·exact ⟨n1,n2,oe,vs,g1,g3⟩
   ·cases A2.mp hb
    exact ⟨m1,m2,oT,ts,gT,dT⟩
  have hsz:3 < ts.size:=(CI.mp h3).1;unfold setFlight;refine AC (Di g1 g3 h1 ?_);rw [qX (show (Ap T != BF)=true from by simp)];refine Gu gT dT hsz ?_
  have oth:∀b,b≠T->(s.heap.update T (Bv (·.setIfInBounds 3 (f.elim BF λa=>DB a)))).get? b=s.heap.get? b:=λb hb=>Cv _ _ (Bp hb)
  have nrec:∀b o,s.heap.get? b=some o->(∀vs,o.data≠.fields vs)->b≠T:=λb o hb nf q=>by
   rw [q,gT] at hb;cases hb;exact nf ts dT
  refine k _ (I.recs O hc (λb o q=>?_) λb o q nf=>⟨o.slots,(oth b (nrec b o q nf)).trans q⟩) ?_
  ·have hb:b≠T:=λz=>by rw [z,OK (AV _ (A2.mpr rfl))] at q;cases q
   exact (oth b hb).trans (Iu _ q)
  ·refine ⟨n1,n2,oe,vs,a0,(oth ea (Bp ne)).trans g1,g2,⟨g0,g3⟩,g4,.inr ⟨T,_,_,_,rfl,h1,ne,m1,m2,Eg _ gT (El (Bt dT _)),Bt dT _,?_⟩⟩
   simp [hsz]
end
def trF (X:Cx) (o:Option AB):Prop:=o=none∨o=some .none∨o=some (DB X.env.locals)
def XE (X:Cx) (E:EW) (e:AB) (s':AD):Prop:=∃ea C σ H',e=.ref ea/\Inv X [] σ H' s'/\Ng (Nw X) (trF X) ea C H' s'.heap/\E C σ H'
def CXG (P:Aa) (w:As):CXT:=λouter H s E e s'=>∃ea C H',e=.ref ea/\s'.os=s.os/\FW s'.gens/\Un (frs outer) [] H H' s.heap s'.heap/\HOk P w H' s'.heap/\Ng (λb=>s.heap.get? b=none) (· = some .none) ea C H' s'.heap/\E (.ref C) none H'
theorem XE.own {X:Cx} {E:EW} (O:HZ X):Vh (AR X.prog X.w) X.A X.env (XE X E):=by
 rintro e s' ⟨ea,C,σ,H,rfl,I,x,w⟩
 refine TV I O I.ok.frames x (λo z=>z) λh1 I1 x1=>?_
 have x1':=x1;obtain ⟨n1,n2,oe,vs,a0,g1,g2,g3,g4,g5⟩:=x1'
 rcases g5 with ⟨z,_⟩ | ⟨T,oT,ts,fl,hf,h1',_⟩
 ·cases z
 ·show Ab _ _ _ _ _ _
  refine AC (Di (s:={ s' with heap:=h1 }) g1 g3.2 h1' ?_);rw [qY (by simp)];rw [O.fr]
  refine ON (s:={ s' with heap:=h1 }) (some X.env.locals) I1 O x1 (by simp) λh2 I2 x2=>?_
  exact ⟨ea,C,σ,H,rfl,I2,x2.imp λo z=>.inr (.inr z),w⟩
theorem XE.leave {X:Cx} {E:EW} {e:AB} {s':AD} {Q:Unit->AD->Prop} {E':AB->AD->Prop} (O:HZ X) (h:XE X E e s')
  (k:∀ea C σ H' s'',e=.ref ea->Inv X [] σ H' s''->Ng (Nw X) (· = some .none) ea C H' s''.heap->E C σ H'->Q () s''):Ab (AR X.prog X.w) X.A (leaving X.env e) Q E' s':=by
 obtain ⟨ea,C,σ,H,rfl,I,x,w⟩:=h;unfold leaving;refine AC (TV I O I.ok.frames x (λo z=>z) λh1 I1 x1=>?_)
 refine ON (s:={ s' with heap:=h1 }) none I1 O x1 (by simp) λh2 I2 x2=>?_
 exact k ea C σ H _ rfl I2 x2 w
abbrev Cx.p (X:Cx) (pn:List (AE×Obj)):Cx:={ X with pn:=pn }
abbrev Cx.w' (X:Cx) (pn:List (AE×Obj)) (E:EW):Cx:={ X with pn:=pn,xe:=XE (X.p pn) E }
theorem Inv.with {X:Cx} {pins:List (AE×Obj)} {σ:St} {H:Hp} {s:AD} (I:Inv X pins σ H s) (z:AB->AD->Prop):Inv { X with xe:=z } pins σ H s:=by
 obtain ⟨ok,a,b,c,d,e,f,g,i,j,l⟩:=I;obtain ⟨o1,o2,o3,o4,o5,o6,o7,o8,o9,o10,o11,o12,o13,o14,o15,o16,o17,o18⟩:=ok;exact ⟨⟨o1,o2,o3,o4,o5,o6,o7,o8,o9,o10,o11,o12,o13,o14,o15,o16,o17,o18⟩,a,b,c,d,e,f,g,i,j,l⟩
theorem Inv.without {X:Cx} {pins:List (AE×Obj)} {σ:St} {H:Hp} {s:AD} {z:AB->AD->Prop} (I:Inv { X with xe:=z } pins σ H s):Inv X pins σ H s:=by
 have:=I.with X.xe
 exact this
structure Good (X:Cx) (E:EW):Prop where
 pass:JG (CXG X.prog X.w) X (UP E)
 own:Vh (AR X.prog X.w) X.A X.env X.xe
 made:∀(pins:List (AE×Obj)) (σ:St) (H:Hp) (s:AD) (h':BG) (ea C:AE) (args:List AB),Inv X pins σ H s->E C σ H->BG.MadeExcOf s.heap h' ea (.ref C) args->X.xe (.ref ea) { s with heap:=h' }
theorem HZ.p {X:Cx} (O:HZ X) (pn:List (AE×Obj)):HZ (X.p pn):=⟨O.st,O.fr,O.ex⟩
theorem B5 {X:Cx} {E:EW} {pn:List (AE×Obj)} (O:HZ X):Good (X.w' pn E) E:=by
 have O':=O.p pn;refine ⟨λpins σ H s e s' I h=>?_,XE.own O',λpins σ H s h' ea C args I w hx=>?_⟩
 ·obtain ⟨ea,C,H',rfl,os,bare,un,hok,x,_,c,ec,w⟩:=h
  cases ec;have I0:Inv (X.p pn) pins σ H s:=Inv.without (X:=X.p pn) I;have I1:Inv (X.p pn) pins σ H' s':=I0.call' os un hok bare (λb z=>zX z (by simp))
  have I2:Inv (X.p pn) [] σ H' s':=I1.pins_of λp hp=>zX hp (by simp)
  obtain ⟨n1,n2,oe,vs,a0,g1,g2,g3,g4,g5⟩:=x;refine ⟨ea,C,σ,H',rfl,I2,⟨n1,(I0.old O' n2).2,oe,vs,a0,g1,g2,g3,g4,?_⟩,w⟩
  rcases g5 with ⟨z,_⟩ | ⟨T,oT,ts,fl,hf,h1,ne,m1,m2,r⟩
  ·cases z
  ·exact .inr ⟨T,oT,ts,fl,.inr (.inl hf),h1,ne,m1,(I0.old O' m2).2,r⟩
 ·have I0:Inv (X.p pn) pins σ H s:=Inv.without (X:=X.p pn) I
  have I1:Inv (X.p pn) pins σ H { s with heap:=h',toks:=s.toks }:=I0.kept hx.keeps;obtain ⟨t,g1,_,_⟩:=hx.there;have hold:=I0.old O' hx.new;exact ⟨ea,C,σ,H,rfl,I1.pins_of λp hp=>zX hp (by simp),⟨hold.1,hold.2,_,_,_,g1,rfl,⟨rfl,rfl⟩,rfl,.inl ⟨.inl rfl,rfl⟩⟩,w⟩
theorem good_none {X:Cx} (hx:X.xe=λ_ _=>False):Good X noE:=by
 refine ⟨λpins σ H s e s' I h=>?_,by rw [hx];exact Vh.never,λ_ _ _ _ _ _ _ _ _ w _=>w.elim⟩;obtain ⟨ea,C,H',rfl,os,bare,un,hok,x,_,c,ec,w⟩:=h;exact w.elim
abbrev Qv:List AB:=[.type "ValueError",.type "Exception",.type "BaseException",.type "object"]
structure XCl (K:AA) (C:AE):Prop where
 ex:X6 K C Qv "ValueError.__new__" = true
theorem XCl.obj {K:AA} {C:AE} (c:XCl K C):∃bm N nm q bs hdct sn sub ab col dd k0 k1 k2 k3 k5,K.lookup C=some (excClassObj nm q C N bs bm hdct sn sub ab col dd k0 k1 k2 k3 k5 "ValueError.__new__") /\
  Lk K N=true/\PySem.W.nsIn K N "__init__" = some none/\PySem.W.tailIn K Qv bm=true:=by
 have q:=c.ex;unfold X6 at q;split at q
 ·rename_i ddx cdx slx hox
  split at q
  ·rename_i Cx bmx j0 j1 j2 j3 nx j5 hmx hsx
   simp only [Br,beq_iff_eq,EJ] at q;obtain ⟨⟨⟨⟨⟨e1,e2⟩,e3⟩,e4⟩,e5⟩,e6⟩:=q;subst e1;subst e2;obtain ⟨f1,f2,f3,f4,f5,f6,f7,f8,f9,f10,f11⟩:=cdx;dsimp only at hmx e3 e5 e6;subst hmx;subst e3;obtain ⟨lx⟩:=slx;dsimp only at hsx;subst hsx;exact ⟨bmx,f4,f1,f5,f2,f6,f7,f8,f9,f10,ddx,j0,j1,j2,j3,j5,hox,e5,e6,e4⟩
  ·cases q
 ·cases q
theorem ZI {K:AA} {N:AE} {h h2:BG} {m:Str->Option AB} (e:Lk K N=true) (X:K.In h) (X2:K.In h2) (n:h.Ns N m):h2.Ns N m:=by
 obtain ⟨o,es,ep,ho,r⟩:=n;unfold Lk at e;split at e
 ·rename_i hk
  have z:=X _ _ hk;rw [ho] at z;cases z;exact ⟨_,es,ep,X2 _ _ hk,r⟩
 ·cases e
def DW (C:AE) (ml:ML):MS:=λe S=>(ml e S).lift e λds S1=>if ds.length<=sizeLine then .ok (.ex C e) S1 else .bad
section
variable {X:Cx} {E:EW} {x:Str} {np cpos pos:Pos} {e:Expr} {es:List Expr} {ml:ML} {C:AE}
theorem Js (G:Good X E) (hc:X.calm=true) (c:XCl X.K C) (hg:Gl X x) (hm:X.mg x=some (.ref C)) (ha:GA X E (e :: es) ml) (hdb:(x==("__debug__" : Str))=false:=by decide)
  (he:AN (e :: es) X.env=(false,Ba e X.env) :: AN es X.env:=by rfl) (hpl:(Bi cpos (AN es X.env)).any (·.1)=false:=by rfl) :
  GS X E (.Raise (some (.Call (.Name x np) (e :: es) [] cpos)) none pos) (DW C ml):=by
 intro pins s σ H D I ⟨ρ,l,S,hl,hs,hm'⟩;have hh:X.A.handled=none:=I.ok.hd hc;obtain ⟨bm,N,nm,q,bs,hdct,sn,sub,ab,col,dd,k0,k1,k2,k3,k5,hC,hok,hin,htl⟩:=c.obj;have hN:s.heap.Ns N (s.heap.nsMap N):=.of_isNs (PySem.W.isNs_of_in I.kIn hok)
 refine wpAny_Raise_call_subT (C:=C) (nm:=nm) (q:=q) (N:=N) (bs:=bs) (bm:=bm) (hdct:=hdct) (sn:=sn) (sub:=sub) (ab:=ab) (col:=col) (dd:=dd) (k0:=k0) (k1:=k1) (k2:=k2) (k3:=k3) (k5:=k5) (bmB:=Qv) PySem.F.excBase_ValueError
  ((RI I.kIn htl).hasType (by decide +kernel)) hh (by rw [he];show (false||(Bi cpos (AN es X.env)).any (·.1))=false;rw [hpl];rfl) (PySem.W.nsMap_none_of_in I.kIn hok hin)
  (La I hg hm ⟨rfl,?_⟩ hdb)
 have hgo:=ha cpos pins s σ H (λvs H1=>vs.length<=sizeLine/\E C σ H1) I ⟨ρ,l,S,hl,hs,BO.lift hm' hl .refl λds S1 hm ρ1 H1 xs l1 s1 r1=>by
  split at hm
  ·rename_i hz
   exact ⟨by rw [<-r1.length];exact hz,hm ρ1 H1 σ l1 s1 (hl.mono l1)⟩
  ·exact hm.elim⟩
 rw [he] at hgo ⊢;refine RP (thn hgo λus s2 ⟨vs,H2,I2,rv,hz,w⟩=>?_);exact ⟨rfl,by rw [<-rv.length];exact hz,I2.kIn _ _ hC,ZI hok I.kIn I2.kIn hN,RI I2.kIn htl,λh' ea hx=>G.made pins σ H2 s2 h' ea C us I2 w hx⟩
end
section
variable {X:Cx} {E:EW} {body suite:List CW} {b₀:CW} {g n:Str} {gp hpos pos:Pos} {cs:List AE} {i:Nat} {mb mh:MS} {G:AE}
end
def G5 (n:Nat) (ds:List D):Lo:=ds.map some++A4 (n - ds.length) none
theorem Ri {K:AA} {ρ:List AE} {H:Hp} {N:List Str} {ds:List D} {vs:List V} (r:Aj K ρ H ds vs):Dm K ρ H (G5 N.length ds) (start N vs):=by
 refine ⟨by simp [G5,start,r.length],λi d q=>?_⟩;unfold G5 at q;unfold start
 by_cases hi:i < ds.length
 ·rw [Ad (by simpa using hi),Ao] at q
  rw [Ad (by rw [AK,<-r.length];exact hi),Ao]
  cases e:ds[i]? with
  | none=>rw [e] at q;cases q
  | some d'=>
   rw [e] at q;cases q;obtain ⟨v,h1,h2⟩:=r.get e;exact ⟨v,by rw [h1];rfl,h2⟩
 ·rw [A5 (by simpa using hi),B0] at q
  split at q <;> cases q
def F0 (n:Nat) (mb:MS) (ds:List D) (S:Sto):Res D:=(okR (mb (G5 n ds) S)).bind λf S1=>match f with
 | .rt d=>.ok d S1
 | .nx _=>.ok .non S1
 | .ex c _=>.err c S1
 | _=>.bad
section
variable {P:Aa} {w:As} {K:AA} {mg:Str->Option AB} {base:BG}
theorem cV {x qual:Str} {st:CW} {f:AE} {fd:CQ} {N ps:List Str} {k n:Nat} (F:Fun K x qual st f fd) (Sc:CH N ps (A0 st)) (hn:ps.length=n) {mb:MS}
  (hbody:∀(cdv:AB) (A:Ak) (outer:List Env) (s:AD) (H:Hp) (E:XK),Ey k (A.deeper (Iq qual (A0 st) s.heap.objs.size f cdv))->∀pn E',GSs ((Pa (CXG P w) P w K mg base N qual (A0 st) f cdv A outer s H E).w' pn E') E' (B6 st) mb) :
  EE P w K mg base (CXG P w) (k+1) f fd ps (spM K n (F0 N.length mb)):=by
 obtain ⟨oc,od,kV,doc,pm,an,cdv,ct,osl,rfl,lk,hcd⟩:=F.ex
 refine ez lk hcd Sc (λvs H Q E h=>by rw [hn];exact h.len) λA outer s H vs Q E hr h=>?_
 obtain ⟨ρ,ds,S,h1,h2,h3,h4⟩:=h;have O:HZ (Pa (CXG P w) P w K mg base N qual (A0 st) f cdv A outer s H E):=⟨rfl,rfl,rfl⟩;have hb:=hbody cdv A outer s H E hr [] (λc _ H'=>E (.ref c) none H');refine ⟨gS K (λc _ H'=>E (.ref c) none H') mb,λpins s' σ H' D I q=>Cm (hb pins s' σ H' D (I.with _) q) (λfl s1 z=>?_) λe s1 z=>?_,ρ,_,S,Ri h2,h3,?_⟩
 ·cases fl with
  | next=>obtain ⟨σ',H2,J,z⟩:=z;exact ⟨σ',H2,J.without,z⟩
  | brk=>obtain ⟨σ',H2,J,z⟩:=z;exact ⟨σ',H2,J.without,z⟩
  | cont=>obtain ⟨σ',H2,J,z⟩:=z;exact ⟨σ',H2,J.without,z⟩
  | ret u=>obtain ⟨v,σ',H2,J,r,z⟩:=z;exact ⟨v,σ',H2,J.without,r,z⟩
 ·refine XE.leave O z λea C σ' H2 s2 e1 J x w=>⟨ea,C,H2,e1,J.os,J.bare,J.base,J.hok,?_,w⟩
  obtain ⟨n1,n2,oe,vs',a0,g1,g2,g3,g4,g5⟩:=x;refine ⟨n1,n2.1,oe,vs',a0,g1,g2,g3,g4,?_⟩
  rcases g5 with z | ⟨T,oT,ts,fl,hf,h1,ne,m1,m2,r⟩
  ·exact .inl z
  ·exact .inr ⟨T,oT,ts,fl,hf,h1,ne,m1,m2.1,r⟩
 ·unfold F0 at h4
  cases hr:mb (G5 N.length ds) S with
  | bad=>rw [hr] at h4;exact h4.elim
  | err c S'=>rw [hr] at h4;exact h4.elim
  | ok fl S'=>
   rw [hr] at h4
   cases fl with
   | nx e'=>exact λρ' H' σ' l s' r=>h4 ρ' H' .non l s' .non
   | rt d=>exact h4
   | bk e'=>exact h4.elim
   | ct e'=>exact h4.elim
   | ex c e'=>exact λρ' H' σ' l s' r=>h4 ρ' H' l s'
end
section
variable {X:Cx}
def intOp (C:Int->Int->Prop) [∀i j,Decidable (C i j)] (g:Int->Int->D):D->D->Sto->Res D
 | .int i,.int j,S=>if C i j then .ok (g i j) S else .bad
 | _,_,_=>.bad
theorem XU {C:Int->Int->Prop} [∀i j,Decidable (C i j)] {g:Int->Int->D} {a b d:D} {S S':Sto} (h:intOp C g a b S=.ok d S'):∃i j,a=.int i/\b=.int j/\C i j/\d=g i j/\S'=S:=by
 unfold intOp at h;split at h
 ·split at h
  ·rename_i i j _ hc
   cases h;exact ⟨_,_,rfl,rfl,hc,rfl,rfl⟩
  ·cases h
 ·cases h
theorem Rw {f:AB->AB->Sem AB} {C:Int->Int->Prop} [∀i j,Decidable (C i j)] {g:Int->Int->D} {v:Int->Int->V} (hv:∀ρ H i j,BM X.K ρ H (g i j) (v i j)) (h:OpR X f (rI C v)):OpR X f (rD X.K (intOp C g)):=h.imp λx y H Q ⟨ρ,S,a,b,d,S',hs,ra,rb,hm,k⟩=>by
 obtain ⟨i,j,rfl,rfl,hc,rfl,rfl⟩:=XU hm;cases ra;cases rb;exact ⟨i,j,rfl,rfl,hc,k ρ H _ .refl hs (hv _ _ _ _)⟩
theorem LW {f:AB->AB->Sem AB} {g:Int->Int->D} {v:Int->Int->V} (hv:∀ρ H i j,BM X.K ρ H (g i j) (v i j)) (h:OpR X f (rI0 v)):OpR X f (rD X.K (intOp (λ_ _=>True) g)):=
 Rw (C:=λ_ _=>True) hv (h.imp λx y H Q ⟨i,j,e1,e2,_,q⟩=>⟨i,j,e1,e2,q⟩)
instance (i j:Int):Decidable (X3 i j):=inferInstanceAs (Decidable (_/\_))
abbrev IF:=intOp X3 λi j=>.int (i / j)
abbrev Mf:=intOp (λ_ j=>0 < j) λi j=>.int (i % j)
abbrev ltD:=intOp (λ_ _=>True) λi j=>.bl (decide (i < j))
abbrev leD:=intOp (λ_ _=>True) λi j=>.bl (decide (i<=j))
abbrev gtD:=intOp (λ_ _=>True) λi j=>.bl (decide (j < i))
abbrev geD:=intOp (λ_ _=>True) λi j=>.bl (decide (j<=i))
theorem G9:OpR X (Dj .FloorDiv) (rD X.K IF):=Rw (λ_ _ _ _=>.int _) ZD
theorem Ix:OpR X (Dj .Mod) (rD X.K Mf):=Rw (λ_ _ _ _=>.int _) bh
theorem TU:OpR X (A8 .Lt) (rD X.K ltD):=LW (λ_ _ _ _=>.bl _) d9
theorem N9:OpR X (A8 .LtE) (rD X.K leD):=LW (λ_ _ _ _=>.bl _) eC
theorem eJ:OpR X (A8 .Gt) (rD X.K gtD):=LW (λ_ _ _ _=>.bl _) eD
theorem eK:OpR X (A8 .GtE) (rD X.K geD):=LW (λ_ _ _ _=>.bl _) eE
def X1:D->D->Sto->Res D
 | .int i,.int j,S=>.ok (.int (i+j)) S
 | .tup xs,.tup ys,S=>if xs.length+ys.length<=sizeLine then .ok (.tup (xs++ys)) S else .bad
 | .ref l,.ref b,S=>match S[l]?,S[b]? with
  | some (.lst xs),some (.lst ys)=>if xs.length+ys.length<=sizeLine then .ok (.ref S.length) (S++[.lst (xs++ys)]) else .bad
  | _,_=>.bad
 | _,_,_=>.bad
def dv (K:AA):R2:=λx y H Q=>∃a b xs ys,x=.ref a/\y=.ref b/\H a=some (.tup xs)/\H b=some (.tup ys)/\xs.length+ys.length<=sizeLine /\
 (xs=[]->Q (.ref b) H)/\(ys=[]->Q (.ref a) H)/\(∀p,H p=none->Q (.ref p) (upd H p (.tup (xs++ys))))
theorem ZF:OpR X (Dj .Add) (dv X.K):=by
 intro pins s σ H x y v u Q I rx ry h;obtain ⟨a,b,xs,ys,rfl,rfl,ha,hb,hz,q0,q1,q2⟩:=h;cases rx;cases ry;obtain ⟨its,r1,p1,_⟩:=I.tuple (a:=a) (xs:=xs) (.inl (.inl ha));obtain ⟨its2,r2,p2,_⟩:=I.tuple (a:=b) (xs:=ys) (.inl (.inl hb))
 by_cases hx:xs=[]
 ·obtain ⟨⟨cls,dd,data,sl⟩,ho,hc,n,hd⟩:=id p1
  obtain ⟨⟨cls2,dd2,data2,sl2⟩,ho2,hc2,n2,hd2⟩:=id p2;simp only at hc hd hc2 hd2;subst hc hd hc2 hd2;have hi:its=[]:=r1.nil_iff.mpr hx
  exact Vp ⟨_,ho,rfl⟩ ⟨_,ho2,rfl⟩ OZ UE Gy GN (Ft _ _)
   (tuple_addW0 a b its.toArray its2.toArray n n2 dd dd2 sl sl2 (by simp [hi])) ⟨ho,ho2,⟨.ref b,H,I,rfl,q0 hx⟩⟩
 ·exact ZE pins s σ H (.ref a) (.ref b) _ _ Q I rfl rfl ⟨a,b,xs,ys,rfl,rfl,.inl (.inl ha),.inl (.inl hb),hx,hz,q1,λ_ p hp=>q2 p hp⟩
theorem Aj.nil_of {K:AA} {ρ:List AE} {H:Hp} {xs:List D} {vs:List V} (r:Aj K ρ H xs vs) (e:vs=[]):xs=[]:=by
 subst e;cases r;rfl
theorem bv:OpR X (Dj .Add) (rD X.K X1):=(bo.or (ZF.or bn)).imp λx y H Q ⟨ρ,S,a,b,d,S',hs,ra,rb,hm,k⟩=>by
 cases ra with
 | int i=>
  cases rb <;> first | (cases hm;done) | skip
  cases hm;exact .inl ⟨_,_,rfl,rfl,k ρ H _ .refl hs (.int _)⟩
 | @tup xs a1 vs h1 h2=>
  cases rb with
  | @tup ys b1 ws h3 h4=>
   unfold X1 at hm;dsimp only at hm;split at hm
   ·rename_i hz
    cases hm;refine .inr (.inl ⟨_,_,_,_,rfl,rfl,h1,h3,by rw [<-h2.length,<-h4.length];exact hz,λe=>?_,λe=>?_,λp hp=>?_⟩)
    ·rw [h2.nil_of e,List.nil_append] at k
     exact k ρ H _ .refl hs (.tup h3 h4)
    ·rw [h4.nil_of e,Bd] at k
     exact k ρ H _ .refl hs (.tup h1 h2)
    ·obtain ⟨s2,l2⟩:=Fh (ho:=.tup (vs++ws)) hs hp
     exact k ρ _ _ l2 s2 (.tup BU ((h2.append h4).mono l2))
   ·cases hm
  | _=>cases hm
 | @ref n a1 hn=>
  cases rb with
  | @ref m b1 hn'=>
   unfold X1 at hm;dsimp only at hm;split at hm
   ·rename_i xs ys h1 h2
    split at hm
    ·rename_i hz
     cases hm;obtain ⟨vs,e1,r1⟩:=hs.ob _ _ _ h1 hn;obtain ⟨us,e2,r2⟩:=hs.ob _ _ _ h2 hn';refine .inr (.inr ⟨_,_,_,_,rfl,rfl,e1,e2,by rw [<-r1.length,<-r2.length];exact hz,λp hp=>?_⟩);have le:Le X.K ρ H (ρ++[p]) (upd H p (.lst (vs++us))):=Le.alloc hp;obtain ⟨s2,l2,at2⟩:=hs.alloc (ho:=.lst (vs++us)) (o:=.lst (xs++ys)) hp ⟨_,BU,(r1.append r2).mono le⟩;exact k _ _ _ l2 s2 (.ref at2)
    ·cases hm
   ·cases hm
  | _=>cases hm
 | _=>cases hm
def ixD:D->D->Sto->Res D:=λa b S=>match Ga a S,b with
 | some ds,.int i=>match atI ds i with
  | some d=>.ok d S
  | none=>.bad
 | _,_=>.bad
theorem Zo {K:AA} {ρ:List AE} {H:Hp} {ds:List D} {vs:List V} {i:Int} {d:D} (r:Aj K ρ H ds vs) (h:atI ds i=some d):∃v,atI vs i=some v/\BM K ρ H d v:=by
 unfold atI at h ⊢;rw [<-r.length]
 cases hq:ixN ds.length i with
 | none=>rw [hq] at h;cases h
 | some j=>
  rw [hq] at h;exact r.get h
theorem eG:IxR X (rD X.K ixD):=(ix_list.or cF).imp λx y H Q ⟨ρ,S,a,b,d,S',hs,ra,rb,hm,k⟩=>by
 unfold ixD at hm;split at hm
 ·rename_i ds i hq
  split at hm
  ·rename_i d' hd
   cases hm;cases rb;obtain ⟨p,xs,rfl,rr,sq⟩:=LV hs ra hq;obtain ⟨v,h1,h2⟩:=Zo rr hd
   rcases sq with sq | sq
   ·exact .inl ⟨p,xs,_,v,rfl,rfl,sq,h1,k ρ H v .refl hs h2⟩
   ·exact .inr ⟨p,xs,_,v,rfl,rfl,sq,h1,k ρ H v .refl hs h2⟩
  ·cases hm
 ·cases hm
def XT (neg:Bool) (x y:D) (S:Sto):Res D:=match y with
 | .non=>match x with
  | .non=>.ok (.bl (!neg)) S
  | _=>.ok (.bl neg) S
 | _=>.bad
theorem Ww:OpR X (A8 .Is) (rD X.K (XT false)):=bj.imp λx y H Q ⟨ρ,S,a,b,d,S',hs,ra,rb,hm,k⟩=>by
 cases rb <;> first | (cases hm;done) | skip
 refine ⟨rfl,?_⟩
 cases ra <;> (cases hm;exact k ρ H _ .refl hs (.bl _))
end
def mQ (f:List D->Sto->Res D) (m:ML):ME:=λe S=>(m e S).bind λds S1=>okR (f ds S1)
section
variable {X:Cx} {E:EW} {e:Expr} {es:List Expr} {x:Str} {p pos:Pos} {ml:ML} {id T:String} {r:List V->Hp->VK->Prop} {f:List D->Sto->Res D}
def Zv (K:AA) (r:List V->Hp->VK->Prop) (f:List D->Sto->Res D):Prop:=∀ρ H S ds q xs d S' (Q:VK),BW K ρ S H->Aj K ρ H ds xs->(SqL K H q xs∨SqT K H q xs)->f ds S=.ok d S' ->
 (∀ρ' H' z,Le K ρ H ρ' H'->BW K ρ' S' H'->BM K ρ' H' d z->Q z H')->r [.ref q] H Q
def cp (K:AA) (r:List V->Hp->VK->Prop) (f:List D->Sto->Res D):Prop:=∀ρ H S ds xs d S' (Q:VK),BW K ρ S H->Aj K ρ H ds xs->f ds S=.ok d S' ->
 (∀ρ' H' z,Le K ρ H ρ' H'->BW K ρ' S' H'->BM K ρ' H' d z->Q z H')->r xs H Q
theorem Lc (hc:Ej X (.builtin id) r) (hf:Zv X.K r f) (hg:Gl X x) (hm:X.mg x=none) (hv:Dy x=some (.builtin id)) (h:GQ X E e ml) (hn:x≠"__name__":=by decide) (hdb:(x==("__debug__" : Str))=false:=by decide)
  (he:AN [e] X.env=(false,Ba e X.env) :: AN [] X.env:=by rfl):GE X E (.Call (.Name x p) [e] [] pos) (mQ f ml):=(Gg hc hg hm hv (CV h D4 he) hn hdb he rfl).imp λσ H Q ⟨ρ,l,S,hl,hs,hm⟩=>by
 refine ⟨ρ,l,S,hl,hs,hm.seq λds S1 hm ρ1 H1 q xs l1 s1 r1 sq=>?_⟩;obtain ⟨d,S',e,k⟩:=hm.okR
 exact hf ρ1 H1 S1 ds q xs d S' Q s1 r1 sq e λρ' H' z l' s' r'=>k ρ' H' z (l1.trans l') s' r'
theorem Tn (hc:Ej X (.builtin id) r) (hf:cp X.K r f) (hg:Gl X x) (hm:X.mg x=none) (hv:Dy x=some (.builtin id)) (h:GA X E (e :: es) ml) (hn:x≠"__name__":=by decide) (hdb:(x==("__debug__" : Str))=false:=by decide)
  (he:AN (e :: es) X.env=(false,Ba e X.env) :: AN es X.env:=by rfl) (hpl:(Bi pos (AN es X.env)).any (·.1)=false:=by rfl):GE X E (.Call (.Name x p) (e :: es) [] pos) (mQ f ml):=(Gg hc hg hm hv h hn hdb he hpl).imp λσ H Q ⟨ρ,l,S,hl,hs,hm⟩=>by
 refine ⟨ρ,l,S,hl,hs,hm.seq λds S1 hm ρ1 H1 xs l1 s1 r1=>?_⟩;obtain ⟨d,S',e,k⟩:=hm.okR
 exact hf ρ1 H1 S1 ds xs d S' Q s1 r1 e λρ' H' z l' s' r'=>k ρ' H' z (l1.trans l') s' r'
def eY (ds:List D) (S:Sto):Res D:=.ok (.int ds.length) S
theorem bE:Zv X.K (λxs H Q=>∃p ys,xs=[.ref p]/\(SqL X.K H p ys∨SqT X.K H p ys)/\Q (.int ys.length) H) eY:=λρ H S ds q xs d S' Q hs rr sq hm k=>by
 cases hm;exact ⟨q,xs,rfl,sq,k ρ H _ .refl hs (by rw [rr.length];exact .int _)⟩
def OC:List D->Sto->Res D
 | [.int i,.int j],S=>.ok (.int (if j < i then j else i)) S
 | _,_=>.bad
def OD:List D->Sto->Res D
 | [.int i,.int j],S=>.ok (.int (if j > i then j else i)) S
 | _,_=>.bad
theorem Zt:cp X.K (λxs H Q=>∃i j,xs=[.int i,.int j]/\Q (.int (if j < i then j else i)) H) OC:=λρ H S ds xs d S' Q hs rr hm k=>by
 unfold OC at hm;split at hm
 ·cases hm
  cases rr with
  | cons a t=>
   cases t with
   | cons b t=>
    cases t;cases a;cases b;exact ⟨_,_,rfl,k ρ H _ .refl hs (.int _)⟩
 ·cases hm
theorem Zu:cp X.K (λxs H Q=>∃i j,xs=[.int i,.int j]/\Q (.int (if j > i then j else i)) H) OD:=λρ H S ds xs d S' Q hs rr hm k=>by
 unfold OD at hm;split at hm
 ·cases hm
  cases rr with
  | cons a t=>
   cases t with
   | cons b t=>
    cases t;cases a;cases b;exact ⟨_,_,rfl,k ρ H _ .refl hs (.int _)⟩
 ·cases hm
end
def CT (X:Cx) (scope:Fb) (N':List Str) (cl:List (Str×AE)) (C:AE) (s₁:AD) (H₁:Hp) (ex:List AE) (pn:List (AE×Obj)):Cx where
 prog:=X.prog
 w:=X.w
 K:=X.K
 mg:=X.mg
 base:=X.base
 A:=X.A
 N:=N'
 s₀:=s₁
 H₀:=H₁
 env:=compEnvC scope cl C X.env
 outer:=X.stack
 stack:=X.stack
 ex:=ex
 fn:=λ_=>false
 calm:=X.calm
 pn:=pn
 xe:=λ_ _=>False
theorem Pd {env:Env}:∀(names:List (Str×NJ)) (acc:List (Str×AE)),(∀y∈names,y.2=.free->∃c,env.cells.lookup y.1=some c)->(∀n c,acc.lookup n=some c->env.cells.lookup n=some c) ->
  ∃cl,(forIn names acc (λ(x:Str×NJ) (cs:List (Str×AE))=>match x with | (name,kind)=>if (kind==Fc)=true then do let a <-cellOf env name;pure (Eh ((name,a) :: cs)) else pure (Eh cs)):Sem (List (Str×AE)))=pure cl /\
   (∀n c,cl.lookup n=some c->env.cells.lookup n=some c)/\(∀n c,acc.lookup n=some c->∃c',cl.lookup n=some c')/\∀y∈names,y.2=.free->∃c,cl.lookup y.1=some c
 | [],acc,_,ha=>⟨acc,rfl,ha,λn c h=>⟨c,h⟩,λ_ h=>nomatch h⟩
 | (n,k) :: r,acc,h,ha=>by
  rw [YL]
  by_cases hk:k=.free
  ·subst hk
   obtain ⟨c,hc⟩:=h (n,.free) Ae rfl
   obtain ⟨cl,e,h1,h2,h3⟩:=Pd r ((n,c) :: acc) (λy hy=>h y (AV _ hy)) (λm d hm=>by
    rw [Bq] at hm
    cases hq:(m==n) with
    | true=>rw [hq] at hm;cases hm;rw [eq_of_beq hq];exact hc
    | false=>rw [hq] at hm;exact ha m d hm)
   have e0:cellOf env n=pure c:=by unfold cellOf;rw [hc]
   refine ⟨cl,?_,h1,λm d hm=>h2 m (if m==n then c else d) ?_,λy hy hf=>?_⟩
   ·simp only [beq_self_eq_true,if_true,e0,pure_bind]
    exact e
   ·rw [Bq]
    cases hq:(m==n) with
    | true=>rfl
    | false=>exact hm
   ·rcases Aw.mp hy with rfl | hy
    ·exact h2 n c (by rw [Bq,beq_self_eq_true])
    ·exact h3 y hy hf
  ·have hb:(k==Fc)=false:=by simpa using hk
   obtain ⟨cl,e,h1,h2,h3⟩:=Pd r acc (λy hy=>h y (AV _ hy)) ha;refine ⟨cl,?_,h1,h2,λy hy hf=>?_⟩
   ·simp only [hb,A1,if_false,pure_bind]
    exact e
   ·rcases Aw.mp hy with rfl | hy
    ·exact (hk hf).elim
    ·exact h3 y hy hf
theorem T1 {scope:Fb} {env:Env} (h:∀y∈scope.names,y.2=.free->∃c,env.cells.lookup y.1=some c):∃cl,closureFor scope env=pure cl /\
  (∀n c,cl.lookup n=some c->env.cells.lookup n=some c)/\∀y∈scope.names,y.2=.free->∃c,cl.lookup y.1=some c:=by
 obtain ⟨cl,e,h1,_,h3⟩:=Pd scope.names [] h (λn c z=>by simp at z);refine ⟨cl,?_,h1,h3⟩;unfold closureFor;exact (congrArg (λz=>z >>= λcs=>pure cs) e).trans (by rw [pure_bind])
def VZ (X:Cx) (ifs:List Expr) (t:TT):Prop:=
 ∀(pins:List (AE×Obj)) (s:AD) (σ:St) (H:Hp) (Q:Bool->Hp->Prop),Inv X pins σ H s->t σ H Q ->
  Ab (AR X.prog X.w) X.A (forIn ifs true λc r=>if r=true then do let ok <-aK c X.env (Ba c X.env);pure (Eh ok) else pure (Eh r)) (TP X pins σ Q) X.xe s
theorem Wl {X:Cx}:VZ X [] (λ_ H Q=>Q true H):=λpins s σ H Q I h=>wpAny_tests_nil ⟨H,I,h⟩
structure JH (X:Cx) (scope:Fb) (own N':List Str):Prop where
 kind:scope.kind=.function
 nocell:∀y∈scope.names,y.2≠.cell
 names:∀y∈scope.names,y.2=.local->scope.names.lookup y.1=some .local
 free:∀y∈scope.names,y.2=.free->X.env.kindOf y.1=some .cell∨X.env.kindOf y.1=some .free
 len:N'.length=own.length+X.N.length
 up:∀i x,N'[own.length+i]?=some x->Vis (GK scope X.env) x->X.N[i]?=some x/\Vis X.env.scope x/\((GK scope X.env).names.lookup x=some .cell∨(GK scope X.env).names.lookup x=some .free)/\X.env.kindOf x≠some .local
 vis:∀x,((GK scope X.env).names.lookup x=some .cell∨(GK scope X.env).names.lookup x=some .free)->(x,Fc)∈scope.names
section
variable {X:Cx} {pins:List (AE×Obj)} {σ:St} {H2:Hp} {s2:AD} {scope:Fb} {own N':List Str} {cl:List (Str×AE)} {fp:List AE} {C:AE} {s:AD} {H:Hp}
theorem SN (Sc:JH X scope own N') (I:Inv X pins σ H2 s2) (hf:∀b∈fp,J6 X pins H2 b) (hfl:∀b∈fp,b < s2.heap.objs.size)
  (c1:∀n c,cl.lookup n=some c->X.env.cells.lookup n=some c) (c2:∀y∈scope.names,y.2=.free->∃c,cl.lookup y.1=some c)
  (hC:s2.heap.objs.size<=C) {m:Str->Option AB} (hn:s.heap.Ns C m) (hos:s.os=s2.os) (hg:FW s.gens)
  (u:Un (frs X.stack) fp H2 H s2.heap s.heap) (hok:HOk X.prog X.w H s.heap) (hHC:H C=none) :
  Inv (CT X scope N' cl C s2 H2 fp (X.pn++pins)) [] (A4 own.length none++σ) H s:=by
 have cellK:∀x c v,cl.lookup x=some c->s2.heap.IsCell c v->s.heap.IsCell c v:=λx c v e ⟨o,ho,hd⟩=>by
  obtain ⟨sl,q⟩:=u.any ho (I.freeC x c (c1 x c e)) λz=>(hf c z).2.2.2.2.1 x c (c1 x c e) rfl
  exact ⟨_,q,hd⟩
 have ok':(CT X scope N' cl C s2 H2 fp (X.pn++pins)).Ok:=by
  refine ⟨I.ok.mod,Sc.kind,I.ok.glob,I.ok.blt,hC,λx y c h1 h2=>I.ok.inj x y c (c1 x c h1) (c1 y c h2),λx hx=>?_,λx c z=>?_,I.ok.hd,I.ok.frames,.inl rfl,λb hb=>?_,I.bs,Aq I.ok.bsz I.sz,λb o e hb=>?_,λb hb hb'=>?_,I.stack,I.stkFree⟩
  ·obtain ⟨c,hc⟩:=c2 _ (Sc.vis x hx) rfl
   exact ⟨c,hc⟩
  ·exact zX (show false=true from z) AW
  ·exact ⟨Ag (AX (hfl b hb) hC),λx c e=>(hf b hb).2.2.2.2.1 x c (c1 x c e)⟩
  ·obtain ⟨_,_,_,z,_⟩:=hf b hb
   rcases z with z | z
   ·exact I.ok.noex b o e z
   ·exact zX (AX (AT (I.ok.bs b o e).1) z) (CY _)
  ·obtain ⟨_,z1,z2,_⟩:=hf b hb
   rcases Aw.mp (I.stkSub b hb') with e | e
   ·exact z1 e
   ·exact z2 e
 refine ⟨ok',hos,hg,u,⟨m,hn,λi x v e1 e2 e3=>?_⟩,λx c e=>?_,hHC,λx c e=>?_,λp hp=>?_,hok,?_⟩
 ·have hi:own.length<=i:=by
   apply Ls
   intro hlt;rw [Ad (by simpa using hlt),B0,qX hlt] at e2;cases e2
  obtain ⟨j,rfl⟩:∃j,i=own.length+j:=⟨i - own.length,by lia⟩
  rw [A5 (by simp)] at e2
  have e2':σ[j]?=some (some v):=by simpa using e2
  obtain ⟨n1,n2,n3,n4⟩:=Sc.up j x e1 e3;obtain ⟨m0,hn0,hl⟩:=I.loc;obtain ⟨w',r,lk⟩:=hl j x v n1 e2' n2;refine ⟨w',r,.inr ⟨n3,?_⟩⟩
  rcases lk with ⟨k,_⟩ | ⟨_,c,hc,hcell⟩
  ·exact (n4 k).elim
  ·obtain ⟨c',hc'⟩:=c2 _ (Sc.vis x n3) rfl
   have e:=c1 x c' hc';rw [hc] at e;cases e;exact ⟨c,hc',cellK x c _ hc' hcell⟩
 ·obtain ⟨v,z⟩:=I.cell x c (c1 x c e)
  exact ⟨v,cellK x c v e z⟩
 ·obtain ⟨v,o,ho,hd⟩:=I.cell x c (c1 x c e)
  exact u.free c o ho (I.freeC x c (c1 x c e)) λz=>(hf c z).2.2.2.2.1 x c (c1 x c e) rfl
 ·have hp':p∈X.pn++pins:=by
   have hp:p∈(X.pn++pins)++[]:=hp;rwa [Bd] at hp
  obtain ⟨e,n,ne,nf,d⟩:=I.pin p hp'
  have nfs:p.1∉frs X.stack:=λz=>(Aw.mp (I.stkSub _ z)).elim ne nf
  have nfp:p.1∉fp:=λz=>(hf _ z).2.2.2.2.2 p hp' rfl
  exact ⟨u.keep p.1 p.2 e n nfs nfp,u.free p.1 p.2 e n nfp,Ag (AX (AT e) hC),nfs,d⟩
 ·show (A4 own.length none++σ).length=N'.length
  rw [At,IT,I.len,Sc.len]
def WJ (k:Nat) (wi:TI) (g:TG) (tc:TT) (te:TE):TE:=λσ H Q=>wi σ H λJ H1=>∀p,H1 p=none->∃W:Nat->Nat->St->Hp->List V->Prop,(∃m,W 0 m (A4 k none++σ) (upd H1 p (.lst [])) []) /\
 ∀i m σ' H' xs,W i m σ' H' xs->H' p=some (.lst xs)/\((J.stop i H'/\Q (.ref p) H')∨(J.go i H'/\xs.length < sizeLine/\∀x H'',J.yld i H' x H''->g x σ' H'' λσ2 H2=>tc σ2 H2 λb H3=>
  if b=true then te σ2 H3 λy H4=>H4 p=some (.lst xs)/\∃m',m' < m/\W (i+1) m' σ2 (upd H4 p (.lst (xs++[y]))) (xs++[y]) else ∃m',m' < m/\W (i+1) m' σ2 H3 xs))
theorem VM {X':Cx} {elt target iter:Expr} {ifs:List Expr} {pos:Pos} {J:It} {it p:AE} {tn:Nat->BG->Prop} {g:TG} {tc:TT} {te:TE} {R:aP->AD->Prop} {Q:Hp->Prop}
  (hc:X'.calm=true) (hx:X'.xe=λ_ _=>False) (T:Q0 X'.prog X'.w X'.K target J fp it tn) (hg:PG X' target g) (hif:VZ X' ifs tc) (he:PE X' elt te)
  (W:Nat->Nat->St->Hp->List V->Prop) (turn:∀i m σ' H' xs,W i m σ' H' xs->H' p=some (.lst xs)/\((J.stop i H'/\Q H')∨(J.go i H'/\xs.length < sizeLine/\∀x H'',J.yld i H' x H''->g x σ' H'' λσ2 H2=>tc σ2 H2 λb H3=>
   if b=true then te σ2 H3 λy H4=>H4 p=some (.lst xs)/\∃m',m' < m/\W (i+1) m' σ2 (upd H4 p (.lst (xs++[y]))) (xs++[y]) else ∃m',m' < m/\W (i+1) m' σ2 H3 xs)))
  (fin:∀σ' H' s',Inv X' [] σ' H' s'->Q H'->R (.ok .next) s')
  {m0:Nat} {σ0:St} {H0:Hp} {s0:AD} (I0:Inv X' [] σ0 H0 s0) (st0:tn 0 s0.heap) (f0:∀b∈fp,J6 X' [] H0 b) (w0:W 0 m0 σ0 H0 []) :
  Ir (AR X'.prog X'.w) X'.A (.compLoop (.ListComp elt [⟨target,iter,ifs,0⟩] scope pos) 0 (.ref it) (.ref p) X'.env) R s0:=by
 have stat:∀ {H':Hp},(∀b∈fp,H' b=none)->∀b∈fp,J6 X' [] H' b:=λhn b hb=>⟨hn b hb,(f0 b hb).2⟩
 refine codeAny_loop rfl (λn s'=>∃i σ' H' xs,Inv X' [] σ' H' s'/\tn i s'.heap/\(∀b∈fp,H' b=none)/\W i n σ' H' xs) (λn s1 hI=>?_) m0 ⟨0,σ0,H0,[],I0,st0,λb hb=>(f0 b hb).1,w0⟩;obtain ⟨i,σ1,H1,xs,I1,st1,fr1,w1⟩:=hI;show Ab _ X'.A ((compTurn (.ListComp elt [⟨target,iter,ifs,0⟩] scope pos) 0 (.ref it) (.ref p) X'.env).onRaise (λx=>do Vc x X'.env;theTreesLotGoes x)) _ _ s1;refine wpAny_noted ?_;rw [compTurn_list]
 have up:∀ {α:Type} {t:Sem α} {P:α->AD->Prop} {E:AB->AD->Prop} {s:AD},Ab (AR X'.prog X'.w) X'.A t P X'.xe s->Ab (AR X'.prog X'.w) X'.A t P E s:=λh=>Cm h (λ_ _ z=>z) λ_ _ z=>by rw [hx] at z;exact z.elim
 obtain ⟨hp,hcase⟩:=turn i n σ1 H1 xs w1;refine AC (UB (AC ?_))
 rcases hcase with ⟨stop,q⟩ | ⟨go,hz,step⟩
 ·refine up (thn (T.done X' rfl rfl rfl hc i [] s1 σ1 H1 X'.xe I1 (stat fr1) st1 stop) λr s4 ⟨hr,I4⟩=>?_)
  subst hr;exact AH (fin σ1 H1 s4 I4 q)
 ·refine up (thn (T.item X' rfl rfl rfl hc i [] s1 σ1 H1 X'.xe I1 (stat fr1) st1 go) λr s4 ⟨u,hr,h4⟩=>?_)
  subst hr;refine AC (up (thn h4 λ_ s5 ⟨x,H5,I5,r5,y5,st5,fr5⟩=>?_));have I5':=I5.pinned (stat fr5) (T.obj _ _ st5);refine AC (up (thn (hg _ s5 σ1 H5 x u _ I5' r5 (step x H5 y5)) λ_ s6 ⟨σ6,H6,I6,q6⟩=>?_))
  have cy:∀ {s7:AD} {σ7:St} {H7:Hp} {ys:List V},Inv X' ([]++MZ fp s5.heap) σ7 H7 s7->(∃m',m' < n/\W (i+1) m' σ7 H7 ys)->∃m,m < n/\∃i σ' H' xs,Inv X' [] σ' H' s7/\tn i s7.heap/\(∀b∈fp,H' b=none)/\W i m σ' H' xs:=λ{s7 σ7 H7 ys} I7 ⟨m',hm,w7⟩=>by
   refine ⟨m',hm,i+1,σ7,H7,ys,I7.unpinned,T.keep _ _ _ st5 λb hb o e=>(I7.pin (b,o) (A6 _ (A6 _ (HB hb e)))).1,λb hb=>?_,w7⟩;obtain ⟨o,e,d⟩:=T.obj _ _ st5 b hb;exact (I7.pin (b,o) (A6 _ (A6 _ (HB hb e)))).2.1
  refine AC (up (thn (hif _ s6 σ6 H6 _ I6 q6) λok s7 ⟨H7,I7,q7⟩=>?_))
  cases ok with
  | false=>
   rw [qY AW] at q7;exact AH ⟨rfl,cy I7 q7⟩
  | true=>
   rw [qX rfl] at q7;refine AC (AC (up (thn (he _ s7 σ6 H7 _ I7 q7) λyv s8 ⟨y,H8,I8,r8,hp8,q8⟩=>?_)));refine AC (up (thn (OB (X:=X') _ s8 σ6 H8 (.ref p) [y] (.ref p) [yv] (λv H9=>v=.non/\H9=upd H8 p (.lst (xs++[y]))) I8 rfl (.cons r8 .nil) ⟨p,xs,y,rfl,rfl,hp8,hz,rfl,rfl⟩) λv9 s9 ⟨v,H9,I9,r9,e9,e10⟩=>?_));subst e10;exact AH (AH ⟨rfl,cy I9 q8⟩)
end
section
variable {X:Cx} {pins:List (AE×Obj)} {σ:St} {H2:Hp} {s2:AD} {scope:Fb} {own N':List Str} {cl:List (Str×AE)} {fp:List AE} {C:AE}
theorem OP {σ':St} {H':Hp} {s':AD} {h':BG} (I2:Inv X pins σ H2 s2) (J:Inv (CT X scope N' cl C s2 H2 fp (X.pn++pins)) [] σ' H' s') (hC:s2.heap.objs.size<=C) (hf:∀b∈fp,J6 X pins H2 b)
  (sb:Da C s'.heap h'):Inv X pins σ H' { s' with heap:=h' }:=by
 have ne:∀b o,s2.heap.get? b=some o->b≠C:=λb o e=>Ag (AX (AT e) hC)
 have jb:Un (frs X.stack) fp H2 H' s2.heap s'.heap:=J.base
 have u:Un (frs X.stack) fp H2 H' s2.heap h':=by
  refine ⟨λb o e n hb hx=>(sb.2 b (ne b o e)).trans (jb.keep b o e n hb hx),λb o e n hb hx=>?_,jb.free,λb o e hx=>?_,jb.tups,jb.frzs,jb.tbls⟩
  ·obtain ⟨sl,q⟩:=jb.slot b o e n hb hx
   exact ⟨sl,(sb.2 b (ne b o e)).trans q⟩
  ·obtain ⟨o',q⟩:=jb.there b o e hx
   exact ⟨o',(sb.2 b (ne b o e)).trans q⟩
 have hHC:H' C=none:=J.free
 have hok:HOk X.prog X.w H' h':=λa o e=>(J.hok a o e).stay (λb u hb q=>(sb.2 b λz=>by
  subst z
  rcases hb with z | z
  ·subst z;rw [hHC] at e;cases e
  ·rw [hHC] at z;cases z).trans q) (λ_ q=>q) λ_ _ q=>q
 exact I2.call' (s':={ s' with heap:=h' }) (ch:=fp) J.os u hok J.bare λb hb=>by
  obtain ⟨_,z1,z2,z3,z4,z5⟩:=hf b hb;exact ⟨z3,z1,z4,z5⟩
variable {elt iter target:Expr} {ifs:List Expr} {pos:Pos} {wi:TI} {g:TG} {tc:TT} {te:TE}
theorem M6 {σ:St} {E:AB->AD->Prop} {Qf:AE->Hp->Prop} {RR:AB->AE->aP->AD->Prop} {it:AE} {J:It} {tn:Nat->BG->Prop} (hc:X.calm=true) (Sc:JH X scope own N')
  (hg:∀cl C s₁ H₁ ex pn,PG (CT X scope N' cl C s₁ H₁ ex pn) target g) (hif:∀cl C s₁ H₁ ex pn,VZ (CT X scope N' cl C s₁ H₁ ex pn) ifs tc) (he:∀cl C s₁ H₁ ex pn,PE (CT X scope N' cl C s₁ H₁ ex pn) elt te)
  (c1:∀n c,cl.lookup n=some c->X.env.cells.lookup n=some c) (c2:∀y∈scope.names,y.2=.free->∃c,cl.lookup y.1=some c)
  (I2:Inv X pins σ H2 s2) (T:Q0 X.prog X.w X.K target J fp it tn) (st2:tn 0 s2.heap) (f2:∀b∈fp,J6 X pins H2 b)
  (q2:∀p,H2 p=none->∃W:Nat->Nat->St->Hp->List V->Prop,(∃m,W 0 m (A4 own.length none++σ) (upd H2 p (.lst [])) []) /\
   ∀i m σ' H' xs,W i m σ' H' xs->H' p=some (.lst xs)/\((J.stop i H'/\Qf p H')∨(J.go i H'/\xs.length < sizeLine/\∀x H'',J.yld i H' x H''->g x σ' H'' λσ2 H2=>tc σ2 H2 λb H3=>
    if b=true then te σ2 H3 λy H4=>H4 p=some (.lst xs)/\∃m',m' < m/\W (i+1) m' σ2 (upd H4 p (.lst (xs++[y]))) (xs++[y]) else ∃m',m' < m/\W (i+1) m' σ2 H3 xs)))
  (hRR:∀D C σ' H' s',s2.heap.objs.size<=C->Inv (CT X scope N' cl C s2 H2 fp (X.pn++pins)) [] σ' H' s'->Qf D H'->RR (.ref D) C (.ok .next) s') :
  Ab (AR X.prog X.w) X.A (newList []) (λacc s₃=>Ab (AR X.prog X.w) X.A (newFunctionEnv scope X.env.globals cl [] X.env.qual none .none (some X.env)) (λcenv s₄=>
   Ir (AR X.prog X.w) X.A (.compStart (.ListComp elt [⟨target,iter,ifs,0⟩] scope pos) 0 (.ref it) acc { cenv with scope:=GK scope X.env }) (RR acc cenv.locals) s₄) E s₃) E s2:=by
 have hfl:∀b∈fp,b < s2.heap.objs.size:=λb hb=>by
  obtain ⟨o,e,_⟩:=T.obj _ _ st2 b hb;exact AT e
 refine Bk (wpAny_newFunctionEnv Sc.nocell (by intro y hy;simp at hy) (λh₁ hns₁ hsb₁=>?_) Sc.kind);dsimp only at hns₁ hsb₁ ⊢;generalize hH3:s2.heap.push { cls:=.type "list",dict:=none,data:=.seq ([]:List AB).toArray }=H3 at hns₁ hsb₁ ⊢
 have hC:H3.objs.size=s2.heap.objs.size+1:=by rw [<-hH3,EI]
 have hDC:s2.heap.objs.size≠H3.objs.size:=by rw [hC];exact Ag (Co _)
 have hCle:s2.heap.objs.size<=H3.objs.size:=by rw [hC];exact ND _
 have old:∀b o,s2.heap.get? b=some o->h₁.get? b=some o:=λb o e=>hsb₁.extBut b o (Ag (by rw [hC];exact Gr (AT e))) (AF _ (hH3▸AF _ e))
 have hacc:h₁.get? s2.heap.objs.size=some { cls:=.type "list",dict:=none,data:=.seq ([]:List AB).toArray }:=hsb₁.extBut _ _ hDC (AF _ (hH3▸AU _ rfl));have hD:H2 s2.heap.objs.size=none:=I2.hok.fresh (AS _);have u:Un (frs X.stack) fp H2 (upd H2 s2.heap.objs.size (.lst [])) s2.heap h₁:=Un.laid old (AS _) hD;have hok:HOk X.prog X.w (upd H2 s2.heap.objs.size (.lst [])) h₁:=I2.hok.laid old (AS _) ⟨DV _,[],0,.nil,hacc⟩
 have hHC:upd H2 s2.heap.objs.size (.lst []) H3.objs.size=none:=by rw [BI (Bp hDC)];exact I2.hok.fresh hCle
 obtain ⟨W,⟨m0,w0⟩,turn⟩:=q2 s2.heap.objs.size hD
 have loop:∀s₃:AD,s₃={ s2 with heap:=h₁,toks:=s2.toks+([]:List (Str×AB)).length } ->
   Ir (AR X.prog X.w) X.A (.compLoop (.ListComp elt [⟨target,iter,ifs,0⟩] scope pos) 0 (.ref it) (.ref s2.heap.objs.size) (compEnvC scope cl H3.objs.size X.env))
    (RR (.ref s2.heap.objs.size) H3.objs.size) s₃:=by
  rintro s₃ rfl
  have J0:Inv (CT X scope N' cl H3.objs.size s2 H2 fp (X.pn++pins)) [] (A4 own.length none++σ) (upd H2 s2.heap.objs.size (.lst [])) { s2 with heap:=h₁,toks:=s2.toks+([]:List (Str×AB)).length }:=
   SN (s:={ s2 with heap:=h₁,toks:=s2.toks+([]:List (Str×AB)).length }) Sc I2 f2 hfl c1 c2 hCle hns₁ rfl I2.bare u hok hHC
  refine VM (X':=CT X scope N' cl H3.objs.size s2 H2 fp (X.pn++pins)) (fp:=fp) (Q:=Qf s2.heap.objs.size) hc rfl T (hg _ _ _ _ _ _) (hif _ _ _ _ _ _) (he _ _ _ _ _ _) W turn (λσ' H' s' J q=>hRR _ _ σ' H' s' hCle J q) J0 (T.keep _ _ _ st2 λb _ o e=>old b o e) (λb hb=>?_) w0;obtain ⟨z0,z1,z2,z3,z4,z5⟩:=f2 b hb;refine ⟨by rw [BI (Ag (hfl b hb))];exact z0,Ag (AX (hfl b hb) hCle),λz=>?_,.inl hb,λx c e=>z4 x c (c1 x c e),λp hp=>?_⟩
  ·exact (Aw.mp (I2.stkSub _ z)).elim z1 z2
  ·have hp:p∈(X.pn++pins)++[]:=hp
   rw [Bd] at hp;exact z5 p hp
 exact codeAny_compStart_list (loop _ rfl) (T.self X.A 0 _ _ _ (T.keep _ _ _ st2 λb _ o e=>old b o e) (loop _ rfl))
theorem Y7 (hc:X.calm=true) (Sc:JH X scope own N') (hi:PI X target iter wi)
  (hg:∀cl C s₁ H₁ ex pn,PG (CT X scope N' cl C s₁ H₁ ex pn) target g) (hif:∀cl C s₁ H₁ ex pn,VZ (CT X scope N' cl C s₁ H₁ ex pn) ifs tc) (he:∀cl C s₁ H₁ ex pn,PE (CT X scope N' cl C s₁ H₁ ex pn) elt te)
  (hs:∀x,DY iter X.env x=pure x:=by intro _;rfl):PE X (.ListComp elt [⟨target,iter,ifs,0⟩] scope pos) (WJ own.length wi g tc te):=by
 intro pins s σ H Q I h;rw [eval_ListComp];obtain ⟨cl,hclos,c1,c2⟩:=T1 (scope:=scope) (env:=X.env) (λy hy hf=>I.ok.has y.1 (Sc.free y hy hf));refine UC (use:=none) rfl hs hclos Sc.kind Sc.names (thn (hi pins s σ H _ I h) λv s1 h1=>thn h1 λitv s2 h2=>?_);obtain ⟨it,fp,tn,J,H2,rfl,I2,T,st2,f2,q2⟩:=h2
 refine M6 (Qf:=λp H'=>Q (.ref p) H') (RR:=λacc C=>compPost (AR X.prog X.w) X.A X.xe none (EP X pins σ Q) acc C) hc Sc hg hif he c1 c2 I2 T st2 f2 q2 λD C σ' H' s' hC J q=>?_
 obtain ⟨m,hn,_⟩:=J.loc;exact ⟨m,hn,λh' sb=>⟨.ref D,H',OP I2 J hC f2 sb,rfl,q⟩⟩
theorem Yy {i:Nat} {y:Str} {py spos:Pos} (hc:X.calm=true) (hsw:Dx (.ListComp elt [⟨target,iter,ifs,0⟩] scope pos) (some (.Name y py)) spos.line X.env=pure true)
  (hN:X.N.Nodup) (hy:X.N[i]?=some y) (hloc:Loc X.env.scope y) (Sc:JH X scope own N') (hi:PI X target iter wi)
  (hg:∀cl C s₁ H₁ ex pn,PG (CT X scope N' cl C s₁ H₁ ex pn) target g) (hif:∀cl C s₁ H₁ ex pn,VZ (CT X scope N' cl C s₁ H₁ ex pn) ifs tc) (he:∀cl C s₁ H₁ ex pn,PE (CT X scope N' cl C s₁ H₁ ex pn) elt te)
  (hs:∀x,DY iter X.env x=pure x:=by intro _;rfl) (hf:X.fn y=true∨X.env.scope.names.lookup y=some .local:=by first | exact .inl rfl | exact .inr rfl | assumption) :
  PS X (.Assign [.Name y py] (.ListComp elt [⟨target,iter,ifs,0⟩] scope pos) spos) (di (WJ own.length wi g tc te) (Tp i)):=by
 intro pins s σ H D I h;rw [exec_Assign_Name_used _ _ _ _ hsw];refine AC (UB (AC ?_));show Ab _ X.A (do let _ <-comprehension (.ListComp elt [⟨target,iter,ifs,0⟩] scope pos) scope X.env _ (newList []) false (Ba iter X.env) (some (RF (.Name y py) X.env))) _ _ s;obtain ⟨cl,hclos,c1,c2⟩:=T1 (scope:=scope) (env:=X.env) (λy hy hf=>I.ok.has y.1 (Sc.free y hy hf))
 refine AC (Cm (UC (use:=some (RF (.Name y py) X.env)) (Q:=λ_ s'=>SP X pins D .next s') rfl hs hclos Sc.kind Sc.names
  (thn (hi pins s σ H _ I h) λv s1 h1=>thn h1 λitv s2 h2=>?_)) (λ_ s' hq=>AH (AH hq)) λ_ _ e=>e)
 obtain ⟨it,fp,tn,J,H2,rfl,I2,T,st2,f2,q2⟩:=h2
 refine M6 (Qf:=λp H'=>D.nx (σ.set i (some (.ref p))) H') (RR:=λacc C=>compPost (AR X.prog X.w) X.A X.xe (some (RF (.Name y py) X.env)) (λ_ s'=>SP X pins D .next s') acc C) hc Sc hg hif he c1 c2 I2 T st2 f2 q2 λA C σ' H' s' hC J q=>?_
 obtain ⟨m,hn,_⟩:=J.loc;have I3:Inv X pins σ H' s':=OP I2 J hC f2 (fR ..);have hHC:H' C=none:=J.free
 have hcell:∀x c,X.env.cells.lookup x=some c->c≠C:=λx c e z=>by
  obtain ⟨v,q⟩:=I2.cell x c e;exact zX (AX q.lt (by rw [z];exact hC)) (CY _)
 have hloc':C≠X.env.locals:=K9 (AX I2.lt hC);show Ab _ X.A (RF (.Name y py) X.env (.ref A)) _ _ s';refine cr (N0 (v:=.ref A) I3 hN hy hloc rfl (λs4 I4 ⟨a,sb,ha⟩=>?_) hf)
 have haC:C≠a:=by
  rcases ha with e | e
  ·rw [e];exact hloc'
  ·exact Bp (hcell _ _ e)
 refine ⟨m,hn.sameBut sb haC,λh' sb'=>⟨_,H',?_,q⟩⟩
 refine I4.turned (t':=s4.toks) (it:=C) (λb o hb e=>(sb'.2 b hb).trans e) hHC hloc' (.inr (Aq I2.sz hC)) hcell λp hp z=>?_
 exact zX (AX (AT (I2.pin p hp).1) (by rw [z];exact hC)) (CY _)
end
def Dv (v:Gq) (g:MG) (c:MT) (m:ME):Nat->Nat->Lo->Sto->List D->Res (List D)
 | k,i,e,S,acc=>match v S with
  | none=>.bad
  | some ds=>match ds[i]? with
   | none=>.ok acc S
   | some d=>match k with
    | 0=>.bad
    | k+1=>if acc.length < sizeLine then (okR (g d e S)).bind λe1 S1=>(okR (c e1 S1)).bind λb S2=>if b=true then (okR (m e1 S2)).bind λy S3=>Dv v g c m k (i+1) e1 S3 (acc++[y]) else Dv v g c m k (i+1) e1 S2 acc else .bad
def E1 (n:Nat) (mi:MI) (g:MG) (c:MT) (m:ME):ML:=λe S=>(mi e S).bind λv S1=>Dv v g c m (CF v S1) 0 (A4 n none++e) S1 []
def Gp:MT:=λ_ S=>.ok true S
section
variable {X:Cx} {E:EW} {scope:Fb} {own N':List Str} {elt iter target:Expr} {ifs:List Expr} {pos:Pos} {mi:MI} {g:MG} {c:MT} {m:ME}
abbrev cn (X:Cx) (E:EW) (ifs:List Expr) (c:MT):Prop:=VZ X ifs (gT X.K E c)
theorem FJ:cn X E [] Gp:=λpins s σ H Q I ⟨ρ,l,S,hl,hs,hm⟩=>by
 exact Wl pins s σ H Q I (hm ρ H .refl hs)
theorem Dm.grow {K:AA} {ρ:List AE} {H:Hp} {e:Lo} {σ:St} (n:Nat) (h:Dm K ρ H e σ):Dm K ρ H (A4 n none++e) (A4 n none++σ):=by
 refine ⟨by simp [h.len],λi d q=>?_⟩
 by_cases hi:i < n
 ·rw [Ad (by simpa using hi),B0,qX hi] at q
  cases q
 ·rw [A5 (by simpa using hi)] at q ⊢
  simp only [IT] at q ⊢;exact h.at' _ d q
theorem BO.ok_of {α:Type} {K:AA} {E:EH} {ρ:List AE} {H:Hp} {r:Res α} {k:α->Sto->Prop} {a:α} {S:Sto} (e:r=.ok a S) (h:k a S):BO K E ρ H r k:=by
 subst e;exact h
theorem Mc {α β:Type} {r:Res α} {F:α->Sto->Res β} {b:β} {S:Sto} (h:(okR r).bind F=.ok b S):∃a S1,r=.ok a S1/\F a S1=.ok b S:=by
 cases r with
 | ok a S1=>exact ⟨a,S1,rfl,h⟩
 | err c S1=>cases h
 | bad=>cases h
theorem Qt {v:Gq} {g:MG} {c:MT} {m:ME} {er:AE} {S':Sto}:∀(k i:Nat) (e:Lo) (S:Sto) (acc:List D),Dv v g c m k i e S acc≠.err er S':=by
 intro k
 induction k with
 | zero=>
  intro i e S acc h;unfold Dv at h;split at h
  ·cases h
  ·split at h <;> cases h
 | succ k ih=>
  intro i e S acc h;unfold Dv at h;split at h
  ·cases h
  ·split at h
   ·cases h
   ·dsimp only at h
    split at h
    ·cases h1:g _ e S with
     | ok e1 S1=>
      rw [h1] at h;dsimp only [okR,Res.bind] at h
      cases h2:c e1 S1 with
      | ok b S2=>
       rw [h2] at h;dsimp only [okR,Res.bind] at h
       cases b with
       | true=>
        rw [qX rfl] at h
        cases h3:m e1 S2 with
        | ok y S3=>rw [h3] at h;exact ih _ _ _ _ h
        | err _ _=>rw [h3] at h;cases h
        | bad=>rw [h3] at h;cases h
       | false=>
        rw [qY AW] at h;exact ih _ _ _ _ h
      | err _ _=>rw [h2] at h;cases h
      | bad=>rw [h2] at h;cases h
     | err _ _=>rw [h1] at h;cases h
     | bad=>rw [h1] at h;cases h
    ·cases h
theorem QC {K:AA} {n:Nat} {σ:St} {H:Hp} {Q:VK} (h:gL K E (E1 n mi g c m) σ H Q):WJ n (gI K E mi) (gG K g) (gT K noE c) (gE K noE m) σ H Q:=by
 obtain ⟨ρ,l,S,hl,hs,hm⟩:=h;refine ⟨ρ,l,S,hl,hs,hm.seq λv S1 hm ρ1 H1 J l1 s1 vo p hp=>?_⟩
 obtain ⟨ds,S',hm,k⟩:∃ds S',Dv v g c m (CF v S1) 0 (A4 n none++l) S1 []=.ok ds S'/\∀ρ' H' p xs,Le K ρ H ρ' H'->BW K ρ' S' H'->Aj K ρ' H' ds xs->H' p=some (.lst xs)->(∀n:Nat,ρ'[n]?≠some p)->H p=none->Q (.ref p) H':=by
  cases hc:Dv v g c m (CF v S1) 0 (A4 n none++l) S1 [] with
  | ok ds S'=>rw [hc] at hm;exact ⟨ds,S',rfl,hm⟩
  | err c S'=>exact (Qt _ _ _ _ _ hc).elim
  | bad=>rw [hc] at hm;exact hm.elim
 obtain ⟨s1',l1'⟩:=Fh (ho:=.lst []) s1 hp;have hp0:H p=none:=l1.back hs s1 hp
 refine ⟨λi j σ2 H2 xs=>∃ρ2 e2 S2 acc,Le K ρ1 H1 ρ2 H2/\Dm K ρ2 H2 e2 σ2/\BW K ρ2 S2 H2/\Aj K ρ2 H2 acc xs/\H2 p=some (.lst xs)/\(∀q:Nat,ρ2[q]?≠some p)/\Dv v g c m j i e2 S2 acc=.ok ds S',
  ⟨CF v S1,ρ1,_,S1,[],l1',(hl.mono (l1.trans l1')).grow n,s1',.nil,BU,λq e=>s1.notIn hp e,hm⟩,?_⟩
 rintro i j σ2 H2 xs ⟨ρ2,e2,S2,acc,l2,r2,s2,ra,hp2,hn2,hm2⟩;refine ⟨hp2,?_⟩;unfold Dv at hm2
 cases hv:v S2 with
 | none=>rw [hv] at hm2;cases hm2
 | some vs=>
  rw [hv] at hm2;dsimp only at hm2;obtain ⟨v1,v2⟩:=vo ρ2 H2 S2 vs i l2 s2 hv
  cases hd:vs[i]? with
  | none=>
   rw [hd] at hm2;cases hm2;exact .inl ⟨v1 hd,k ρ2 H2 p xs (l1.trans l2) s2 ra hp2 hn2 hp0⟩
  | some d=>
   rw [hd] at hm2;dsimp only at hm2;obtain ⟨go,yl⟩:=v2 d hd
   cases j with
   | zero=>cases hm2
   | succ j=>
    dsimp only at hm2;split at hm2
    ·rename_i hz
     obtain ⟨e3,S3,h3,hm2⟩:=Mc hm2;obtain ⟨b,S4,h4,hm2⟩:=Mc hm2;refine .inr ⟨go,by rw [<-ra.length];exact hz,λx H' y=>?_⟩;obtain ⟨ρ3,l3,s3,rd⟩:=yl x H' y;obtain ⟨hp3,hn3⟩:=l3.oth p _ hp2 hn2;refine ⟨ρ3,e2,S2,d,rd,r2.mono l3,s3,BO.ok_of h3 λρ4 H4 σ4 l4 s4 r4=>?_⟩;obtain ⟨hp4,hn4⟩:=l4.oth p _ hp3 hn3;refine ⟨ρ4,e3,S3,r4,s4,BO.ok_of h4 λρ5 H5 l5 s5=>?_⟩;obtain ⟨hp5,hn5⟩:=l5.oth p _ hp4 hn4
     cases b with
     | false=>
      rw [qY AW] at hm2 ⊢;exact ⟨j,Co j,ρ5,e3,S4,acc,l2.trans (l3.trans (l4.trans l5)),r4.mono l5,s5,ra.mono (l3.trans (l4.trans l5)),hp5,hn5,hm2⟩
     | true=>
      rw [qX rfl] at hm2 ⊢;obtain ⟨yv,S5,h5,hm2⟩:=Mc hm2;refine ⟨ρ5,e3,S4,r4.mono l5,s5,BO.ok_of h5 λρ6 H6 y6 l6 s6 r6=>?_⟩;obtain ⟨hp6,hn6⟩:=l6.oth p _ hp5 hn5
      have l7:∀xs',Le K ρ6 H6 ρ6 (upd H6 p (.lst xs'))->True:=λ_ _=>trivial
      have up7:∀xs':List V,BW K ρ6 S5 (upd H6 p (.lst xs'))/\(∀a o,DU K ρ6 H6 a o->a≠p->DU K ρ6 (upd H6 p (.lst xs')) a o)/\∀e' w',BM K ρ6 H6 e' w'->BM K ρ6 (upd H6 p (.lst xs')) e' w':=λxs'=>by
       have kk:=D9 (H:=H6) (p:=p) (ho:=.lst xs') (.inr (by rw [hp6];trivial))
       have mono:∀e' w',BM K ρ6 H6 e' w'->BM K ρ6 (upd H6 p (.lst xs')) e' w':=λe' w' r=>r.keep kk.1 kk.2
       have mob:∀a o,DU K ρ6 H6 a o->a≠p->DU K ρ6 (upd H6 p (.lst xs')) a o:=λa o r ne=>r.keep kk.1 kk.2 (BI ne)
       exact ⟨⟨s6.len,s6.nd,λn o a q1 q2=>mob a o (s6.ob n o a q1 q2) λz=>hn6 n (by rw [<-z];exact q2)⟩,mob,mono⟩
      obtain ⟨u1,u2,u3⟩:=up7 (xs++[y6]);refine ⟨hp6,j,Co j,ρ6,e3,S5,acc++[yv],?_,?_,u1,?_,BU,hn6,hm2⟩
      ·have lx:=l2.trans (l3.trans (l4.trans (l5.trans l6)))
       have kk:=D9 (H:=H6) (p:=p) (ho:=.lst (xs++[y6])) (.inr (by rw [hp6];trivial))
       exact ⟨lx.pre,λa zs q=>kk.1 a zs (lx.tup a zs q),λa o u q=>kk.2 a o u (lx.frz a o u q),λa o q z=>by
        have nap:a≠p:=BX q hp;obtain ⟨z1,z2⟩:=lx.oth a o q z
        exact ⟨by rw [BI nap];exact z1,z2⟩⟩
      ·have rr:=r4.mono (l5.trans l6)
       exact ⟨rr.len,λq d' hq=>by
        obtain ⟨w',z1,z2⟩:=rr.at' q d' hq
        exact ⟨w',z1,u3 _ _ z2⟩⟩
      ·have ra6:=ra.mono (l3.trans (l4.trans (l5.trans l6)))
       have kk:=D9 (H:=H6) (p:=p) (ho:=.lst (xs++[y6])) (.inr (by rw [hp6];trivial));exact (ra6.keep kk.1 kk.2).append (.cons (u3 _ _ r6) .nil)
    ·cases hm2
theorem Ju (hc:X.calm=true) (Sc:JH X scope own N') (hi:GI X E target iter mi)
  (hg:∀cl C s₁ H₁ ex pn,GG (CT X scope N' cl C s₁ H₁ ex pn) target g) (hif:∀cl C s₁ H₁ ex pn,cn (CT X scope N' cl C s₁ H₁ ex pn) noE ifs c) (he:∀cl C s₁ H₁ ex pn,GE (CT X scope N' cl C s₁ H₁ ex pn) noE elt m)
  (hs:∀x,DY iter X.env x=pure x:=by intro _;rfl):GL X E (.ListComp elt [⟨target,iter,ifs,0⟩] scope pos) (E1 own.length mi g c m):=
 (Y7 (g:=gG X.K g) (tc:=gT X.K noE c) (te:=gE X.K noE m) hc Sc hi hg hif he hs).imp λ_ _ _ h=>QC h
theorem Tf {i:Nat} {y:Str} {py spos:Pos} (hc:X.calm=true) (hsw:Dx (.ListComp elt [⟨target,iter,ifs,0⟩] scope pos) (some (.Name y py)) spos.line X.env=pure true)
  (hN:X.N.Nodup) (hy:X.N[i]?=some y) (hloc:Loc X.env.scope y) (Sc:JH X scope own N') (hi:GI X E target iter mi)
  (hg:∀cl C s₁ H₁ ex pn,GG (CT X scope N' cl C s₁ H₁ ex pn) target g) (hif:∀cl C s₁ H₁ ex pn,cn (CT X scope N' cl C s₁ H₁ ex pn) noE ifs c) (he:∀cl C s₁ H₁ ex pn,GE (CT X scope N' cl C s₁ H₁ ex pn) noE elt m)
  (hs:∀x,DY iter X.env x=pure x:=by intro _;rfl) (hf:X.fn y=true∨X.env.scope.names.lookup y=some .local:=by first | exact .inl rfl | exact .inr rfl | assumption) :
  GS X E (.Assign [.Name y py] (.ListComp elt [⟨target,iter,ifs,0⟩] scope pos) spos) (DM i (Gh (E1 own.length mi g c m))):=by
 refine (Yy (g:=gG X.K g) (tc:=gT X.K noE c) (te:=gE X.K noE m) hc hsw hN hy hloc Sc hi hg hif he hs hf).imp λD σ H ⟨ρ,l,S,hl,hs,hm⟩=>?_
 refine QC (E:=E) (Q:=λx H'=>D.nx (σ.set i (some x)) H') ⟨ρ,l,S,hl,hs,BO.seq (F:=λds S1=>Res.ok (L2.D.ref S1.length) (S1++[Ob.lst ds])) (k:=λd S2=>BO X.K noH ρ H ((tgN i d l S2).bind λe1 S2=>.ok (.nx e1) S2) λfl S'=>PY X.K E ρ H S' D fl) (BO.lift hm hl .refl λd S2 h=>h) λds S1 hm ρ1 H1 p xs l1 s1 r1 hp hn hp0=>?_⟩
 have l0:∀(n:Nat) a,ρ1[n]?=some a->(ρ1++[p])[n]?=some a:=λn a h=>by rw [Ad (AJ.mp h).1];exact h
 obtain ⟨s2,at2⟩:=s1.adopt (o:=.lst ds) hn ⟨xs,hp,r1.more l0⟩
 have l2:Le X.K ρ H (ρ1++[p]) H1:=⟨λn a h=>l0 n a (l1.pre n a h),l1.tup,l1.frz,λa o e h=>⟨(l1.oth a o e h).1,λn q=>by
  rcases FK q with ⟨q,_⟩ | ⟨_,q⟩
  ·exact (l1.oth a o e h).2 n q
  ·exact BX e hp0 q⟩⟩
 exact hm _ _ _ l2 s2 ((hl.mono l2).set (.ref at2) i)
end
end L2
namespace L2
open PySem PySem.Spec PyProof.Rows PySem.SeqAt
def IK:D->D->Option Bool
 | .non,.non=>some true
 | .bl a,.bl b=>some (a==b)
 | .int a,.int b=>some (a==b)
 | .str a,.str b=>some (a==b)
 | .non,.int _=>some false
 | .non,.str _=>some false
 | .non,.bl _=>some false
 | .non,.tup _=>some false
 | .int _,.non=>some false
 | .str _,.non=>some false
 | .bl _,.non=>some false
 | .tup _,.non=>some false
 | .int _,.tup _=>some false
 | .tup _,.int _=>some false
 | _,_=>none
def eqL (f:D->D->Option Bool):List D->List D->Option Bool
 | [],[]=>some true
 | [],_ :: _=>some false
 | _ :: _,[]=>some false
 | x :: xs,y :: ys=>match f x y,eqL f xs ys with
  | some a,some b=>some (a&&b)
  | _,_=>none
def eqP:Nat->D->D->Option Bool
 | 0,x,y=>IK x y
 | n+1,x,y=>match x,y with
  | .tup xs,.tup ys=>eqL (eqP n) xs ys
  | x,y=>IK x y
theorem IJ {f:D->D->Option Bool} {x y:D} {xs ys:List D} {b:Bool} (h:eqL f (x :: xs) (y :: ys)=some b):∃a c,f x y=some a/\eqL f xs ys=some c/\b=(a&&c):=by
 unfold eqL at h;split at h
 ·rename_i a c h1 h2
  cases h;exact ⟨a,c,h1,h2,rfl⟩
 ·cases h
theorem Tv {f:D->D->Option Bool}:∀ {xs ys:List D} {b:Bool},eqL f xs ys=some b->(∀(j:Nat) x y,xs[j]?=some x->ys[j]?=some y->∃c,f x y=some c) /\
  b=((Be (min xs.length ys.length)).all (λj=>match xs[j]?,ys[j]? with | some x,some y=>(f x y).getD false | _,_=>false)&&xs.length==ys.length)
 | [],[],b,h=>by cases h;exact ⟨λj x y h=>by simp at h,by simp⟩
 | [],y :: ys,b,h=>by cases h;exact ⟨λj x y h=>by simp at h,by simp⟩
 | x :: xs,[],b,h=>by cases h;exact ⟨λj x y _ h=>by simp at h,by simp⟩
 | x :: xs,y :: ys,b,h=>by
  obtain ⟨a,c,h1,h2,rfl⟩:=IJ h;obtain ⟨i1,i2⟩:=Tv h2;refine ⟨λj x' y' e1 e2=>?_,?_⟩
  ·cases j with
   | zero=>simp at e1 e2;subst e1;subst e2;exact ⟨a,h1⟩
   | succ j=>exact i1 j x' y' (by simpa using e1) (by simpa using e2)
  ·rw [i2,Af,Af,show min (xs.length+1) (ys.length+1)=min xs.length ys.length+1 by lia,List.range_succ_eq_map,aS,Q9]
   simp only [List.getElem?_cons_zero,h1,Vi,Function.comp_def,HS];rw [Bool.and_assoc]
   congr 1
   congr 1
   rw [Bool.eq_iff_iff];simp
section
variable {K:AA} {ρ:List AE} {H:Hp}
theorem Ts (n k:Nat) (y:D):eqP n (.ref k) y=none:=by cases n <;> cases y <;> rfl
theorem Tt (n:Nat) (ds:List D) (y:D):eqP n (.fro ds) y=none:=by cases n <;> cases y <;> rfl
theorem Tu (n:Nat) (c:AE) (y:D):eqP n (.exc c) y=none:=by cases n <;> cases y <;> rfl
theorem Jh {x x':D} {v:V} (r1:BM K ρ H x v) (r2:BM K ρ H x' v):x=x'∨(∃ds ds' vs,x=.tup ds/\x'=.tup ds'/\Aj K ρ H ds vs/\Aj K ρ H ds' vs)∨(∀n y,eqP n x y=none)∨∀n y,eqP n x' y=none:=by
 cases r1 with
 | non=>cases r2;exact .inl rfl
 | bl b=>cases r2;exact .inl rfl
 | int b=>cases r2;exact .inl rfl
 | str b=>cases r2;exact .inl rfl
 | fro _ _=>exact .inr (.inr (.inl λn y=>Tt n _ y))
 | ref _=>exact .inr (.inr (.inl λn y=>Ts n _ y))
 | exc _ _=>exact .inr (.inr (.inl λn y=>Tu n _ y))
 | tup u1 u2=>
  cases r2 with
  | fro _ _=>exact .inr (.inr (.inr λn y=>Tt n _ y))
  | ref _=>exact .inr (.inr (.inr λn y=>Ts n _ y))
  | exc _ _=>exact .inr (.inr (.inr λn y=>Tu n _ y))
  | tup w1 w2=>
   rw [u1] at w1;cases w1;exact .inr (.inl ⟨_,_,_,rfl,rfl,u2,w2⟩)
theorem Ze:∀(n:Nat) {x x' y:D} {v:V} {b b':Bool},BM K ρ H x v->BM K ρ H x' v->eqP n x y=some b->eqP n x' y=some b'->b=b':=by
 intro n
 induction n with
 | zero=>
  intro x x' y v b b' r1 r2 h h'
  rcases Jh r1 r2 with rfl | ⟨ds,ds',vs,rfl,rfl,_,_⟩ | q | q
  ·rw [h] at h';cases h';rfl
  ·have:eqP 0 (.tup ds) y=eqP 0 (.tup ds') y:=by cases y <;> rfl
   rw [<-this,h] at h';cases h';rfl
  ·rw [q] at h;cases h
  ·rw [q] at h';cases h'
 | succ n ih=>
  intro x x' y v b b' r1 r2 h h'
  have lists:∀ {xs:List D} {vs:List V} {xs' ys:List D} {b b':Bool},Aj K ρ H xs vs->Aj K ρ H xs' vs->eqL (eqP n) xs ys=some b->eqL (eqP n) xs' ys=some b'->b=b':=by
   intro xs
   induction xs with
   | nil=>
    intro vs xs' ys b b' q1 q2 g g';cases q1;cases q2;rw [g] at g';cases g';rfl
   | cons d ds ihl=>
    intro vs xs' ys b b' q1 q2 g g'
    cases q1 with
    | cons a1 a2=>
     cases q2 with
     | cons c1 c2=>
      cases ys with
      | nil=>cases g;cases g';rfl
      | cons y ys=>
       obtain ⟨p,q,g1,g2,rfl⟩:=IJ g;obtain ⟨p',q',g1',g2',rfl⟩:=IJ g';rw [ih a1 c1 g1 g1',ihl a2 c2 g2 g2']
  rcases Jh r1 r2 with rfl | ⟨ds,ds',vs,rfl,rfl,q1,q2⟩ | q | q
  ·rw [h] at h';cases h';rfl
  ·by_cases c:∃ys,y=.tup ys
   ·obtain ⟨ys,rfl⟩:=c
    exact lists q1 q2 h h'
   ·have:eqP (n+1) (.tup ds) y=eqP (n+1) (.tup ds') y:=by
     cases y <;> first | rfl | exact (c ⟨_,rfl⟩).elim
    rw [<-this,h] at h';cases h';rfl
  ·rw [q] at h;cases h
  ·rw [q] at h';cases h'
theorem Ck {x:D} {b:Bool} (h:IK x x=some b):b=true:=by
 cases x <;> first | (cases h;done) | (cases h;simp)
theorem M3:∀(n:Nat) {x:D} {b:Bool},eqP n x x=some b->b=true
 | 0,_,_,h=>Ck h
 | n+1,x,b,h=>by
  have lists:∀ {xs:List D} {b:Bool},eqL (eqP n) xs xs=some b->b=true:=by
   intro xs
   induction xs with
   | nil=>intro b g;cases g;rfl
   | cons d ds ih=>
    intro b g;obtain ⟨p,q,g1,g2,rfl⟩:=IJ g;rw [M3 n g1,ih g2];rfl
  cases x with
  | tup xs=>exact lists h
  | non=>exact Ck (x:=.non) h
  | bl c=>exact Ck (x:=.bl c) h
  | int c=>exact Ck (x:=.int c) h
  | str c=>exact Ck (x:=.str c) h
  | ref c=>exact Ck (x:=.ref c) h
  | fro c=>exact Ck (x:=.fro c) h
  | exc c=>exact Ck (x:=.exc c) h
theorem IX {x y:D} (hy:(∃f,y=.fro f)∨(∃r,y=.ref r)∨∃c,y=.exc c) (n:Nat):eqP n x y=none:=by
 rcases hy with ⟨f,rfl⟩ | ⟨r,rfl⟩ | ⟨c,rfl⟩ <;> (cases n <;> cases x <;> rfl)
theorem Xk (n:Nat) {x y:D} {v:V} {b:Bool} (h1:BM K ρ H x v) (h2:BM K ρ H y v) (h:eqP n x y=some b):b=true:=by
 induction n generalizing x y v b with
 | zero=>
  rcases Jh h1 h2 with rfl | ⟨ds,ds',vs,rfl,rfl,_,_⟩ | q | q
  ·exact M3 0 h
  ·cases h
  ·rw [q] at h;cases h
  ·cases h2 with
   | fro _ _=>rw [IX (.inl ⟨_,rfl⟩)] at h;cases h
   | ref _=>rw [IX (.inr (.inl ⟨_,rfl⟩))] at h;cases h
   | exc _ _=>rw [IX (.inr (.inr ⟨_,rfl⟩))] at h;cases h
   | non=>cases (q 0 .non)
   | bl b=>cases (q 0 (.bl b))
   | int b=>cases (q 0 (.int b))
   | str b=>cases (q 0 (.str b))
   | tup _ _=>cases (q 0 .non)
 | succ n ih=>
  have lists:∀ {xs ys:List D} {vs:List V} {b:Bool},Aj K ρ H xs vs->Aj K ρ H ys vs->eqL (eqP n) xs ys=some b->b=true:=by
   intro xs
   induction xs with
   | nil=>intro ys vs b q1 q2 g;cases q1;cases q2;cases g;rfl
   | cons d ds ihl=>
    intro ys vs b q1 q2 g
    cases q1 with
    | cons a1 a2=>
     cases q2 with
     | cons c1 c2=>
      obtain ⟨p,q,g1,g2,rfl⟩:=IJ g;rw [ih a1 c1 g1,ihl a2 c2 g2];rfl
  rcases Jh h1 h2 with rfl | ⟨ds,ds',vs,rfl,rfl,q1,q2⟩ | q | q
  ·exact M3 (n+1) h
  ·exact lists q1 q2 h
  ·rw [q] at h;cases h
  ·cases h2 with
   | fro _ _=>rw [IX (.inl ⟨_,rfl⟩)] at h;cases h
   | ref _=>rw [IX (.inr (.inl ⟨_,rfl⟩))] at h;cases h
   | exc _ _=>rw [IX (.inr (.inr ⟨_,rfl⟩))] at h;cases h
   | non=>cases (q 0 .non)
   | bl b=>cases (q 0 (.bl b))
   | int b=>cases (q 0 (.int b))
   | str b=>cases (q 0 (.str b))
   | tup _ _=>cases (q 0 .non)
end
section
variable {X:Cx} {pins:List (AE×Obj)} {σ:St} {H:Hp} {s:AD} {ρ:List AE}
theorem EU (A:Ak):A.in1.units=A.units+1:=rfl
theorem BK.at_ {vs:List V} {its:List AB} (r:BK vs its) {j:Nat} (h:j < its.toArray.size):∃v,vs[j]?=some v/\RelV v its.toArray[j]:=by
 have hj:j < its.length:=by simpa using h
 have hv:j < vs.length:=by rw [r.length];exact hj
 obtain ⟨u,h1,h2⟩:=r.get (i:=j) (x:=vs[j]) (by simp [hv]);refine ⟨vs[j],by simp [hv],?_⟩
 have:its.toArray[j]=u:=by
  have:=AJ.mp h1;obtain ⟨_,e⟩:=this;simpa using e
 rw [this];exact h2
theorem Oz {n:Nat} {A:Ak} (ih:∀(x y:D) (b:Bool) (xv yv:V) (u v:AB),eqP n x y=some b->BM X.K ρ H x xv->BM X.K ρ H y yv->RelV xv u->RelV yv v->EqAt A s u v b)
  {xs ys:List D} {vs ws:List V} {us zs:List AB} {b:Bool} (h:eqL (eqP n) xs ys=some b) (r1:Aj X.K ρ H xs vs) (r2:Aj X.K ρ H ys ws) (q1:BK vs us) (q2:BK ws zs) :
  ∃e:Nat->Bool,(∀j (h1:j < us.toArray.size) (h2:j < zs.toArray.size),EqAt A s us.toArray[j] zs.toArray[j] (e j))/\b=((Be (min us.toArray.size zs.toArray.size)).all e&&us.toArray.size==zs.toArray.size):=by
 obtain ⟨i1,i2⟩:=Tv h;refine ⟨λj=>match xs[j]?,ys[j]? with | some x,some y=>(eqP n x y).getD false | _,_=>false,λj h1 h2=>?_,?_⟩
 ·obtain ⟨v,e1,rv⟩:=BK.at_ q1 h1
  obtain ⟨w,e2,rw'⟩:=BK.at_ q2 h2;obtain ⟨x,e3,rx⟩:=r1.get' e1;obtain ⟨y,e4,ry⟩:=r2.get' e2;obtain ⟨c,hc⟩:=i1 j x y e3 e4;have:=ih x y c v w _ _ hc rx ry rv rw';simp only [e3,e4,hc,Vi];exact this
 ·rw [i2,r1.length,r2.length,q1.length,q2.length]
  simp
theorem Ke {A:Ak} {x y:D} {b:Bool} {xv yv:V} {u v:AB} (I:Inv X pins σ H s) (hu:A.units < Cy) (h:IK x y=some b) (r1:BM X.K ρ H x xv) (r2:BM X.K ρ H y yv) (q1:RelV xv u) (q2:RelV yv v) :
  EqAt A s u v b/\RcAt A s u v b/\RcNeAt A s u v (!b):=by
 cases r1 with
 | non=>
  cases q1
  cases r2 with
  | non=>cases q2;cases h;exact ⟨EqAt.same _,RcAt.none_none,RcNeAt.none_none⟩
  | bl c=>cases q2;cases h;exact ⟨EqAt.none_bool _,RcAt.none_bool _,RcNeAt.none_bool _⟩
  | int i=>obtain ⟨t,rfl⟩:=q2;cases h;exact ⟨EqAt.none_int _ _,RcAt.none_int _ _,RcNeAt.none_int _ _⟩
  | str z=>obtain ⟨t,rfl⟩:=q2;cases h;exact ⟨EqAt.none_str _ _,RcAt.none_str _ _,RcNeAt.none_str _ _⟩
  | tup a1 a2=>
   cases q2;cases h;obtain ⟨its,_,p,_⟩:=I.tuple (.inl (.inl a1));exact ⟨EqAt.none_tuple p hu,RcAt.none_tuple p hu,RcNeAt.none_tuple p hu⟩
  | _=>cases h
 | bl a=>
  cases q1
  cases r2 with
  | non=>cases q2;cases h;exact ⟨EqAt.bool_none _,RcAt.bool_none _,RcNeAt.bool_none _⟩
  | bl c=>cases q2;cases h;exact ⟨EqAt.bool_bool _ _,RcAt.bool_bool _ _,RcNeAt.bool_bool _ _⟩
  | _=>cases h
 | int a=>
  obtain ⟨t,rfl⟩:=q1
  cases r2 with
  | non=>cases q2;cases h;exact ⟨EqAt.int_none _ _,RcAt.int_none _ _,RcNeAt.int_none _ _⟩
  | int i=>obtain ⟨t',rfl⟩:=q2;cases h;exact ⟨EqAt.int_int _ _ _ _,RcAt.int_int _ _ _ _,RcNeAt.int_int _ _ _ _⟩
  | tup a1 a2=>
   cases q2;cases h;obtain ⟨its,_,p,_⟩:=I.tuple (.inl (.inl a1));exact ⟨EqAt.int_tuple _ _ p hu,RcAt.int_tuple _ _ p hu,RcNeAt.int_tuple _ _ p hu⟩
  | _=>cases h
 | str a=>
  obtain ⟨t,rfl⟩:=q1
  cases r2 with
  | non=>cases q2;cases h;exact ⟨EqAt.str_none _ _,RcAt.str_none _ _,RcNeAt.str_none _ _⟩
  | str i=>obtain ⟨t',rfl⟩:=q2;cases h;exact ⟨EqAt.str_str _ _ _ _,RcAt.str_str _ _ _ _,RcNeAt.str_str _ _ _ _⟩
  | _=>cases h
 | tup a1 a2=>
  cases q1;obtain ⟨its,_,p,_⟩:=I.tuple (.inl (.inl a1))
  cases r2 with
  | non=>cases q2;cases h;exact ⟨EqAt.tuple_none p hu,RcAt.tuple_none p hu,RcNeAt.tuple_none p hu⟩
  | int i=>obtain ⟨t',rfl⟩:=q2;cases h;exact ⟨EqAt.tuple_int _ _ p hu,RcAt.tuple_int _ _ p hu,RcNeAt.tuple_int _ _ p hu⟩
  | _=>cases h
 | _=>cases h
theorem SL (I:Inv X pins σ H s):∀(n:Nat) (A:Ak) (x y:D) (b:Bool) (xv yv:V) (u v:AB),A.units+n < Cy->eqP n x y=some b->BM X.K ρ H x xv->BM X.K ρ H y yv->RelV xv u->RelV yv v->EqAt A s u v b:=by
 intro n
 induction n with
 | zero=>exact λA x y b xv yv u v hu h r1 r2 q1 q2=>(Ke I (by omega) h r1 r2 q1 q2).1
 | succ n ih=>
  intro A x y b xv yv u v hu h r1 r2 q1 q2
  by_cases ht:∃xs ys,x=.tup xs/\y=.tup ys
  ·obtain ⟨xs,ys,rfl,rfl⟩:=ht
   cases r1 with
   | @tup _ a vs a1 a2=>
    cases r2 with
    | @tup _ c ws b1 b2=>
     cases q1;cases q2
     by_cases hac:a=c
     ·subst hac
      rw [Xk (n+1) (.tup a1 a2) (.tup b1 b2) h];exact EqAt.same _
     ·obtain ⟨its,rv,p,_⟩:=I.tuple (.inl (.inl a1))
      obtain ⟨its2,rw',p2,_⟩:=I.tuple (.inl (.inl b1));obtain ⟨e,he,rfl⟩:=Oz (A:=A.in1) (λx y b xv yv u v g1 g2 g3 g4 g5=>ih A.in1 x y b xv yv u v (by rw [EU];lia) g1 g2 g3 g4 g5) h a2 b2 rv rw';exact EqAt.of_refs hac (dC p p2 (by lia) he)
  ·have hf:IK x y=some b:=by
    cases x <;> cases y <;> first | exact h | exact (ht ⟨_,_,rfl,rfl⟩).elim
   exact (Ke I (by lia) hf r1 r2 q1 q2).1
def PJ (d:D) (S:Sto):Option (List D):=match d with
 | .fro ds=>some ds
 | .ref n=>match S[n]? with
  | some (.lst ds)=>some ds
  | _=>none
 | _=>none
def eqB (x y:D) (S:Sto):Option Bool:=match PJ x S,PJ y S with
 | some xs,some ys=>if xs.length=ys.length then eqL (eqP 8) xs ys else some false
 | none,none=>eqP 8 x y
 | some _,none=>match y with
  | .tup _=>some false
  | .non=>some false
  | _=>none
 | none,some _=>match x with
  | .tup _=>some false
  | .non=>some false
  | _=>none
def eqD (neg:Bool) (x y:D) (S:Sto):Res D:=match eqB x y S with
 | some b=>.ok (.bl (if neg then !b else b)) S
 | none=>.bad
theorem Jn {K:AA} {S:Sto} {d:D} {x:V} {ds:List D} (hs:BW K ρ S H) (r:BM K ρ H d x) (h:PJ d S=some ds):∃p xs,x=.ref p/\Aj K ρ H ds xs/\SqL K H p xs:=by
 cases r with
 | fro h1 h2=>cases h;exact ⟨_,_,rfl,h2,h1.sq⟩
 | @ref n a hn=>
  obtain ⟨o,ho,ro⟩:=hs.there hn;unfold PJ at h;simp only [ho] at h
  cases o with
  | lst es=>cases h;obtain ⟨vs,e,rr⟩:=ro;exact ⟨_,_,rfl,rr,.inl (.inl e)⟩
  | _=>cases h
 | _=>cases h
theorem Xn {S:Sto} {x y:D} {b:Bool} {xv yv:V} {u v:AB} (I:Inv X pins σ H s) (hu:X.A.units+64 < Cy) (hs:BW X.K ρ S H) (r1:BM X.K ρ H x xv) (r2:BM X.K ρ H y yv) (q1:RelV xv u) (q2:RelV yv v) (h:eqB x y S=some b) :
  RcAt X.A s u v b/\RcNeAt X.A s u v (!b):=by
 unfold eqB at h;split at h
 ·rename_i xs ys h1 h2
  obtain ⟨p,vs,rfl,rr,sq⟩:=Jn hs r1 h1;obtain ⟨p',vs',rfl,rr',sq'⟩:=Jn hs r2 h2;cases q1;cases q2;obtain ⟨its,rv,pl,_⟩:=I.list sq;obtain ⟨its2,rv2,pl2,_⟩:=I.list sq';split at h
  ·rename_i hlen
   obtain ⟨e,he,rfl⟩:=Oz (A:=X.A.in1) (λx y b xv yv u v g1 g2 g3 g4 g5=>SL I 8 X.A.in1 x y b xv yv u v (by rw [EU];lia) g1 g2 g3 g4 g5) h rr rr' rv rv2
   have hsz:its.toArray.size=its2.toArray.size:=by
    simp only [AZ];rw [<-rv.length,<-rv2.length,<-rr.length,<-rr'.length];exact hlen
   have e1:((Be (min its.toArray.size its2.toArray.size)).all e&&its.toArray.size==its2.toArray.size)=(Be its.toArray.size).all e:=by
    rw [<-hsz,Nat.min_self,beq_self_eq_true,Bool.and_true]
   rw [e1];exact ⟨RcAt.lists pl.isList pl2.isList hsz (by lia) he,RcNeAt.lists pl.isList pl2.isList hsz (by lia) he⟩
  ·rename_i hlen
   cases h
   have hsz:(its.toArray.size != its2.toArray.size)=true:=by
    simp only [AZ];rw [<-rv.length,<-rv2.length,<-rr.length,<-rr'.length];simpa using hlen
   exact ⟨RcAt.lists_lengths pl.isList pl2.isList hsz (by lia),RcNeAt.lists_lengths pl.isList pl2.isList hsz (by lia)⟩
 ·by_cases ht:∃xs ys,x=.tup xs/\y=.tup ys
  ·obtain ⟨xs,ys,rfl,rfl⟩:=ht
   cases r1 with
   | tup a1 a2=>
    cases r2 with
    | tup b1 b2=>
     cases q1;cases q2;obtain ⟨its,rv,p,_⟩:=I.tuple (.inl (.inl a1));obtain ⟨its2,rw',p2,_⟩:=I.tuple (.inl (.inl b1));obtain ⟨e,he,rfl⟩:=Oz (n:=7) (A:=X.A.in1) (λx y b xv yv u v g1 g2 g3 g4 g5=>SL I 7 X.A.in1 x y b xv yv u v (by rw [EU];lia) g1 g2 g3 g4 g5) h a2 b2 rv rw';exact ⟨dC p p2 (by lia) he,RcNeAt.tuples p p2 (by lia) he⟩
  ·have hf:IK x y=some b:=by
    cases x <;> cases y <;> first | exact h | exact (ht ⟨_,_,rfl,rfl⟩).elim
   exact (Ke I (by lia) hf r1 r2 q1 q2).2
 ·rename_i xs h1 h2
  obtain ⟨p,vs,rfl,rr,sq⟩:=Jn hs r1 h1;cases q1;obtain ⟨its,rv,pl,_⟩:=I.list sq;split at h
  ·cases h
   cases r2 with
   | tup b1 b2=>
    cases q2;obtain ⟨its2,rw',p2,_⟩:=I.tuple (.inl (.inl b1));exact ⟨RcAt.list_tuple pl.isList p2 (by lia),RcNeAt.list_tuple pl.isList p2 (by lia)⟩
  ·cases h
   cases r2;cases q2;exact ⟨RcAt.list_none pl.isList (by lia),RcNeAt.list_none pl.isList (by lia)⟩
  ·cases h
 ·rename_i xs h1 h2
  obtain ⟨p,vs,rfl,rr,sq⟩:=Jn hs r2 h2;cases q2;obtain ⟨its,rv,pl,_⟩:=I.list sq;split at h
  ·cases h
   cases r1 with
   | tup b1 b2=>
    cases q1;obtain ⟨its2,rw',p2,_⟩:=I.tuple (.inl (.inl b1));exact ⟨RcAt.tuple_list p2 pl.isList (by lia),RcNeAt.tuple_list p2 pl.isList (by lia)⟩
  ·cases h
   cases r1;cases q1;exact ⟨RcAt.none_list pl.isList (by lia),RcNeAt.none_list pl.isList (by lia)⟩
  ·cases h
theorem Wx (hu:X.A.units+64 < Cy):OpR X (A8 .Eq) (rD X.K (eqD false)):=by
 intro pins s σ H x y v u Q I rx ry h;obtain ⟨ρ,S,a,b,d,S',hs,ra,rb,hm,k⟩:=h;unfold eqD at hm;split at hm
 ·rename_i c hc
  cases hm;exact (Xn I hu hs ra rb rx ry hc).1 _ _ _ _ ⟨.bl c,H,I,rfl,k ρ H _ .refl hs (.bl _)⟩
 ·cases hm
theorem N8 (hu:X.A.units+64 < Cy):OpR X (A8 .NotEq) (rD X.K (eqD true)):=by
 intro pins s σ H x y v u Q I rx ry h;obtain ⟨ρ,S,a,b,d,S',hs,ra,rb,hm,k⟩:=h;unfold eqD at hm;split at hm
 ·rename_i c hc
  cases hm;exact (Xn I hu hs ra rb rx ry hc).2 _ _ _ _ ⟨.bl (!c),H,I,rfl,k ρ H _ .refl hs (.bl _)⟩
 ·cases hm
def Io (x:D):List D->Option Bool
 | []=>some false
 | d :: ds=>match eqP 8 d x,Io x ds with
  | some a,some b=>some (a||b)
  | _,_=>none
def inD (neg:Bool) (x y:D) (S:Sto):Res D:=match Ga y S with
 | some ds=>match Io x ds with
  | some b=>.ok (.bl (if neg then !b else b)) S
  | none=>.bad
 | none=>.bad
theorem SU {x d:D} {ds:List D} {b:Bool} (h:Io x (d :: ds)=some b):∃a c,eqP 8 d x=some a/\Io x ds=some c/\b=(a||c):=by
 unfold Io at h;split at h
 ·rename_i a c h1 h2
  cases h;exact ⟨a,c,h1,h2,rfl⟩
 ·cases h
open Classical in
theorem J3 {x:D} {xv:V} {v:AB} (I:Inv X pins σ H s) {A:Ak} (hu:A.units+8 < Cy) (rx:BM X.K ρ H x xv) (qx:RelV xv v):∀ {ds:List D} {vs:List V} {us:List AB} {b:Bool},Aj X.K ρ H ds vs->BK vs us->Io x ds=some b ->
  ∃e:AB->Bool,(∀y∈us,EqAt A s y v (e y))/\b=us.any e:=by
 intro ds vs us b r q h
 let e:AB->Bool:=λy=>decide (∃d w,d∈ds/\BM X.K ρ H d w/\RelV w y/\eqP 8 d x=some true)
 have all:∀ {ds':List D} {vs':List V} {us':List AB} {b':Bool},(∀d∈ds',d∈ds)->Aj X.K ρ H ds' vs'->BK vs' us'->Io x ds'=some b'->(∀y∈us',EqAt A s y v (e y))/\b'=us'.any e:=by
  intro ds'
  induction ds' with
  | nil=>intro vs' us' b' _ r q h;cases r;cases q;cases h;exact ⟨(λ_ z=>nomatch z),rfl⟩
  | cons d ds' ih=>
   intro vs' us' b' hsub r q h
   cases r with
   | cons r1 r2=>
    cases q with
    | @cons w y _ _ q1 q2=>
     obtain ⟨a,c,h1,h2,rfl⟩:=SU h;obtain ⟨i1,i2⟩:=ih (λz hz=>hsub z (AV _ hz)) r2 q2 h2
     have ha:e y=a:=by
      by_cases hq:∃d w,d∈ds/\BM X.K ρ H d w/\RelV w y/\eqP 8 d x=some true
      ·obtain ⟨d',w',_,g1,g2,g3⟩:=id hq
       rw [RelV.inj g2 q1] at g1;have:=Ze 8 g1 r1 g3 h1;rw [<-this];exact wX hq
      ·have:a=false:=by
        cases a with
        | false=>rfl
        | true=>exact (hq ⟨d,_,hsub d Ae,r1,q1,h1⟩).elim
       rw [this];exact wY hq
     refine ⟨λz hz=>?_,by rw [Eu,ha,<-i2]⟩
     rcases Aw.mp hz with rfl | hz
     ·rw [ha]
      exact SL I 8 A d x a _ _ _ _ hu h1 r1 rx q1 qx
     ·exact i1 z hz
 obtain ⟨e1,e2⟩:=all (λ_ h=>h) r q h;exact ⟨e,e1,e2⟩
theorem eI (hu:X.A.units+64 < Cy):OpR X (A8 .In) (rD X.K (inD false)):=by
 intro pins s σ H x y v u Q I rx ry h;obtain ⟨ρ,S,a,b,d,S',hs,ra,rb,hm,k⟩:=h;unfold inD at hm;split at hm
 ·rename_i ds hq
  split at hm
  ·rename_i c hc
   cases hm;obtain ⟨p,xs,rfl,rr,sq⟩:=LV hs rb hq;cases ry
   rcases sq with sq | sq
   ·obtain ⟨its,rv,pl,_⟩:=I.list sq
    obtain ⟨e,he,rfl⟩:=J3 I (A:=X.A.in1) (by rw [EU];lia) ra rx rr rv hc;exact in_listAt e pl.isList (λz hz=>he z (by simpa using hz)) ⟨.bl (its.toArray.any e),H,I,rfl,by rw [HU];exact k ρ H _ .refl hs (.bl _)⟩
   ·obtain ⟨its,rv,pl,_⟩:=I.tuple sq
    obtain ⟨e,he,rfl⟩:=J3 I (A:=X.A.in1) (by rw [EU];lia) ra rx rr rv hc;exact in_tupleAt e pl (λz hz=>he z (by simpa using hz)) ⟨.bl (its.toArray.any e),H,I,rfl,by rw [HU];exact k ρ H _ .refl hs (.bl _)⟩
  ·cases hm
 ·cases hm
theorem Wv (hu:X.A.units+64 < Cy):OpR X (A8 .NotIn) (rD X.K (inD true)):=by
 intro pins s σ H x y v u Q I rx ry h;obtain ⟨ρ,S,a,b,d,S',hs,ra,rb,hm,k⟩:=h;unfold inD at hm;split at hm
 ·rename_i ds hq
  split at hm
  ·rename_i c hc
   cases hm;obtain ⟨p,xs,rfl,rr,sq⟩:=LV hs rb hq;cases ry
   rcases sq with sq | sq
   ·obtain ⟨its,rv,pl,_⟩:=I.list sq
    obtain ⟨e,he,rfl⟩:=J3 I (A:=X.A.in1) (by rw [EU];lia) ra rx rr rv hc;exact notIn_listAt e pl.isList (λz hz=>he z (by simpa using hz)) ⟨.bl (!its.toArray.any e),H,I,rfl,by rw [HU];exact k ρ H _ .refl hs (.bl _)⟩
   ·obtain ⟨its,rv,pl,_⟩:=I.tuple sq
    obtain ⟨e,he,rfl⟩:=J3 I (A:=X.A.in1) (by rw [EU];lia) ra rx rr rv hc;exact notIn_tupleAt e pl (λz hz=>he z (by simpa using hz)) ⟨.bl (!its.toArray.any e),H,I,rfl,by rw [HU];exact k ρ H _ .refl hs (.bl _)⟩
  ·cases hm
 ·cases hm
end
end L2
namespace L2
open PySem PySem.Spec PyProof.Rows
def Mi (mo ma:ME):ME:=λe S=>(mo e S).bind λd S1=>match d with
 | .ref n=>match S1[n]? with
  | some (.lst _)=>(ma e S1).bind λy S2=>match S2[n]? with
   | some (.lst xs)=>if xs.length < sizeLine then .ok .non (S2.set n (.lst (xs++[y]))) else .bad
   | _=>.bad
  | _=>.bad
 | _=>.bad
section
variable {X:Cx} {E:EW} {o e:Expr} {apos cpos:Pos} {mo ma:ME}
theorem TL {K:AA} {ρ:List AE} {S:Sto} {H:Hp} {n:Nat} {x:V} {xs:List D} (s:BW K ρ S H) (r:BM K ρ H (.ref n) x) (h:S[n]?=some (.lst xs)):∃a vs,x=.ref a/\ρ[n]?=some a/\H a=some (.lst vs)/\Aj K ρ H xs vs:=by
 cases r with
 | ref hn=>
  obtain ⟨vs,e,rr⟩:=s.ob n _ _ h hn;exact ⟨_,vs,rfl,hn,e,rr⟩
theorem Gn (ho:GE X E o mo) (ha:GE X E e ma) (hbase:DR o "append" X.env (Ba o X.env)=Ba o X.env:=by rfl)
  (hfew:((Bi cpos (AN [e] X.env)).all (λx=>!x.1)&&(Eo cpos (Ch [] X.env)).all (λx=>x.1.isSome)
    &&decide ([e].length+([]:List FU).length+(if ([]:List FU).isEmpty then 0 else 1) < 30))=true:=by rfl)
  (hline:(apos.endLine==cpos.line)=true:=by rfl) (hs:AN [e] X.env=(false,Ba e X.env) :: AN [] X.env:=by rfl) (hplain:(Bi cpos (AN [] X.env)).any (·.1)=false:=by rfl) :
  GE X E (.Call (.Attribute o "append" apos) [e] [] cpos) (Mi mo ma):=(TQ Nh PySem.F.slot_list_append PySem.F.type_list_append OB ho (CV ha D4 hs) hbase hfew hline hs hplain).imp λσ H Q ⟨ρ,l,S,hl,hs,hm⟩=>by
 refine ⟨ρ,l,S,hl,hs,hm.seq λx S1 hm ρ1 H1 v l1 s1 r1=>?_⟩
 cases x <;> first | exact hm.elim | skip
 rename_i n;dsimp only at hm;split at hm
 ·rename_i xs0 h0
  obtain ⟨a,vs,rfl,hn,e0,_⟩:=TL s1 r1 h0;refine ⟨.inl ⟨rfl,vs,.inl (.inl e0)⟩,ρ1,l,S1,hl.mono l1,s1,(hm.later l1).seq λy S2 hm ρ2 H2 u l2 s2 r2=>?_⟩;split at hm
  ·rename_i xs h3
   split at hm
   ·rename_i hz
    have hn2:=l2.pre n a hn;obtain ⟨ws,e3,rr⟩:=s2.ob n _ _ h3 hn2;have le:Le X.K ρ2 H2 ρ2 (upd H2 a (.lst (ws++[u]))):=Le.write hn2 (by rw [e3];trivial);obtain ⟨s3,l3⟩:=s2.write (ho:=.lst (ws++[u])) (o:=.lst (xs++[y])) hn2 ⟨_,BU,(rr.append (.cons r2 .nil)).mono le⟩;exact ⟨a,ws,u,rfl,rfl,e3,by rw [<-rr.length];exact hz,hm ρ2 _ _ (l1.trans (l2.trans l3)) s3 .non⟩
   ·exact hm.elim
  ·exact hm.elim
 ·exact hm.elim
end
def G4 {κ β:Type} [DecidableEq κ] (kvs:List (κ×β)) (k:κ):Option β:=(kvs.find? λkv=>decide (kv.1=k)).map (·.2)
def MY {κ β:Type} [DecidableEq κ] (kvs:List (κ×β)) (k:κ) (v:β):List (κ×β):=
 if (kvs.any λkv=>decide (kv.1=k))=true then kvs.map (λkv=>if kv.1=k then (kv.1,v) else kv) else kvs++[(k,v)]
section
variable {κ:Type} [DecidableEq κ] {K:AA} {ρ:List AE} {H:Hp}
theorem KVR.val (k:κ):∀ {x:List (κ×D)} {y:List (κ×V)},KVR K ρ H x y->(G4 x k=none->Hv y k=none)/\∀d,G4 x k=some d->∃v,Hv y k=some v/\BM K ρ H d v
 | _,_,.nil=>⟨λ_=>rfl,λd h=>by cases h⟩
 | (g,a) :: x,(g',b) :: y,.cons r t=>by
  obtain ⟨r1,r2⟩:=r;dsimp only at r1 r2;subst r1;unfold G4 Hv;rw [B2,B2]
  by_cases e:g=k
  ·simp only [e,decide_true]
   exact ⟨(λh=>nomatch h),(λd h=>by cases h;exact ⟨b,rfl,r2⟩)⟩
  ·simp only [e,decide_false]
   exact KVR.val k t
theorem KVR.any (k:κ):∀ {x:List (κ×D)} {y:List (κ×V)},KVR K ρ H x y->(x.any λkv=>decide (kv.1=k))=y.any λkv=>decide (kv.1=k)
 | _,_,.nil=>rfl
 | (g,a) :: x,(g',b) :: y,.cons r t=>by
  rw [Eu,Eu,KVR.any k t,show g=g' from r.1]
theorem KVR.repl (k:κ) {d:D} {v:V} (rd:BM K ρ H d v):∀ {x:List (κ×D)} {y:List (κ×V)},KVR K ρ H x y->KVR K ρ H (x.map λkv=>if kv.1=k then (kv.1,d) else kv) (y.map λkv=>if kv.1=k then (kv.1,v) else kv)
 | _,_,.nil=>.nil
 | (g,a) :: x,(g',b) :: y,.cons r t=>by
  obtain ⟨r1,r2⟩:=r;dsimp only at r1 r2;subst r1;rw [Ai,Ai];refine .cons ?_ (KVR.repl k rd t)
  by_cases e:g=k
  ·rw [qX e,qX e];exact ⟨rfl,rd⟩
  ·rw [qY e,qY e];exact ⟨rfl,r2⟩
theorem KVR.put (k:κ) {d:D} {v:V} (rd:BM K ρ H d v) {x:List (κ×D)} {y:List (κ×V)} (h:KVR K ρ H x y):KVR K ρ H (MY x k d) (Hc y k v):=by
 unfold MY Hc;rw [KVR.any k h];split
 ·exact KVR.repl k rd h
 ·exact Q7 h ⟨rfl,rd⟩
end
def ZP:D->Option Key
 | .int i=>some (.inl i)
 | .str x=>some (.inr x)
 | _=>none
def Qd:List D->Option (List Key)
 | []=>some []
 | d :: ds=>match ZP d,Qd ds with
  | some k,some ks=>some (k :: ks)
  | _,_=>none
theorem PK {K:AA} {ρ:List AE} {H:Hp} {d:D} {v:V} {k:Key} (r:BM K ρ H d v) (h:ZP d=some k):v=kV k:=by
 cases r <;> first | (cases h;done) | (cases h;rfl)
theorem Mr {K:AA} {ρ:List AE} {H:Hp}:∀ {ds:List D} {vs:List V} {ks:List Key},Aj K ρ H ds vs->Qd ds=some ks->vs=ks.map kV
 | _,_,_,.nil,h=>by cases h;rfl
 | _,_,_,.cons r t,h=>by
  unfold Qd at h;split at h
  ·rename_i k ks h1 h2
   cases h;rw [PK r h1,Mr t h2];rfl
  ·cases h
def VH (x y:D) (S:Sto):Option (Option D):=match x with
 | .ref n=>match S[n]? with
  | some (.dK kvs)=>match ZP y with
   | some k=>some (G4 kvs k)
   | none=>none
  | some (.dT kvs)=>match y with
   | .tup ds=>match Qd ds with
    | some ks=>some (G4 kvs ks)
    | none=>none
   | _=>none
  | _=>none
 | _=>none
theorem PZ {K:AA} {ρ:List AE} {S:Sto} {H:Hp} {x y:D} {xv yv:V} {o:Option D} (s:BW K ρ S H) (rx:BM K ρ H x xv) (ry:BM K ρ H y yv) (h:VH x y S=some o) :
  ∃a o',xv=.ref a/\J7 H a yv o'/\(o=none->o'=none)/\∀d,o=some d->∃v,o'=some v/\BM K ρ H d v:=by
 unfold VH at h;split at h
 ·rename_i n
  cases rx with
  | @ref _ a hn=>
   split at h
   ·rename_i kvs h1
    split at h
    ·rename_i k hk
     cases h;obtain ⟨kvs',e,r⟩:=s.ob n _ _ h1 hn;rw [PK ry hk];obtain ⟨v1,v2⟩:=KVR.val k r;exact ⟨a,Hv kvs' k,rfl,J7.k e,v1,v2⟩
    ·cases h
   ·rename_i kvs h1
    split at h
    ·rename_i ds
     split at h
     ·rename_i ks hk
      cases h;obtain ⟨kvs',e,r⟩:=s.ob n _ _ h1 hn
      cases ry with
      | tup b1 b2=>
       obtain ⟨v1,v2⟩:=KVR.val ks r;rw [Mr b2 hk] at b1;exact ⟨a,Hv kvs' ks,rfl,J7.t e b1,v1,v2⟩
     ·cases h
    ·cases h
   ·cases h
 ·cases h
def Tw (x y:D) (S:Sto):Res D:=match VH x y S with
 | some (some d)=>.ok d S
 | _=>.bad
def LM (neg:Bool) (y x:D) (S:Sto):Res D:=match VH x y S with
 | some o=>.ok (.bl (if neg then !o.isSome else o.isSome)) S
 | none=>.bad
section
variable {X:Cx} {E:EW} {o i value:Expr} {pos pos':Pos} {mo mi mv:ME}
theorem Za (hu:X.A.units+1 < Cy) (ho:GE X E o mo) (hi:GE X E i mi) (hs:ck i:=by intro _ _;rfl):GE X E (.Subscript o i pos) (m2 Tw mo mi):=(Y6 hu ho hi hs).imp λσ H Q h=>by
 refine (Iw h:tOp (rD X.K Tw) (gE X.K E mo) (gE X.K E mi) σ H Q) |> λt=>?_
 obtain ⟨ρ,l,S,hl,hs,k⟩:=t;refine ⟨ρ,l,S,hl,hs,k.imp λx S1 k ρ1 H1 u l1 s1 r1=>?_⟩;obtain ⟨ρ2,l2,S2,hl2,hs2,k2⟩:=k ρ1 H1 u l1 s1 r1;refine ⟨ρ2,l2,S2,hl2,hs2,k2.imp λy S3 k2 ρ3 H3 v l3 s3 r3=>?_⟩;obtain ⟨ρ4,S4,x4,y4,d,S5,s4,r4,r5,hm,k4⟩:=k2 ρ3 H3 v l3 s3 r3;unfold Tw at hm;split at hm
 ·rename_i d' hd
  cases hm;obtain ⟨a,o',rfl,g,_,g2⟩:=PZ s4 r4 r5 hd;obtain ⟨w',rfl,rw'⟩:=g2 _ rfl;exact ⟨a,w',rfl,g,k4 ρ4 H3 w' .refl s4 rw'⟩
 ·cases hm
theorem Ye {σ:St} {H:Hp} {Q:VK} (h:gE X.K E (m2 (LM false) mi mo) σ H Q):dc (gE X.K E mi) (gE X.K E mo) σ H Q:=by
 obtain ⟨ρ,l,S,hl,hs,k⟩:=(Iw h:tOp (rD X.K (LM false)) (gE X.K E mi) (gE X.K E mo) σ H Q);refine ⟨ρ,l,S,hl,hs,k.imp λx S1 k ρ1 H1 u l1 s1 r1=>?_⟩;obtain ⟨ρ2,l2,S2,hl2,hs2,k2⟩:=k ρ1 H1 u l1 s1 r1;refine ⟨ρ2,l2,S2,hl2,hs2,k2.imp λy S3 k2 ρ3 H3 v l3 s3 r3=>?_⟩;obtain ⟨ρ4,S4,x4,y4,d,S5,s4,r4,r5,hm,k4⟩:=k2 ρ3 H3 v l3 s3 r3;unfold LM at hm;split at hm
 ·rename_i o' hd
  cases hm;obtain ⟨a,o2,rfl,g,g1,g2⟩:=PZ s4 r5 r4 hd;refine ⟨a,o2,rfl,g,?_⟩
  have:o2.isSome=o'.isSome:=by
   cases o' with
   | none=>rw [g1 rfl];rfl
   | some d=>obtain ⟨w',rfl,_⟩:=g2 d rfl;rfl
  rw [this];exact k4 ρ4 H3 _ .refl s4 (.bl _)
 ·cases hm
theorem Rg {σ:St} {H:Hp} {Q:VK} (h:gE X.K E (m2 (LM true) mi mo) σ H Q):TB (gE X.K E mi) (gE X.K E mo) σ H Q:=by
 obtain ⟨ρ,l,S,hl,hs,k⟩:=(Iw h:tOp (rD X.K (LM true)) (gE X.K E mi) (gE X.K E mo) σ H Q);refine ⟨ρ,l,S,hl,hs,k.imp λx S1 k ρ1 H1 u l1 s1 r1=>?_⟩;obtain ⟨ρ2,l2,S2,hl2,hs2,k2⟩:=k ρ1 H1 u l1 s1 r1;refine ⟨ρ2,l2,S2,hl2,hs2,k2.imp λy S3 k2 ρ3 H3 v l3 s3 r3=>?_⟩;obtain ⟨ρ4,S4,x4,y4,d,S5,s4,r4,r5,hm,k4⟩:=k2 ρ3 H3 v l3 s3 r3;unfold LM at hm;split at hm
 ·rename_i o' hd
  cases hm;obtain ⟨a,o2,rfl,g,g1,g2⟩:=PZ s4 r5 r4 hd;refine ⟨a,o2,rfl,g,?_⟩
  have:o2.isSome=o'.isSome:=by
   cases o' with
   | none=>rw [g1 rfl];rfl
   | some d=>obtain ⟨w',rfl,_⟩:=g2 d rfl;rfl
  rw [this];exact k4 ρ4 H3 _ .refl s4 (.bl _)
 ·cases hm
theorem W8 {K:AA} {m:ME} {σ:St} {H:Hp} {Q:Bool->Hp->Prop} (h:gT K E (mB m) σ H Q):gE K E m σ H λx H1=>∃c,x=.bl c/\Q c H1:=by
 obtain ⟨ρ,l,S,hl,hs,hm⟩:=h;refine ⟨ρ,l,S,hl,hs,hm.seq λd S1 hm ρ1 H1 x l1 s1 r1=>?_⟩
 cases d <;> first | exact hm.elim | skip
 cases r1;exact ⟨_,rfl,hm ρ1 H1 l1 s1⟩
theorem cK (hu:X.A.units+1 < Cy) (hi:GE X E i mi) (ho:GE X E o mo) (h1:Bz .In o=false:=by rfl):GT X E (.Compare i [.In] [o] pos) (mB (m2 (LM false) mi mo)):=(Wf (bf hu hi ho) h1).imp λ_ _ _ h=>Ye (W8 h)
theorem U1 (hu:X.A.units+1 < Cy) (hi:GE X E i mi) (ho:GE X E o mo) (h1:Bz .NotIn o=false:=by rfl):GT X E (.Compare i [.NotIn] [o] pos) (mB (m2 (LM true) mi mo)):=(Wf (Ug hu hi ho) h1).imp λ_ _ _ h=>Rg (W8 h)
def W7:ME:=λ_ S=>.ok (.ref S.length) (S++[.dT []])
theorem Xd:GE X E (.Dict [] [] pos) W7:=(Wr (X:=X) (pos:=pos)).imp λσ H Q ⟨ρ,l,S,hl,hs,k⟩ p hp=>by
 obtain ⟨s2,l2,at2⟩:=hs.alloc (ho:=.dT []) (o:=.dT []) hp ⟨[],BU,.nil⟩;exact k _ _ _ l2 s2 (.ref at2)
def Zh (x y v:D) (S:Sto):Option Sto:=match x with
 | .ref n=>match S[n]? with
  | some (.dK kvs)=>match ZP y with
   | some k=>if kvs.length < sizeLine then some (S.set n (.dK (MY kvs k v))) else none
   | none=>none
  | some (.dT kvs)=>match y with
   | .tup ds=>match Qd ds with
    | some ks=>if kvs.length < sizeLine then some (S.set n (.dT (MY kvs ks v))) else none
    | none=>none
   | _=>none
  | _=>none
 | _=>none
def MR (mo mi mv:ME):MS:=λe S=>(mv e S).lift e λv S1=>(mo e S1).lift e λx S2=>(mi e S2).lift e λy S3=>match Zh x y v S3 with
 | some S4=>.ok (.nx e) S4
 | none=>.bad
theorem ZU (hu:X.A.units+1 < Cy) (ho:GE X E o mo) (hi:GE X E i mi) (hv:GE X E value mv) (hs:Dx value (some (.Subscript o i pos')) pos.line X.env=pure false:=by rfl):GS X E (.Assign [.Subscript o i pos'] value pos) (MR mo mi mv):=(Yx hu ho hi hv hs).imp λD σ H ⟨ρ,l,S,hl,hs,hm⟩=>by
 refine ⟨ρ,l,S,hl,hs,hm.lift hl .refl λv S1 hm ρ1 H1 vv l1 s1 r1=>⟨ρ1,l,S1,hl.mono l1,s1,(hm.later l1).lift (hl.mono l1) l1 λx S2 hm ρ2 H2 xv l2 s2 r2=>⟨ρ2,l,S2,hl.mono (l1.trans l2),s2,(hm.later l2).lift (hl.mono (l1.trans l2)) (l1.trans l2) λy S3 hm ρ3 H3 yv l3 s3 r3=>?_⟩⟩⟩;have r1':=r1.mono (l2.trans l3);have r2':=r2.mono l3;have hl3:=hl.mono (l1.trans (l2.trans l3));split at hm
 ·rename_i S4 hp
  unfold Zh at hp;split at hp
  ·rename_i n
   cases r2' with
   | @ref _ a hn=>
    split at hp
    ·rename_i kvs h4
     split at hp
     ·rename_i ky hk
      split at hp
      ·rename_i hz
       cases hp;obtain ⟨kvs',e,r⟩:=s3.ob n _ _ h4 hn;rw [PK r3 hk];have le:Le X.K ρ3 H3 ρ3 (upd H3 a (.dK (Hc kvs' ky vv))):=Le.write hn (by rw [e];trivial);obtain ⟨s5,l5⟩:=s3.write (ho:=.dK (Hc kvs' ky vv)) (o:=.dK (MY kvs ky v)) hn ⟨_,BU,(KVR.put ky r1' r).mono le⟩;exact ⟨a,_,rfl,Q3.k e (by rw [<-KVR.length r];exact hz),hm ρ3 _ σ (l1.trans (l2.trans (l3.trans l5))) s5 (hl3.mono l5)⟩
      ·cases hp
     ·cases hp
    ·rename_i kvs h4
     split at hp
     ·rename_i ds
      split at hp
      ·rename_i ks hk
       split at hp
       ·rename_i hz
        cases hp;obtain ⟨kvs',e,r⟩:=s3.ob n _ _ h4 hn
        cases r3 with
        | tup b1 b2=>
         rw [Mr b2 hk] at b1;have le:Le X.K ρ3 H3 ρ3 (upd H3 a (.dT (Hc kvs' ks vv))):=Le.write hn (by rw [e];trivial);obtain ⟨s5,l5⟩:=s3.write (ho:=.dT (Hc kvs' ks vv)) (o:=.dT (MY kvs ks v)) hn ⟨_,BU,(KVR.put ks r1' r).mono le⟩;exact ⟨a,_,rfl,Q3.t e b1 (by rw [<-KVR.length r];exact hz),hm ρ3 _ σ (l1.trans (l2.trans (l3.trans l5))) s5 (hl3.mono l5)⟩
       ·cases hp
      ·cases hp
     ·cases hp
    ·cases hp
  ·cases hp
 ·exact hm.elim
end
section
variable {X:Cx} {E:EW} {a b c:Expr} {pos:Pos} {ma mb mc:ME}
theorem US {K:AA} {f g:D->D->Sto->Res D} {σ:St} {H:Hp} {Q:VK} (h:gE K E (m3 f g ma mb mc) σ H Q):WK (rD K f) (rD K g) (gE K E ma) (gE K E mb) (gE K E mc) σ H Q:=by
 obtain ⟨ρ,l,S,hl,hs,hm⟩:=h;refine ⟨ρ,l,S,hl,hs,hm.seq λx S1 hm ρ1 H1 u l1 s1 r1=>⟨ρ1,l,S1,hl.mono l1,s1,(hm.later l1).seq λy S2 hm ρ2 H2 v l2 s2 r2=>?_⟩⟩
 cases hf:f x y S2 with
 | bad=>rw [hf] at hm;exact hm.elim
 | err _ _=>rw [hf] at hm;exact hm.elim
 | ok z S3=>
  rw [hf] at hm;dsimp only [okR,Res.bind] at hm;refine ⟨ρ2,S2,x,y,z,S3,s2,r1.mono l2,r2,hf,λρ3 H3 w l3 s3 r3=>?_⟩
  cases z with
  | bl k=>
   cases r3;refine ⟨k,rfl,?_⟩
   cases k with
   | true=>
    rw [qX rfl];refine ⟨ρ3,l,S3,hl.mono (l1.trans (l2.trans l3)),s3,BO.seq (hm.later (l2.trans l3)) λw S4 hm ρ4 H4 wv l4 s4 r4=>?_⟩;obtain ⟨d,S',e,k⟩:=hm.okR;exact ⟨ρ4,S4,y,w,d,S',s4,r2.mono (l3.trans l4),r4,e,λρ' H' z l' s' r'=>k ρ' H' z (l1.trans (l2.trans (l3.trans (l4.trans l')))) s' r'⟩
   | false=>rw [qY AW];exact hm ρ3 H3 _ (l1.trans (l2.trans l3)) s3 (.bl false)
  | _=>exact hm.elim
theorem Jr {op op':RO} {f g:D->D->Sto->Res D} (ho:OpR X (A8 op) (rD X.K f)) (ho':OpR X (A8 op') (rD X.K g)) (ha:GE X E a ma) (hb:GE X E b mb) (hc:GE X E c mc)
  (hm:lastMarks [op,op'] [b,c]=false:=by with_unfolding_all rfl):GT X E (.Compare a [op,op'] [b,c] pos) (mB (m3 f g ma mb mc)):=(Wg ho ho' ha hb hc hm).imp λ_ _ _ h=>US (W8 h)
def Uq (m:ME):ME:=λe S=>(m e S).bind λd S1=>match d with
 | .int i=>.ok (.int (-i)) S1
 | _=>.bad
theorem SI (h:GE X E a ma):GE X E (.UnaryOp .USub a pos) (Uq ma):=(dz aw h).imp λσ H Q ⟨ρ,l,S,hl,hs,hm⟩=>by
 refine ⟨ρ,l,S,hl,hs,hm.seq λd S1 hm ρ1 H1 x l1 s1 r1=>?_⟩
 cases d <;> first | exact hm.elim | skip
 cases r1;exact ⟨_,rfl,hm ρ1 H1 _ l1 s1 (.int _)⟩
end
abbrev MO:=Lo->Sto->Res (Option Int)
def gO (K:AA) (E:EW) (m:MO):TO:=λσ H Q=>∃ρ e S,Dm K ρ H e σ/\BW K ρ S H/\BO K (λc=>E c σ) ρ H (m e S) λo S'=>∀ρ' H',Le K ρ H ρ' H'->BW K ρ' S' H'->Q o H'
abbrev GO (X:Cx) (E:EW) (e:Option Expr) (m:MO):Prop:=PO X e (gO X.K E m)
def QU:MO:=λ_ S=>.ok none S
def Kq (m:ME):MO:=λe S=>(m e S).bind λd S1=>match d with
 | .int i=>.ok (some i) S1
 | _=>.bad
def FP {α:Type} (xs:List α) (lo hi:Option Int):List α:=(xs.drop (HT.sIx xs.length 0 lo)).take (HT.sIx xs.length xs.length hi - HT.sIx xs.length 0 lo)
def Vx (n:Nat) (lo hi:Option Int):Bool:=decide (HT.sIx n 0 lo=0/\HT.sIx n n hi=n)
def Ow (d:D) (lo hi:Option Int) (S:Sto):Res D:=match d with
 | .tup ds=>if Vx ds.length lo hi=true then .bad else .ok (.tup (FP ds lo hi)) S
 | _=>match PJ d S with
  | some ds=>.ok (.ref S.length) (S++[.lst (FP ds lo hi)])
  | none=>.bad
def HC (m:ME) (ml mh:MO):ME:=λe S=>(m e S).bind λd S1=>(ml e S1).bind λlo S2=>(mh e S2).bind λhi S3=>okR (Ow d lo hi S3)
section
variable {X:Cx} {E:EW} {e:Expr} {lo hi:Option Expr} {pos p2:Pos} {m:ME} {ml mh:MO}
theorem PO.imp {o:Option Expr} {t t':TO} (h:PO X o t) (i:∀σ H Q,t' σ H Q->t σ H Q):PO X o t':=λpins s σ H Q I q=>h pins s σ H Q I (i σ H Q q)
theorem PR:GO X E none QU:=PO.imp Y0 λσ H Q ⟨ρ,l,S,hl,hs,hm⟩=>hm ρ H .refl hs
theorem Jt (h:GE X E e m):GO X E (some e) (Kq m):=PO.imp (Yz h) λσ H Q ⟨ρ,l,S,hl,hs,hm⟩=>by
 refine ⟨ρ,l,S,hl,hs,hm.seq λd S1 hm ρ1 H1 x l1 s1 r1=>?_⟩
 cases d <;> first | exact hm.elim | skip
 cases r1;exact ⟨_,rfl,hm ρ1 H1 l1 s1⟩
theorem Qs {K:AA} {ρ:List AE} {H:Hp} {ds:List D} {vs:List V} (r:Aj K ρ H ds vs) (lo hi:Option Int):Aj K ρ H (FP ds lo hi) (M5 vs lo hi):=by
 unfold FP M5;rw [r.length];exact (r.drop _).take _
theorem Jx (he:GE X E e m) (hl:GO X E lo ml) (hu:GO X E hi mh):GE X E (.Subscript e (.Slice lo hi none p2) pos) (HC m ml mh):=(Wp (Yi.or bD) he hl hu).imp λσ H Q ⟨ρ,l,S,hl,hs,hm⟩=>by
 refine ⟨ρ,l,S,hl,hs,hm.seq λd S1 hm ρ1 H1 x l1 s1 r1=>⟨ρ1,l,S1,hl.mono l1,s1,(hm.later l1).seq λlo S2 hm ρ2 H2 l2 s2=>⟨ρ2,l,S2,hl.mono (l1.trans l2),s2,(hm.later l2).seq λhi S3 hm ρ3 H3 l3 s3=>?_⟩⟩⟩;obtain ⟨d',S',e,k⟩:=hm.okR;have r3:=r1.mono (l2.trans l3)
 have lst:∀ds,PJ d S3=some ds->Res.ok (.ref S3.length) (S3++[.lst (FP ds lo hi)])=Res.ok d' S'->dr X.K x lo hi H3 Q:=λds hq e=>by
  cases e;obtain ⟨p,xs,rfl,rr,sq⟩:=Jn s3 r3 hq;refine ⟨p,xs,rfl,sq,λq hq=>?_⟩;have le:Le X.K ρ3 H3 (ρ3++[q]) (upd H3 q (.lst (M5 xs lo hi))):=Le.alloc hq;obtain ⟨s4,l4,at4⟩:=s3.alloc (ho:=.lst (M5 xs lo hi)) (o:=.lst (FP ds lo hi)) hq ⟨_,BU,(Qs rr lo hi).mono le⟩;exact k _ _ _ (l1.trans (l2.trans (l3.trans l4))) s4 (.ref at4)
 cases d with
 | tup ds=>
  unfold Ow at e;dsimp only at e;split at e
  ·cases e
  ·rename_i hw
   cases e
   cases r3 with
   | @tup _ a vs h1 h2=>
    refine .inr ⟨a,vs,rfl,.inl (.inl h1),λz=>hw ?_,λq hq=>?_⟩
    ·unfold Vx
     rw [h2.length];exact wX z
    ·obtain ⟨s4,l4⟩:=Fh (ho:=.tup (M5 vs lo hi)) s3 hq
     exact k _ _ _ (l1.trans (l2.trans (l3.trans l4))) s4 (.tup BU ((Qs h2 lo hi).mono l4))
 | non=>cases e
 | bl _=>cases e
 | int _=>cases e
 | str _=>cases e
 | exc _=>cases e
 | fro ds=>exact .inl (lst ds rfl e)
 | ref n=>
  unfold Ow at e;dsimp only at e;split at e
  ·rename_i ds hq
   exact .inl (lst ds hq e)
  ·cases e
end
section
variable {X:Cx} {E:EW} {e:Expr} {p pos:Pos} {m:ME} {ml:ML}
def Ew (m:ME):ME:=λe S=>(m e S).bind λd S1=>match Ga d S1 with
 | some ds=>.ok (.tup ds) S1
 | none=>.bad
theorem Gm (hg:Gl X "tuple") (hm:X.mg "tuple" = none) (h:GE X E e m) (he:AN [e] X.env=(false,Ba e X.env) :: AN [] X.env:=by rfl):GE X E (.Call (.Name "tuple" p) [e] [] pos) (Ew m):=
 (KS Nb hg hm fM (CV h D4 he) (by decide) (by decide) he rfl).imp λσ H Q ⟨ρ,l,S,hl,hs,hm⟩=>by
 refine ⟨ρ,l,S,hl,hs,hm.seq λd S1 hm ρ1 H1 x l1 s1 r1=>?_⟩
 cases hq:Ga d S1 with
 | none=>rw [hq] at hm;exact hm.elim
 | some ds=>
  rw [hq] at hm
  have newL:∀a vs,x=.ref a->SqL X.K H1 a vs->Aj X.K ρ1 H1 ds vs->∃p ys,[x]=[.ref p]/\((SqL X.K H1 p ys/\∀l,H1 l=none->Q (.ref l) (upd H1 l (.tup ys)))∨(SqT X.K H1 p ys/\Q (.ref p) H1)):=λa vs e sq rr=>by
   subst e;refine ⟨a,vs,rfl,.inl ⟨sq,λq hq=>?_⟩⟩;obtain ⟨s2,l2⟩:=Fh (ho:=.tup vs) s1 hq;exact hm _ _ _ (l1.trans l2) s2 (.tup BU (rr.mono l2))
  cases r1 with
  | @tup _ a vs h1 h2=>cases hq;exact ⟨a,vs,rfl,.inr ⟨.inl (.inl h1),hm ρ1 H1 _ l1 s1 (.tup h1 h2)⟩⟩
  | @fro _ a vs h1 h2=>cases hq;exact newL a vs rfl h1.sq h2
  | @ref n a hn=>
   obtain ⟨o,ho,ro⟩:=s1.there hn;unfold Ga at hq;simp only [ho] at hq
   cases o with
   | lst es=>cases hq;obtain ⟨vs,e,rr⟩:=ro;exact newL a vs rfl (.inl (.inl e)) rr
   | _=>cases hq
  | _=>cases hq
variable {o:Expr} {apos cpos:Pos} {mo ma:ME}
def atL (d:D) (S:Sto):Option (Nat×List D):=match d with
 | .ref n=>match S[n]? with
  | some (.lst xs)=>some (n,xs)
  | _=>none
 | _=>none
theorem Pj {K:AA} {ρ:List AE} {S:Sto} {H:Hp} {d:D} {x:V} {n:Nat} {xs:List D} (s:BW K ρ S H) (r:BM K ρ H d x) (h:atL d S=some (n,xs)):d=.ref n/\S[n]?=some (.lst xs)/\∃a vs,x=.ref a/\ρ[n]?=some a/\H a=some (.lst vs)/\Aj K ρ H xs vs:=by
 unfold atL at h;split at h
 ·split at h
  ·rename_i ds hd
   cases h;exact ⟨rfl,hd,TL s r hd⟩
  ·cases h
 ·cases h
theorem Ys {K:AA} {ρ:List AE} {S:Sto} {H:Hp} {n:Nat} {a:AE} {vs ws:List V} {ys:List D} (s:BW K ρ S H) (hn:ρ[n]?=some a) (e:H a=some (.lst vs)) (r:Aj K ρ H ys ws) :
  BW K ρ (S.set n (.lst ys)) (upd H a (.lst ws))/\Le K ρ H ρ (upd H a (.lst ws)):=by
 have le:Le K ρ H ρ (upd H a (.lst ws)):=Le.write hn (by rw [e];trivial);exact s.write (ho:=.lst ws) (o:=.lst ys) hn ⟨_,BU,r.mono le⟩
end
section
variable {X:Cx} {E:EW}
theorem range_getD {α:Type} (d:α) (bs:List α):(Be bs.length).map (λi=>bs.getD i d)=bs:=by
 apply GU
 intro i;rw [Ao]
 by_cases h:i < bs.length
 ·rw [Dh h]
  simp [List.getD,h]
 ·rw [CO.mpr (by simpa using h),CO.mpr (by simpa using h)]
  rfl
theorem Yb {bs:List Bool} {its:List AB} (r:BK (bs.map V.bl) its) {i:Nat} {v:AB} (h:its.toArray[i]?=some v):v=.bool (bs.getD i false):=by
 have h':its[i]?=some v:=by simpa using h
 obtain ⟨hi,e⟩:=AJ.mp h'
 have hb:i < bs.length:=by have:=r.length;simp at this;lia
 obtain ⟨u,hu,ru⟩:=r.get (show (bs.map V.bl)[i]?=some (V.bl bs[i]) by simp [hb]);rw [h'] at hu;cases hu;rw [show v=Hb bs[i] from ru];simp [List.getD,hb]
def Wc (K:AA) (f:List Bool->Bool):List V->Hp->VK->Prop:=λxs H Q=>∃p bs,xs=[.ref p]/\(SqL K H p (bs.map V.bl)∨SqT K H p (bs.map V.bl))/\Q (.bl (f bs)) H
theorem SQ {pins:List (AE×Obj)} {s:AD} {σ:St} {H:Hp} {p:AE} {bs:List Bool} {R:AB->AD->Prop} {E:AB->AD->Prop} (hc:X.calm=true) (I:Inv X pins σ H s) (hq:SqL X.K H p (bs.map V.bl)∨SqT X.K H p (bs.map V.bl))
  (h:∀itv s2,(∃I fp wr n P St tr,itv=Ap I/\Walks X.prog X.w X.A.in1 I fp wr n P St/\St 0 s2.heap/\TruthOf X.prog X.w X.A.in1 P tr/\(Be n).map tr=bs /\
   ∀(h':BG) (tk:Nat),(∀b o,¬b∈wr->s2.heap.get? b=some o->h'.get? b=some o)->Inv X pins σ H { s2 with heap:=h',toks:=tk })->R itv s2) :
  Ab (AR X.prog X.w) X.A.in1 (aJ (.ref p)) R E s:=by
 have hh:X.A.in1.handled=none:=I.ok.hd hc
 have fin:∀(its:List AB),BK (bs.map V.bl) its->(Be its.toArray.size).map (λi=>bs.getD i false)=bs:=λits r=>by
  have:its.toArray.size=bs.length:=by have:=r.length;simp at this;simpa using this.symm
  rw [this,range_getD]
 have tru:∀(its:List AB),BK (bs.map V.bl) its->TruthOf X.prog X.w X.A.in1 (λi v=>its.toArray[i]?=some v) (λi=>bs.getD i false):=λits r i v s Q E hv q=>by
  rw [Yb r hv];exact Cf q
 have kp:∀(ob:Obj) (h':BG) (tk:Nat),(∀b o,¬b∈[s.heap.objs.size]->(s.heap.push ob).get? b=some o->h'.get? b=some o)->Inv X pins σ H { s with heap:=h',toks:=tk }:=λob h' tk k=>
  I.kept λb o e=>k b o (by simpa using Ag (AT e)) (AF _ e)
 rcases hq with hq | hq
 ·obtain ⟨its,r',pl,hz⟩:=I.list hq
  refine Cg pl.isList (h _ _ ⟨s.heap.objs.size,_,_,_,_,_,_,rfl,UH hh _ p (Ag (AT pl.isList.choose_spec.1)) its.toArray,⟨⟨_,AU _ rfl,rfl,rfl⟩,?_⟩,tru its r',fin its r',kp _⟩)
  exact pl.isList.at λo e=>AF _ e
 ·obtain ⟨its,r',pl,hz⟩:=I.tuple hq
  have pt:s.heap.IsTuple p its.toArray:=pl;refine Gv pt (h _ _ ⟨s.heap.objs.size,_,_,_,_,_,_,rfl,RG hh _ p (Ag pl.lt) its.toArray,⟨⟨_,AU _ rfl,rfl,rfl⟩,?_⟩,tru its r',fin its r',kp _⟩);obtain ⟨o,e,c⟩:=pt;exact ⟨o,AF _ e,c⟩
theorem VX (hc:X.calm=true):Ej X (.builtin "all") (Wc X.K λbs=>bs.all id):=by
 intro pins s σ H xs us Q I r h;obtain ⟨p,bs,rfl,hq,q⟩:=h;obtain ⟨u,rfl,rx⟩:=vals1 r;cases rx;refine call_all_walk (SQ hc I hq λitv s2 ⟨J,fp,wr,n,P,St,tr,e,W,st,tru,eb,kp⟩=>⟨J,fp,wr,n,P,St,tr,e,W,st,tru,λh' tk k=>⟨.bl _,H,kp h' tk k,rfl,?_⟩⟩);rw [<-eb] at q;dsimp only at q;rw [Q9] at q;exact q
def SR:List D->Option (List Bool)
 | []=>some []
 | .bl b :: ds=>(SR ds).map (b :: ·)
 | _ :: _=>none
theorem T5 {K:AA} {ρ:List AE} {H:Hp}:∀ {ds:List D} {vs:List V} {bs:List Bool},Aj K ρ H ds vs->SR ds=some bs->vs=bs.map V.bl
 | _,_,_,.nil,h=>by cases h;rfl
 | .bl b :: ds,_,bs,.cons r t,h=>by
  unfold SR at h
  cases hq:SR ds with
  | none=>rw [hq] at h;cases h
  | some cs=>rw [hq] at h;cases h;cases r;rw [T5 t hq];rfl
 | .non :: _,_,_,.cons r t,h=>by cases h
 | .int _ :: _,_,_,.cons r t,h=>by cases h
 | .str _ :: _,_,_,.cons r t,h=>by cases h
 | .tup _ :: _,_,_,.cons r t,h=>by cases h
 | .fro _ :: _,_,_,.cons r t,h=>by cases h
 | .ref _ :: _,_,_,.cons r t,h=>by cases h
 | .exc _ :: _,_,_,.cons r t,h=>by cases h
def Zl (f:List Bool->Bool) (ds:List D) (S:Sto):Res D:=match SR ds with
 | some bs=>.ok (.bl (f bs)) S
 | none=>.bad
theorem WR {f:List Bool->Bool}:Zv X.K (Wc X.K f) (Zl f):=λρ H S ds q xs d S' Q hs rr sq hm k=>by
 unfold Zl at hm;split at hm
 ·rename_i bs hb
  cases hm;rw [T5 rr hb] at sq;exact ⟨q,bs,rfl,sq,k ρ H _ .refl hs (.bl _)⟩
 ·cases hm
abbrev Zs:=Zl λbs=>bs.all id
def EA:List D->Option (List Int)
 | []=>some []
 | .int b :: ds=>(EA ds).map (b :: ·)
 | _ :: _=>none
theorem Gj:∀ {ds:List D} {ns:List Int},EA ds=some ns->ds=ns.map D.int
 | [],_,h=>by cases h;rfl
 | .int b :: ds,ns,h=>by
  unfold EA at h
  cases hq:EA ds with
  | none=>rw [hq] at h;cases h
  | some cs=>rw [hq] at h;cases h;rw [Gj hq];rfl
 | .non :: _,_,h=>by cases h
 | .bl _ :: _,_,h=>by cases h
 | .str _ :: _,_,h=>by cases h
 | .tup _ :: _,_,h=>by cases h
 | .fro _ :: _,_,h=>by cases h
 | .ref _ :: _,_,h=>by cases h
 | .exc _ :: _,_,h=>by cases h
variable {e:Expr} {m:ME} {ml:ML} {p pos:Pos}
def tyD (d:D) (S:Sto):Option String:=match d with
 | .non=>some "NoneType"
 | .bl _=>some "bool"
 | .int _=>some "int"
 | .str _=>some "str"
 | .tup _=>some "tuple"
 | .ref n=>match S[n]? with
  | some (.lst _)=>some "list"
  | some (.dK _)=>some "dict"
  | some (.dT _)=>some "dict"
  | _=>none
 | .fro _=>none
 | .exc _=>none
theorem ay {K:AA} {ρ:List AE} {S:Sto} {H:Hp} {d:D} {x:V} {T:String} (s:BW K ρ S H) (r:BM K ρ H d x) (h:tyD d S=some T):JF K H x (.type T):=by
 cases r with
 | non=>cases h;exact .non
 | bl b=>cases h;exact .bl b
 | int i=>cases h;exact .int i
 | str i=>cases h;exact .str i
 | tup h1 _=>cases h;exact .tup h1
 | fro _ _=>cases h
 | exc _ _=>cases h
 | @ref n a hn=>
  obtain ⟨o,ho,ro⟩:=s.there hn;unfold tyD at h;simp only [ho] at h
  cases o with
  | lst es=>cases h;obtain ⟨vs,e,rr⟩:=ro;exact .lst e
  | dK es=>cases h;obtain ⟨vs,e,rr⟩:=ro;exact .dK e
  | dT es=>cases h;obtain ⟨vs,e,rr⟩:=ro;exact .dT e
  | ins _ _=>cases h
def rIsi (K:AA) (c:V) (cv:AB):List V->Hp->VK->Prop:=λxs H Q=>∃x t b,xs=[x,c]/\JF K H x t/\Bs K t cv=some b/\Q (.bl b) H
theorem Xx {c:V} {cv:AB} (hv:∀u,RelV c u->u=cv):Ej X (.builtin "isinstance") (rIsi X.K c cv):=by
 intro pins s σ H xs us Q I r h;obtain ⟨x,t,b,rfl,ty,e,q⟩:=h;obtain ⟨u,w,rfl,r1,r2⟩:=vals2 r;rw [hv w r2]
 exact OJ I r1 ty e λtk=>⟨.bl b,H,I.tok tk,rfl,q⟩
def aA (c T:String):Option Bool:=if T==c then some true else if T=="bool"&&c=="int" then some true else if ["NoneType", "bool", "int", "str", "tuple", "list", "dict"].contains T&&["bool", "int", "str", "tuple", "list", "dict"].contains c then some false else none
end
def IC {α:Type} (r r':Res α):Res α:=match r with
 | .bad=>r'
 | r=>r
theorem Ui {α:Type} (r r':Res α):IC r r'=r∨IC r r'=r':=by cases r <;> simp [IC]
def op2 (f g:D->D->Sto->Res D):D->D->Sto->Res D:=λx y S=>IC (f x y S) (g x y S)
theorem W9 (f g:D->D->Sto->Res D) (ma mb:ME) (l:Lo) (S:Sto):m2 (op2 f g) ma mb l S=m2 f ma mb l S∨m2 (op2 f g) ma mb l S=m2 g ma mb l S:=by
 unfold m2
 cases ma l S with
 | ok x S1=>
  dsimp only [Res.bind]
  cases mb l S1 with
  | ok y S2=>
   dsimp only [Res.bind];unfold op2
   rcases Ui (f x y S2) (g x y S2) with e | e <;> rw [e] <;> simp
  | err c S2=>exact .inl rfl
  | bad=>exact .inl rfl
 | err c S1=>exact .inl rfl
 | bad=>exact .inl rfl
section
variable {X:Cx} {E:EW} {e o i:Expr} {pos:Pos} {m m1 m2':ME}
theorem cR {m m1 m2:ME} (h1:GE X E e m1) (h2:GE X E e m2) (h:∀l S,m l S=m1 l S∨m l S=m2 l S):GE X E e m:=λpins s σ H Q I ⟨ρ,l,S,hl,hs,a⟩=>by
 rcases h l S with q | q
 ·rw [q] at a;exact h1 pins s σ H Q I ⟨ρ,l,S,hl,hs,a⟩
 ·rw [q] at a;exact h2 pins s σ H Q I ⟨ρ,l,S,hl,hs,a⟩
theorem XZ {t t1 t2:MT} (h1:GT X E e t1) (h2:GT X E e t2) (h:∀l S,t l S=t1 l S∨t l S=t2 l S):GT X E e t:=λpins s σ H Q I ⟨ρ,l,S,hl,hs,a⟩=>by
 rcases h l S with q | q
 ·rw [q] at a;exact h1 pins s σ H Q I ⟨ρ,l,S,hl,hs,a⟩
 ·rw [q] at a;exact h2 pins s σ H Q I ⟨ρ,l,S,hl,hs,a⟩
theorem cP {tg:Expr} {t t1 t2:MI} (h1:GI X E tg e t1) (h2:GI X E tg e t2) (h:∀l S,t l S=t1 l S∨t l S=t2 l S):GI X E tg e t:=λpins s σ H R I ⟨ρ,l,S,hl,hs,a⟩=>by
 rcases h l S with q | q
 ·rw [q] at a;exact h1 pins s σ H R I ⟨ρ,l,S,hl,hs,a⟩
 ·rw [q] at a;exact h2 pins s σ H R I ⟨ρ,l,S,hl,hs,a⟩
theorem Z8 {m m1 m2:ME} (h:∀l S,m l S=m1 l S∨m l S=m2 l S) (l:Lo) (S:Sto):mB m l S=mB m1 l S∨mB m l S=mB m2 l S:=by
 unfold mB
 rcases h l S with q | q <;> rw [q] <;> simp
abbrev inA (neg:Bool):=op2 (inD neg) (LM neg)
variable {mi mo:ME}
theorem aC (hu:X.A.units+64 < Cy) (hi:GE X E i mi) (ho:GE X E o mo) (h1:Bz .In o=false:=by with_unfolding_all rfl):GT X E (.Compare i [.In] [o] pos) (mB (m2 (inA false) mi mo)):=
 XZ (DI (eI hu) hi ho h1) (cK (by lia) hi ho h1) (Z8 λ_ _=>W9 _ _ _ _ _ _)
theorem Qj (hu:X.A.units+64 < Cy) (hi:GE X E i mi) (ho:GE X E o mo) (h1:Bz .NotIn o=false:=by with_unfolding_all rfl):GT X E (.Compare i [.NotIn] [o] pos) (mB (m2 (inA true) mi mo)):=
 XZ (DI (Wv hu) hi ho h1) (U1 (by lia) hi ho h1) (Z8 λ_ _=>W9 _ _ _ _ _ _)
abbrev ixA:=op2 ixD Tw
theorem E2 (hu:X.A.units+64 < Cy) (ho:GE X E o mo) (hi:GE X E i mi) (hs:Pn i:=by intro _ _;rfl):GE X E (.Subscript o i pos) (m2 ixA mo mi):=
 cR (aD eG ho hi hs) (Za (by lia) ho hi hs) λ_ _=>W9 _ _ _ _ _ _
def Ht (d:D):Gq:=match d with
 | .tup ds=>HV ds
 | d=>Fg d
def GB (m:ME):MI:=λe S=>(m e S).bind λd S1=>match Ht d S1 with
 | some _=>.ok (Ht d) S1
 | none=>.bad
theorem HE {tg:Expr} (h:GE X E e m):GI X E tg e (GB m):=cP (cO h) (cM h) λl S=>by
 unfold GB ej aB
 cases m l S with
 | ok d S1=>
  dsimp only [Res.bind]
  cases d <;> first | exact .inl rfl | exact .inr rfl
 | err c S1=>exact .inl rfl
 | bad=>exact .inl rfl
def PD (m:ME):ME:=λe S=>(m e S).bind λd S1=>match Ga d S1 with
 | some ds=>.ok (.int ds.length) S1
 | none=>.bad
variable {p:Pos} {ml:ML} {es:List Expr}
theorem Xb (hg:Gl X "len") (hm:X.mg "len" = none) (h:GE X E e m) (he:AN [e] X.env=(false,Ba e X.env) :: AN [] X.env:=by rfl):GE X E (.Call (.Name "len" p) [e] [] pos) (PD m):=
 (Lc Pi bE hg hm YG (Tg h) (by decide) (by decide) he).imp λσ H Q ⟨ρ,l,S,hl,hs,a⟩=>⟨ρ,l,S,hl,hs,by
  have q:mQ eY (Iz m) l S=PD m l S:=by
   unfold mQ Iz PD
   cases m l S with
   | ok d S1=>
    dsimp only [Res.bind]
    cases Ga d S1 <;> rfl
   | err c S1=>rfl
   | bad=>rfl
  rw [q];exact a⟩
theorem ZX {a b:Expr} (hc:X.calm=true) (hg:Gl X "min") (hm:X.mg "min" = none) (h:GA X E [a,b] ml) (he:AN [a,b] X.env=(false,Ba a X.env) :: AN [b] X.env:=by rfl) (hpl:(Bi pos (AN [b] X.env)).any (·.1)=false:=by rfl):GE X E (.Call (.Name "min" p) [a,b] [] pos) (mQ OC ml):=
 Tn (VQ hc) Zt hg hm Lq h (by decide) (by decide) he hpl
theorem ZY {a b:Expr} (hc:X.calm=true) (hg:Gl X "max") (hm:X.mg "max" = none) (h:GA X E [a,b] ml) (he:AN [a,b] X.env=(false,Ba a X.env) :: AN [b] X.env:=by rfl) (hpl:(Bi pos (AN [b] X.env)).any (·.1)=false:=by rfl):GE X E (.Call (.Name "max" p) [a,b] [] pos) (mQ OD ml):=
 Tn (VU hc) Zu hg hm Lr h (by decide) (by decide) he hpl
theorem cS (hc:X.calm=true) (hg:Gl X "all") (hm:X.mg "all" = none) (h:GE X E e m) (he:AN [e] X.env=(false,Ba e X.env) :: AN [] X.env:=by rfl):GE X E (.Call (.Name "all" p) [e] [] pos) (mQ Zs (Iz m)):=
 Lc (VX hc) WR hg hm fP (Tg h) (by decide) (by decide) he
end
abbrev MJ:=Str->Lo->Sto->Res Str
def Uv:MJ:=λacc _ S=>if acc.length<=sizeLine then .ok acc S else .bad
def HX (m:ME) (r:MJ):MJ:=λacc e S=>(m e S).bind λd S1=>match d with
 | .str y=>if (acc++y).length<=sizeLine then r (acc++y) e S1 else .bad
 | _=>.bad
def gJ (K:AA) (E:EW) (m:MJ) (acc:Str):TE:=λσ H Q=>∃ρ e S,Dm K ρ H e σ/\BW K ρ S H/\BO K (λc=>E c σ) ρ H (m acc e S) λy S'=>∀ρ' H',Le K ρ H ρ' H'->BW K ρ' S' H'->Q (.str y) H'
def GJ (X:Cx) (E:EW) (es:List Expr) (m:MJ):Prop:=∀(acc:Str) (pins:List (AE×Obj)) (s:AD) (σ:St) (H:Hp) (Q:VK),Inv X pins σ H s->gJ X.K E m acc σ H Q->Ab (AR X.prog X.w) X.A (joinParts acc (evalEach es X.env)) (EP X pins σ Q) X.xe s
def OF (m:MJ):ME:=λe S=>(m Er e S).bind λy S1=>.ok (.str y) S1
def R4 (m:ME):ME:=λe S=>(m e S).bind λd S1=>match d with
 | .int i=>if i.natAbs.log2 < 1920 then .ok (.str (toString i)) S1 else .bad
 | _=>.bad
section
variable {X:Cx} {E:EW} {e a b:Expr} {es:List Expr} {pos:Pos} {m:ME} {mj:MJ}
theorem SG:GJ X E [] Uv:=λacc pins s σ H Q I ⟨ρ,l,S,hl,hs,hm⟩=>by
 unfold Uv at hm;split at hm
 ·rename_i hz
  exact joinParts_nil ⟨.str acc,H,I.tok _,⟨_,rfl⟩,hm ρ H .refl hs⟩ hz
 ·exact hm.elim
theorem E7 (h:GE X E e m) (hr:GJ X E es mj):GJ X E (e :: es) (HX m mj):=λacc pins s σ H Q I ⟨ρ,l,S,hl,hs,hm⟩=>by
 show Ab _ _ (joinParts acc (Ba e X.env :: evalEach es X.env)) _ _ s;refine joinParts_cons (thn (h pins s σ H (λx H1=>∃y,x=.str y/\(acc++y).length<=sizeLine/\gJ X.K E mj (acc++y) σ H1 Q) I ⟨ρ,l,S,hl,hs,BO.seq hm λd S1 hm ρ1 H1 x l1 s1 r1=>?_⟩) λu s1 ⟨x,H1,I1,rx,y,ex,hz,q⟩=>?_)
 ·cases d <;> first | exact hm.elim | skip
  dsimp only at hm;split at hm
  ·rename_i y hz
   cases r1;exact ⟨y,rfl,hz,ρ1,l,S1,hl.mono l1,s1,hm.go l1 λ_ _ k ρ2 H2 l2 s2=>k ρ2 H2 (l1.trans l2) s2⟩
  ·exact hm.elim
 ·subst ex
  obtain ⟨t,rfl⟩:=rx;exact ⟨hz,hr _ pins s1 σ H1 Q I1 q⟩
theorem PV (h:GJ X E (a :: b :: es) mj):GE X E (.JoinedStr (a :: b :: es) pos) (OF mj):=λpins s σ H Q I ⟨ρ,l,S,hl,hs,hm⟩=>by
 refine JoinedStr_many (h Er pins s σ H Q I ⟨ρ,l,S,hl,hs,BO.seq hm λy S1 hm ρ1 H1 l1 s1=>hm ρ1 H1 _ l1 s1 (.str y)⟩)
theorem PX (h:GE X E e m):GE X E (.FormattedValue e (-1) none pos) (R4 m):=λpins s σ H Q I ⟨ρ,l,S,hl,hs,hm⟩=>by
 refine FormattedValue_plain (thn (h pins s σ H (λx H1=>∃i:Int,x=.int i/\i.natAbs.log2 < 1920/\Q (.str (toString i)) H1) I ⟨ρ,l,S,hl,hs,BO.seq hm λd S1 hm ρ1 H1 x l1 s1 r1=>?_⟩) λu s1 ⟨x,H1,I1,rx,i,ex,hz,q⟩=>?_)
 ·cases d <;> first | exact hm.elim | skip
  dsimp only at hm;split at hm
  ·rename_i hz
   cases r1;exact ⟨_,rfl,hz,hm ρ1 H1 _ l1 s1 (.str _)⟩
  ·exact hm.elim
 ·subst ex
  obtain ⟨t,rfl⟩:=rx;exact wpAny_formatField_int hz ⟨.str (toString i),H1,I1.tok _,⟨_,rfl⟩,q⟩
end
def Jm (mo ma:ME):ME:=λe S=>(mo e S).bind λd S1=>match atL d S1 with
 | some (n,_)=>(ma e S1).bind λy S2=>match atL d S2,atL y S2 with
  | some (_,xs),some (k,ys)=>if k≠n/\xs.length+ys.length<=sizeLine then .ok .non (S2.set n (.lst (xs++ys))) else .bad
  | _,_=>.bad
 | none=>.bad
section
variable {X:Cx} {E:EW} {o e:Expr} {apos cpos:Pos} {mo ma:ME}
theorem U2 (ho:GE X E o mo) (ha:GE X E e ma) (hbase:DR o "extend" X.env (Ba o X.env)=Ba o X.env:=by rfl)
  (hfew:((Bi cpos (AN [e] X.env)).all (λx=>!x.1)&&(Eo cpos (Ch [] X.env)).all (λx=>x.1.isSome)
    &&decide ([e].length+([]:List FU).length+(if ([]:List FU).isEmpty then 0 else 1) < 30))=true:=by rfl)
  (hline:(apos.endLine==cpos.line)=true:=by rfl) (hs:AN [e] X.env=(false,Ba e X.env) :: AN [] X.env:=by rfl) (hplain:(Bi cpos (AN [] X.env)).any (·.1)=false:=by rfl) :
  GE X E (.Call (.Attribute o "extend" apos) [e] [] cpos) (Jm mo ma):=(TQ Nh PySem.F.slot_list_extend PySem.F.type_list_extend Ul ho (CV ha D4 hs) hbase hfew hline hs hplain).imp λσ H Q ⟨ρ,l,S,hl,hs,hm⟩=>by
 refine ⟨ρ,l,S,hl,hs,hm.seq λd S1 hm ρ1 H1 v l1 s1 r1=>?_⟩
 cases hq:atL d S1 with
 | none=>rw [hq] at hm;exact hm.elim
 | some z=>
  obtain ⟨n,xs0⟩:=z;rw [hq] at hm;dsimp only at hm;obtain ⟨rfl,h0,a,vs0,rfl,hn,e0,_⟩:=Pj s1 r1 hq;refine ⟨.inl ⟨rfl,vs0,.inl (.inl e0)⟩,ρ1,l,S1,hl.mono l1,s1,(hm.later l1).seq λy S2 hm ρ2 H2 u l2 s2 r2=>?_⟩;split at hm
  ·rename_i n' xs k ys h2 h3
   split at hm
   ·rename_i hz
    obtain ⟨e',h4,a',vs,ea,hn2,e2,rr⟩:=Pj s2 (r1.mono l2) h2;cases e';cases ea;obtain ⟨ey,h5,p,ws,rfl,hk,e3,rw'⟩:=Pj s2 r2 h3;obtain ⟨s3,l3⟩:=Ys s2 hn2 e2 (rr.append rw');exact ⟨a,p,vs,ws,rfl,rfl,e2,e3,by rw [<-rr.length,<-rw'.length];exact hz.2,hm ρ2 _ _ (l1.trans (l2.trans l3)) s3 .non⟩
   ·exact hm.elim
  ·exact hm.elim
end
def isB (t A:String):Option Bool:=if ["NoneType", "bool", "int", "str", "tuple", "list", "dict"].contains A then aA t A else none
def mIs (tab:String->Option Bool) (tabC:AE->Option Bool) (m:ME):ME:=λe S=>(m e S).bind λd S1=>match d with
 | .exc C=>match tabC C with
  | some b=>.ok (.bl b) S1
  | none=>.bad
 | d=>match tyD d S1 with
  | some T=>match tab T with
   | some b=>.ok (.bl b) S1
   | none=>.bad
  | none=>.bad
def YV (sc:Fb) (x:Str):Bool:=decide (sc.names.lookup x=some .local)||decide (sc.names.lookup x=some .cell)||decide (sc.names.lookup x=some .free)
def Xt (X:Cx) (scope:Fb) (own N':List Str):Bool:=
 decide (scope.kind=.function)&&scope.names.all (λy=>!decide (y.2=.cell))&&scope.names.all (λy=>!decide (y.2=.local)||decide (scope.names.lookup y.1=some .local)) &&
 scope.names.all (λy=>!decide (y.2=.free)||decide (X.env.kindOf y.1=some .cell)||decide (X.env.kindOf y.1=some .free))&&decide (N'.length=own.length+X.N.length) &&
 ((N'.drop own.length).zip X.N).all (λp=>!YV (GK scope X.env) p.1||(decide (p.1=p.2)&&YV X.env.scope p.1&&(decide ((GK scope X.env).names.lookup p.1=some .cell)||decide ((GK scope X.env).names.lookup p.1=some .free))&&!decide (X.env.kindOf p.1=some .local))) &&
 (GK scope X.env).names.all (λy=>(!decide (y.2=.cell)&&!decide (y.2=.free))||scope.names.any (λz=>decide (z=(y.1,Fc))))
theorem P1 {sc:Fb} {x:Str}:YV sc x=true↔Vis sc x:=by
 unfold YV Vis;simp [or_assoc]
theorem HJ {X:Cx} {scope:Fb} {own N':List Str} (h:Xt X scope own N'=true):JH X scope own N':=by
 unfold Xt at h;simp only [Br] at h;obtain ⟨⟨⟨⟨⟨⟨h1,h2⟩,h3⟩,h4⟩,h5⟩,h6⟩,h7⟩:=h;rw [DZ] at h2 h3 h4 h6 h7;refine ⟨of_decide_eq_true h1,λy hy=>?_,λy hy e=>?_,λy hy e=>?_,of_decide_eq_true h5,λi x e v=>?_,λx hx=>?_⟩
 ·simpa using h2 y hy
 ·have:=h3 y hy
  simpa [e] using this
 ·have:=h4 y hy
  simpa [e] using this
 ·have hlen:=of_decide_eq_true h5
  have hi:own.length+i < N'.length:=(AJ.mp e).1
  have hx:i < X.N.length:=by lia
  have hm:(x,X.N[i])∈(N'.drop own.length).zip X.N:=by
   rw [List.mem_iff_getElem?];refine ⟨i,?_⟩;rw [List.getElem?_zip_eq_some];exact ⟨by rw [Fe];exact e,by simp [hx]⟩
  have:=h6 _ hm;rw [P1.mpr v] at this;simp only [Bu,aV,Br,Bool.or_eq_true,decide_eq_true_eq,EJ,decide_eq_false_iff_not] at this;obtain ⟨⟨⟨z1,z2⟩,z3⟩,z4⟩:=this;exact ⟨by rw [z1];simp [hx],P1.mp z2,z3,z4⟩
 ·have key:∀k,(GK scope X.env).names.lookup x=some k->(k=.cell∨k=.free)->(x,Fc)∈scope.names:=λk e hk=>by
   have:=h7 _ (Ce e)
   rcases hk with rfl | rfl
   ·simpa using this
   ·simpa using this
  rcases hx with e | e
  ·exact key _ e (.inl rfl)
  ·exact key _ e (.inr rfl)
structure Dfn (K:AA) (mg:Str->Option AB) (x qual:Str) (st:CW) (ps:List Str) where
 f:AE
 fd:CQ
 F:Fun K x qual st f fd
 b:Binds K fd ps []
 m:mg x=some (.ref f)
theorem Dfn.kp {K:AA} {mg:Str->Option AB} {x qual:Str} {st:CW} {ps:List Str} (d:Dfn K mg x qual st ps):D0 K (.ref d.f)=true:=d.F.kp
structure Mtd (K:AA) (x qual:Str) (st:CW) (ps:List Str) where
 f:AE
 fd:CQ
 F:Fun K x qual st f fd
 b:Binds K fd ps []
structure Own (K:AA) (mg:Str->Option AB) (x:Str) (C f:AE):Prop where
 cl:Cls K C
 mk':Mk K C f
 m:mg x=some (.ref C)
structure Xcl (K:AA) (mg:Str->Option AB) (x:Str) (C:AE):Prop where
 xc:XCl K C
 m:mg x=some (.ref C)
structure XIs (K:AA) (C:AE):Prop where
 cl:(Ih K C).isSome=true
 ga:BY K (.ref C) "__getattribute__" = some (some (.builtin "BaseException.__getattribute__"))
 gn:BY K (.ref C) "__getattr__" = some none
 ca:BY K (.ref C) "__class__" = some (some (.builtin "object.__class__"))
 sp:JM K (.builtin "object.__class__") "__get__" = some (some (.builtin "getset_descriptor.__get__"))
 tk:K6 K (.builtin "object.__class__")=some true
 ob:Fs K C (.type "object")=some true
 be:Fs K C (.type "BaseException")=some true
theorem Q1.inst {h:BG} {a C:AE} {o:Obj} (g:h.get? a=some o) (x:Q1 o C):Vq h a o C none:=by
 obtain ⟨x1,x2,vs,x3⟩:=x;refine ⟨g,x1,?_,?_⟩
 ·unfold PySem.W.notCls;rw [x3]
 ·rw [x2];trivial
section
variable {prog:Aa} {w:As} {A:Ak} {E:AB->AD->Prop} {s:AD} {K:AA} {a C:AE} {o:Obj}
theorem U8 {M:Pr} {nameV:AB} {Q:Unit->AD->Prop} (c:XIs K C) (X:K.In s.heap) (g:s.heap.get? a=some o) (x:Q1 o C) (h:Q () s):Ab M A (Oa "BaseException.__getattribute__" ⟨[.ref a,nameV],[]⟩) Q E s:=by
 have I:=x.inst g;obtain ⟨hh,gg,d,t,os⟩:=s;have L0:=I.type (M:=M);have LI:PySem.W.Looks M hh (isInstance (.ref a) (.type "BaseException")) true:=L0.andThen (PySem.W.looks_mroIn X c.be)
 have k1:builtinKind "BaseException.__getattribute__" = some .slot:=by decide +kernel
 have k2:splitId "BaseException.__getattribute__" = some ("BaseException", "__getattribute__"):=by decide +kernel
 have k3:=PySem.F.args_bexc_ga (.ref a) nameV;simp only [Oa,k1,k2];refine AC (LI.at ?_)
 repeat (any_goals (first | assumption | wp_step))
theorem U6 {tk:Tok} {Q:Fin->AD->Prop} (c:XIs K C) (X:K.In s.heap) (g:s.heap.get? a=some o) (x:Q1 o C) (h:Q (.done (.ret (.ref C))) s) :
  Ab (AR prog w) A (Builtin.«object.__getattribute__» ⟨[.ref a,.str "__class__" tk],[]⟩) Q E s:=by
 have I:=x.inst g;obtain ⟨hh,gg,d,t,os⟩:=s;have L0:=I.type (M:=AR prog w)
 have hf:Vg K C none "__class__" = some (.bind (.builtin "getset_descriptor.__get__") (.builtin "object.__class__")):=by
  obtain ⟨cd,hcd⟩:=Nj.mp c.cl;unfold Vg;rw [hcd,c.ca];simp only [AL];rw [c.sp];simp only [AL];rw [c.tk];rfl
 have L1:=PySem.W.looks_find (M:=AR prog w) X I hf;unfold Builtin.«object.__getattribute__»;refine AC (AH ?_);dsimp only;refine AC (AH (AC (L0.at (AC (L1.at ?_)))));dsimp only;unfold X9;dsimp only;refine AC (Cn (Lh (PySem.W.class_get X I c.ob ?_)));exact AH h
theorem U7 {Q:Option AB->AD->Prop} (c:XIs K C) (X:K.In s.heap) (g:s.heap.get? a=some o) (x:Q1 o C) (h:Q (some (.ref C)) { s with toks:=s.toks+1 }):Ab (AR prog w) A (getAttr? (.ref a) "__class__") Q E s:=by
 have I:=x.inst g;obtain ⟨hh,gg,d,t,os⟩:=s;have L0:=I.type (M:=AR prog w);have L1:=Hm (M:=AR prog w) X c.ga;have L2:=Hm (M:=AR prog w) X c.gn;unfold getAttr? getAttrBy? getAttrBy;refine AC (wpAny_mkText (AC (FT (Cn (AC (L0.at (AC (L1.at ?_))))))))
 have hx:(onTheHeap (Ap C)&&Zy "BaseException.__getattribute__"==Zy "object.__getattribute__")=false:=by show (true&&_)=false;decide +kernel
 dsimp only;rw [qY (by rw [hx];exact AW)];unfold getAttrByItsOwn hookBefore;refine AC ?_;rw [qX (show onTheHeap (Ap C)=true from rfl)];refine L2.at (AC (FT (Cn ?_)));unfold callGetattribute;rw [qY (by simp)];unfold boundAndCalled;refine AC (YB (Ln.ga.bind (.ref a)) ?_);refine Lh (KC Ln.ga.plain PySem.F.entry_bexc_ga (U8 c X g x (U6 c X g x ?_)));exact AH (AH h)
theorem XI (c:XIs K C):PySem.W.KitX K (.ref a) (.ref C) (λh=>∃o,h.get? a=some o/\Q1 o C) where
 ty:=λM h X ⟨o,g,x⟩=>(x.inst g).type
 it:=λM h X _=>by
  have z:=c.cl;unfold Ih at z;split at z
  ·rename_i hk
   intro A' Q' E' s' k q;unfold isType loadHead;exact AC (wpAny_loadPart (k _ _ (X _ _ hk)) (AH q))
  ·cases z
 ne:=λh tp dd its n sl X htp=>by
  refine Bool.eq_false_iff.mpr λq=>?_
  have e:C=tp:=Ap.inj (beq_iff_eq.mp q);subst e;have z:=c.cl;unfold Ih at z;split at z
  ·rename_i hk
   have y:=(X _ _ hk).symm.trans htp;cases y
  ·cases z
 ca:=λX ⟨o,g,x⟩ k=>U7 c X g x k
end
def rIs (K:AA) (c:V) (cv:AB):List V->Hp->VK->Prop:=λxs H Q=>(∃x t b,xs=[x,c]/\JF K H x t/\Bs K t cv=some b/\Q (.bl b) H) ∨
 ∃a o u C b,xs=[.ref a,c]/\H a=some (.frz o u)/\Q1 o C/\XIs K C/\Bs K (.ref C) cv=some b/\Q (.bl b) H
section
variable {X:Cx} {E:EW} {e ce:Expr} {p pos:Pos} {m:ME} {c:V} {cv:AB} {tab:String->Option Bool} {tabC:AE->Option Bool}
theorem Zk (hv:∀u,RelV c u->u=cv):Ej X (.builtin "isinstance") (rIs X.K c cv):=by
 intro pins s σ H xs us Q I r h
 rcases h with ⟨x,t,b,rfl,ty,e,q⟩ | ⟨a,o,u,C,b,rfl,ha,xo,xc,e,q⟩
 ·obtain ⟨v,w,rfl,r1,r2⟩:=vals2 r
  rw [hv w r2]
  exact OJ I r1 ty e λtk=>⟨.bl b,H,I.tok tk,rfl,q⟩
 ·obtain ⟨v,w,rfl,r1,r2⟩:=vals2 r
  rw [hv w r2];cases (show v=Ap a from r1);obtain ⟨g,_⟩:=(show Bx X.prog X.w H s.heap a (.frz o u) from I.hok a _ ha)
  exact BV (XI xc) I.kIn ⟨o,g,xo⟩ e (λz=>nomatch z) λtk=>⟨.bl b,H,I.tok tk,rfl,q⟩
theorem eo (hv:∀u,RelV c u->u=cv) (ht:∀T b,tab T=some b->Bs X.K (.type T) cv=some b) (hC:∀C b,tabC C=some b->XIs X.K C/\Bs X.K (.ref C) cv=some b)
  (hg:Gl X "isinstance") (hm:X.mg "isinstance" = none) (h:GE X E e m) (hce:PE X ce (tC c))
  (he:AN [e,ce] X.env=(false,Ba e X.env) :: AN [ce] X.env:=by rfl) (he2:AN [ce] X.env=(false,Ba ce X.env) :: AN [] X.env:=by rfl) (hpl:(Bi pos (AN [ce] X.env)).any (·.1)=false:=by rfl) :
  GE X E (.Call (.Name "isinstance" p) [e,ce] [] pos) (mIs tab tabC m):=
 (Gg (Zk hv) hg hm JJ (CV h (CV hce D4 he2) he) (by decide) (by decide) he hpl).imp λσ H Q ⟨ρ,l,S,hl,hs,hm⟩=>by
 refine ⟨ρ,l,S,hl,hs,hm.seq λd S1 hm ρ1 H1 x l1 s1 r1=>?_⟩
 have plainD:∀(z:BO X.K (λc=>E c σ) ρ H (match tyD d S1 with | some T=>(match tab T with | some b=>Res.ok (D.bl b) S1 | none=>.bad) | none=>.bad) λd S'=>∀ρ' H' x,Le X.K ρ H ρ' H'->BW X.K ρ' S' H'->BM X.K ρ' H' d x->Q x H'),rIs X.K c cv [x,c] H1 Q:=λhm=>by
  cases hq:tyD d S1 with
  | none=>rw [hq] at hm;exact hm.elim
  | some T=>
   rw [hq] at hm;dsimp only at hm
   cases hb:tab T with
   | none=>rw [hb] at hm;exact hm.elim
   | some b=>
    rw [hb] at hm;exact .inl ⟨x,_,b,rfl,ay s1 r1 hq,ht T b hb,hm ρ1 H1 _ l1 s1 (.bl _)⟩
 cases d with
 | exc C=>
  dsimp only at hm
  cases hb:tabC C with
  | none=>rw [hb] at hm;exact hm.elim
  | some b=>
   rw [hb] at hm
   cases r1 with
   | exc g x=>exact .inr ⟨_,_,_,C,b,rfl,g,x,(hC C b hb).1,(hC C b hb).2,hm ρ1 H1 _ l1 s1 (.bl _)⟩
 | _=>exact plainD hm
end
end L2
namespace Srt
open PySem PyProof.Rows
structure Ord (U:Ac->Prop) (lt:Ac->Ac->Bool):Prop where
 asym:∀x y,U x->U y->lt x y=true->lt y x=false
 ntr:∀x y z,U x->U y->U z->lt y x=false->lt z y=false->lt z x=false
theorem Ord.irr {U:Ac->Prop} {lt:Ac->Ac->Bool} (o:Ord U lt) {x:Ac} (h:U x):lt x x=false:=by
 cases e:lt x x with
 | false=>rfl
 | true=>exact (o.asym x x h h e).symm.trans e |>.symm▸rfl
def ix (xs:Array Ac) (i:Nat):Ac:=xs.getD i (.none,.none)
theorem Gi {xs ys:Array Ac} {i j:Nat} (h:xs[i]?=ys[j]?):ix xs i=ix ys j:=by
 unfold ix;rw [C9,C9,h]
theorem B4 {xs:Array Ac} {i:Nat} (h:i < xs.size):xs[i]?=some (ix xs i):=by
 unfold ix;rw [C9,getElem?_pos xs i h];rfl
theorem Uw {xs:Array Ac} {src d:Nat} (hs:src < xs.size) (hd:d<=src) (k:Nat) :
  ix (aM xs src d) k=if k=src - d then ix xs src else if src - d < k/\k<=src then ix xs (k - 1) else ix xs k:=by
 have e:=getElem?_bubble hs d hd k;split
 ·rename_i h;rw [qX h] at e;exact Gi e
 ·rename_i h
  rw [qY h] at e;split
  ·rename_i h2;rw [qX h2] at e;exact Gi e
  ·rename_i h2;rw [qY h2] at e;exact Gi e
theorem Cc {xs:Array Ac} {i j:Nat} (hj:j<=xs.size) (k:Nat) :
  ix (Gx xs i j ((j - i) / 2)) k=if i<=k/\k < j then ix xs (i+j - 1 - k) else ix xs k:=by
 have e:=getElem?_mirror_all (i:=i) hj k;split
 ·rename_i h;rw [qX h] at e;exact Gi e
 ·rename_i h;rw [qY h] at e;exact Gi e
section
variable {prog:Aa} {w:As} {A:Ak} {E:AB->AD->Prop} {s:AD} {a₀:Array Ac} {κ:Dk} {lt:Ac->Ac->Bool}
def Ha (prog:Aa) (w:As) (A:Ak) (s:AD) (a₀:Array Ac) (κ:Dk) (lt:Ac->Ac->Bool):Prop:=
 ∀x y,x∈a₀->y∈a₀->∀(Q:Bool->AD->Prop) (E:AB->AD->Prop),Q (lt x y) s->Ab (AR prog w) A (keyLt' κ x.1 y.1) Q E s
structure Good (a₀:Array Ac) (κ:Dk) (st:Ay):Prop where
 perm:(AM st).Perm a₀
 kind:kindOf st=κ
 failed:FZ st=none
theorem Good.size {st:Ay} (g:Good a₀ κ st):(AM st).size=a₀.size:=g.perm.size_eq
theorem Good.mem {st:Ay} (g:Good a₀ κ st) {i:Nat} (h:i < a₀.size):ix (AM st) i∈a₀:=by
 have h':i < (AM st).size:=by rw [g.size];exact h
 have e:=B4 h';have:=Bl e;exact A3.mp ((DK.mp g.perm).mem_iff.mp (A3.mpr this))
theorem Good.setArr {st:Ay} (g:Good a₀ κ st) {xs:Array Ac} (hp:xs.Perm (AM st)):Good a₀ κ (setArr st xs):=⟨hp.trans g.perm,g.kind,g.failed⟩
theorem Lw {st:Ay} {x y:Ac} {Q:Option Bool->Ay->Prop} (C:Ha prog w A s a₀ κ lt) (g:Good a₀ κ st) (hx:x∈a₀) (hy:y∈a₀) (h:Q (some (lt x y)) st):wpS (AR prog w) A E s (lt' x y) Q st:=by
 rw [lt'_eq];refine AG (En ?_);rw [g.kind];refine AG (wpS_lift (FT ?_));refine C x y hx hy _ _ ⟨rfl,?_⟩;exact AI h
theorem KG {st:Ay} {i j:Nat} {Q:Option Bool->Ay->Prop} (C:Ha prog w A s a₀ κ lt) (g:Good a₀ κ st) (hi:i < a₀.size) (hj:j < a₀.size) (h:Q (some (lt (ix (AM st) i) (ix (AM st) j))) st) :
  wpS (AR prog w) A E s (cx i j) Q st:=by
 rw [ltAt'_eq];refine AG (En ?_);show wpS _ _ _ _ (do let x <-elem' (AM st) i;let y <-elem' (AM st) j;lt' x y) Q st;rw [YE,YE,B4 (by rw [g.size];exact hi),B4 (by rw [g.size];exact hj)];exact AG (AI (AG (AI (Lw C g (g.mem hi) (g.mem hj) h))))
def Up (lt:Ac->Ac->Bool) (xs:Array Ac) (lo hi:Nat):Prop:=∀i j,lo<=i->i<=j->j < hi->lt (ix xs j) (ix xs i)=false
def Dn (lt:Ac->Ac->Bool) (xs:Array Ac) (lo hi:Nat):Prop:=∀i j,lo<=i->i<=j->j < hi->lt (ix xs i) (ix xs j)=false
def Out (xs ys:Array Ac) (lo hi:Nat):Prop:=∀i,(i < lo∨hi<=i)->ix ys i=ix xs i
theorem Out.refl {xs:Array Ac} {lo hi:Nat}:Out xs xs lo hi:=λ_ _=>rfl
theorem Out.trans {xs ys zs:Array Ac} {lo hi:Nat} (a:Out xs ys lo hi) (b:Out ys zs lo hi):Out xs zs lo hi:=λi h=>(b i h).trans (a i h)
theorem Up.out {xs ys:Array Ac} {lo hi l h:Nat} (u:Up lt xs l h) (o:Out xs ys lo hi) (d:h<=lo∨hi<=l):Up lt ys l h:=λi j h1 h2 h3=>by
 rw [o i (by lia),o j (by lia)];exact u i j h1 h2 h3
theorem Up.grow {st:Ay} (O:Ord (·∈a₀) lt) (g:Good a₀ κ st) {lo hi:Nat} (hs:hi < a₀.size) (u:Up lt (AM st) lo hi) (h0:lo < hi) (h:lt (ix (AM st) hi) (ix (AM st) (hi - 1))=false):Up lt (AM st) lo (hi+1):=λi j h1 h2 h3=>by
 by_cases hj:j < hi
 ·exact u i j h1 h2 hj
 ·have:j=hi:=by lia
  subst this
  by_cases hi':i=j
  ·subst hi';exact O.irr (g.mem hs)
  ·exact O.ntr _ _ _ (g.mem (by lia)) (g.mem (show j - 1 < _ by omega)) (g.mem hs) (u i (j - 1) h1 (by lia) (by lia)) h
theorem wpS_binarySort {st:Ay} {lo n ok:Nat} {Q:Bool->Ay->Prop} (C:Ha prog w A s a₀ κ lt) (O:Ord (·∈a₀) lt) (hn:lo+n<=a₀.size) (hok:ok<=n) (g:Good a₀ κ st) (u:Up lt (AM st) lo (lo+ok))
  (h:∀st',Good a₀ κ st'->Up lt (AM st') lo (lo+n)->Out (AM st) (AM st') lo (lo+n)->AO st'=AO st->Q true st'):wpS (AR prog w) A E s (binarySort' lo n ok) Q st:=by
 rw [binarySort'_eq]
 refine AG (B3 (BQ (I:=λk c st'=>c=(none,())/\Good a₀ κ st'/\Up lt (AM st') lo (lo+min k n)/\Out (AM st) (AM st') lo (lo+n)/\AO st'=AO st)
  (Q:=λc st'=>c=(none,())/\Good a₀ κ st'/\Up lt (AM st') lo (lo+n)/\Out (AM st) (AM st') lo (lo+n)/\AO st'=AO st) ?step ?fin ?init) ?post)
 case post=>
  rintro c st' ⟨rfl,g',u',o',p'⟩;exact AI (h st' g' u' o' p')
 case init=>
  refine ⟨rfl,g,λi j h1 h2 h3=>?_,.refl,rfl⟩
  by_cases h0:ok=0
  ·have:i=j:=by lia
   subst this;exact O.irr (g.mem (by omega))
  ·exact u i j h1 h2 (by lia)
 case fin=>
  rintro c st' ⟨hc,g',u',o',p'⟩;refine ⟨hc,g',?_,o',p'⟩;rwa [show min (max (max ok 1) n) n=n by lia] at u'
 case step=>
  rintro k c st1 hak hkn ⟨rfl,g1,u1,o1,p1⟩;rw [show min k n=k by lia] at u1
  have hk:lo+k < a₀.size:=by lia
  refine AG (B3 (BQ (I:=λx c st2=>st2=st1/\∃l r,c=(none,l,r)/\l<=r/\r<=k/\r - l<=k - x /\
    (∀i,i < l->lt (ix (AM st1) (lo+k)) (ix (AM st1) (lo+i))=false)/\(∀i,r<=i->i < k->lt (ix (AM st1) (lo+k)) (ix (AM st1) (lo+i))=true))
   (Q:=λc st2=>st2=st1/\∃l r,c=(none,l,r)/\l<=k /\
    (∀i,i < l->lt (ix (AM st1) (lo+k)) (ix (AM st1) (lo+i))=false)/\(∀i,l<=i->i < k->lt (ix (AM st1) (lo+k)) (ix (AM st1) (lo+i))=true)) ?istep ?ifin ?iinit) ?ipost)
  case iinit=>exact ⟨rfl,0,k,rfl,by lia,by lia,by lia,λi hi=>by lia,λi h1 h2=>by lia⟩
  case ifin=>
   rintro c st2 ⟨rfl,l,r,rfl,hlr,hrk,hm,hlo,hhi⟩
   have:l=r:=by lia
   subst this;exact ⟨rfl,l,l,rfl,hrk,hlo,hhi⟩
  case istep=>
   rintro x c st2 _ hxk ⟨rfl,l,r,rfl,hlr,hrk,hm,hlo,hhi⟩;dsimp only
   by_cases hge:l ≥ r
   ·rw [qX hge]
    have:l=r:=by lia
    subst this;exact AI ⟨rfl,l,l,rfl,hrk,hlo,hhi⟩
   ·rw [qY hge]
    refine AG (KG C g1 hk (by lia) ?_)
    cases hless:lt (ix (AM st2) (lo+k)) (ix (AM st2) (lo+(l+r) / 2)) with
    | true=>
     refine AI ⟨rfl,l,(l+r) / 2,rfl,by lia,by lia,by omega,hlo,λi h1 h2=>?_⟩
     cases e:lt (ix (AM st2) (lo+k)) (ix (AM st2) (lo+i)) with
     | true=>rfl
     | false=>
      have:=O.ntr _ _ _ (g1.mem (show lo+(l+r) / 2 < _ by lia)) (g1.mem (show lo+i < _ by lia)) (g1.mem hk) (u1 (lo+(l+r) / 2) (lo+i) (by lia) (by lia) (by lia)) e;rw [hless] at this;cases this
    | false=>
     refine AI ⟨rfl,(l+r) / 2+1,r,rfl,by lia,by omega,by omega,λi h1=>?_,hhi⟩;exact O.ntr _ _ _ (g1.mem (show lo+i < _ by lia)) (g1.mem (show lo+(l+r) / 2 < _ by lia)) (g1.mem hk) (u1 (lo+i) (lo+(l+r) / 2) (by lia) (by lia) (by lia)) hless
  case ipost=>
   rintro c st2 ⟨rfl,l,r,rfl,hlk,hlo,hhi⟩;show wpS _ _ _ _ (do moveDown' (lo+k) (lo+l);pure (Eh (none,()))) _ _;rw [moveDown'_eq]
   have hks:lo+k < (AM st2).size:=by rw [g1.size];exact hk
   have e:∀i,ix (aM (AM st2) (lo+k) (lo+k - (lo+l))) i=if i=lo+l then ix (AM st2) (lo+k) else if lo+l < i/\i<=lo+k then ix (AM st2) (i - 1) else ix (AM st2) i:=λi=>by
    rw [Uw hks (by lia),show lo+k - (lo+k - (lo+l))=lo+l by lia]
   refine AG (CB (AI ⟨rfl,g1.setArr (bubble_perm _ _ _),?_,o1.trans λi hi=>?_,p1⟩))
   ·rw [show min (k+1) n=k+1 by lia]
    intro i j h1 h2 h3;show lt (ix (aM (AM st2) (lo+k) (lo+k - (lo+l))) j) (ix (aM (AM st2) (lo+k) (lo+k - (lo+l))) i)=false;rw [e,e]
    repeat' split
    all_goals first
     | (exfalso;lia)
     | exact O.irr (g1.mem hk)
     | (have q:=hlo (i - lo) (by lia);rw [show lo+(i - lo)=i by lia] at q;exact q)
     | (have q:=hhi (j - 1 - lo) (by omega) (by omega);rw [show lo+(j - 1 - lo)=j - 1 by lia] at q;exact O.asym _ _ (g1.mem hk) (g1.mem (by lia)) q)
     | exact u1 _ _ (by omega) (by omega) (by lia)
   ·show ix (aM (AM st2) (lo+k) (lo+k - (lo+l))) i=ix (AM st2) i
    rw [e,qY (by lia),qY (by lia)]
end
section
variable {prog:Aa} {w:As} {A:Ak} {E:AB->AD->Prop} {s:AD} {a₀:Array Ac} {κ:Dk} {lt:Ac->Ac->Bool}
theorem GV {σ:Type} {M:Pr} {r:String} {Q:PUnit->σ->Prop} {st:σ} (h:Q ⟨⟩ st):wpS M A E s (liftM (rule r):StateT σ Sem PUnit) Q st:=wpS_lift (wpAny_rule ⟨rfl,h⟩)
theorem Dn.flip {xs:Array Ac} {lo hi:Nat} (hs:hi<=xs.size) (d:Dn lt xs lo hi):Up lt (Gx xs lo hi ((hi - lo) / 2)) lo hi:=λi j h1 h2 h3=>by
 rw [Cc hs,Cc hs,qX (by lia),qX (by lia)];exact d _ _ (by omega) (by omega) (by omega)
theorem Dn.part {xs:Array Ac} {lo hi m:Nat} (hs:hi<=xs.size) (hm:lo<=m) (hmh:m<=hi) (d:Dn lt xs lo hi) (e:Up lt xs m hi):Dn lt (Gx xs m hi ((hi - m) / 2)) lo hi:=λi j h1 h2 h3=>by
 rw [Cc hs,Cc hs]
 by_cases hi':m<=i
 ·rw [qX (by lia),qX (by lia)]
  exact e _ _ (by omega) (by omega) (by omega)
 ·rw [qY (by lia)]
  split
  ·exact d _ _ (by omega) (by lia) (by omega)
  ·exact d _ _ (by omega) (by omega) (by omega)
theorem G8 {xs:Array Ac} {i j lo hi:Nat} (hj:j<=xs.size) (h1:lo<=i) (h2:j<=hi):Out xs (Gx xs i j ((j - i) / 2)) lo hi:=λk hk=>by
 rw [Cc hj,qY (by lia)]
theorem Dn.grow {st:Ay} (O:Ord (·∈a₀) lt) (g:Good a₀ κ st) {lo hi:Nat} (hs:hi < a₀.size) (u:Dn lt (AM st) lo hi) (h0:lo < hi) (h:lt (ix (AM st) (hi - 1)) (ix (AM st) hi)=false):Dn lt (AM st) lo (hi+1):=λi j h1 h2 h3=>by
 by_cases hj:j < hi
 ·exact u i j h1 h2 hj
 ·have:j=hi:=by lia
  subst this
  by_cases hi':i=j
  ·subst hi';exact O.irr (g.mem hs)
  ·exact O.ntr _ _ _ (g.mem hs) (g.mem (show j - 1 < _ by omega)) (g.mem (by lia)) h (u i (j - 1) h1 (by lia) (by lia))
theorem Ra (O:Ord (·∈a₀) lt) {st:Ay} (g:Good a₀ κ st) {lo:Nat} (h:lo < a₀.size):Up lt (AM st) lo (lo+1):=λi j h1 h2 h3=>by
 have e1:i=lo:=by lia
 have e2:j=lo:=by lia
 rw [e1,e2];exact O.irr (g.mem h)
theorem YQ {st:Ay} {lo nrem n:Nat} {Q:Option Nat->Ay->Prop} (C:Ha prog w A s a₀ κ lt) (O:Ord (·∈a₀) lt) (h1:1<=n) (h2:n<=nrem) (hn:lo+nrem<=a₀.size) (g:Good a₀ κ st) (u:Up lt (AM st) lo (lo+n))
  (h:∀n,1<=n->n<=nrem->Up lt (AM st) lo (lo+n)->Q (some n) st):wpS (AR prog w) A E s (do
   let mut n:=n
   for _ in [n:nrem] do
    let some smaller <-cx (lo+n) (lo+n - 1) | return none
    if smaller then break
    n:=n+1
   return some n) Q st:=by
 refine AG (B3 (BQ (I:=λx c st'=>st'=st/\c=(none,x)/\Up lt (AM st) lo (lo+x))
  (Q:=λc st'=>st'=st/\∃n,c=(none,n)/\1<=n/\n<=nrem/\Up lt (AM st) lo (lo+n)) ?step ?fin ⟨rfl,rfl,u⟩) ?post)
 case fin=>
  rintro c st' ⟨rfl,rfl,u⟩
  have e:max n nrem=nrem:=by lia
  rw [e] at u ⊢;exact ⟨rfl,nrem,rfl,by lia,AS _,u⟩
 case step=>
  rintro x c st' hx1 hx2 ⟨rfl,rfl,u⟩;dsimp only;refine AG (KG C g (by lia) (by lia) ?_)
  cases hq:lt (ix (AM st') (lo+x)) (ix (AM st') (lo+x - 1)) with
  | true=>exact AI ⟨rfl,x,rfl,by lia,by lia,u⟩
  | false=>exact AI ⟨rfl,rfl,Up.grow (hi:=lo+x) O g (by lia) u (by lia) hq⟩
 case post=>
  rintro c st' ⟨rfl,n,rfl,hn1,hn2,u⟩;exact AI (h n hn1 hn2 u)
theorem wpS_countRun {st:Ay} {lo nrem:Nat} {Q:Option Nat->Ay->Prop} (C:Ha prog w A s a₀ κ lt) (O:Ord (·∈a₀) lt) (h1:1<=nrem) (hn:lo+nrem<=a₀.size) (g:Good a₀ κ st)
  (h:∀st' n,Good a₀ κ st'->1<=n->n<=nrem->Up lt (AM st') lo (lo+n)->Out (AM st) (AM st') lo (lo+nrem)->AO st'=AO st->Q (some n) st'):wpS (AR prog w) A E s (countRun' lo nrem) Q st:=by
 rw [countRun'_eq]
 refine AG (B3 (BQ (I:=λx c st'=>st'=st/\c=(none,x)/\Up lt (AM st) lo (lo+x))
  (Q:=λc st'=>st'=st/\∃n,c=(none,n)/\1<=n/\n<=nrem/\Up lt (AM st) lo (lo+n)/\(n=nrem∨lt (ix (AM st) (lo+n)) (ix (AM st) (lo+n - 1))=true)) ?step ?fin ?init) ?post)
 case init=>
  refine ⟨rfl,rfl,λi j a1 a2 a3=>?_⟩
  have:i=j:=by lia
  subst this;exact O.irr (g.mem (by lia))
 case fin=>
  rintro c st' ⟨rfl,rfl,u⟩
  have e:max 1 nrem=nrem:=by lia
  rw [e] at u ⊢;exact ⟨rfl,nrem,rfl,h1,AS _,u,.inl rfl⟩
 case step=>
  rintro x c st' hx1 hx2 ⟨rfl,rfl,u⟩;dsimp only;refine AG (KG C g (by lia) (by lia) ?_)
  cases hq:lt (ix (AM st') (lo+x)) (ix (AM st') (lo+x - 1)) with
  | true=>exact AI ⟨rfl,x,rfl,hx1,by lia,u,.inr hq⟩
  | false=>exact AI ⟨rfl,rfl,Up.grow (hi:=lo+x) O g (by lia) u (by lia) hq⟩
 case post=>
  rintro c st' ⟨rfl,n,rfl,hn1,hn2,u,hd⟩;dsimp only
  by_cases hnn:n=nrem
  ·rw [qX (by simpa using hnn)]
   exact AI (h st' n g hn1 hn2 u .refl rfl)
  ·rw [qY (by simpa using hnn)]
   have hd':=hd.resolve_left hnn
   have desc:∀(st1:Ay),Good a₀ κ st1->Dn lt (AM st1) lo (lo+(n+1))->Out (AM st') (AM st1) lo (lo+nrem)->AO st1=AO st' ->
     wpS (AR prog w) A E s (do
      liftM (rule "list.sort.descending-run")
      let mut n:=n+1
      let mut neq:=0
      for _ in [n:nrem] do
       let some smaller <-cx (lo+n) (lo+n - 1) | return none
       if smaller then
        if neq > 0 then LO (lo+n - (neq+1)) (lo+n)
        neq:=0
       else
        let some larger <-cx (lo+n - 1) (lo+n) | return none
        if larger then break
        neq:=neq+1
       n:=n+1
      if neq > 0 then LO (lo+n - (neq+1)) (lo+n)
      LO lo (lo+n)
      for _ in [n:nrem] do
       let some smaller <-cx (lo+n) (lo+n - 1) | return none
       if smaller then break
       n:=n+1
      return some n) Q st1:=by
    intro st1 g1 d1 o1 p1;refine AG (GV ?_)
    refine AG (B3 (BQ (I:=λx c st2=>Good a₀ κ st2/\∃q,c=(none,x,q)/\q+1<=x/\Dn lt (AM st2) lo (lo+x)/\Up lt (AM st2) (lo+x - (q+1)) (lo+x)/\Out (AM st') (AM st2) lo (lo+nrem)/\AO st2=AO st')
     (Q:=λc st2=>Good a₀ κ st2/\∃n q,c=(none,n,q)/\n<=nrem/\q+1<=n/\Dn lt (AM st2) lo (lo+n)/\Up lt (AM st2) (lo+n - (q+1)) (lo+n)/\Out (AM st') (AM st2) lo (lo+nrem)/\AO st2=AO st') ?dstep ?dfin ?dinit) ?dpost)
    case dinit=>
     refine ⟨g1,0,rfl,by lia,d1,?_,o1,p1⟩;have:=Ra O g1 (lo:=lo+n) (by lia);rwa [show lo+(n+1) - (0+1)=lo+n by lia,show lo+(n+1)=lo+n+1 by lia]
    case dfin=>
     rintro c st2 ⟨g2,q,rfl,hq,d2,u2,o2,p2⟩
     have e:max (n+1) nrem=nrem:=by lia
     rw [e] at d2 u2 hq ⊢;exact ⟨g2,nrem,q,rfl,AS _,hq,d2,u2,o2,p2⟩
    case dstep=>
     rintro x c st2 hx1 hx2 ⟨g2,q,rfl,hq,d2,u2,o2,p2⟩;dsimp only;refine AG (KG C g2 (by lia) (by lia) ?_)
     cases hs:lt (ix (AM st2) (lo+x)) (ix (AM st2) (lo+x - 1)) with
     | true=>
      dsimp only;rw [qX rfl];have hlt:=O.asym _ _ (g2.mem (show lo+x < _ by lia)) (g2.mem (show lo+x - 1 < _ by lia)) hs
      by_cases hq0:q > 0
      ·rw [qX hq0,Ia]
       have hsz:lo+x<=(AM st2).size:=by rw [g2.size];lia
       have g3:Good a₀ κ (setArr st2 (Gx (AM st2) (lo+x - (q+1)) (lo+x) ((lo+x - (lo+x - (q+1))) / 2))):=g2.setArr (Pp _ _ _ _);have d3:=Dn.part (lt:=lt) (lo:=lo) hsz (show lo<=lo+x - (q+1) by lia) (by omega) d2 u2;refine AG (CB (AI ⟨g3,0,rfl,by lia,?_,?_,o2.trans (G8 hsz (by lia) (by lia)),p2⟩))
       ·refine Dn.grow (hi:=lo+x) O g3 (by lia) d3 (by lia) ?_
        show lt (ix (Gx (AM st2) (lo+x - (q+1)) (lo+x) ((lo+x - (lo+x - (q+1))) / 2)) (lo+x - 1)) (ix (Gx (AM st2) (lo+x - (q+1)) (lo+x) ((lo+x - (lo+x - (q+1))) / 2)) (lo+x))=false;rw [Cc hsz,Cc hsz,qX (by omega),qY (by lia)];exact O.ntr _ _ _ (g2.mem (by lia)) (g2.mem (show lo+x - 1 < _ by lia)) (g2.mem (by omega)) hlt (d2 _ _ (by lia) (by omega) (by lia))
       ·have:=Ra O g3 (lo:=lo+x) (by lia)
        rwa [show lo+(x+1) - (0+1)=lo+x by lia,show lo+(x+1)=lo+x+1 by lia]
      ·rw [qY hq0]
       refine AI ⟨g2,0,rfl,by lia,Dn.grow (hi:=lo+x) O g2 (by lia) d2 (by lia) hlt,?_,o2,p2⟩;have:=Ra O g2 (lo:=lo+x) (by lia);rwa [show lo+(x+1) - (0+1)=lo+x by lia,show lo+(x+1)=lo+x+1 by lia]
     | false=>
      dsimp only;rw [qY AW];refine AG (KG C g2 (by lia) (by lia) ?_)
      cases hl:lt (ix (AM st2) (lo+x - 1)) (ix (AM st2) (lo+x)) with
      | true=>exact AI ⟨g2,x,q,rfl,by lia,hq,d2,u2,o2,p2⟩
      | false=>
       refine AI ⟨g2,q+1,rfl,by lia,Dn.grow (hi:=lo+x) O g2 (by lia) d2 (by lia) hl,?_,o2,p2⟩;rw [show lo+(x+1) - (q+1+1)=lo+x - (q+1) by lia];exact Up.grow (hi:=lo+x) O g2 (by lia) u2 (by omega) hs
    case dpost=>
     rintro c st2 ⟨g2,m,q,rfl,hm,hq,d2,u2,o2,p2⟩;dsimp only
     have hsz:lo+m<=(AM st2).size:=by rw [g2.size];lia
     have last:∀st3,Good a₀ κ st3->Dn lt (AM st3) lo (lo+m)->Out (AM st') (AM st3) lo (lo+nrem)->AO st3=AO st'->∀(R:StateT Ay Sem (Option Nat)),R=(do
        let mut n:=m
        for _ in [n:nrem] do
         let some smaller <-cx (lo+n) (lo+n - 1) | return none
         if smaller then break
         n:=n+1
        return some n)->wpS (AR prog w) A E s (do LO lo (lo+m);R) Q st3:=by
      rintro st3 g3 d3 o3 p3 R rfl
      have hsz3:lo+m<=(AM st3).size:=by rw [g3.size];lia
      rw [Ia];refine AG (CB ?_);have g4:Good a₀ κ (setArr st3 (Gx (AM st3) lo (lo+m) ((lo+m - lo) / 2))):=g3.setArr (Pp _ _ _ _)
      exact YQ C O (by lia) hm hn g4 (Dn.flip hsz3 d3) λk k1 k2 k3=>h _ k g4 k1 k2 k3 (o3.trans (G8 hsz3 (by lia) (by lia))) p3
     by_cases hq0:q > 0
     ·rw [qX hq0,Ia]
      refine AG (CB ?_);exact last _ (g2.setArr (Pp _ _ _ _)) (Dn.part hsz (by lia) (by omega) d2 u2) (o2.trans (G8 hsz (by lia) (by lia))) p2 _ rfl
     ·rw [qY hq0]
      exact last _ g2 d2 o2 p2 _ rfl
   have hlt:=O.asym _ _ (g.mem (show lo+n < _ by lia)) (g.mem (show lo+n - 1 < _ by omega)) hd'
   by_cases hn0:n > 1
   ·rw [qX hn0]
    refine AG (KG C g (by lia) (by omega) ?_)
    cases hr:lt (ix (AM st') lo) (ix (AM st') (lo+n - 1)) with
    | true=>exact AI (h st' n g hn1 hn2 u .refl rfl)
    | false=>
     dsimp only;rw [qY AW,Ia]
     have hsz:lo+n<=(AM st').size:=by rw [g.size];lia
     have g1:Good a₀ κ (setArr st' (Gx (AM st') lo (lo+n) ((lo+n - lo) / 2))):=g.setArr (Pp _ _ _ _)
     have al:∀i j,lo<=i->i < lo+n->lo<=j->j < lo+n->lt (ix (AM st') i) (ix (AM st') j)=false:=λi j i1 i2 j1 j2=>by
      have q1:=u j (lo+n - 1) (by omega) (by lia) (by omega);have q2:=u lo i (by lia) (by omega) (by omega);exact O.ntr _ _ _ (g.mem (by lia)) (g.mem (show lo < _ by lia)) (g.mem (by lia)) (O.ntr _ _ _ (g.mem (by lia)) (g.mem (show lo+n - 1 < _ by lia)) (g.mem (by lia)) q1 hr) q2
     refine AG (CB ?_);refine desc _ g1 ?_ (G8 hsz (by lia) (by lia)) rfl;refine Dn.grow (hi:=lo+n) O g1 (by lia) (λi j a1 a2 a3=>?_) (by lia) ?_
     ·show lt (ix (Gx (AM st') lo (lo+n) ((lo+n - lo) / 2)) i) (ix (Gx (AM st') lo (lo+n) ((lo+n - lo) / 2)) j)=false
      rw [Cc hsz,Cc hsz,qX (by lia),qX (by lia)];exact al _ _ (by omega) (by omega) (by omega) (by omega)
     ·show lt (ix (Gx (AM st') lo (lo+n) ((lo+n - lo) / 2)) (lo+n - 1)) (ix (Gx (AM st') lo (lo+n) ((lo+n - lo) / 2)) (lo+n))=false
      rw [Cc hsz,Cc hsz,qX (by omega),qY (by lia),show lo+(lo+n) - 1 - (lo+n - 1)=lo by omega];exact O.ntr _ _ _ (g.mem (by lia)) (g.mem (show lo+n - 1 < _ by lia)) (g.mem (by lia)) hlt hr
   ·rw [qY hn0]
    have e:n=1:=by lia
    subst e;refine desc _ g (Dn.grow (hi:=lo+1) O g (by lia) (λi j a1 a2 a3=>?_) (by lia) hlt) .refl rfl
    have e1:i=lo:=by lia
    have e2:j=lo:=by lia
    rw [e1,e2];exact O.irr (g.mem (by lia))
end
def et:Bool->Ac->Array Ac->Nat->Nat->Nat->StateT Ay Sem (Option Nat):=sortPriv% PySem.Builtin.gallop
section
variable {prog:Aa} {w:As} {A:Ak} {E:AB->AD->Prop} {s:AD} {a₀:Array Ac} {κ:Dk} {lt:Ac->Ac->Bool}
abbrev BS:=Option (Option Nat)×Nat×Nat
theorem Zm {st:Ay} {p:Nat->Bool} {n lo hi:Nat} {F:Nat->BS->StateT Ay Sem (ForInStep BS)} {T:BS->StateT Ay Sem (Option Nat)} {Q:Option Nat->Ay->Prop} (hlh:lo<=hi) (hhn:hi<=n)
  (hlo:∀i,i < lo->p i=true) (hhi:∀i,hi<=i->i < n->p i=false) (mono:∀i j,i<=j->j < n->p j=true->p i=true)
  (hF:∀x l h (R:ForInStep BS->Ay->Prop),l<=h->h<=n->(l ≥ h->R (.done (none,l,h)) st)->(l < h->p (l+(h - l) / 2)=true->R (.yield (none,l+(h - l) / 2+1,h)) st)->(l < h->p (l+(h - l) / 2)=false->R (.yield (none,l,l+(h - l) / 2)) st) ->
   wpS (AR prog w) A E s (F x (none,l,h)) R st)
  (hT:∀l h,h<=n->(∀i,i < h->p i=true)->(∀i,h<=i->i < n->p i=false)->wpS (AR prog w) A E s (T (none,l,h)) Q st):wpS (AR prog w) A E s (forIn [0:n] (none,lo,hi) F >>= T) Q st:=by
 refine AG (B3 (BQ (I:=λx c st'=>st'=st/\∃l h,c=(none,l,h)/\l<=h/\h<=n/\h - l<=n - x/\(∀i,i < l->p i=true)/\(∀i,h<=i->i < n->p i=false))
  (Q:=λc st'=>st'=st/\∃l h,c=(none,l,h)/\h<=n/\(∀i,i < h->p i=true)/\(∀i,h<=i->i < n->p i=false)) ?step ?fin ⟨rfl,lo,hi,rfl,hlh,hhn,by lia,hlo,hhi⟩) ?post)
 case fin=>
  rintro c st' ⟨rfl,l,h,rfl,h1,h2,h3,h4,h5⟩
  have:l=h:=by lia
  subst this;exact ⟨rfl,l,l,rfl,h2,h4,h5⟩
 case step=>
  rintro x c st' _ hx ⟨rfl,l,h,rfl,h1,h2,h3,h4,h5⟩
  refine hF x l h _ h1 h2 (λhge=>?_) (λhlt hp=>?_) λhlt hp=>?_
  ·have:l=h:=by lia
   subst this;exact ⟨rfl,l,l,rfl,h2,h4,h5⟩
  ·exact ⟨rfl,_,_,rfl,by lia,h2,by omega,λi hi=>mono i (l+(h - l) / 2) (by lia) (by lia) hp,h5⟩
  ·refine ⟨rfl,_,_,rfl,by lia,by lia,by omega,h4,λi hi1 hi2=>?_⟩
   cases e:p i with
   | false=>rfl
   | true=>rw [mono _ i hi1 hi2 e] at hp;cases hp
 case post=>
  rintro c st' ⟨rfl,l,h,rfl,h2,h4,h5⟩;exact hT l h h2 h4 h5
theorem To {st:Ay} {q:Nat->Bool} {n mx:Nat} {F:Nat->BS->StateT Ay Sem (ForInStep BS)} {T:BS->StateT Ay Sem (Option Nat)} {Q:Option Nat->Ay->Prop} (hm:mx<=n) (q0:q 0=true)
  (hF:∀x a b (R:ForInStep BS->Ay->Prop),a < b->(b ≥ mx->R (.done (none,a,b)) st)->(b < mx->q b=false->R (.done (none,a,b)) st)->(b < mx->q b=true->R (.yield (none,b,2 * b+1)) st)->wpS (AR prog w) A E s (F x (none,a,b)) R st)
  (hT:∀a b,a < b->q a=true->(a=0∨a < mx)->(b < mx->q b=false)->wpS (AR prog w) A E s (T (none,a,b)) Q st):wpS (AR prog w) A E s (forIn [0:n] (none,0,1) F >>= T) Q st:=by
 refine AG (B3 (BQ (I:=λx c st'=>st'=st/\∃a b,c=(none,a,b)/\a < b/\x+1<=b/\q a=true/\(a=0∨a < mx))
  (Q:=λc st'=>st'=st/\∃a b,c=(none,a,b)/\a < b/\q a=true/\(a=0∨a < mx)/\(b < mx->q b=false)) ?step ?fin ⟨rfl,0,1,rfl,by lia,by lia,q0,.inl rfl⟩) ?post)
 case fin=>
  rintro c st' ⟨rfl,a,b,rfl,h1,h2,h3,h4⟩;exact ⟨rfl,a,b,rfl,h1,h3,h4,λh=>by lia⟩
 case step=>
  rintro x c st' _ hx ⟨rfl,a,b,rfl,h1,h2,h3,h4⟩
  refine hF x a b _ h1 (λhge=>?_) (λhlt hp=>?_) λhlt hp=>?_
  ·exact ⟨rfl,a,b,rfl,h1,h3,h4,λh=>by lia⟩
  ·exact ⟨rfl,a,b,rfl,h1,h3,h4,λ_=>hp⟩
  ·exact ⟨rfl,b,2 * b+1,rfl,by lia,by lia,hp,.inr hlt⟩
 case post=>
  rintro c st' ⟨rfl,a,b,rfl,h1,h3,h4,h5⟩;exact hT a b h1 h3 h4 h5
theorem DG {st:Ay} {left:Bool} {key:Ac} {arr:Array Ac} {base n hint:Nat} {Q:Option Nat->Ay->Prop} (C:Ha prog w A s a₀ κ lt) (g:Good a₀ κ st) (p:Nat->Bool)
  (hkey:key∈a₀) (harr:∀i,i < n->base+i < arr.size/\ix arr (base+i)∈a₀) (hp:∀i,i < n->p i=if left=true then lt (ix arr (base+i)) key else !lt key (ix arr (base+i)))
  (mono:∀i j,i<=j->j < n->p j=true->p i=true) (hh:hint < n)
  (h:∀k,k<=n->(∀i,i < k->p i=true)->(∀i,k<=i->i < n->p i=false)->Q (some k) st):wpS (AR prog w) A E s (et left key arr base n hint) Q st:=by
 have bey:∀i,i < n->∀R:Option Bool->Ay->Prop,R (some (p i)) st->wpS (AR prog w) A E s (do let x <-elem' arr (base+i);if left=true then lt' x key else do let y <-lt' key x;pure (y.map (!·))) R st:=by
  intro i hi R hR;obtain ⟨h1,h2⟩:=harr i hi;rw [YE,B4 h1];refine AG (AI ?_);rw [hp i hi] at hR
  cases left with
  | true=>exact Lw C g h2 hkey hR
  | false=>exact AG (Lw C g hkey h2 (AI hR))
 refine (AG ?_:wpS _ _ _ _ (et left key arr base n hint) Q st);refine bey hint hh _ ?_
 have fin:∀(lo hi:Nat) {F:Nat->BS->StateT Ay Sem (ForInStep BS)} {T:BS->StateT Ay Sem (Option Nat)},lo<=hi->hi<=n->(∀i,i < lo->p i=true)->(∀i,hi<=i->i < n->p i=false) ->
   (∀x l h' (R:ForInStep BS->Ay->Prop),l<=h'->h'<=n->(l ≥ h'->R (.done (none,l,h')) st)->(l < h'->p (l+(h' - l) / 2)=true->R (.yield (none,l+(h' - l) / 2+1,h')) st)->(l < h'->p (l+(h' - l) / 2)=false->R (.yield (none,l,l+(h' - l) / 2)) st) ->
    wpS (AR prog w) A E s (F x (none,l,h')) R st)->(∀l h',T (none,l,h')=pure (some h'))->wpS (AR prog w) A E s (forIn [0:n] (none,lo,hi) F >>= T) Q st:=λlo hi F T h1 h2 h3 h4 hF hT=>
  Zm h1 h2 h3 h4 mono hF λl h' q1 q2 q3=>by rw [hT];exact AI (h h' q1 q2 q3)
 cases hq:p hint with
 | true=>
  dsimp only;rw [qX rfl]
  refine To (q:=λi=>decide (hint+i < n)&&p (hint+i)) (mx:=n - hint) (by lia) (by simp [hq,hh]) (λx a b R hab r1 r2 r3=>?_) λa b hab qa ha hb=>?_
  ·dsimp only
   by_cases hge:b ≥ n - hint
   ·rw [qX hge];exact AI (r1 hge)
   ·rw [qY hge]
    refine AG (bey (hint+b) (by lia) _ ?_);have hd:decide (hint+b < n)=true:=wX (by lia)
    cases e:p (hint+b) with
    | true=>exact AI (r3 (by lia) (by simp [hd,e]))
    | false=>exact AI (r2 (by lia) (by simp [hd,e]))
  ·dsimp only
   have pa:p (hint+a)=true:=by simp at qa;exact qa.2
   have han:hint+a < n:=by simp at qa;exact qa.1
   refine fin (hint+a+1) (hint+min b (n - hint)) (by omega) (by omega) (λi hi=>mono i (hint+a) (by lia) han pa) (λi h1 h2=>?_) (λx l h' R l1 l2 r1 r2 r3=>?_) λl h'=>rfl
   ·by_cases hbm:b < n - hint
    ·have:=hb hbm
     have hd:decide (hint+b < n)=true:=wX (by lia);rw [hd,aT] at this
     cases e:p i with
     | false=>rfl
     | true=>rw [mono (hint+b) i (by lia) h2 e] at this;cases this
    ·omega
   ·dsimp only
    by_cases hge:l ≥ h'
    ·rw [qX hge];exact AI (r1 hge)
    ·rw [qY hge]
     refine AG (bey (l+(h' - l) / 2) (by lia) _ ?_)
     cases e:p (l+(h' - l) / 2) with
     | true=>exact AI (r2 (by lia) e)
     | false=>exact AI (r3 (by lia) e)
 | false=>
  dsimp only;rw [qY AW]
  refine To (q:=λi=>decide (i<=hint)&&!p (hint - i)) (mx:=hint+1) (by lia) (by simp [hq]) (λx a b R hab r1 r2 r3=>?_) λa b hab qa ha hb=>?_
  ·dsimp only
   by_cases hge:b ≥ hint+1
   ·rw [qX hge];exact AI (r1 hge)
   ·rw [qY hge]
    refine AG (bey (hint - b) (by omega) _ ?_);have hd:decide (b<=hint)=true:=wX (by lia)
    cases e:p (hint - b) with
    | true=>exact AI (r2 (by lia) (by simp [hd,e]))
    | false=>exact AI (r3 (by lia) (by simp [hd,e]))
  ·dsimp only
   have pa:p (hint - a)=false:=by simp at qa;exact qa.2
   have han:a<=hint:=by simp at qa;exact qa.1
   refine fin (hint+1 - min b (hint+1)) (hint - a) (by omega) (by omega) (λi hi=>?_) (λi h1 h2=>?_) (λx l h' R l1 l2 r1 r2 r3=>?_) λl h'=>rfl
   ·by_cases hbm:b < hint+1
    ·have:=hb hbm
     have hd:decide (b<=hint)=true:=wX (by lia);rw [hd,aT] at this;exact mono i (hint - b) (by omega) (by lia) (by simpa using this)
    ·omega
   ·cases e:p i with
    | false=>rfl
    | true=>rw [mono (hint - a) i h1 h2 e] at pa;cases pa
   ·dsimp only
    by_cases hge:l ≥ h'
    ·rw [qX hge];exact AI (r1 hge)
    ·rw [qY hge]
     refine AG (bey (l+(h' - l) / 2) (by lia) _ ?_)
     cases e:p (l+(h' - l) / 2) with
     | true=>exact AI (r2 (by lia) e)
     | false=>exact AI (r3 (by lia) e)
end
structure MI (R:Ac->Ac->Prop) (T o ra rb:List Ac):Prop where
 perm:(o++(ra++rb)).Perm T
 srt:o.Pairwise R
 low:∀x∈o,∀y∈ra++rb,R x y
 sa:ra.Pairwise R
 sb:rb.Pairwise R
structure E9 (R:Ac->Ac->Prop) (T r:List Ac):Prop where
 perm:r.Perm T
 srt:r.Pairwise R
section
variable {R:Ac->Ac->Prop} {T o ra rb xs:List Ac}
theorem MI.takeA (m:MI R T o (xs++ra) rb) (h:∀x∈xs,∀y∈rb,R x y):MI R T (o++xs) ra rb:=by
 have sa:=BL.mp m.sa;refine ⟨by simpa [BJ] using m.perm,BL.mpr ⟨m.srt,sa.1,λx hx y hy=>m.low x hx y (by simp [hy])⟩,λx hx y hy=>?_,sa.2.1,m.sb⟩
 rcases BP.mp hx with hx | hx
 ·exact m.low x hx y (by rcases BP.mp hy with h | h <;> simp [h])
 ·rcases BP.mp hy with hy | hy
  ·exact sa.2.2 x hx y hy
  ·exact h x hx y hy
theorem MI.takeB (m:MI R T o ra (xs++rb)) (h:∀x∈xs,∀y∈ra,R x y):MI R T (o++xs) ra rb:=by
 have sb:=BL.mp m.sb;refine ⟨?_,BL.mpr ⟨m.srt,sb.1,λx hx y hy=>m.low x hx y (by simp [hy])⟩,λx hx y hy=>?_,m.sa,sb.2.1⟩
 ·refine List.Perm.trans ?_ m.perm
  rw [BJ];refine Gz o ?_;rw [<-BJ,<-BJ];exact NK rb RM
 ·rcases BP.mp hx with hx | hx
  ·exact m.low x hx y (by rcases BP.mp hy with h | h <;> simp [h])
  ·rcases BP.mp hy with hy | hy
   ·exact h x hx y hy
   ·exact sb.2.2 x hx y hy
theorem MI.endA (m:MI R T o ra []):E9 R T (o++ra):=by
 refine ⟨by simpa using m.perm,BL.mpr ⟨m.srt,m.sa,λx hx y hy=>m.low x hx y (by simp [hy])⟩⟩
theorem MI.endB (m:MI R T o [] rb):E9 R T (o++rb):=by
 refine ⟨by simpa using m.perm,BL.mpr ⟨m.srt,m.sb,λx hx y hy=>m.low x hx y (by simp [hy])⟩⟩
theorem MI.last (m:MI R T o ra rb) (h:∀y∈rb,∀x∈ra,R y x):E9 R T (o++(rb++ra)):=by
 refine ⟨(Gz o RM).trans m.perm,BL.mpr ⟨m.srt,BL.mpr ⟨m.sb,m.sa,h⟩,λx hx y hy=>m.low x hx y (by rcases BP.mp hy with h | h <;> simp [h])⟩⟩
end
theorem Lg {a:Array Ac} {i:Nat} (h:i < a.size):a.toList.drop i=ix a i :: a.toList.drop (i+1):=by
 rw [GF (by simpa using h)]
 congr 1
 have:=B4 h;rw [getElem?_pos a i h] at this;simpa using this
theorem FO {a:Array Ac} {i k:Nat} (h:i+k<=a.size):a.toList.drop i=(a.extract i (i+k)).toList++a.toList.drop (i+k):=by
 have e:(a.extract i (i+k)).toList=(a.toList.drop i).take k:=by simp [Ki]
 rw [e,<-Nm,Ee]
theorem LZ {a:Array Ac} {i k:Nat} (h:i+k<=a.size) {x:Ac} (hx:x∈(a.extract i (i+k)).toList):∃j,j < k/\x=ix a (i+j):=by
 rw [A3,LP] at hx;obtain ⟨j,hj,rfl⟩:=hx;refine ⟨j,by lia,?_⟩;have:=B4 (xs:=a) (i:=i+j) (by lia);rw [getElem?_pos a _ (by lia)] at this;simpa using this
theorem HH (a:Array Ac) (i:Nat):(a.extract i a.size).toList=a.toList.drop i:=by
 simp [Ki];exact CA (by simp)
theorem Dt {a:Array Ac} {i:Nat} {x:Ac} (hx:x∈a.toList.drop i):∃j,i<=j/\j < a.size/\x=ix a j:=by
 obtain ⟨k,hk,rfl⟩:=Sf.mp hx;simp at hk;refine ⟨i+k,by lia,by omega,?_⟩;have:=B4 (xs:=a) (i:=i+k) (by omega);rw [getElem?_pos a _ (by omega)] at this;simpa using this
section
variable {prog:Aa} {w:As} {A:Ak} {E:AB->AD->Prop} {s:AD} {a₀:Array Ac} {κ:Dk} {lt:Ac->Ac->Bool}
theorem BA {st:Ay} {a:Array Ac} {i:Nat} {Q:Ac->Ay->Prop} (h:i < a.size) (hq:Q (ix a i) st):wpS (AR prog w) A E s (elem' a i) Q st:=by
 rw [YE,B4 h];exact AI hq
def mLo:Array Ac->Array Ac->StateT Ay Sem (Array Ac):=sortPriv% PySem.Builtin.mergeLo
def mHi:Array Ac->Array Ac->StateT Ay Sem (Array Ac):=sortPriv% PySem.Builtin.mergeHi
structure Hg (a₀:Array Ac) (κ:Dk) (st st':Ay):Prop where
 good:Good a₀ κ st'
 arr:AM st'=AM st
 pend:AO st'=AO st
theorem Hg.gal {st st':Ay} (h:Hg a₀ κ st st') (n:Nat):Hg a₀ κ st (EZ (kindOf st') (AM st') (AO st') n (FZ st')):=⟨⟨h.good.perm,h.good.kind,h.good.failed⟩,h.arr,h.pend⟩
abbrev Rl (lt:Ac->Ac->Bool) (x y:Ac):Prop:=lt y x=false
theorem P8 (O:Ord (·∈a₀) lt) {a:Array Ac} (ma:∀i,i < a.size->ix a i∈a₀) (sa:a.toList.Pairwise (Rl lt)):∀i j,i<=j->j < a.size->Rl lt (ix a i) (ix a j):=λi j hij hj=>by
 by_cases e:i=j
 ·subst e;exact O.irr (ma i hj)
 ·have hd:=Lg (a:=a) (i:=i) (by lia)
  have:=sa.sublist (List.drop_sublist i a.toList);rw [hd] at this;refine (List.pairwise_cons.mp this).1 _ ?_;rw [show a.toList.drop (i+1)=(a.extract (i+1) (i+1+(j - (i+1)))).toList++a.toList.drop (i+1+(j - (i+1))) from FO (by lia),show i+1+(j - (i+1))=j by lia,Lg hj];simp
theorem PL {a:Array Ac} (ma:∀x∈a.toList,x∈a₀):∀i,i < a.size->ix a i∈a₀:=λi hi=>ma _ (A3.mpr (Bl (B4 hi)))
theorem LQ {st:Ay} {n:Nat} {Q:Unit->Ay->Prop} (h:Q () (EZ (kindOf st) (AM st) (AO st) n (FZ st))):wpS (AR prog w) A E s ((sortPriv% PySem.Builtin.setMinGallop) n) Q st:=CB h
abbrev L7:=Option (Array Ac)×Array Ac×Nat×Nat×Nat×Nat×Nat
theorem YN {st:Ay} {a b:Array Ac} {Q:Array Ac->Ay->Prop} (C:Ha prog w A s a₀ κ lt) (O:Ord (·∈a₀) lt) (g:Good a₀ κ st)
  (ma:∀x∈a.toList,x∈a₀) (mb:∀x∈b.toList,x∈a₀) (sa:a.toList.Pairwise (Rl lt)) (sb:b.toList.Pairwise (Rl lt)) (na:0 < a.size) (nb:0 < b.size)
  (h0:∀x∈a.toList,Rl lt (ix b 0) x) (h1:∀y∈b.toList,Rl lt y (ix a (a.size - 1)))
  (h:∀r st',Hg a₀ κ st st'->E9 (Rl lt) (a.toList++b.toList) r.toList->Q r st'):wpS (AR prog w) A E s (mLo a b) Q st:=by
 have ia0:=PL ma;have ib0:=PL mb;have ua:=P8 O ia0 sa;have ub:=P8 O ib0 sb
 have tr:∀x y z:Ac,x∈a₀->y∈a₀->z∈a₀->Rl lt x y->Rl lt y z->Rl lt x z:=λx y z hx hy hz h1 h2=>O.ntr x y z hx hy hz h1 h2
 let M (out:Array Ac) (ia ib:Nat):Prop:=MI (Rl lt) (a.toList++b.toList) out.toList (a.toList.drop ia) (b.toList.drop ib)
 have tA:∀out ia ib,M out ia ib->ia < a.size->(∀j,ib<=j->j < b.size->Rl lt (ix a ia) (ix b j))->M (out.push (ix a ia)) (ia+1) ib:=λout ia ib m hia hr=>by
  have m':MI (Rl lt) (a.toList++b.toList) out.toList ([ix a ia]++a.toList.drop (ia+1)) (b.toList.drop ib):=by rw [Ef,<-Lg hia];exact m
  have:=m'.takeA λx hx y hy=>by
   obtain ⟨j,j1,j2,rfl⟩:=Dt hy;rw [A2.mp hx];exact hr j j1 j2
  simpa [M] using this
 have tB:∀out ia ib,M out ia ib->ib < b.size->(∀j,ia<=j->j < a.size->Rl lt (ix b ib) (ix a j))->M (out.push (ix b ib)) ia (ib+1):=λout ia ib m hib hr=>by
  have m':MI (Rl lt) (a.toList++b.toList) out.toList (a.toList.drop ia) ([ix b ib]++b.toList.drop (ib+1)):=by rw [Ef,<-Lg hib];exact m
  have:=m'.takeB λx hx y hy=>by
   obtain ⟨j,j1,j2,rfl⟩:=Dt hy;rw [A2.mp hx];exact hr j j1 j2
  simpa [M] using this
 have sA:∀out ia ib k,M out ia ib->ia+k<=a.size->(∀i j,i < k->ib<=j->j < b.size->Rl lt (ix a (ia+i)) (ix b j))->M (out++a.extract ia (ia+k)) (ia+k) ib:=λout ia ib k m hk hr=>by
  have m':MI (Rl lt) (a.toList++b.toList) out.toList ((a.extract ia (ia+k)).toList++a.toList.drop (ia+k)) (b.toList.drop ib):=by rw [<-FO hk];exact m
  have:=m'.takeA λx hx y hy=>by
   obtain ⟨j,j1,j2,rfl⟩:=Dt hy;obtain ⟨i,i1,rfl⟩:=LZ hk hx;exact hr i j i1 j1 j2
  show MI _ _ (out++a.extract ia (ia+k)).toList _ _;rw [An];exact this
 have sB:∀out ia ib k,M out ia ib->ib+k<=b.size->(∀i j,i < k->ia<=j->j < a.size->Rl lt (ix b (ib+i)) (ix a j))->M (out++b.extract ib (ib+k)) ia (ib+k):=λout ia ib k m hk hr=>by
  have m':MI (Rl lt) (a.toList++b.toList) out.toList (a.toList.drop ia) ((b.extract ib (ib+k)).toList++b.toList.drop (ib+k)):=by rw [<-FO hk];exact m
  have:=m'.takeB λx hx y hy=>by
   obtain ⟨j,j1,j2,rfl⟩:=Dt hy;obtain ⟨i,i1,rfl⟩:=LZ hk hx;exact hr i j i1 j1 j2
  show MI _ _ (out++b.extract ib (ib+k)).toList _ _;rw [An];exact this
 have eB:∀out ia ib,M out ia ib->ib=b.size->E9 (Rl lt) (a.toList++b.toList) (out++a.extract ia a.size++b.extract ib b.size).toList:=λout ia ib m e=>by
  subst e
  have m':MI (Rl lt) (a.toList++b.toList) out.toList (a.toList.drop ia) []:=by
   have:b.toList.drop b.size=[]:=by simp
   rw [<-this];exact m
  rw [An,An,HH,HH,show b.toList.drop b.size=[] by simp,Bd];exact m'.endA
 have eA:∀out ia ib,M out ia ib->ia=a.size->E9 (Rl lt) (a.toList++b.toList) (out++a.extract ia a.size++b.extract ib b.size).toList:=λout ia ib m e=>by
  subst e
  have m':MI (Rl lt) (a.toList++b.toList) out.toList [] (b.toList.drop ib):=by
   have:a.toList.drop a.size=[]:=by simp
   rw [<-this];exact m
  rw [An,An,HH,HH,show a.toList.drop a.size=[] by simp,Bd];exact m'.endB
 have eL:∀out ia ib,M out ia ib->ia+1=a.size->E9 (Rl lt) (a.toList++b.toList) (out++b.extract ib b.size++a.extract ia a.size).toList:=λout ia ib m e=>by
  have:=m.last λy hy x hx=>by
   obtain ⟨j,j1,j2,rfl⟩:=Dt hx;obtain ⟨i,i1,i2,rfl⟩:=Dt hy
   have:j=a.size - 1:=by lia
   subst this;exact h1 _ (A3.mpr (Bl (B4 i2)))
  rw [An,An,HH,HH,BJ];exact this
 have m0:M #[] 0 0:=⟨by simp,by simp,by simp,by simpa using sa,by simpa using sb⟩
 have m1:M #[ix b 0] 0 1:=by
  have:=tB #[] 0 0 m0 nb λj _ hj=>h0 _ (A3.mpr (Bl (B4 hj)))
  simpa using this
 refine (AG (GV ?_):wpS _ _ _ _ (mLo a b) Q st);refine AG (BA nb ?_)
 by_cases c1:1=b.size
 ·refine (show wpS (AR prog w) A E s (if (1==b.size)=true then _ else _) Q st from ?_)
  rw [qX (by simpa using c1)];exact AI (h _ st ⟨g,rfl,rfl⟩ (eB _ _ _ m1 c1))
 refine (show wpS (AR prog w) A E s (if (1==b.size)=true then _ else _) Q st from ?_);rw [qY (by simpa using c1)]
 by_cases c2:0+1=a.size
 ·rw [qX (by simpa using c2)]
  exact AI (h _ st ⟨g,rfl,rfl⟩ (eL _ _ _ m1 c2))
 rw [qY (by simpa using c2)];refine AG (En ?_)
 refine AG (B3 (BQ (I:=λx c st'=>Hg a₀ κ st st'/\∃out ia ib mg,c=(none,out,ia,ib,mg)/\M out ia ib/\ia+1 < a.size/\ib < b.size/\1+x<=ia+ib)
  (Q:=λc st'=>Hg a₀ κ st st'/\∃r z,c=(some r,z)/\E9 (Rl lt) (a.toList++b.toList) r.toList) ?step ?fin ?init) ?post)
 case init=>exact ⟨⟨g,rfl,rfl⟩,_,_,_,_,rfl,m1,by lia,by lia,by lia⟩
 case fin=>
  rintro c st' ⟨_,out,ia,ib,mg,_,_,k1,k2,k3⟩
  lia
 case post=>
  rintro c st' ⟨s1,r,z,rfl,f⟩;exact AI (h r st' s1 f)
 case step=>
  rintro x c st1 _ _ ⟨s1,out,ia,ib,mg,rfl,m,k1,k2,k3⟩
  refine AG (B3 (BQ (I:=λy c st'=>st'=st1/\∃out' ia' ib' ac bc,c=(none,out',ia',ib',ac,bc)/\M out' ia' ib'/\ia'+1 < a.size/\ib' < b.size/\ia+ib+y<=ia'+ib')
   (Q:=λc st'=>st'=st1/\((∃r z,c=(some r,z)/\E9 (Rl lt) (a.toList++b.toList) r.toList)∨∃out' ia' ib' ac bc,c=(none,out',ia',ib',ac,bc)/\M out' ia' ib'/\ia'+1 < a.size/\ib' < b.size/\ia+ib+1<=ia'+ib')) ?step1 ?fin1 ?init1) ?post1)
  case init1=>exact ⟨rfl,out,ia,ib,0,0,rfl,m,k1,k2,by lia⟩
  case fin1=>
   rintro c st' ⟨rfl,out',ia',ib',ac,bc,rfl,m',q1,q2,q3⟩;exact ⟨rfl,.inr ⟨out',ia',ib',ac,bc,rfl,m',q1,q2,by lia⟩⟩
  case step1=>
   rintro y c st' _ _ ⟨rfl,out',ia',ib',ac,bc,rfl,m',q1,q2,q3⟩;refine AG (BA (i:=ib') q2 ?_);refine AG (BA (i:=ia') (show ia' < a.size by lia) ?_);refine AG (Lw C s1.good (ib0 _ q2) (ia0 _ (by lia)) ?_)
   cases e:lt (ix b ib') (ix a ia') with
   | true=>
    refine AG (BA q2 ?_);have r0:Rl lt (ix b ib') (ix a ia'):=O.asym _ _ (ib0 _ q2) (ia0 _ (by lia)) e
    have m2:=tB out' ia' ib' m' q2 λj j1 j2=>tr _ _ _ (ib0 _ q2) (ia0 _ (by lia)) (ia0 _ j2) r0 (ua ia' j j1 j2)
    refine (show wpS (AR prog w) A E s (if (ib'+1==b.size)=true then _ else _) _ st' from ?_)
    by_cases d:ib'+1=b.size
    ·rw [qX (by simpa using d)]
     exact AI ⟨rfl,.inl ⟨_,_,rfl,eB _ _ _ m2 d⟩⟩
    ·rw [qY (by simpa using d)]
     split
     ·exact AI ⟨rfl,.inr ⟨_,ia',ib'+1,_,_,rfl,m2,by omega,by lia,by lia⟩⟩
     ·exact AI ⟨rfl,_,ia',ib'+1,_,_,rfl,m2,by omega,by lia,by lia⟩
   | false=>
    refine AG (BA (show ia' < a.size by lia) ?_)
    have m2:=tA out' ia' ib' m' (by lia) λj j1 j2=>tr _ _ _ (ia0 _ (by lia)) (ib0 _ q2) (ib0 _ j2) e (ub ib' j j1 j2)
    refine (show wpS (AR prog w) A E s (if (ia'+1+1==a.size)=true then _ else _) _ st' from ?_)
    by_cases d:ia'+1+1=a.size
    ·rw [qX (by simpa using d)]
     exact AI ⟨rfl,.inl ⟨_,_,rfl,eL _ _ _ m2 d⟩⟩
    ·rw [qY (by simpa using d)]
     split
     ·exact AI ⟨rfl,.inr ⟨_,ia'+1,ib',_,_,rfl,m2,by lia,by omega,by lia⟩⟩
     ·exact AI ⟨rfl,_,ia'+1,ib',_,_,rfl,m2,by lia,by omega,by lia⟩
  case post1=>
   rintro c st' ⟨rfl,⟨r,z,rfl,f⟩ | ⟨out',ia',ib',ac,bc,rfl,m',q1,q2,q3⟩⟩
   ·exact AI ⟨s1,_,_,rfl,f⟩
   refine AG (GV ?_)
   refine AG (B3 (BQ (I:=λy c st2=>Hg a₀ κ st st2/\∃out2 ia2 ib2 mg2 ac bc,c=(none,out2,ia2,ib2,mg2,ac,bc)/\M out2 ia2 ib2/\ia2+1 < a.size/\ib2 < b.size/\ia+ib+1<=ia2+ib2)
    (Q:=λc st2=>Hg a₀ κ st st2/\((∃r z,c=(some r,z)/\E9 (Rl lt) (a.toList++b.toList) r.toList)∨∃out2 ia2 ib2 mg2 ac bc,c=(none,out2,ia2,ib2,mg2,ac,bc)/\M out2 ia2 ib2/\ia2+1 < a.size/\ib2 < b.size/\ia+ib+1<=ia2+ib2)) ?step2 ?fin2 ?init2) ?post2)
   case init2=>exact ⟨s1,out',ia',ib',mg+1,ac,bc,rfl,m',q1,q2,q3⟩
   case fin2=>
    rintro c st2 ⟨s2,out2,ia2,ib2,mg2,ac2,bc2,rfl,m2,p1,p2,p3⟩;exact ⟨s2,.inr ⟨out2,ia2,ib2,mg2,ac2,bc2,rfl,m2,p1,p2,p3⟩⟩
   case post2=>
    rintro c st2 ⟨s2,⟨r,z,rfl,f⟩ | ⟨out2,ia2,ib2,mg2,ac2,bc2,rfl,m2,p1,p2,p3⟩⟩
    ·exact AI ⟨s2,_,_,rfl,f⟩
    ·exact AG (LQ (AI ⟨s2.gal _,out2,ia2,ib2,mg2+1,rfl,m2,p1,p2,by lia⟩))
   case step2=>
    rintro y c st2 _ _ ⟨s2,out2,ia2,ib2,mg2,ac2,bc2,rfl,m2,p1,p2,p3⟩
    let P:ForInStep L7->Ay->Prop:=λr st'=>match r with
     | .done c'=>Hg a₀ κ st st'/\((∃r z,c'=(some r,z)/\E9 (Rl lt) (a.toList++b.toList) r.toList)∨∃out2 ia2 ib2 mg2 ac bc,c'=(none,out2,ia2,ib2,mg2,ac,bc)/\M out2 ia2 ib2/\ia2+1 < a.size/\ib2 < b.size/\ia+ib+1<=ia2+ib2)
     | .yield c'=>Hg a₀ κ st st'/\∃out2 ia2 ib2 mg2 ac bc,c'=(none,out2,ia2,ib2,mg2,ac,bc)/\M out2 ia2 ib2/\ia2+1 < a.size/\ib2 < b.size/\ia+ib+1<=ia2+ib2
    refine B3 (Q:=P) ?_ λr st' h=>by cases r <;> exact h
    refine (show wpS (AR prog w) A E s (if mg2 > 1 then _ else _) P st2 from ?_);split
    all_goals
     refine AG (LQ ?_);refine AG (BA (i:=ib2) p2 ?_);refine AG (DG (base:=ia2) (n:=a.size - ia2) (hint:=0) (arr:=a) (key:=ix b ib2) (left:=false) C (s2.gal _).good (λi=>!lt (ix b ib2) (ix a (ia2+i))) (ib0 _ p2) (λi hi=>⟨by lia,ia0 _ (by lia)⟩) (λi hi=>rfl) (λi j hij hj e=>?_) (by lia) λk hk k1 k2=>?_)
     ·have e':lt (ix b ib2) (ix a (ia2+j))=false:=by simpa using e
      have:=tr _ _ _ (ia0 _ (by lia)) (ia0 _ (by lia)) (ib0 _ p2) (ua (ia2+i) (ia2+j) (by lia) (by lia)) e';simpa using this
     ·have far:∀j,ia2+k<=j->j < a.size->Rl lt (ix b ib2) (ix a j):=λj j1 j2=>by
       have:=k2 (j - ia2) (by lia) (by lia);rw [show ia2+(j - ia2)=j by lia] at this;exact O.asym _ _ (ib0 _ p2) (ia0 _ j2) (by simpa using this)
      have m5:=sA out2 ia2 ib2 k m2 (by lia) λi j hi j1 j2=>tr _ _ _ (ia0 _ (by lia)) (ib0 _ p2) (ib0 _ j2) (by simpa using k1 i hi) (ub ib2 j j1 j2)
      refine (show wpS (AR prog w) A E s (if k > 0 then _ else _) P _ from ?_)
      by_cases hk0:k > 0
      ·rw [qX hk0]
       refine (show wpS (AR prog w) A E s (if (ia2+k+1==a.size)=true then _ else _) P _ from ?_)
       by_cases d1:ia2+k+1=a.size
       ·rw [qX (by simpa using d1)]
        exact AI ⟨s2.gal _,.inl ⟨_,_,rfl,eL _ _ _ m5 d1⟩⟩
       rw [qY (by simpa using d1)]
       by_cases d2:ia2+k=a.size
       ·rw [qX (by simpa using d2)]
        exact AI ⟨s2.gal _,.inl ⟨_,_,rfl,eA _ _ _ m5 d2⟩⟩
       rw [qY (by simpa using d2)]
       have c1:ia2+k+1 < a.size:=by lia
       have c3:ia+ib+1<=ia2+k+ib2:=by lia
       have m4:=tB _ _ _ m5 p2 far;refine AG (BA (i:=ib2) p2 ?_);refine (show wpS (AR prog w) A E s (if (ib2+1==b.size)=true then _ else _) P _ from ?_)
       by_cases d:ib2+1=b.size
       ·rw [qX (by simpa using d)]
        exact AI ⟨s2.gal _,.inl ⟨_,_,rfl,eB _ _ _ m4 d⟩⟩
       rw [qY (by simpa using d)];refine AG (BA (i:=ia2+k) (by lia) ?_);refine AG (DG (base:=ib2+1) (n:=b.size - (ib2+1)) (hint:=0) (arr:=b) (key:=ix a (ia2+k)) (left:=true) C (s2.gal _).good (λi=>lt (ix b (ib2+1+i)) (ix a (ia2+k))) (ia0 _ (by lia)) (λi hi=>⟨by lia,ib0 _ (by lia)⟩) (λi hi=>rfl) (λi j hij hj e=>?_) (by lia) λk3 hk3 k4 k5=>?_)
       ·cases e2:lt (ix b (ib2+1+i)) (ix a (ia2+k)) with
        | true=>rfl
        | false=>
         have:=tr _ _ _ (ia0 _ (by lia)) (ib0 _ (by lia)) (ib0 _ (by lia)) e2 (ub (ib2+1+i) (ib2+1+j) (by lia) (by lia));exact nomatch (show true=false from (show lt (ix b (ib2+1+j)) (ix a (ia2+k))=true from e).symm.trans this)
       ·have far2:∀j,ib2+1+k3<=j->j < b.size->Rl lt (ix a (ia2+k)) (ix b j):=λj j1 j2=>by
         have:=k5 (j - (ib2+1)) (by lia) (by omega);rwa [show ib2+1+(j - (ib2+1))=j by lia] at this
        have m6:=sB _ (ia2+k) (ib2+1) k3 m4 (by lia) λi j hi j1 j2=>tr _ _ _ (ib0 _ (by lia)) (ia0 _ (by lia)) (ia0 _ j2) (O.asym _ _ (ib0 _ (by lia)) (ia0 _ (by lia)) (k4 i hi)) (ua (ia2+k) j j1 j2)
        refine (show wpS (AR prog w) A E s (if k3 > 0 then _ else _) P _ from ?_)
        by_cases hk3:k3 > 0
        ·rw [qX hk3]
         refine (show wpS (AR prog w) A E s (if (ib2+1+k3==b.size)=true then _ else _) P _ from ?_)
         by_cases d2:ib2+1+k3=b.size
         ·rw [qX (by simpa using d2)]
          exact AI ⟨s2.gal _,.inl ⟨_,_,rfl,eB _ _ _ m6 d2⟩⟩
         rw [qY (by simpa using d2)];have m7:=tA _ _ _ m6 (by lia) far2;refine AG (BA (i:=ia2+k) (by lia) ?_);refine (show wpS (AR prog w) A E s (if (ia2+k+1+1==a.size)=true then _ else _) P _ from ?_)
         by_cases d3:ia2+k+1+1=a.size
         ·rw [qX (by simpa using d3)]
          exact AI ⟨s2.gal _,.inl ⟨_,_,rfl,eL _ _ _ m7 d3⟩⟩
         rw [qY (by simpa using d3)];split
         ·exact AI ⟨s2.gal _,.inr ⟨_,ia2+k+1,ib2+1+k3,_,_,_,rfl,m7,by lia,by lia,by lia⟩⟩
         ·exact AI ⟨s2.gal _,_,ia2+k+1,ib2+1+k3,_,_,_,rfl,m7,by lia,by lia,by lia⟩
        ·rw [qY hk3]
         have:k3=0:=by lia
         subst this;have m7:=tA _ _ _ m4 (by lia) far2;refine AG (BA (i:=ia2+k) (by lia) ?_);refine (show wpS (AR prog w) A E s (if (ia2+k+1+1==a.size)=true then _ else _) P _ from ?_)
         by_cases d3:ia2+k+1+1=a.size
         ·rw [qX (by simpa using d3)]
          exact AI ⟨s2.gal _,.inl ⟨_,_,rfl,eL _ _ _ m7 d3⟩⟩
         rw [qY (by simpa using d3)];split
         ·exact AI ⟨s2.gal _,.inr ⟨_,ia2+k+1,ib2+1,_,_,_,rfl,m7,by lia,by lia,by lia⟩⟩
         ·exact AI ⟨s2.gal _,_,ia2+k+1,ib2+1,_,_,_,rfl,m7,by lia,by lia,by lia⟩
      ·rw [qY hk0]
       have:k=0:=by lia
       subst this
       have c1:ia2+1 < a.size:=by omega
       have c3:ia+ib+1<=ia2+ib2:=by omega
       have m4:=tB _ _ _ m2 p2 far;refine AG (BA (i:=ib2) p2 ?_);refine (show wpS (AR prog w) A E s (if (ib2+1==b.size)=true then _ else _) P _ from ?_)
       by_cases d:ib2+1=b.size
       ·rw [qX (by simpa using d)]
        exact AI ⟨s2.gal _,.inl ⟨_,_,rfl,eB _ _ _ m4 d⟩⟩
       rw [qY (by simpa using d)];refine AG (BA (i:=ia2) (by lia) ?_);refine AG (DG (base:=ib2+1) (n:=b.size - (ib2+1)) (hint:=0) (arr:=b) (key:=ix a ia2) (left:=true) C (s2.gal _).good (λi=>lt (ix b (ib2+1+i)) (ix a ia2)) (ia0 _ (by lia)) (λi hi=>⟨by lia,ib0 _ (by lia)⟩) (λi hi=>rfl) (λi j hij hj e=>?_) (by lia) λk3 hk3 k4 k5=>?_)
       ·cases e2:lt (ix b (ib2+1+i)) (ix a ia2) with
        | true=>rfl
        | false=>
         have:=tr _ _ _ (ia0 _ (by lia)) (ib0 _ (by lia)) (ib0 _ (by lia)) e2 (ub (ib2+1+i) (ib2+1+j) (by lia) (by lia));exact nomatch (show true=false from (show lt (ix b (ib2+1+j)) (ix a ia2)=true from e).symm.trans this)
       ·have far2:∀j,ib2+1+k3<=j->j < b.size->Rl lt (ix a ia2) (ix b j):=λj j1 j2=>by
         have:=k5 (j - (ib2+1)) (by lia) (by omega);rwa [show ib2+1+(j - (ib2+1))=j by lia] at this
        have m6:=sB _ ia2 (ib2+1) k3 m4 (by lia) λi j hi j1 j2=>tr _ _ _ (ib0 _ (by lia)) (ia0 _ (by lia)) (ia0 _ j2) (O.asym _ _ (ib0 _ (by lia)) (ia0 _ (by lia)) (k4 i hi)) (ua ia2 j j1 j2)
        refine (show wpS (AR prog w) A E s (if k3 > 0 then _ else _) P _ from ?_)
        by_cases hk3:k3 > 0
        ·rw [qX hk3]
         refine (show wpS (AR prog w) A E s (if (ib2+1+k3==b.size)=true then _ else _) P _ from ?_)
         by_cases d2:ib2+1+k3=b.size
         ·rw [qX (by simpa using d2)]
          exact AI ⟨s2.gal _,.inl ⟨_,_,rfl,eB _ _ _ m6 d2⟩⟩
         rw [qY (by simpa using d2)];have m7:=tA _ _ _ m6 (by lia) far2;refine AG (BA (i:=ia2) (by lia) ?_);refine (show wpS (AR prog w) A E s (if (ia2+1+1==a.size)=true then _ else _) P _ from ?_)
         by_cases d3:ia2+1+1=a.size
         ·rw [qX (by simpa using d3)]
          exact AI ⟨s2.gal _,.inl ⟨_,_,rfl,eL _ _ _ m7 d3⟩⟩
         rw [qY (by simpa using d3)];split
         ·exact AI ⟨s2.gal _,.inr ⟨_,ia2+1,ib2+1+k3,_,_,_,rfl,m7,by lia,by lia,by lia⟩⟩
         ·exact AI ⟨s2.gal _,_,ia2+1,ib2+1+k3,_,_,_,rfl,m7,by lia,by lia,by lia⟩
        ·rw [qY hk3]
         have:k3=0:=by lia
         subst this;have m7:=tA _ _ _ m4 (by lia) far2;refine AG (BA (i:=ia2) (by lia) ?_);refine (show wpS (AR prog w) A E s (if (ia2+1+1==a.size)=true then _ else _) P _ from ?_)
         by_cases d3:ia2+1+1=a.size
         ·rw [qX (by simpa using d3)]
          exact AI ⟨s2.gal _,.inl ⟨_,_,rfl,eL _ _ _ m7 d3⟩⟩
         rw [qY (by simpa using d3)];split
         ·exact AI ⟨s2.gal _,.inr ⟨_,ia2+1,ib2+1,_,_,_,rfl,m7,by lia,by lia,by lia⟩⟩
         ·exact AI ⟨s2.gal _,_,ia2+1,ib2+1,_,_,_,rfl,m7,by lia,by lia,by lia⟩
end
theorem MI.last2 {R:Ac->Ac->Prop} {T o ra rb:List Ac} (m:MI R T o ra rb) (h:∀x∈ra,∀y∈rb,R x y):E9 R T (o++(ra++rb)):=by
 refine ⟨m.perm,BL.mpr ⟨m.srt,BL.mpr ⟨m.sa,m.sb,h⟩,λx hx y hy=>m.low x hx y hy⟩⟩
theorem E9.rev {lt:Ac->Ac->Bool} {T r:List Ac} (f:E9 (λx y=>Rl lt y x) T r):E9 (Rl lt) T r.reverse:=⟨r.reverse_perm.trans f.perm,IS.mpr f.srt⟩
theorem S9 {a:Array Ac} {i:Nat} (h:i < a.size):(a.toList.take (i+1)).reverse=ix a i :: (a.toList.take i).reverse:=by
 have:=B4 h;rw [getElem?_pos a i h] at this;rw [DD,show a.toList[i]?=some (ix a i) by simpa using B4 h];simp
theorem QB {a:Array Ac} {i n:Nat} (h:i<=n) (hn:n<=a.size):(a.toList.take n).reverse=(a.extract i n).toList.reverse++(a.toList.take i).reverse:=by
 have e:(a.extract i n).toList=(a.toList.take n).drop i:=by simp [Ki,List.drop_take]
 rw [e,<-List.reverse_append]
 congr 1
 have:=Ee i (a.toList.take n);rw [List.take_take,show min i n=i by lia] at this;exact this.symm
theorem Ds {a:Array Ac} {n:Nat} {x:Ac} (hx:x∈(a.toList.take n).reverse):∃j,j < n/\j < a.size/\x=ix a j:=by
 rw [X8] at hx;obtain ⟨k,hk,rfl⟩:=Sf.mp hx;simp at hk;refine ⟨k,by lia,by lia,?_⟩;have:=B4 (xs:=a) (i:=k) (by lia);rw [getElem?_pos a _ (by lia)] at this;simpa using this
theorem Qa {a:Array Ac} {i n:Nat} {x:Ac} (hx:x∈(a.extract i n).toList.reverse):∃j,i<=j/\j < n/\j < a.size/\x=ix a j:=by
 rw [X8,A3,LP] at hx;obtain ⟨j,hj,rfl⟩:=hx;refine ⟨i+j,by lia,by omega,by omega,?_⟩;have:=B4 (xs:=a) (i:=i+j) (by omega);rw [getElem?_pos a _ (by omega)] at this;simpa using this
theorem FB (a:Array Ac) (n:Nat):(a.extract 0 n).toList=a.toList.take n:=by simp [Ki]
section
variable {prog:Aa} {w:As} {A:Ak} {E:AB->AD->Prop} {s:AD} {a₀:Array Ac} {κ:Dk} {lt:Ac->Ac->Bool}
theorem YO {st:Ay} {a b:Array Ac} {Q:Array Ac->Ay->Prop} (C:Ha prog w A s a₀ κ lt) (O:Ord (·∈a₀) lt) (g:Good a₀ κ st)
  (ma:∀x∈a.toList,x∈a₀) (mb:∀x∈b.toList,x∈a₀) (sa:a.toList.Pairwise (Rl lt)) (sb:b.toList.Pairwise (Rl lt)) (pa:0 < a.size) (pb:0 < b.size)
  (h0:∀x∈a.toList,Rl lt (ix b 0) x) (h1:∀y∈b.toList,Rl lt y (ix a (a.size - 1)))
  (h:∀r st',Hg a₀ κ st st'->E9 (Rl lt) (a.toList++b.toList) r.toList->Q r st'):wpS (AR prog w) A E s (mHi a b) Q st:=by
 have ia0:=PL ma;have ib0:=PL mb;have ua:=P8 O ia0 sa;have ub:=P8 O ib0 sb
 have tr:∀x y z:Ac,x∈a₀->y∈a₀->z∈a₀->Rl lt x y->Rl lt y z->Rl lt x z:=λx y z hx hy hz h1 h2=>O.ntr x y z hx hy hz h1 h2
 let M (out:Array Ac) (na nb:Nat):Prop:=MI (λx y=>Rl lt y x) (a.toList++b.toList) out.toList (a.toList.take na).reverse (b.toList.take nb).reverse
 have tA0:∀out na nb,M out (na+1) nb->na < a.size->nb<=b.size->(∀j,j < nb->Rl lt (ix b j) (ix a na))->M (out.push (ix a na)) na nb:=λout na nb m hna hnb hr=>by
  have m':MI (λx y=>Rl lt y x) (a.toList++b.toList) out.toList ([ix a na]++(a.toList.take na).reverse) (b.toList.take nb).reverse:=by rw [Ef,<-S9 hna];exact m
  have:=m'.takeA λx hx y hy=>by
   obtain ⟨j,j1,j2,rfl⟩:=Ds hy;rw [A2.mp hx];exact hr j j1
  simpa [M] using this
 have tB0:∀out na nb,M out na (nb+1)->nb < b.size->na<=a.size->(∀j,j < na->Rl lt (ix a j) (ix b nb))->M (out.push (ix b nb)) na nb:=λout na nb m hnb hna hr=>by
  have m':MI (λx y=>Rl lt y x) (a.toList++b.toList) out.toList (a.toList.take na).reverse ([ix b nb]++(b.toList.take nb).reverse):=by rw [Ef,<-S9 hnb];exact m
  have:=m'.takeB λx hx y hy=>by
   obtain ⟨j,j1,j2,rfl⟩:=Ds hy;rw [A2.mp hx];exact hr j j1
  simpa [M] using this
 have tA:∀out na nb,M out na nb->0 < na->na<=a.size->nb<=b.size->(∀j,j < nb->Rl lt (ix b j) (ix a (na - 1)))->M (out.push (ix a (na - 1))) (na - 1) nb:=λout na nb m h0 hna hnb hr=>
  tA0 out (na - 1) nb (by rw [show na - 1+1=na by lia];exact m) (by omega) hnb hr
 have tB:∀out na nb,M out na nb->0 < nb->nb<=b.size->na<=a.size->(∀j,j < na->Rl lt (ix a j) (ix b (nb - 1)))->M (out.push (ix b (nb - 1))) na (nb - 1):=λout na nb m h0 hnb hna hr=>
  tB0 out na (nb - 1) (by rw [show nb - 1+1=nb by lia];exact m) (by omega) hna hr
 have sA:∀out na nb k,M out na nb->k<=na->na<=a.size->nb<=b.size->(∀i j,k<=i->i < na->j < nb->Rl lt (ix b j) (ix a i))->M (out++(a.extract k na).reverse) k nb:=λout na nb k m hk hna hnb hr=>by
  have m':MI (λx y=>Rl lt y x) (a.toList++b.toList) out.toList ((a.extract k na).toList.reverse++(a.toList.take k).reverse) (b.toList.take nb).reverse:=by rw [<-QB hk hna];exact m
  have:=m'.takeA λx hx y hy=>by
   obtain ⟨j,j1,j2,rfl⟩:=Ds hy;obtain ⟨i,i1,i2,i3,rfl⟩:=Qa hx;exact hr i j i1 i2 j1
  show MI _ _ (out++(a.extract k na).reverse).toList _ _;rw [An,DJ];exact this
 have sB:∀out na nb k,M out na nb->k<=nb->nb<=b.size->na<=a.size->(∀i j,k<=i->i < nb->j < na->Rl lt (ix a j) (ix b i))->M (out++(b.extract k nb).reverse) na k:=λout na nb k m hk hnb hna hr=>by
  have m':MI (λx y=>Rl lt y x) (a.toList++b.toList) out.toList (a.toList.take na).reverse ((b.extract k nb).toList.reverse++(b.toList.take k).reverse):=by rw [<-QB hk hnb];exact m
  have:=m'.takeB λx hx y hy=>by
   obtain ⟨j,j1,j2,rfl⟩:=Ds hy;obtain ⟨i,i1,i2,i3,rfl⟩:=Qa hx;exact hr i j i1 i2 j1
  show MI _ _ (out++(b.extract k nb).reverse).toList _ _;rw [An,DJ];exact this
 have eA:∀out na nb,M out na nb->na=0->E9 (Rl lt) (a.toList++b.toList) (a.extract 0 na++b.extract 0 nb++out.reverse).toList:=λout na nb m e=>by
  subst e
  have m':MI (λx y=>Rl lt y x) (a.toList++b.toList) out.toList [] (b.toList.take nb).reverse:=by simpa [M] using m
  have:=m'.endB.rev;rw [An,An,FB,FB,DJ];simpa using this
 have eB:∀out na nb,M out na nb->nb=0->E9 (Rl lt) (a.toList++b.toList) (a.extract 0 na++b.extract 0 nb++out.reverse).toList:=λout na nb m e=>by
  subst e
  have m':MI (λx y=>Rl lt y x) (a.toList++b.toList) out.toList (a.toList.take na).reverse []:=by simpa [M] using m
  have:=m'.endA.rev;rw [An,An,FB,FB,DJ];simpa using this
 have eF:∀out na nb,M out na nb->nb=1->E9 (Rl lt) (a.toList++b.toList) (b.extract 0 nb++a.extract 0 na++out.reverse).toList:=λout na nb m e=>by
  have:=m.last2 λx hx y hy=>by
   obtain ⟨j,j1,j2,rfl⟩:=Ds hx;obtain ⟨i,i1,i2,rfl⟩:=Ds hy
   have:i=0:=by lia
   subst this;exact h0 _ (A3.mpr (Bl (B4 j2)))
  have:=this.rev;rw [An,An,FB,FB,DJ];simpa using this
 have m0:M #[] a.size b.size:=by
  refine ⟨?_,by simp,by simp,?_,?_⟩
  ·rw [CA (by simp),CA (by simp)]
   simpa using List.Perm.append a.toList.reverse_perm b.toList.reverse_perm
  ·rw [CA (by simp)];exact IS.mpr sa
  ·rw [CA (by simp)];exact IS.mpr sb
 have m1:M #[ix a (a.size - 1)] (a.size - 1) b.size:=by
  have:=tA #[] a.size b.size m0 pa (AS _) (AS _) λj hj=>h1 _ (A3.mpr (Bl (B4 hj)))
  simpa using this
 refine (AG (GV ?_):wpS _ _ _ _ (mHi a b) Q st);refine AG (BA (i:=a.size - 1) (by omega) ?_)
 by_cases c1:a.size - 1=0
 ·refine (show wpS (AR prog w) A E s (if (a.size - 1==0)=true then _ else _) Q st from ?_)
  rw [qX (by simpa using c1)];exact AI (h _ st ⟨g,rfl,rfl⟩ (eA _ _ _ m1 c1))
 refine (show wpS (AR prog w) A E s (if (a.size - 1==0)=true then _ else _) Q st from ?_);rw [qY (by simpa using c1)]
 by_cases c2:b.size=1
 ·rw [qX (by simpa using c2)]
  exact AI (h _ st ⟨g,rfl,rfl⟩ (eF _ _ _ m1 c2))
 rw [qY (by simpa using c2)];refine AG (En ?_)
 refine AG (B3 (BQ (I:=λx c st'=>Hg a₀ κ st st'/\∃out na nb mg,c=(none,na,nb,out,mg)/\M out na nb/\0 < na/\1 < nb/\na<=a.size/\nb<=b.size/\na+nb+1+x<=a.size+b.size)
  (Q:=λc st'=>Hg a₀ κ st st'/\∃r z,c=(some r,z)/\E9 (Rl lt) (a.toList++b.toList) r.toList) ?step ?fin ?init) ?post)
 case init=>exact ⟨⟨g,rfl,rfl⟩,_,a.size - 1,b.size,_,rfl,m1,by lia,by lia,by omega,by lia,by lia⟩
 case fin=>
  rintro c st' ⟨_,out,na,nb,mg,_,_,k1,k2,k3,k4,k5⟩
  lia
 case post=>
  rintro c st' ⟨s1,r,z,rfl,f⟩;exact AI (h r st' s1 f)
 case step=>
  rintro x c st1 _ _ ⟨s1,out,na,nb,mg,rfl,m,k1,k2,k3,k4,k5⟩
  refine AG (B3 (BQ (I:=λy c st'=>st'=st1/\∃out' na' nb' ac bc,c=(none,na',nb',out',ac,bc)/\M out' na' nb'/\0 < na'/\1 < nb'/\na'<=a.size/\nb'<=b.size/\na'+nb'+y<=na+nb)
   (Q:=λc st'=>st'=st1/\((∃r z,c=(some r,z)/\E9 (Rl lt) (a.toList++b.toList) r.toList)∨∃out' na' nb' ac bc,c=(none,na',nb',out',ac,bc)/\M out' na' nb'/\0 < na'/\1 < nb'/\na'<=a.size/\nb'<=b.size/\na'+nb'+1<=na+nb)) ?step1 ?fin1 ?init1) ?post1)
  case init1=>exact ⟨rfl,out,na,nb,0,0,rfl,m,k1,k2,k3,k4,by lia⟩
  case fin1=>
   rintro c st' ⟨rfl,out',na',nb',ac,bc,rfl,m',q1,q2,q3,q4,q5⟩;exact ⟨rfl,.inr ⟨out',na',nb',ac,bc,rfl,m',q1,q2,q3,q4,by lia⟩⟩
  case step1=>
   rintro y c st' _ _ ⟨rfl,out',na',nb',ac,bc,rfl,m',q1,q2,q3,q4,q5⟩;refine AG (BA (i:=nb' - 1) (by lia) ?_);refine AG (BA (i:=na' - 1) (by lia) ?_);refine AG (Lw C s1.good (ib0 _ (by lia)) (ia0 _ (by lia)) ?_)
   cases e:lt (ix b (nb' - 1)) (ix a (na' - 1)) with
   | true=>
    refine AG (BA (i:=na' - 1) (by lia) ?_);have r0:Rl lt (ix b (nb' - 1)) (ix a (na' - 1)):=O.asym _ _ (ib0 _ (by lia)) (ia0 _ (by lia)) e
    have m2:=tA out' na' nb' m' q1 q3 q4 λj j1=>tr _ _ _ (ib0 _ (by lia)) (ib0 _ (by lia)) (ia0 _ (by lia)) (ub j (nb' - 1) (by lia) (by lia)) r0
    refine (show wpS (AR prog w) A E s (if (na' - 1==0)=true then _ else _) _ st' from ?_)
    by_cases d:na' - 1=0
    ·rw [qX (by simpa using d)]
     exact AI ⟨rfl,.inl ⟨_,_,rfl,eA _ _ _ m2 d⟩⟩
    ·rw [qY (by simpa using d)]
     split
     ·exact AI ⟨rfl,.inr ⟨_,na' - 1,nb',_,_,rfl,m2,by lia,by omega,by lia,by omega,by lia⟩⟩
     ·exact AI ⟨rfl,_,na' - 1,nb',_,_,rfl,m2,by lia,by omega,by lia,by omega,by lia⟩
   | false=>
    refine AG (BA (i:=nb' - 1) (by lia) ?_)
    have m2:=tB out' na' nb' m' (by lia) q4 q3 λj j1=>tr _ _ _ (ia0 _ (by lia)) (ia0 _ (by lia)) (ib0 _ (by lia)) (ua j (na' - 1) (by lia) (by lia)) e
    refine (show wpS (AR prog w) A E s (if (nb' - 1==1)=true then _ else _) _ st' from ?_)
    by_cases d:nb' - 1=1
    ·rw [qX (by simpa using d)]
     exact AI ⟨rfl,.inl ⟨_,_,rfl,eF _ _ _ m2 d⟩⟩
    ·rw [qY (by simpa using d)]
     split
     ·exact AI ⟨rfl,.inr ⟨_,na',nb' - 1,_,_,rfl,m2,by omega,by lia,by omega,by lia,by lia⟩⟩
     ·exact AI ⟨rfl,_,na',nb' - 1,_,_,rfl,m2,by omega,by lia,by omega,by lia,by lia⟩
  case post1=>
   rintro c st' ⟨rfl,⟨r,z,rfl,f⟩ | ⟨out',na',nb',ac,bc,rfl,m',q1,q2,q3,q4,q5⟩⟩
   ·exact AI ⟨s1,_,_,rfl,f⟩
   refine AG (GV ?_)
   refine AG (B3 (BQ (I:=λy c st2=>Hg a₀ κ st st2/\∃out2 na2 nb2 mg2 ac bc,c=(none,na2,nb2,out2,mg2,ac,bc)/\M out2 na2 nb2/\0 < na2/\1 < nb2/\na2<=a.size/\nb2<=b.size/\na2+nb2+1<=na+nb)
    (Q:=λc st2=>Hg a₀ κ st st2/\((∃r z,c=(some r,z)/\E9 (Rl lt) (a.toList++b.toList) r.toList)∨∃out2 na2 nb2 mg2 ac bc,c=(none,na2,nb2,out2,mg2,ac,bc)/\M out2 na2 nb2/\0 < na2/\1 < nb2/\na2<=a.size/\nb2<=b.size/\na2+nb2+1<=na+nb)) ?step2 ?fin2 ?init2) ?post2)
   case init2=>exact ⟨s1,out',na',nb',mg+1,ac,bc,rfl,m',q1,q2,q3,q4,q5⟩
   case fin2=>
    rintro c st2 ⟨s2,out2,na2,nb2,mg2,ac2,bc2,rfl,m2,p1⟩;exact ⟨s2,.inr ⟨out2,na2,nb2,mg2,ac2,bc2,rfl,m2,p1⟩⟩
   case post2=>
    rintro c st2 ⟨s2,⟨r,z,rfl,f⟩ | ⟨out2,na2,nb2,mg2,ac2,bc2,rfl,m2,p1,p2,p3,p4,p5⟩⟩
    ·exact AI ⟨s2,_,_,rfl,f⟩
    ·exact AG (LQ (AI ⟨s2.gal _,out2,na2,nb2,mg2+1,rfl,m2,p1,p2,p3,p4,by lia⟩))
   case step2=>
    rintro y c st2 _ _ ⟨s2,out2,na2,nb2,mg2,ac2,bc2,rfl,m2,p1,p2,p3,p4,p5⟩
    let P:ForInStep (Option (Array Ac)×Nat×Nat×Array Ac×Nat×Nat×Nat)->Ay->Prop:=λr st'=>match r with
     | .done c'=>Hg a₀ κ st st'/\((∃r z,c'=(some r,z)/\E9 (Rl lt) (a.toList++b.toList) r.toList)∨∃out2 na2 nb2 mg2 ac bc,c'=(none,na2,nb2,out2,mg2,ac,bc)/\M out2 na2 nb2/\0 < na2/\1 < nb2/\na2<=a.size/\nb2<=b.size/\na2+nb2+1<=na+nb)
     | .yield c'=>Hg a₀ κ st st'/\∃out2 na2 nb2 mg2 ac bc,c'=(none,na2,nb2,out2,mg2,ac,bc)/\M out2 na2 nb2/\0 < na2/\1 < nb2/\na2<=a.size/\nb2<=b.size/\na2+nb2+1<=na+nb
    refine B3 (Q:=P) ?_ λr st' h=>by cases r <;> exact h
    refine (show wpS (AR prog w) A E s (if mg2 > 1 then _ else _) P st2 from ?_);split
    all_goals
     refine AG (LQ ?_);refine AG (BA (i:=nb2 - 1) (by lia) ?_);refine AG (DG (base:=0) (n:=na2) (hint:=na2 - 1) (arr:=a) (key:=ix b (nb2 - 1)) (left:=false) C (s2.gal _).good (λi=>!lt (ix b (nb2 - 1)) (ix a (0+i))) (ib0 _ (by lia)) (λi hi=>⟨by lia,ia0 _ (by lia)⟩) (λi hi=>rfl) (λi j hij hj e=>?_) (by lia) λk hk k1 k2=>?_)
     ·have e':lt (ix b (nb2 - 1)) (ix a (0+j))=false:=by simpa using e
      have:=tr _ _ _ (ia0 _ (by lia)) (ia0 _ (by lia)) (ib0 _ (by lia)) (ua (0+i) (0+j) (by lia) (by lia)) e';simpa using this
     ·have near:∀j,j < k->Rl lt (ix a j) (ix b (nb2 - 1)):=λj j1=>by
       have:=k1 j j1;rw [EN] at this;simpa using this
      have m5:=sA out2 na2 nb2 k m2 hk p3 p4 λi j i1 i2 j1=>by
       have:=k2 i i1 i2;rw [EN] at this;exact tr _ _ _ (ib0 _ (by lia)) (ib0 _ (by lia)) (ia0 _ (by lia)) (ub j (nb2 - 1) (by lia) (by lia)) (O.asym _ _ (ib0 _ (by lia)) (ia0 _ (by lia)) (by simpa using this))
      refine (show wpS (AR prog w) A E s (if na2 - k > 0 then _ else _) P _ from ?_)
      by_cases hk0:na2 - k > 0
      ·rw [qX hk0]
       refine (show wpS (AR prog w) A E s (if (k==0)=true then _ else _) P _ from ?_)
       by_cases d1:k=0
       ·rw [qX (by simpa using d1)]
        exact AI ⟨s2.gal _,.inl ⟨_,_,rfl,eA _ _ _ m5 d1⟩⟩
       rw [qY (by simpa using d1)];have m4:=tB _ _ _ m5 (by lia) p4 (by lia) near;refine AG (BA (i:=nb2 - 1) (by lia) ?_);refine (show wpS (AR prog w) A E s (if (nb2 - 1==1)=true then _ else _) P _ from ?_)
       by_cases d:nb2 - 1=1
       ·rw [qX (by simpa using d)]
        exact AI ⟨s2.gal _,.inl ⟨_,_,rfl,eF _ _ _ m4 d⟩⟩
       rw [qY (by simpa using d)];refine AG (BA (i:=k - 1) (by omega) ?_);refine AG (DG (base:=0) (n:=nb2 - 1) (hint:=nb2 - 1 - 1) (arr:=b) (key:=ix a (k - 1)) (left:=true) C (s2.gal _).good (λi=>lt (ix b (0+i)) (ix a (k - 1))) (ia0 _ (by omega)) (λi hi=>⟨by lia,ib0 _ (by lia)⟩) (λi hi=>rfl) (λi j hij hj e=>?_) (by lia) λk3 hk3 k4 k5=>?_)
       ·cases e2:lt (ix b (0+i)) (ix a (k - 1)) with
        | true=>rfl
        | false=>
         have:=tr _ _ _ (ia0 _ (by lia)) (ib0 _ (by lia)) (ib0 _ (by lia)) e2 (ub (0+i) (0+j) (by lia) (by lia));exact nomatch (show true=false from (show lt (ix b (0+j)) (ix a (k - 1))=true from e).symm.trans this)
       ·have near2:∀j,j < k3->Rl lt (ix b j) (ix a (k - 1)):=λj j1=>by
         have:=k4 j j1;rw [EN] at this;exact O.asym _ _ (ib0 _ (by lia)) (ia0 _ (by omega)) this
        have m6:=sB _ k (nb2 - 1) k3 m4 hk3 (by lia) (by lia) λi j i1 i2 j1=>by
         have:=k5 i i1 i2;rw [EN] at this;exact tr _ _ _ (ia0 _ (by lia)) (ia0 _ (by lia)) (ib0 _ (by lia)) (ua j (k - 1) (by lia) (by lia)) this
        refine (show wpS (AR prog w) A E s (if nb2 - 1 - k3 > 0 then _ else _) P _ from ?_)
        by_cases hk4:nb2 - 1 - k3 > 0
        ·rw [qX hk4]
         refine (show wpS (AR prog w) A E s (if (k3==1)=true then _ else _) P _ from ?_)
         by_cases d2:k3=1
         ·rw [qX (by simpa using d2)]
          exact AI ⟨s2.gal _,.inl ⟨_,_,rfl,eF _ _ _ m6 d2⟩⟩
         rw [qY (by simpa using d2)]
         by_cases d4:k3=0
         ·rw [qX (by simpa using d4)]
          exact AI ⟨s2.gal _,.inl ⟨_,_,rfl,eB _ _ _ m6 d4⟩⟩
         rw [qY (by simpa using d4)];have m7:=tA _ _ _ m6 (by lia) (by lia) (by lia) near2;refine AG (BA (i:=k - 1) (by lia) ?_);refine (show wpS (AR prog w) A E s (if (k - 1==0)=true then _ else _) P _ from ?_)
         by_cases d3:k - 1=0
         ·rw [qX (by simpa using d3)]
          exact AI ⟨s2.gal _,.inl ⟨_,_,rfl,eA _ _ _ m7 d3⟩⟩
         rw [qY (by simpa using d3)];split
         ·exact AI ⟨s2.gal _,.inr ⟨_,k - 1,k3,_,_,_,rfl,m7,by lia,by lia,by lia,by lia,by lia⟩⟩
         ·exact AI ⟨s2.gal _,_,k - 1,k3,_,_,_,rfl,m7,by lia,by lia,by lia,by lia,by lia⟩
        ·rw [qY hk4]
         have:k3=nb2 - 1:=by lia
         subst this;have m7:=tA _ _ _ m4 (by lia) (by lia) (by lia) near2;refine AG (BA (i:=k - 1) (by lia) ?_);refine (show wpS (AR prog w) A E s (if (k - 1==0)=true then _ else _) P _ from ?_)
         by_cases d3:k - 1=0
         ·rw [qX (by simpa using d3)]
          exact AI ⟨s2.gal _,.inl ⟨_,_,rfl,eA _ _ _ m7 d3⟩⟩
         rw [qY (by simpa using d3)];split
         ·exact AI ⟨s2.gal _,.inr ⟨_,k - 1,nb2 - 1,_,_,_,rfl,m7,by lia,by lia,by lia,by lia,by lia⟩⟩
         ·exact AI ⟨s2.gal _,_,k - 1,nb2 - 1,_,_,_,rfl,m7,by lia,by lia,by lia,by lia,by lia⟩
      ·rw [qY hk0]
       have:k=na2:=by lia
       subst this;have m4:=tB _ _ _ m2 (by lia) p4 (by omega) near;refine AG (BA (i:=nb2 - 1) (by lia) ?_);refine (show wpS (AR prog w) A E s (if (nb2 - 1==1)=true then _ else _) P _ from ?_)
       by_cases d:nb2 - 1=1
       ·rw [qX (by simpa using d)]
        exact AI ⟨s2.gal _,.inl ⟨_,_,rfl,eF _ _ _ m4 d⟩⟩
       rw [qY (by simpa using d)];refine AG (BA (i:=k - 1) (by lia) ?_);refine AG (DG (base:=0) (n:=nb2 - 1) (hint:=nb2 - 1 - 1) (arr:=b) (key:=ix a (k - 1)) (left:=true) C (s2.gal _).good (λi=>lt (ix b (0+i)) (ix a (k - 1))) (ia0 _ (by lia)) (λi hi=>⟨by lia,ib0 _ (by lia)⟩) (λi hi=>rfl) (λi j hij hj e=>?_) (by lia) λk3 hk3 k4 k5=>?_)
       ·cases e2:lt (ix b (0+i)) (ix a (k - 1)) with
        | true=>rfl
        | false=>
         have:=tr _ _ _ (ia0 _ (by lia)) (ib0 _ (by lia)) (ib0 _ (by lia)) e2 (ub (0+i) (0+j) (by lia) (by lia));exact nomatch (show true=false from (show lt (ix b (0+j)) (ix a (k - 1))=true from e).symm.trans this)
       ·have near2:∀j,j < k3->Rl lt (ix b j) (ix a (k - 1)):=λj j1=>by
         have:=k4 j j1;rw [EN] at this;exact O.asym _ _ (ib0 _ (by lia)) (ia0 _ (by lia)) this
        have m6:=sB _ k (nb2 - 1) k3 m4 hk3 (by lia) (by omega) λi j i1 i2 j1=>by
         have:=k5 i i1 i2;rw [EN] at this;exact tr _ _ _ (ia0 _ (by lia)) (ia0 _ (by lia)) (ib0 _ (by lia)) (ua j (k - 1) (by lia) (by lia)) this
        refine (show wpS (AR prog w) A E s (if nb2 - 1 - k3 > 0 then _ else _) P _ from ?_)
        by_cases hk4:nb2 - 1 - k3 > 0
        ·rw [qX hk4]
         refine (show wpS (AR prog w) A E s (if (k3==1)=true then _ else _) P _ from ?_)
         by_cases d2:k3=1
         ·rw [qX (by simpa using d2)]
          exact AI ⟨s2.gal _,.inl ⟨_,_,rfl,eF _ _ _ m6 d2⟩⟩
         rw [qY (by simpa using d2)]
         by_cases d4:k3=0
         ·rw [qX (by simpa using d4)]
          exact AI ⟨s2.gal _,.inl ⟨_,_,rfl,eB _ _ _ m6 d4⟩⟩
         rw [qY (by simpa using d4)];have m7:=tA _ _ _ m6 (by omega) (by omega) (by lia) near2;refine AG (BA (i:=k - 1) (by lia) ?_);refine (show wpS (AR prog w) A E s (if (k - 1==0)=true then _ else _) P _ from ?_)
         by_cases d3:k - 1=0
         ·rw [qX (by simpa using d3)]
          exact AI ⟨s2.gal _,.inl ⟨_,_,rfl,eA _ _ _ m7 d3⟩⟩
         rw [qY (by simpa using d3)];split
         ·exact AI ⟨s2.gal _,.inr ⟨_,k - 1,k3,_,_,_,rfl,m7,by lia,by lia,by lia,by lia,by lia⟩⟩
         ·exact AI ⟨s2.gal _,_,k - 1,k3,_,_,_,rfl,m7,by lia,by lia,by lia,by lia,by lia⟩
        ·rw [qY hk4]
         have:k3=nb2 - 1:=by lia
         subst this;have m7:=tA _ _ _ m4 (by omega) (by omega) (by lia) near2;refine AG (BA (i:=k - 1) (by lia) ?_);refine (show wpS (AR prog w) A E s (if (k - 1==0)=true then _ else _) P _ from ?_)
         by_cases d3:k - 1=0
         ·rw [qX (by simpa using d3)]
          exact AI ⟨s2.gal _,.inl ⟨_,_,rfl,eA _ _ _ m7 d3⟩⟩
         rw [qY (by simpa using d3)];split
         ·exact AI ⟨s2.gal _,.inr ⟨_,k - 1,nb2 - 1,_,_,_,rfl,m7,by lia,by lia,by lia,by lia,by lia⟩⟩
         ·exact AI ⟨s2.gal _,_,k - 1,nb2 - 1,_,_,_,rfl,m7,by lia,by lia,by lia,by lia,by lia⟩
end
def wr (arr:Array Ac) (sa:Nat) (l:List (Ac×Nat)):Array Ac:=l.foldl (λa (x:Ac×Nat)=>match x with | (p,j)=>a.setIfInBounds (sa+j) p) arr
theorem Oj (sa:Nat):∀(l:List Ac) (k:Nat) (arr:Array Ac),sa+k+l.length<=arr.size->(wr arr sa (l.zipIdx k)).toList=arr.toList.take (sa+k)++l++arr.toList.drop (sa+k+l.length)
 | [],k,arr,h=>by simp [wr]
 | x :: l,k,arr,h=>by
  rw [Af] at h;have e:wr arr sa ((x :: l).zipIdx k)=wr (arr.setIfInBounds (sa+k) x) sa (l.zipIdx (k+1)):=rfl;rw [e,Oj sa l (k+1) _ (by simp;lia)]
  have hk:sa+k < arr.toList.length:=by simp;lia
  rw [NP,Af,show sa+(k+1)=sa+k+1 by lia];rw [DD,List.take_set_of_le (AS _),A7 hk,List.drop_set_of_lt (by lia)];simp [show sa+k+1+l.length=sa+k+(l.length+1) by lia]
theorem ix_list (a:Array Ac) (i:Nat):ix a i=(a.toList[i]?).getD (.none,.none):=by
 unfold ix;rw [C9];simp
theorem XQ {arr m:Array Ac} {sa:Nat} (h:sa+m.size<=arr.size) (i:Nat):ix (wr arr sa m.toList.zipIdx) i=if i < sa then ix arr i else if i < sa+m.size then ix m (i - sa) else ix arr i:=by
 have e:=Oj sa m.toList 0 arr (by simpa using h);rw [ix_list,show m.toList.zipIdx=m.toList.zipIdx 0 from rfl,e,dF]
 have hl:(arr.toList.take sa).length=sa:=by simp;lia
 split
 ·rename_i h1
  rw [BJ,Ad (by lia),Ps h1,ix_list]
 ·rename_i h1
  split
  ·rename_i h2
   rw [BJ,A5 (by lia),hl,Ad (by simp;lia),ix_list]
  ·rename_i h2
   rw [A5 (by simp;lia),Fe,ix_list]
   congr 2
   simp
   lia
theorem Y4 {arr m:Array Ac} {sa:Nat} (h:sa+m.size<=arr.size) (hp:m.toList.Perm (arr.extract sa (sa+m.size)).toList):(wr arr sa m.toList.zipIdx).Perm arr:=by
 rw [DK];have e:=Oj sa m.toList 0 arr (by simpa using h);rw [show m.toList.zipIdx=m.toList.zipIdx 0 from rfl,e,dF]
 have e2:arr.toList=arr.toList.take sa++(arr.extract sa (sa+m.size)).toList++arr.toList.drop (sa+m.toList.length):=by
  rw [BJ,BB,<-FO h,Ee]
 conv=>rhs;rw [e2]
 exact NK _ (Gz _ hp)
theorem SA {a:Array Ac} {lo hi i:Nat} (h:hi<=a.size) (hi':i < hi - lo):ix (a.extract lo hi) i=ix a (lo+i):=by
 apply Gi
 rw [Array.getElem?_extract];simp
 lia
section
variable {prog:Aa} {w:As} {A:Ak} {E:AB->AD->Prop} {s:AD} {a₀:Array Ac} {κ:Dk} {lt:Ac->Ac->Bool}
theorem WC {a:Array Ac} {lo hi:Nat} (h:hi<=a.size) (u:Up lt a lo hi):(a.extract lo hi).toList.Pairwise (Rl lt):=by
 rw [Og];intro i j hi' hj hij;simp at hi' hj
 have e:∀k (hk:k < (a.extract lo hi).toList.length),(a.extract lo hi).toList[k]=ix a (lo+k):=λk hk=>by
  have hk':k < (a.extract lo hi).size:=by rw [BB] at hk;exact hk
  have:=B4 hk';rw [getElem?_pos (a.extract lo hi) k hk'] at this
  have hs:(a.extract lo hi).size=hi - lo:=by simp;lia
  rw [<-SA h (by lia)];simpa using this
 rw [e,e];exact u _ _ (by lia) (by lia) (by omega)
theorem YM {st st1:Ay} {Q:PUnit->Ay->Prop} (h:Q ⟨⟩ st1):wpS (AR prog w) A E s (set st1:StateT Ay Sem PUnit) Q st:=AI h
theorem Pz {st:Ay} {i sa na pw sb nb pw2:Nat} {Q:Bool->Ay->Prop} (C:Ha prog w A s a₀ κ lt) (O:Ord (·∈a₀) lt) (g:Good a₀ κ st)
  (e1:(AO st)[i]?=some (sa,na,pw)) (e2:(AO st)[i+1]?=some (sb,nb,pw2)) (hab:sb=sa+na) (hna:1<=na) (hnb:1<=nb) (hs:sb+nb<=a₀.size)
  (ua:Up lt (AM st) sa (sa+na)) (ub:Up lt (AM st) sb (sb+nb))
  (h:∀st',Good a₀ κ st'->AO st'=((AO st).setIfInBounds i (sa,na+nb,pw)).eraseIdxIfInBounds (i+1)->Up lt (AM st') sa (sa+(na+nb))->Out (AM st) (AM st') sa (sa+(na+nb))->Q true st') :
  wpS (AR prog w) A E s (mergeAt' i) Q st:=by
 subst hab;have hsz:=g.size
 have mem:∀j,j < a₀.size->ix (AM st) j∈a₀:=λj hj=>g.mem hj
 have tr:∀x y z:Ac,x∈a₀->y∈a₀->z∈a₀->Rl lt x y->Rl lt y z->Rl lt x z:=λx y z hx hy hz h1 h2=>O.ntr x y z hx hy hz h1 h2
 refine (AG (En ?_):wpS _ _ _ _ (mergeAt' i) Q st);rw [show (sortPriv% PySem.Builtin.SortState.pending) st=AO st from rfl,e1,e2];refine AG (YM ?_);generalize hst1:((sortPriv% PySem.Builtin.SortState.mk) (kindOf st) (AM st) (((AO st).setIfInBounds i (sa,na+nb,pw)).eraseIdxIfInBounds (i+1)) (gallopOf st) (FZ st))=st1
 have g1:Good a₀ κ st1:=by subst hst1;exact ⟨g.perm,g.kind,g.failed⟩
 have a1:AM st1=AM st:=by subst hst1;rfl
 have p1:AO st1=((AO st).setIfInBounds i (sa,na+nb,pw)).eraseIdxIfInBounds (i+1):=by subst hst1;rfl
 refine AG (BA (a:=AM st) (i:=sa+na) (by lia) ?_);refine AG (DG (base:=sa) (n:=na) (hint:=0) (arr:=AM st) (key:=ix (AM st) (sa+na)) (left:=false) C g1 (λj=>!lt (ix (AM st) (sa+na)) (ix (AM st) (sa+j))) (mem _ (by lia)) (λj hj=>⟨by lia,mem _ (by lia)⟩) (λj hj=>rfl) (λx y hxy hy e=>?_) (by lia) λk hk k1 k2=>?_)
 ·have e':lt (ix (AM st) (sa+na)) (ix (AM st) (sa+y))=false:=by simpa using e
  have:=tr _ _ _ (mem _ (by lia)) (mem _ (by lia)) (mem _ (by lia)) (ua (sa+x) (sa+y) (by lia) (by lia) (by lia)) e';simpa using this
 have low:∀j,sa<=j->j < sa+k->Rl lt (ix (AM st) j) (ix (AM st) (sa+na)):=λj j1 j2=>by
  have:=k1 (j - sa) (by lia);rw [show sa+(j - sa)=j by lia] at this;simpa using this
 have lowb:∀i j,sa<=i->i < sa+k->sa+na<=j->j < sa+na+nb->Rl lt (ix (AM st) i) (ix (AM st) j):=λi j i1 i2 j1 j2=>tr _ _ _ (mem _ (by lia)) (mem _ (by lia)) (mem _ (by lia)) (low i i1 i2) (ub _ _ (by lia) (by omega) (by omega))
 have whole:(∀j,sa<=j->j < sa+na->Rl lt (ix (AM st) j) (ix (AM st) (sa+na)))->Up lt (AM st) sa (sa+(na+nb)):=λhh x y h1 h2 h3=>by
  by_cases c1:y < sa+na
  ·exact ua x y h1 h2 c1
  by_cases c2:x < sa+na
  ·exact tr _ _ _ (mem _ (by lia)) (mem _ (by lia)) (mem _ (by lia)) (hh x h1 c2) (ub _ _ (by lia) (by lia) (by lia))
  ·exact ub x y (by lia) h2 (by lia)
 refine (show wpS (AR prog w) A E s (if (na - k==0)=true then _ else _) Q st1 from ?_)
 by_cases c1:na - k=0
 ·rw [qX (by simpa using c1)]
  refine AI (h st1 g1 p1 ?_ (by rw [a1];exact .refl));rw [a1]
  exact whole λj j1 j2=>low j j1 (by lia)
 rw [qY (by simpa using c1)];refine AG (BA (a:=AM st) (i:=sa+k+(na - k) - 1) (by omega) ?_);rw [show sa+k+(na - k) - 1=sa+na - 1 by lia];refine AG (DG (base:=sa+na) (n:=nb) (hint:=nb - 1) (arr:=AM st) (key:=ix (AM st) (sa+na - 1)) (left:=true) C g1 (λj=>lt (ix (AM st) (sa+na+j)) (ix (AM st) (sa+na - 1))) (mem _ (by lia)) (λj hj=>⟨by lia,mem _ (by lia)⟩) (λj hj=>rfl) (λx y hxy hy e=>?_) (by omega) λk3 hk3 k4 k5=>?_)
 ·cases e2:lt (ix (AM st) (sa+na+x)) (ix (AM st) (sa+na - 1)) with
  | true=>rfl
  | false=>
   have:=tr _ _ _ (mem _ (by lia)) (mem _ (by lia)) (mem _ (by lia)) e2 (ub (sa+na+x) (sa+na+y) (by lia) (by lia) (by lia));exact nomatch (show true=false from (show lt (ix (AM st) (sa+na+y)) (ix (AM st) (sa+na - 1))=true from e).symm.trans this)
 have high:∀j,sa+na+k3<=j->j < sa+na+nb->Rl lt (ix (AM st) (sa+na - 1)) (ix (AM st) j):=λj j1 j2=>by
  have:=k5 (j - (sa+na)) (by lia) (by lia);rwa [show sa+na+(j - (sa+na))=j by lia] at this
 refine (show wpS (AR prog w) A E s (if (k3==0)=true then _ else _) Q st1 from ?_)
 by_cases c2:k3=0
 ·rw [qX (by simpa using c2)]
  refine AI (h st1 g1 p1 ?_ (by rw [a1];exact .refl));rw [a1]
  exact whole λj j1 j2=>tr _ _ _ (mem _ (by lia)) (mem _ (by lia)) (mem _ (by lia)) (ua j (sa+na - 1) (by omega) (by lia) (by lia)) (high _ (by lia) (by lia))
 rw [qY (by simpa using c2)]
 let x:=(AM st).extract (sa+k) (sa+na)
 let y:=(AM st).extract (sa+na) (sa+na+k3)
 have xs:x.size=na - k:=by simp [x];lia
 have ys:y.size=k3:=by simp [y];lia
 have ixx:∀j,j < na - k->ix x j=ix (AM st) (sa+k+j):=λj hj=>SA (by lia) (by lia)
 have ixy:∀j,j < k3->ix y j=ix (AM st) (sa+na+j):=λj hj=>SA (by lia) (by lia)
 have memx:∀z∈x.toList,∃j,j < na - k/\z=ix (AM st) (sa+k+j):=λz hz=>by
  have hz:z∈((AM st).extract (sa+k) (sa+k+(na - k))).toList:=by rw [show sa+k+(na - k)=sa+na by lia];exact hz
  exact LZ (by lia) hz
 have memy:∀z∈y.toList,∃j,j < k3/\z=ix (AM st) (sa+na+j):=λz hz=>LZ (by lia) hz
 have fin:∀(r:Array Ac) (st':Ay),Hg a₀ κ st1 st'->E9 (Rl lt) (x.toList++y.toList) r.toList->∀st2:Ay,AM st2=wr (AM st') (sa+k) r.toList.zipIdx->kindOf st2=kindOf st'->FZ st2=FZ st'->AO st2=AO st'->Q true st2:=by
  intro r st' sm f st2 q1 q2 q3 q4
  have hr:r.size=na - k+k3:=by
   have:=f.perm.length_eq;simp only [At,BB] at this
   lia
  have ha:AM st'=AM st:=sm.arr.trans a1;rw [ha] at q1
  have hb:sa+k+r.size<=(AM st).size:=by lia
  have mm:∀t,t < r.size->∃t',ix r t=ix (AM st) t'/\sa+k<=t'/\t' < sa+na+k3:=λt ht=>by
   have:ix r t∈r.toList:=A3.mpr (Bl (B4 ht))
   rcases BP.mp (f.perm.mem_iff.mp this) with h | h
   ·obtain ⟨j,j1,e⟩:=memx _ h
    exact ⟨_,e,by lia,by lia⟩
   ·obtain ⟨j,j1,e⟩:=memy _ h
    exact ⟨_,e,by lia,by lia⟩
  have rs:=P8 O (a:=r) (λt ht=>by
   obtain ⟨t',e,_,_⟩:=mm t ht;rw [e]
   exact mem _ (by lia)) f.srt
  refine h st2 ⟨?_,?_,?_⟩ (q4.trans (sm.pend.trans p1)) ?_ ?_
  ·rw [q1]
   refine (Y4 hb (f.perm.trans ?_)).trans g.perm
   have:(AM st).toList.drop (sa+k)=x.toList++(AM st).toList.drop (sa+na):=by
    have:=FO (a:=AM st) (i:=sa+k) (k:=na - k) (by lia);rw [show sa+k+(na - k)=sa+na by lia] at this;exact this
   have h2:(AM st).toList.drop (sa+na)=y.toList++(AM st).toList.drop (sa+na+k3):=FO (by lia);have h3:(AM st).toList.drop (sa+k)=((AM st).extract (sa+k) (sa+k+r.size)).toList++(AM st).toList.drop (sa+k+r.size):=FO hb;rw [this,h2,<-BJ,show sa+k+r.size=sa+na+k3 by lia] at h3;rw [show sa+k+r.size=sa+na+k3 by lia];exact Si (List.append_cancel_right h3)
  ·rw [q2];exact sm.good.kind
  ·rw [q3];exact sm.good.failed
  ·rw [q1]
   intro i j h1 h2 h3;show Rl lt _ _;rw [XQ hb,XQ hb]
   by_cases i1:i < sa+k
   ·rw [qX i1]
    by_cases j1:j < sa+k
    ·rw [qX j1];exact ua i j h1 h2 (by lia)
    rw [qY j1]
    by_cases j2:j < sa+k+r.size
    ·rw [qX j2]
     obtain ⟨t,e,t1,t2⟩:=mm (j - (sa+k)) (by omega);rw [e]
     by_cases t3:t < sa+na
     ·exact ua i t h1 (by lia) t3
     ·exact lowb i t h1 i1 (by lia) (by lia)
    ·rw [qY j2];exact lowb i j h1 i1 (by lia) (by lia)
   rw [qY i1,qY (show ¬j < sa+k by lia)]
   by_cases i2:i < sa+k+r.size
   ·rw [qX i2]
    by_cases j2:j < sa+k+r.size
    ·rw [qX j2];exact rs _ _ (by lia) (by omega)
    ·rw [qY j2]
     obtain ⟨t,e,t1,t2⟩:=mm (i - (sa+k)) (by omega);rw [e]
     by_cases t3:t < sa+na
     ·exact tr _ _ _ (mem _ (by lia)) (mem _ (by lia)) (mem _ (by lia)) (ua t (sa+na - 1) (by lia) (by lia) (by lia)) (high j (by lia) (by lia))
     ·exact ub t j (by lia) (by lia) (by lia)
   ·rw [qY i2,qY (show ¬j < sa+k+r.size by lia)]
    exact ub i j (by lia) h2 (by lia)
  ·rw [q1]
   intro i hi;rw [XQ hb]
   by_cases i1:i < sa+k
   ·rw [qX i1]
   ·rw [qY i1,qY (by lia)]
 have args:∀ {P:Prop},((∀z∈x.toList,z∈a₀)->(∀z∈y.toList,z∈a₀)->x.toList.Pairwise (Rl lt)->y.toList.Pairwise (Rl lt)->0 < x.size->0 < y.size->(∀z∈x.toList,Rl lt (ix y 0) z)->(∀z∈y.toList,Rl lt z (ix x (x.size - 1)))->P)->P:=by
  intro P hP
  refine hP (λz hz=>?_) (λz hz=>?_) (WC (by lia) λi j h1 h2 h3=>ua i j (by lia) h2 h3) (WC (by lia) λi j h1 h2 h3=>ub i j h1 h2 (by lia)) (by lia) (by lia) (λz hz=>?_) λz hz=>?_
  ·obtain ⟨j,j1,rfl⟩:=memx z hz
   exact mem _ (by lia)
  ·obtain ⟨j,j1,rfl⟩:=memy z hz
   exact mem _ (by lia)
  ·obtain ⟨j,j1,rfl⟩:=memx z hz
   rw [ixy 0 (by lia)];have:=k2 (k+j) (by lia) (by lia);rw [show sa+(k+j)=sa+k+j by lia] at this;exact O.asym _ _ (mem _ (by lia)) (mem _ (by lia)) (by simpa using this)
  ·obtain ⟨j,j1,rfl⟩:=memy z hz
   rw [xs,ixx _ (by lia),show sa+k+(na - k - 1)=sa+na - 1 by lia];exact O.asym _ _ (mem _ (by lia)) (mem _ (by lia)) (k4 j j1)
 refine (show wpS (AR prog w) A E s (if na - k<=k3 then mLo x y >>= _ else mHi x y >>= _) Q st1 from ?_);split
 ·refine AG (args λb1 b2 b3 b4 b5 b6 b7 b8=>YN C O g1 b1 b2 b3 b4 b5 b6 b7 b8 λr st' sm f=>?_)
  refine AG (CB (AG (En (AI ?_))));have q:=fin r st' sm f (setArr st' (wr (AM st') (sa+k) r.toList.zipIdx)) rfl rfl rfl rfl;rw [<-show (FZ st').isNone=true by rw [sm.good.failed];rfl] at q;exact q
 ·refine AG (args λb1 b2 b3 b4 b5 b6 b7 b8=>YO C O g1 b1 b2 b3 b4 b5 b6 b7 b8 λr st' sm f=>?_)
  refine AG (CB (AG (En (AI ?_))));have q:=fin r st' sm f (setArr st' (wr (AM st') (sa+k) r.toList.zipIdx)) rfl rfl rfl rfl;rw [<-show (FZ st').isNone=true by rw [sm.good.failed];rfl] at q;exact q
end
theorem ZR {c:Prop} [Decidable c] {z:Nat} (h:1 < z):(if c then z - 2 - 1 else z - 2)+1 < z:=by split <;> omega
def Stk (lt:Ac->Ac->Bool) (arr:Array Ac):List (Nat×Nat×Nat)->Nat->Nat->Prop
 | [],lo,hi=>lo=hi
 | (s,n,_) :: r,lo,hi=>s=lo/\1<=n/\Up lt arr s (s+n)/\Stk lt arr r (s+n) hi
section
variable {lt:Ac->Ac->Bool} {arr arr':Array Ac}
theorem Stk.le:∀ {l:List (Nat×Nat×Nat)} {lo hi:Nat},Stk lt arr l lo hi->lo+l.length<=hi
 | [],lo,hi,h=>by cases h;simp
 | (s,n,_) :: r,lo,hi,⟨h1,h2,_,h4⟩=>by
  have:=Stk.le h4;rw [Af]
  lia
theorem Stk.app:∀ {l r:List (Nat×Nat×Nat)} {lo hi:Nat},Stk lt arr (l++r) lo hi↔∃mid,Stk lt arr l lo mid/\Stk lt arr r mid hi
 | [],r,lo,hi=>⟨λh=>⟨lo,rfl,h⟩,λ⟨_,e,h⟩=>by cases e;exact h⟩
 | (s,n,_) :: l,r,lo,hi=>by
  constructor
  ·rintro ⟨h1,h2,h3,h4⟩
   obtain ⟨mid,a,b⟩:=Stk.app.mp h4;exact ⟨mid,⟨h1,h2,h3,a⟩,b⟩
  ·rintro ⟨mid,⟨h1,h2,h3,h4⟩,b⟩
   exact ⟨h1,h2,h3,Stk.app.mpr ⟨mid,h4,b⟩⟩
theorem Stk.pw {f:Nat×Nat×Nat->Nat×Nat×Nat} (hf:∀x,(f x).1=x.1/\(f x).2.1=x.2.1):∀ {l:List (Nat×Nat×Nat)} {lo hi:Nat} (i:Nat),Stk lt arr l lo hi->Stk lt arr (l.modify i f) lo hi
 | [],lo,hi,i,h=>by cases i <;> exact h
 | (s,n,p) :: r,lo,hi,0,h=>by
  obtain ⟨e1,e2⟩:=hf (s,n,p);show Stk lt arr (f (s,n,p) :: r) lo hi;generalize f (s,n,p)=q at e1 e2;obtain ⟨s',n',p'⟩:=q;dsimp only at e1 e2;subst e1 e2;exact h
 | (s,n,p) :: r,lo,hi,i+1,⟨h1,h2,h3,h4⟩=>⟨h1,h2,h3,Stk.pw hf i h4⟩
theorem Stk.out:∀ {l:List (Nat×Nat×Nat)} {lo hi x y:Nat},Stk lt arr l lo hi->Out arr arr' x y->(hi<=x∨y<=lo)->Stk lt arr' l lo hi
 | [],lo,hi,x,y,h,o,d=>h
 | (s,n,_) :: r,lo,hi,x,y,⟨h1,h2,h3,h4⟩,o,d=>by
  have:=h4.le;exact ⟨h1,h2,h3.out o (by lia),Stk.out h4 o (by lia)⟩
end
section
variable {prog:Aa} {w:As} {A:Ak} {E:AB->AD->Prop} {s:AD} {a₀:Array Ac} {κ:Dk} {lt:Ac->Ac->Bool}
theorem Out.wide {xs ys:Array Ac} {l h l' h':Nat} (o:Out xs ys l h) (h1:l'<=l) (h2:h<=h'):Out xs ys l' h':=λi hi=>o i (by lia)
theorem G1 {st:Ay} {i hi:Nat} {Q:Bool->Ay->Prop} (C:Ha prog w A s a₀ κ lt) (O:Ord (·∈a₀) lt) (g:Good a₀ κ st) (k:Stk lt (AM st) (AO st).toList 0 hi) (hs:hi<=a₀.size) (hi1:i+1 < (AO st).size)
  (h:∀st',Good a₀ κ st'->Stk lt (AM st') (AO st').toList 0 hi->(AO st').size+1=(AO st).size->Out (AM st) (AM st') 0 hi->Q true st'):wpS (AR prog w) A E s (mergeAt' i) Q st:=by
 obtain ⟨sa,na,pw,e1⟩:∃sa na pw,(AO st)[i]?=some (sa,na,pw):=⟨_,_,_,getElem?_pos (AO st) i (by lia)⟩
 obtain ⟨sb,nb,pw2,e2⟩:∃sa na pw,(AO st)[i+1]?=some (sa,na,pw):=⟨_,_,_,getElem?_pos (AO st) (i+1) hi1⟩
 obtain ⟨l,r,el,hl⟩:∃l r,(AO st).toList=l++(sa,na,pw) :: (sb,nb,pw2) :: r/\l.length=i:=by
  have a1:(AO st).toList[i]?=some (sa,na,pw):=by simpa using e1
  have a2:(AO st).toList[i+1]?=some (sb,nb,pw2):=by simpa using e2
  obtain ⟨b1,c1⟩:=AJ.mp a1;obtain ⟨b2,c2⟩:=AJ.mp a2;refine ⟨(AO st).toList.take i,(AO st).toList.drop (i+2),?_,by rw [Ci];lia⟩
  conv=>lhs;rw [<-Ee i (AO st).toList,GF b1,GF b2,c1,c2]
 rw [el] at k;obtain ⟨mid,k1,⟨q1,q2,q3,⟨q4,q5,q6,q7⟩⟩⟩:=Stk.app.mp k;have hle:=q7.le;have hle1:=k1.le
 refine Pz C O g e1 e2 q4 q2 q5 (by lia) q3 q6 λst' g' p' u' o'=>?_
 have pl:(AO st').toList=l++(sa,na+nb,pw) :: r:=by
  rw [p',Array.toList_eraseIdxIfInBounds,NP,el];rw [List.set_append_right _ _ (by lia),hl,Nat.sub_self,List.set_cons_zero,List.eraseIdx_append_of_length_le (by lia),show i+1 - l.length=1 by lia];rfl
 refine h st' g' ?_ ?_ (o'.wide (by lia) (by lia))
 ·rw [pl]
  refine Stk.app.mpr ⟨mid,k1.out o' (.inl (by lia)),q1,by lia,u',?_⟩
  have e:sb+nb=sa+(na+nb):=by lia
  rw [e] at q7;exact q7.out o' (.inr (by lia))
 ·have z1:=congrArg GP pl
  have z2:=congrArg GP el;simp at z1 z2
  lia
theorem wpS_sortRuns {st:Ay} {Q:Unit->Ay->Prop} (C:Ha prog w A s a₀ κ lt) (O:Ord (·∈a₀) lt) (g:Good a₀ κ st) (hp:AO st = #[])
  (h:∀st',Good a₀ κ st'->Up lt (AM st') 0 a₀.size->Q () st'):wpS (AR prog w) A E s sortRuns' Q st:=by
 rw [sortRuns'_eq];refine AG (En ?_);dsimp only;rw [g.size];generalize minRun' a₀.size a₀.size 0=mr
 refine AG (B3 (BQ (I:=λx c st'=>∃lo,c=(none,lo)/\Good a₀ κ st'/\Stk lt (AM st') (AO st').toList 0 lo/\lo<=a₀.size/\min x a₀.size<=lo)
  (Q:=λc st'=>c=(none,a₀.size)/\Good a₀ κ st'/\Stk lt (AM st') (AO st').toList 0 a₀.size) ?step ?fin ?init) ?post)
 case init=>exact ⟨0,rfl,g,by rw [hp];rfl,by lia,by lia⟩
 case fin=>
  rintro c st' ⟨lo,rfl,g',k',h1,h2⟩
  have:lo=a₀.size:=by lia
  subst this;exact ⟨rfl,g',k'⟩
 case step=>
  rintro x c st1 _ hx ⟨lo,rfl,g1,k1,h1,h2⟩;dsimp only
  by_cases hge:lo ≥ a₀.size
  ·rw [qX hge]
   have:lo=a₀.size:=by lia
   subst this;exact AI ⟨rfl,g1,k1⟩
  rw [qY hge];refine AG (wpS_countRun C O (by lia) (by lia) g1 λst2 n g2 n1 n2 u2 o2 p2=>?_);dsimp only
  have k2:Stk lt (AM st2) (AO st2).toList 0 lo:=by
   rw [p2];exact k1.out o2 (.inl (AS _))
  by_cases hm:n < mr
  ·rw [qX hm]
   refine AG (GV ?_);refine AG (wpS_binarySort C O (by lia) (by omega) g2 u2 λst3 g3 u3 o3 p3=>?_)
   have k3:Stk lt (AM st3) (AO st3).toList 0 lo:=by
    rw [p3];exact k2.out o3 (.inl (AS _))
   rw [qY (by simp)];refine AG (En ?_)
   cases hb:(AO st3).back? with
   | none=>
    dsimp only;refine AG (CB (AI ⟨lo+min (a₀.size - lo) mr,rfl,⟨g3.perm,g3.kind,g3.failed⟩,?_,by lia,by lia⟩));show Stk lt (AM st3) ((AO st3).push (lo,min (a₀.size - lo) mr,0)).toList 0 (lo+min (a₀.size - lo) mr);rw [GH];exact Stk.app.mpr ⟨lo,k3,rfl,by omega,u3,rfl⟩
   | some t=>
    obtain ⟨s1,n1,z⟩:=t;dsimp only;generalize power' a₀.size (2 * s1+n1) (2 * s1+n1+n1+min (a₀.size - lo) mr) a₀.size=pw
    refine AG (B3 (BQ (I:=λ_ c st4=>c=(none,())/\Good a₀ κ st4/\Stk lt (AM st4) (AO st4).toList 0 lo/\Up lt (AM st4) lo (lo+min (a₀.size - lo) mr))
     (Q:=λc st4=>c=(none,())/\Good a₀ κ st4/\Stk lt (AM st4) (AO st4).toList 0 lo/\Up lt (AM st4) lo (lo+min (a₀.size - lo) mr)) ?_ (λc st4 h=>h) ⟨rfl,g3,k3,u3⟩) ?_)
    ·rintro x' c' st4 _ _ ⟨rfl,g4,k4,u4⟩
     refine AG (En ?_)
     by_cases hz:(AO st4).size > 1
     ·rw [qX hz]
      obtain ⟨s2,n2,older,e2⟩:∃s2 n2 older,(AO st4)[(AO st4).size - 2]?=some (s2,n2,older):=⟨_,_,_,getElem?_pos (AO st4) ((AO st4).size - 2) (by lia)⟩
      rw [e2];dsimp only
      by_cases ho:older<=pw
      ·rw [qX ho]
       exact AI ⟨rfl,g4,k4,u4⟩
      ·rw [qY ho]
       refine AG (G1 C O g4 k4 (by omega) (by lia) λst5 g5 k5 _ o5=>?_);exact AI ⟨rfl,g5,k5,u4.out o5 (.inr (by lia))⟩
     ·rw [qY hz]
      exact AI ⟨rfl,g4,k4,u4⟩
    ·rintro c' st4 ⟨rfl,g4,k4,u4⟩
     dsimp only;refine AG (CB (AG (CB (AI ⟨lo+min (a₀.size - lo) mr,rfl,⟨g4.perm,g4.kind,g4.failed⟩,?_,by lia,by lia⟩))));show Stk lt (AM st4) ((((AO st4).modify ((AO st4).size - 1) λx=>(x.fst,x.2.fst,pw))).push (lo,min (a₀.size - lo) mr,0)).toList 0 (lo+min (a₀.size - lo) mr);rw [GH,Sk];exact Stk.app.mpr ⟨lo,Stk.pw (f:=λx=>(x.fst,x.2.fst,pw)) (λx=>⟨rfl,rfl⟩) _ k4,rfl,by omega,u4,rfl⟩
  ·rw [qY hm]
   refine AG (En ?_)
   cases hb:(AO st2).back? with
   | none=>
    dsimp only;refine AG (CB (AI ⟨lo+n,rfl,⟨g2.perm,g2.kind,g2.failed⟩,?_,by lia,by lia⟩));show Stk lt (AM st2) ((AO st2).push (lo,n,0)).toList 0 (lo+n);rw [GH];exact Stk.app.mpr ⟨lo,k2,rfl,by omega,u2,rfl⟩
   | some t=>
    obtain ⟨s1,n1,z⟩:=t;dsimp only;generalize power' a₀.size (2 * s1+n1) (2 * s1+n1+n1+n) a₀.size=pw
    refine AG (B3 (BQ (I:=λ_ c st4=>c=(none,())/\Good a₀ κ st4/\Stk lt (AM st4) (AO st4).toList 0 lo/\Up lt (AM st4) lo (lo+n))
     (Q:=λc st4=>c=(none,())/\Good a₀ κ st4/\Stk lt (AM st4) (AO st4).toList 0 lo/\Up lt (AM st4) lo (lo+n)) ?_ (λc st4 h=>h) ⟨rfl,g2,k2,u2⟩) ?_)
    ·rintro x' c' st4 _ _ ⟨rfl,g4,k4,u4⟩
     refine AG (En ?_)
     by_cases hz:(AO st4).size > 1
     ·rw [qX hz]
      obtain ⟨s2,n2,older,e2⟩:∃s2 n2 older,(AO st4)[(AO st4).size - 2]?=some (s2,n2,older):=⟨_,_,_,getElem?_pos (AO st4) ((AO st4).size - 2) (by lia)⟩
      rw [e2];dsimp only
      by_cases ho:older<=pw
      ·rw [qX ho]
       exact AI ⟨rfl,g4,k4,u4⟩
      ·rw [qY ho]
       refine AG (G1 C O g4 k4 (by omega) (by lia) λst5 g5 k5 _ o5=>?_);exact AI ⟨rfl,g5,k5,u4.out o5 (.inr (by lia))⟩
     ·rw [qY hz]
      exact AI ⟨rfl,g4,k4,u4⟩
    ·rintro c' st4 ⟨rfl,g4,k4,u4⟩
     dsimp only;refine AG (CB (AG (CB (AI ⟨lo+n,rfl,⟨g4.perm,g4.kind,g4.failed⟩,?_,by lia,by lia⟩))));show Stk lt (AM st4) ((((AO st4).modify ((AO st4).size - 1) λx=>(x.fst,x.2.fst,pw))).push (lo,n,0)).toList 0 (lo+n);rw [GH,Sk];exact Stk.app.mpr ⟨lo,Stk.pw (f:=λx=>(x.fst,x.2.fst,pw)) (λx=>⟨rfl,rfl⟩) _ k4,rfl,by omega,u4,rfl⟩
 case post=>
  rintro c st1 ⟨rfl,g1,k1⟩;dsimp only
  refine AG (B3 (BQ (I:=λx c st4=>c=(none,())/\Good a₀ κ st4/\Stk lt (AM st4) (AO st4).toList 0 a₀.size/\((AO st4).size<=1∨(AO st4).size+x<=a₀.size))
   (Q:=λc st4=>c=(none,())/\Good a₀ κ st4/\Stk lt (AM st4) (AO st4).toList 0 a₀.size/\(AO st4).size<=1) ?_ ?_ ?_) ?_)
  ·rintro x c st4 _ _ ⟨rfl,g4,k4,d⟩
   refine AG (En ?_)
   by_cases hz:(AO st4).size<=1
   ·rw [qX hz]
    exact AI ⟨rfl,g4,k4,hz⟩
   ·rw [qY hz]
    refine AG (G1 C O g4 k4 (AS _) (ZR (by lia)) λst5 g5 k5 z5 o5=>?_);exact AI ⟨rfl,g5,k5,.inr (by lia)⟩
  ·rintro c st4 ⟨rfl,g4,k4,d⟩
   exact ⟨rfl,g4,k4,by lia⟩
  ·refine ⟨rfl,g1,k1,.inr ?_⟩
   have:=k1.le;simp at this;omega
  ·rintro c st4 ⟨rfl,g4,k4,d⟩
   refine AI (h st4 g4 ?_);generalize hl:(AO st4).toList=l at k4
   have hd:l.length<=1:=by rw [<-hl];simpa using d
   match l,k4,hd with
   | [],k4,_=>exact λi j h1 h2 h3=>by have:(0:Nat)=a₀.size:=k4;lia
   | [(s,n,_)],⟨e1,_,u,e2⟩,_=>
    have e2:s+n=a₀.size:=e2;rw [e2,e1] at u;exact u
end
def ltL:List Int->List Int->Bool
 | [],[]=>false
 | [],_ :: _=>true
 | _ :: _,[]=>false
 | x :: xs,y :: ys=>if x=y then ltL xs ys else decide (x < y)
theorem Mj:∀x y,ltL x y=true->ltL y x=false
 | [],[],h=>by cases h
 | [],_ :: _,_=>rfl
 | _ :: _,[],h=>by cases h
 | x :: xs,y :: ys,h=>by
  unfold ltL at h ⊢
  by_cases e:x=y
  ·rw [qX e] at h;rw [qX e.symm];exact Mj xs ys h
  ·rw [qY e] at h;rw [qY (Bp e)];simp at h ⊢;lia
theorem PH:∀x y z,ltL y x=false->ltL z y=false->ltL z x=false
 | [],y,[],_,_=>rfl
 | [],[],_ :: _,_,_=>rfl
 | [],_ :: _,_ :: _,_,_=>rfl
 | x :: xs,[],z,h,_=>by cases h
 | _,y :: ys,[],_,h=>by cases h
 | x :: xs,y :: ys,z :: zs,h1,h2=>by
  unfold ltL at h1 h2 ⊢
  by_cases e1:y=x
  ·rw [qX e1] at h1
   subst e1
   by_cases e2:z=y
   ·rw [qX e2] at h2 ⊢
    exact PH xs ys zs h1 h2
   ·rw [qY e2] at h2 ⊢;exact h2
  ·rw [qY e1] at h1
   by_cases e2:z=y
   ·subst e2;rw [qY e1];exact h1
   ·rw [qY e2] at h2
    by_cases e3:z=x
    ·subst e3;simp at h1 h2;lia
    ·rw [qY e3];simp at h1 h2 ⊢;lia
theorem PF:∀x y,ltL x y=false->ltL y x=false->x=y
 | [],[],_,_=>rfl
 | [],_ :: _,h,_=>by cases h
 | _ :: _,[],_,h=>by cases h
 | x :: xs,y :: ys,h1,h2=>by
  unfold ltL at h1 h2
  by_cases e:x=y
  ·rw [qX e] at h1;rw [qX e.symm] at h2;rw [e,PF xs ys h1 h2]
  ·rw [qY e] at h1;rw [qY (Bp e)] at h2;simp at h1 h2;lia
def ltK (f:AB->List Int) (x y:Ac):Bool:=ltL (f x.1) (f y.1)
theorem ZC (f:AB->List Int) (U:Ac->Prop):Ord U (ltK f):=⟨λx y _ _ h=>Mj _ _ h,λx y z _ _ _ h1 h2=>PH _ _ _ h1 h2⟩
section
variable {prog:Aa} {w:As} {A:Ak} {E:AB->AD->Prop} {s:AD}
theorem Rv {a b:Int} {t u:Tok} (o:Bool) {Q:Bool->AD->Prop} (h:Q (decide (a < b)) s):Ab (AR prog w) A (oneLt' o (.int a t) (.int b u)) Q E s:=by
 cases o with
 | true=>exact oneLt_int h
 | false=>
  rw [oneLt'_eq];simp only [A1,if_false];exact AC (wpAny_lt_int (Cf h))
def SX (s:AD) (v:AB) (ns:List Int):Prop:=∃a its,v=.ref a/\s.heap.IsTuple a its/\B1 its.toList ns
def fC (o:Bool):(AB×AB)×Nat->Option Bool×Unit->Sem (ForInStep (Option Bool×Unit)):=λe _=>match e with
 | ((p,q),i)=>eqBool p q >>= λc=>if (!c)=true then oneLt' (o&&i==0) p q >>= λb=>pure (.done (some b,())) else pure (.yield (none,()))
theorem XN (o:Bool) (x y:AB):keyLt' (cu o) x y=(Ff x >>= λr=>Ff y >>= λq=>forIn (r.toList.zip q.toList).zipIdx ((none,()):Option Bool×Unit) (fC o) >>= λz=>match z.1 with
  | some b=>pure b
  | none=>pure (decide (r.size < q.size))):=by kernel_rfl
theorem Xw (o:Bool) {n0:Nat}:∀ {is js:List AB} {ns ms:List Int} (k:Nat) {Q:Bool->AD->Prop},B1 is ns->B1 js ms->Q (ltL ns ms) s ->
  Ab (AR prog w) A (forIn ((is.zip js).zipIdx k) ((none,()):Option Bool×Unit) (fC o) >>= λz=>match z.1 with
   | some b=>pure b
   | none=>pure (decide (n0+is.length < n0+js.length))) Q E s:=by
 intro is
 induction is with
 | nil=>
  intro js ns ms k Q h1 h2 hq;cases h1;rw [Vr,YI,Z0];refine AC (AH (AH ?_))
  cases h2 with
  | nil=>simpa [ltL] using hq
  | cons m t h=>simpa [ltL] using hq
 | cons v is ih=>
  intro js ns ms k Q h1 h2 hq
  cases h1 with
  | cons n t h1=>
   cases h2 with
   | nil=>
    rw [Vk,YI,Z0];refine AC (AH (AH ?_));rw [wY (by rw [Af,C3];lia)];exact hq
   | cons m u h2=>
    rw [J9,List.zipIdx_cons,YL];rw [bind_assoc];unfold ltL at hq;refine AC ?_;refine AC (dA ?_)
    by_cases e:n=m
    ·rw [qX e] at hq
     rw [qY (by simp [e])];refine AH ?_;have:=ih (k+1) h1 h2 hq;simpa [Nat.add_lt_add_iff_left] using this
    ·rw [qY e] at hq
     rw [qX (by simp [e])];refine AC (Rv _ (AH ?_));exact AC (AH (AH hq))
end
section
variable {prog:Aa} {w:As} {A:Ak} {E:AB->AD->Prop} {s:AD}
theorem KJ {v:AB} {ns:List Int} (h:SX s v ns):∃its:Array AB,B1 its.toList ns/\s.TypeIs v "tuple"/\∀(E:AB->AD->Prop) (Q:Array AB->AD->Prop),Q its s->Ab (AR prog w) A (Ff v) Q E s:=by
 obtain ⟨a,its,rfl,⟨o,ho,hc,n,hd⟩,hi⟩:=h;exact ⟨its,hi,⟨o,ho,hc⟩,λE Q q=>listItems_at ho hd q⟩
theorem Zi {x y:AB} {ns ms:List Int} (o:Bool) (hx:SX s x ns) (hy:SX s y ms) {Q:Bool->AD->Prop} (h:Q (ltL ns ms) s):Ab (AR prog w) A (keyLt' (cu o) x y) Q E s:=by
 obtain ⟨r,hr,_,wr⟩:=KJ (prog:=prog) (w:=w) (A:=A) hx;obtain ⟨q,hq,_,wq⟩:=KJ (prog:=prog) (w:=w) (A:=A) hy;rw [XN];refine AC (wr E _ (AC (wq E _ ?_)));have:=Xw (prog:=prog) (w:=w) (A:=A) (E:=E) (n0:=0) o 0 hr hq h;simp only [EN,BB] at this;exact this
theorem U4 {v:AB} {n:Int} {ns:List Int} (h:SX s v (n :: ns)) {Q:Option AB->AD->Prop} (hq:∀t,Q (some (.int n t)) s):Ab (AR prog w) A (UG v) Q E s:=by
 obtain ⟨r,hr,ty,wr⟩:=KJ (prog:=prog) (w:=w) (A:=A) h;refine (AC (wpAny_typeOf ty ?_):Ab _ _ (UG v) Q E s);refine (show Ab (AR prog w) A (if (Dz "tuple" != Dz "tuple")=true then _ else _) Q E s from ?_);rw [qY (by simp)];refine AC (wr E _ (AH ?_));generalize hl:r.toList=l at hr
 cases hr with
 | cons _ t h2=>
  have:r[0]?=some (.int n t):=by
   rw [<-RC,hl];rfl
  rw [this];exact hq t
theorem M0:∀ {vs:List AB},(∀v∈vs,∃n ns,SX s v (n :: ns))->∀ {Q:List (Option AB)->AD->Prop},(∀is ns,B1 is ns->is.length=vs.length->Q (is.map some) s)->Ab (AR prog w) A (vs.mapM UG) Q E s
 | [],_,Q,h=>by
  rw [List.mapM_nil];exact AH (h [] [] .nil rfl)
 | v :: vs,hv,Q,h=>by
  obtain ⟨n,ns,hn⟩:=hv v Ae;rw [List.mapM_cons];refine AC (U4 hn λt=>AC (M0 (λv hv'=>hv v (AV _ hv')) λis ms h1 h2=>AH ?_));exact h (.int n t :: is) (n :: ms) (.cons n t h1) (by rw [Af,h2,Af])
theorem O5 {is:List AB} {ns:List Int} (h:B1 is ns) (h0:is≠[]):oneTypeOnly' is.toArray=pure (some (.type "int")):=by
 rw [oneTypeOnly'_eq,Vu,mapM_typeOf_ints h];simp only [map_pure,pure_bind]
 cases is with
 | nil=>exact zX rfl h0
 | cons v is=>
  have e0:(Nk (λ_=>Dz "int") (v :: is)).toArray[0]?=some (Dz "int"):=by simp
  have e1:((Nk (λ_=>Dz "int") (v :: is)).toArray.all λx=>x==Dz "int")=true:=by
   simp only [List.all_toArray,Q9,DZ]
   exact λ_ _=>rfl
  rw [e0];simp only [e1,if_true]
theorem XJ {vs:List AB} (hv:∀v∈vs,∃n ns,SX s v (n :: ns)) (h0:vs≠[]) {Q:Dk->AD->Prop} (h:Q (cu true) s):Ab (AR prog w) A (keyKind' vs.toArray) Q E s:=by
 rw [keyKind'_eq,Vu];refine AC ?_;rw [map_eq_pure_bind];refine AC (M0 hv λis ns h1 h2=>AH ?_)
 have hall:((is.map some).toArray.all λx=>x.isSome)=true:=by simp
 rw [qX hall];refine AC (wpAny_rule ?_)
 have hf:(is.map some).toArray.filterMap id=is.toArray:=by simp
 rw [hf,O5 h1 (by intro e;subst e;cases vs with | nil=>exact h0 rfl | cons=>simp at h2)];refine AC (AH (AH ?_));exact h
end
section
variable {prog:Aa} {w:As} {A:Ak} {E:AB->AD->Prop} {s:AD}
theorem ET {vs:List AB} {x:Ac} (h:x∈Hh vs):x.1∈vs/\x.1=x.2:=by
 have:x∈(Hh vs).toList:=A3.mpr h;rw [pairsOf_toList] at this;exact ⟨(mem_zip_self this).2,(mem_zip_self this).1⟩
theorem Uh (vs:List AB):(Hh vs).map (·.2)=vs.toArray:=by
 apply Array.ext'
 rw [G0,pairsOf_toList];simp [List.map_snd_zip]
def Pm (prog:Aa) (w:As) (A:Ak) (s:AD) (vs:List AB) (f:AB->List Int):Prop:=
 ∃κ:Dk,(∀(Q:Dk->AD->Prop) (E:AB->AD->Prop),Q κ s->Ab (AR prog w) A (keyKind' vs.toArray) Q E s)/\Ha prog w A s (Hh vs) κ (ltK f)
theorem NY {a:AE} {vs:List AB} {n:Nat} {P:Fin->AD->Prop} {f:AB->List Int} (ho:s.heap.get? a=some (Fq "list" vs.toArray n)) (hz:vs.length<=sizeLine)
  (hk:2<=vs.length->∀s':AD,(∀b o,b≠a->s.heap.get? b=some o->s'.heap.get? b=some o)->Pm prog w A s' vs f)
  (h:∀out:Array AB,out.toList.Perm vs->out.toList.Pairwise (λx y=>ltL (f y) (f x)=false)->P (.done (.ret .none)) { s with heap:=aI s.heap a vs out }) :
  Ab (AR prog w) A (Builtin.«list.sort» ⟨[.ref a],[]⟩) P E s:=by
 have ha:a < s.heap.objs.size:=AT ho
 have hsz:vs.toArray.size=vs.length:=by simp
 obtain ⟨e1,ho1⟩:∃e1,(s.heap.update a (Fu λ_=>#[])).get? a=some (Fq "list" #[] e1):=⟨_,get?_update_seq ho (λ_=>#[])⟩
 have ho6:(((s.heap.update a (Fu λ_=>#[])).push (Fq "tuple" vs.toArray 0)).push (Fq "list" #[] 0)).get? a=some (Fq "list" #[] e1):=
  AF _ (AF _ ho1)
 have old:∀b o,b≠a->s.heap.get? b=some o->(((s.heap.update a (Fu λ_=>#[])).push (Fq "tuple" vs.toArray 0)).push (Fq "list" #[] 0)).get? b=some o:=λb o hb hg=>
  AF _ (AF _ (by rw [UN _ _ _ _ hb];exact hg))
 have fin:∀st':Ay,(AM st').Perm (Hh vs)->(AM st').toList.Pairwise (Rl (ltK f))->P (.done (.ret .none)) { s with heap:=aI s.heap a vs ((AM st').map (·.2)) }:=by
  intro st' hp hs
  have hmem:∀x∈(AM st').toList,x.1=x.2:=λx hx=>by
   have:x∈(Hh vs).toList:=(DK.mp hp).mem_iff.mp hx;exact (ET (A3.mp this)).2
  refine h _ ?_ ?_
  ·have:=(DK.mp hp).map (·.2)
   rw [<-G0,<-G0,Uh] at this;simpa using this
  ·rw [G0,DE]
   refine hs.imp_of_mem λ{x y} hx hy r=>?_
   rw [<-hmem x hx,<-hmem y hy];exact r
 have last:∀st':Ay,(AM st').Perm (Hh vs)->FZ st'=none->(AM st').toList.Pairwise (Rl (ltK f))->(((AM st').map (·.2)).size<=sizeLine+1):=λst' hp _ _=>by
  rw [Array.size_map,hp.size_eq,pairsOf_size]
  lia
 rw [list_sort_plain];refine AC (listItems_at ho rfl (AC (UF ho rfl (AC (YD ho1 rfl (AC (wpAny_newTuple (AC (wpAny_newList (Cn ?_)))))) ) (by rw [hsz];exact hz) (DV _))));show Ab (AR prog w) A _ P E { s with heap:=((s.heap.update a (Fu λ_=>#[])).push (Fq "tuple" vs.toArray 0)).push (Fq "list" #[] 0) };dsimp only
 by_cases h2:vs.toArray.size < 2
 ·rw [qX h2,qX h2]
  refine AC (AH ?_);rw [StateT.run_pure]
  have hs0:(AM (EZ RD (vs.toArray.zip vs.toArray) #[] 7 none)).toList.Pairwise (Rl (ltK f)):=by
   have:(AM (EZ RD (vs.toArray.zip vs.toArray) #[] 7 none)).toList.length < 2:=by
    rw [BB];show (Hh vs).size < 2;rw [pairsOf_size];omega
   generalize (AM (EZ RD (vs.toArray.zip vs.toArray) #[] 7 none)).toList=l at this
   match l,this with
   | [],_=>exact .nil
   | [x],_=>exact List.pairwise_singleton _ _
   | _ :: _ :: _,h=>simp at h;lia
  refine AC (AH (AC (YD ho6 rfl (AC (UF ho6 rfl ?_ (DV _) (last (EZ RD (vs.toArray.zip vs.toArray) #[] 7 none) (KA _) rfl hs0))))));simp only [bne_self_eq_false,A1,if_false];exact AH (fin (EZ RD (vs.toArray.zip vs.toArray) #[] 7 none) (KA _) hs0)
 ·rw [qY h2,qY h2]
  obtain ⟨κ,kk,C⟩:=hk (by lia) { s with heap:=((s.heap.update a (Fu λ_=>#[])).push (Fq "tuple" vs.toArray 0)).push (Fq "list" #[] 0) } old;refine AC (kk _ _ ?_)
  refine AC (Cm (Srt.wpS_sortRuns (a₀:=Hh vs) (st:=EZ κ (vs.toArray.zip vs.toArray) #[] 7 none)
   (Q:=λ_ st'=>(AM st').Perm (Hh vs)/\FZ st'=none/\(AM st').toList.Pairwise (Rl (ltK f))) C (ZC f _) ⟨KA _,rfl,rfl⟩ rfl λst' g u=>⟨g.perm,g.failed,?_⟩) ?_ λ_ _ e=>e)
  ·have:=WC (a:=AM st') (lo:=0) (hi:=(AM st').size) (AS _) (by rw [g.size];exact u)
   rwa [HH,Nl] at this
  rintro ⟨⟨⟩,st'⟩ s' ⟨rfl,hp,hf,hs⟩;refine AC (YD ho6 rfl (AC (UF ho6 rfl ?_ (DV _) (last st' hp hf hs))));rw [hf];simp only [bne_self_eq_false,A1,if_false];exact AH (fin st' hp hs)
theorem UU {vs:List AB} {f:AB->List Int} (h:∀v∈vs,SX s v (f v)/\f v≠[]) (h0:vs≠[]):Pm prog w A s vs f:=
 ⟨cu true,λQ E q=>XJ (λv hv=>by
  obtain ⟨h1,h2⟩:=h v hv
  cases e:f v with
  | nil=>exact zX e h2
  | cons n ns=>exact ⟨n,ns,by rw [<-e];exact h1⟩) h0 q,λx y hx hy Q E q=>Zi true (h _ (ET hx).1).1 (h _ (ET hy).1).1 q⟩
def Wu (v:AB):List Int:=[numOf v]
theorem UV {vs:List AB} {ns:List Int} (h:B1 vs ns) (h2:2<=vs.length):Pm prog w A s vs Wu:=by
 refine ⟨oneType',λQ E q=>?_,λx y hx hy Q E q=>?_⟩
 ·match vs,h2,h with
  | v :: u :: r,_,h=>rw [keyKind_ints h];exact AH q
 ·obtain ⟨n,t,e1⟩:=h.all _ (ET hx).1
  obtain ⟨m,u,e2⟩:=h.all _ (ET hy).1;rw [keyLt'_oneType,e1,e2];refine oneLt_int ?_
  have:ltK Wu x y=decide (n < m):=by
   unfold ltK Wu;rw [e1,e2];show (if n=m then false else decide (n < m))=_;split
   ·rename_i e;simp [e]
   ·rfl
  rw [<-this];exact q
end
def Nd (h:BG) (d:AE) (es:Array Kj) (ep:Nat):Prop:=∃o,h.get? d=some o/\o.ExactDict/\o.data=.dict es ep
theorem Nd.at' {h h':BG} {d:AE} {es:Array Kj} {ep:Nat} (x:Nd h d es ep) (e:∀o,h.get? d=some o->h'.get? d=some o):Nd h' d es ep:=let ⟨o,ho,r⟩:=x;⟨o,e _ ho,r⟩
theorem Nd.ty {s:AD} {d:AE} {es:Array Kj} {ep:Nat} (x:Nd s.heap d es ep):s.TypeIs (.ref d) "dict":=let ⟨o,ho,hc,_⟩:=x;⟨o,ho,hc.1⟩
section
variable {prog:Aa} {w:As} {A:Ak} {E:AB->AD->Prop} {s:AD} {d it:AE} {es:Array Kj} {ep i:Nat}
theorem WX {Q:AB->AD->Prop} (hd:(d==DA)=false) (hm:Nd s.heap d es ep)
  (kq:Q (.ref s.heap.objs.size) { s with heap:=s.heap.push { cls:=.type "dict_keyiterator",data:=.fields #[.ref d,.int 0 0,.int es.size 0,.int ep 0] } }):Ab (AR prog w) A (aJ (.ref d)) Q E s:=by
 have hT:=hm.ty;obtain ⟨o,ho,hc,hdat⟩:=hm;refine wpAny_pyIter_slot hT Od (Dw Od hT PySem.F.entry_dict_iter ?_ (PySem.F.args_dict_iter_1 _));unfold Builtin.«dict.__iter__»;refine AC ?_;unfold fS;refine AC (wpAny_notOrdered_dict hT (show Ab _ _ (pure (Ap d)) _ _ s from AH ?_));refine (show Ab _ _ (Lv d >>= _) _ _ s from ?_);unfold Lv;rw [qY (by simp [hd])];refine AC (AH (AC (NG ho hdat (AC (Pv ho hdat (AC (Bk (AH ⟨_,rfl, "dict_keyiterator",_,⟨_,AU _ rfl,rfl⟩,Bc.lookup,?_⟩))))))));simpa [DB] using kq
theorem WW {Q:Option AB->AD->Prop} (ki:s.heap.IsKeyIter it d i es.size ep) (hm:Nd s.heap d es ep) (hi:i < es.size)
  (kq:∀h',h'.IsKeyIter it d (i+1) es.size ep->Da it s.heap h'->Q (some es[i].key) { s with heap:=h' }):Ab (AR prog w) A (OY (.ref it)) Q E s:=by
 obtain ⟨o,ho,hc,hd⟩:=id ki;obtain ⟨od,hod,hcd,hdd⟩:=hm;unfold OY;refine AC (FT (EY (name:=Fa "__next__") ki.typeIs Bc (Dw Bc ki.typeIs Ii (AC (AH (AC (AC ?_)))) (Ic _))))
 first | refine AC (C8 ki.typeIs (AH (AC (KB ho hd ?_)))) | refine AC (EF ki.typeIs (AH (AC (KB ho hd ?_))))
 simp only [show Hk "dict_keyiterator" = false by decide,A1,if_false];refine (show Ab _ _ (if (Ap d==BF)=true then _ else _) _ _ s from ?_);rw [qY (λz:(Ap d==BF)=true=>AW z)];refine AC (AH (AC (NG hod hdd ?_)));rw [qY (by simp)];refine AC (AH (AC (Pv hod hdd ?_)));rw [qY (by simp)];refine AH ?_;simp only [show ¬((i:Int) < 0) by lia,if_false,Bj,Fv hi];refine AC ?_
 first | refine AC (C8 ki.typeIs (AH (AC (JL ki.typeIs ?_)))) | refine AC (EF ki.typeIs (AH (AC (JL ki.typeIs ?_))))
 refine (show Ab _ _ (YC (.ref it) 1 (DB ((i:Int)+1)) >>= _) _ _ s from ?_);have ki':(s.heap.update it (Bv (·.setIfInBounds 1 (DB ((i:Int)+1))))).IsKeyIter it d (i+1) es.size ep:=⟨_,Eg _ ho (El (Bt hd _)),(K8 ..).trans hc,by rw [Bt hd];simp [DB]⟩;refine AC (Gu ho hd (by simp) (AC (Cn (AC (JL (s:={ s with heap:=s.heap.update it (Bv (·.setIfInBounds 1 (DB ((i:Int)+1)))) }) ki'.typeIs ?_)))));exact (show Ab _ _ (pure es[i].key) _ _ _ from AH (AH ⟨_,rfl,AH (kq _ ki' (NM ..))⟩))
theorem Yo {Q:Option AB->AD->Prop} (h0:A.handled=none) (ki:s.heap.IsKeyIter it d i es.size ep) (hm:Nd s.heap d es ep) (hi:es.size<=i)
  (kq:∀h',dH it s.heap h'->Q none { s with heap:=h' }):Ab (AR prog w) A (OY (.ref it)) Q E s:=by
 obtain ⟨o,ho,hc,hd⟩:=id ki;obtain ⟨od,hod,hcd,hdd⟩:=hm;unfold OY;refine AC (FT (EY (name:=Fa "__next__") ki.typeIs Bc (Dw Bc ki.typeIs Ii (AC (AH (AC (AC ?_)))) (Ic _))))
 first | refine AC (C8 ki.typeIs (AH (AC (KB ho hd ?_)))) | refine AC (EF ki.typeIs (AH (AC (KB ho hd ?_))))
 simp only [show Hk "dict_keyiterator" = false by decide,A1,if_false];refine (show Ab _ _ (if (Ap d==BF)=true then _ else _) _ _ s from ?_);rw [qY (λz:(Ap d==BF)=true=>AW z)];refine AC (AH (AC (NG hod hdd ?_)));rw [qY (by simp)];refine AC (AH (AC (Pv hod hdd ?_)));rw [qY (by simp)];refine AH ?_;simp only [show ¬((i:Int) < 0) by lia,if_false,Bj,Py hi];refine AC ?_
 first | refine AC (C8 ki.typeIs (AH (show Ab _ _ (YC (.ref it) 0 .none >>= _) _ _ s from ?_))) | refine AC (EF ki.typeIs (AH (show Ab _ _ (YC (.ref it) 0 .none >>= _) _ _ s from ?_)))
 refine AC (Gu ho hd (by simp) (show Ab _ _ (newExc (.type "StopIteration") [] >>= _) _ _ _ from AC ?_));simp only [newExc,newTuple];refine AC (Bk (AC (m:=firstArgMember _ _) (YB (a:=BF) (by first | rfl | (simp only [firstArgMember];rfl)) (Bk ?_ (by size_fits)))) (by size_fits));simp only [raiseNew];refine AC (wpAny_handled ?_);rw [show A.in1.handled=none from h0];refine AC (AH (wpAny_throw ?_));refine AC (c8 (T:="StopIteration") (b:=true) ⟨_,AU _ rfl,rfl⟩ isSubtype_stop (AH ?_));exact kq _ (((NM ..).extBut.push _).push _)
theorem Ud (h0:A.handled=none) (I:AE) (hne:d≠I):Walks prog w A I [I,d] [I] es.size (λi v=>∃h:i < es.size,v=es[i].key) (λi h=>h.IsKeyIter I d i es.size ep/\Nd h d es ep) where
 sub:=λx hx=>by simp at hx;simp [hx]
 frame:=λ_ _ _ st keep=>⟨st.1.at λo e=>keep I (by simp) o e,st.2.at' λo e=>keep d (by simp) o e⟩
 item:=λi s Q E hi st kq=>WW st.1 st.2 hi λh' ki' hs'=>kq _ h' s.toks ⟨hi,rfl⟩ ⟨ki',st.2.at' λo e=>hs'.extBut d o hne e⟩ λb o hb e=>hs'.extBut b o (λh=>hb (by simp [h])) e
 done:=λs Q E st kq=>Yo h0 st.1 st.2 (AS _) λh' he'=>kq h' s.toks λb o hb e=>he' b o (λh=>hb (by simp [h])) e
 self:=λ_ _ _ _ st kq=>wpAny_pyIter_keyiter st.1 kq
theorem TM (lo:(d==DA)=false):PySem.W.KdlSrc prog w "dict" d d es.size (λi v=>∃h:i < es.size,v=es[i].key) (λh=>Nd h d es ep) where
 type:=λ_ hm=>hm.ty
 there:=λ_ hm=>⟨let ⟨_,ho,_⟩:=hm;AT ho,let ⟨_,ho,_⟩:=hm;AT ho⟩
 keep:=λ_ _ hm hk=>hm.at' λo e=>hk d (.inl rfl) o e
 notList:=by decide
 notTuple:=by decide
 hint:=λ_ _ _ _ hm hq=>PySem.W.kdl_hint_dict hm.ty hq
 iter:=λ_ _ h0 hm=>⟨_,_,(λ_ _ hq=>WX lo hm hq),Ud h0 _ (Ag (let ⟨_,ho,_⟩:=hm;AT ho)),⟨⟨_,AU _ rfl,rfl,rfl⟩,hm.at' λo e=>AF _ e⟩⟩
end
end Srt
namespace PySem.SetTable
end PySem.SetTable
namespace PySem
open SetTable
end PySem
namespace PySem
open Sem (wp)
open SetTable PyProof.Rows
section
variable {prog:Aa} {w:As} {A:Ak} {E:AB->AD->Prop} {s:AD}
end
section
variable {prog:Aa} {w:As} {A:Ak} {E:AB->AD->Prop} {s:AD} {a it T:AE} {es:Array (Int×AB)} {ep i:Nat} {t:SetTable}
end
section
variable {prog:Aa} {w:As} {A:Ak} {E:AB->AD->Prop} {s:AD} {a it T:AE} {es:Array (Int×AB)} {ep i:Nat} {t:SetTable}
end
section
variable {prog:Aa} {w:As} {A:Ak} {E:AB->AD->Prop} {s:AD} {a:AE} {es:Array (Int×AB)} {ep:Nat} {t:SetTable}
end
end PySem
namespace L2
open PySem PySem.Spec PyProof.Rows
open Srt (ltL)
theorem QS {α β:Type} {R:α->β->Prop} {l2 l2':List β} (p:l2.Perm l2'):∀ {l1:List α},Et R l1 l2->∃l1',Et R l1' l2'/\l1'.Perm l1:=by
 induction p with
 | nil=>intro l1 h;cases h;exact ⟨[],.nil,.refl _⟩
 | cons x _ ih=>
  intro l1 h
  cases h with
  | cons r t=>
   obtain ⟨l',h1,h2⟩:=ih t;exact ⟨_ :: l',.cons r h1,h2.cons _⟩
 | swap x y l=>
  intro l1 h
  cases h with
  | cons r t=>
   cases t with
   | cons r2 t=>exact ⟨_ :: _ :: _,.cons r2 (.cons r t),List.Perm.swap _ _ _⟩
 | trans _ _ ih1 ih2=>
  intro l1 h;obtain ⟨a,h1,h2⟩:=ih1 h;obtain ⟨b,h3,h4⟩:=ih2 h1;exact ⟨b,h3,h4.trans h2⟩
theorem Jj {α β γ:Type} {R:α->β->Prop} {f:α->γ} {g:β->γ}:∀ {l1:List α} {l2:List β},Et R l1 l2->(∀a∈l1,∀b,R a b->g b=f a)->l2.map g=l1.map f
 | _,_,.nil,_=>rfl
 | _,_,.cons r t,h=>by rw [Ai,Ai,h _ Ae _ r,Jj t λa ha=>h a (AV _ ha)]
theorem Ma {α β:Type} {R:α->β->Prop}:∀ {l1:List α} {l2:List β} {b:β},Et R l1 l2->b∈l2->∃a∈l1,R a b
 | _,_,_,.nil,h=>nomatch h
 | _,_,b,.cons r t,h=>by
  rcases Aw.mp h with h | h
  ·subst h;exact ⟨_,Ae,r⟩
  ·obtain ⟨a,ha,e⟩:=Ma t h
   exact ⟨a,AV _ ha,e⟩
def NW:V->Int
 | .int n=>n
 | _=>0
def rowH (H:Hp):AB->List Int
 | .int n _=>[n]
 | .ref b=>match H b with
  | some (.tup xs)=>xs.map NW
  | _=>[]
 | _=>[]
theorem KW (r:List Int):(r.map V.int).map NW=r:=by
 rw [BE];exact (B7 λa _=>rfl).trans (List.map_id' r)
def fD (K:AA) (H:Hp) (p:AE) (G:List V->Prop):Prop:=
 (∃vs,(SqL K H p vs∨SqT K H p vs)/\G vs)∨(∃kvs,H p=some (.dK kvs)/\G (kvs.map λx=>kV x.1)) ∨
  ∃kvs,H p=some (.dT kvs)/\∀bs:List AE,Et (λ(k:List Key×V) b=>H b=some (.tup (k.1.map kV))) kvs bs->G (bs.map V.ref)
def OW (H:Hp) (f:V->List Int) (vs:List V):Prop:=(∀v∈vs,∃n,v=.int n/\f v=[n])∨∀v∈vs,∃b,v=.ref b/\H b=some (.tup ((f v).map V.int))/\f v≠[]
def dq (K:AA):List V->Hp->VK->Prop:=λxs H Q=>∃p,xs=[.ref p]/\fD K H p λvs=>∃f:V->List Int,OW H f vs /\
 ∀out,out.Perm vs->out.Pairwise (λx y=>ltL (f y) (f x)=false)->∀l,H l=none->Q (.ref l) (upd H l (.lst out))
theorem OW.rel {H:Hp} {f:V->List Int} {vs:List V} (h:OW H f vs):∀v∈vs,∀u,RelV v u->rowH H u=f v:=λv hv u r=>by
 rcases h with h | h
 ·obtain ⟨n,rfl,e⟩:=h v hv
  obtain ⟨t,rfl⟩:=r;exact e.symm
 ·obtain ⟨b,rfl,e,_⟩:=h v hv
  cases r;show (match H b with | some (.tup xs)=>xs.map NW | _=>[])=_;rw [e];exact KW _
theorem QH {X:Cx} {pins:List (AE×Obj)} {s:AD} {σ:St} {H:Hp} {p:AE} {G:List V->Prop} (hc:X.calm=true) (I:Inv X pins σ H s) (h:fD X.K H p G) :
  ∃vs its,G vs/\BK vs its/\its.length<=sizeLine/\∀(R:List AB->AD->Prop) (E:AB->AD->Prop),(∀(g:BG) (tk:Nat),(∀b o,s.heap.get? b=some o->g.get? b=some o)->R its { s with heap:=g,toks:=tk })->Ab (AR X.prog X.w) X.A.in1 (collect (.ref p)) R E s:=by
 have hh:X.A.handled=none:=I.ok.hd hc
 rcases h with ⟨vs,sq,g⟩ | ⟨kvs,e,g⟩ | ⟨kvs,e,g⟩
 ·rcases sq with sq | sq
  ·obtain ⟨its,rv,pl,hz⟩:=I.list sq
   refine ⟨vs,its,g,rv,by rw [<-rv.length];exact hz,λR E k=>collect_list pl.isList (k _ s.toks λb o e=>?_) (by rw [<-rv.length];exact hz)⟩;rw [UN _ _ _ _ (Ag (AT e))];exact AF _ e
  ·obtain ⟨its,rv,⟨o,ho,hcl,n,hd⟩,hz⟩:=I.tuple sq
   have hz':its.length<=sizeLine:=by rw [<-rv.length];exact hz
   exact ⟨vs,its,g,rv,hz',λR E k=>wpAny_collect_seq p (.inr rfl) ho hcl hd (λh' kp=>by simpa using k h' s.toks kp) (by simpa using hz')⟩
 ·obtain ⟨hz,sm,us,kv,o,es,ep,g1,g2,g3,g5,g6,_⟩:=(show Bx X.prog X.w H s.heap p (.dK kvs) from I.hok p _ e)
  have hlen:es.size=kvs.length:=by
   have a1:=g6.length;have a2:kvs.length=us.length:=Dg kv;rw [BB] at a1
   lia
  have hv:BK (kvs.map λx=>kV x.1) (es.toList.map (·.key)):=by
   have key:∀ {l:List Kj} {us:List (Key×AB)} {kvs:List (Key×V)},Pairs (C6 X.prog X.w) l us->KV kvs us->BK (kvs.map λx=>kV x.1) (l.map (·.key)):=by
    intro l us kvs hp
    induction hp generalizing kvs with
    | nil=>intro h;cases h;exact .nil
    | cons q1 q2 _ ih=>
     intro h
     cases h with
     | cons r t=>
      refine .cons ?_ (ih t);dsimp only;rw [r.1]
      rcases B8 q1 with ⟨i,t,e1,e2⟩ | ⟨x,t,e1,e2⟩
      ·rw [e1,e2];exact ⟨t,rfl⟩
      ·rw [e1,e2];exact ⟨t,rfl⟩
   exact key g6 kv
  refine ⟨_,es.toList.map (·.key),g,hv,by rw [AK,BB,hlen];exact hz,λR E k=>?_⟩
  refine Q5 (Srt.TM (es:=es) (ep:=ep) sm) hh ⟨o,g1,g2,g3⟩ (by rw [hlen];exact hz) λg' tk acc kp ac=>?_
  have:acc.toList=es.toList.map (·.key):=by
   apply GU
   intro j
   by_cases hj:j < es.size
   ·have hj2:j < acc.size:=by rw [ac.1];exact hj
    obtain ⟨_,e2⟩:=ac.2 j acc[j] (by simp [hj2]);simp [hj,hj2,e2]
   ·have hj2:¬j < acc.size:=by rw [ac.1];exact hj
    simp [hj,hj2]
  rw [this];exact k g' tk kp
 ·obtain ⟨hz,sm,xs,rr,o,es,ep,g1,g2,g3,g4,_⟩:=(show Bx X.prog X.w H s.heap p (.dT kvs) from I.hok p _ e)
  have hlen:es.size=kvs.length:=by
   have a1:=congrArg GP g4;have a2:kvs.length=xs.length:=Dg rr;rw [BB,AK] at a1
   lia
  have hb:Et (λ(k:List Key×V) b=>H b=some (.tup (k.1.map kV))) kvs (xs.map (·.2.1)):=by
   have key:∀ {kvs:List (List Key×V)} {xs:List (List Key×AE×AB)},Et (λ(p:List Key×V) (q:List Key×AE×AB)=>p.1=q.1/\H q.2.1=some (.tup (p.1.map kV))/\RelV p.2 q.2.2) kvs xs->Et (λ(k:List Key×V) b=>H b=some (.tup (k.1.map kV))) kvs (xs.map (·.2.1)):=by
    intro kvs xs h
    induction h with
    | nil=>exact .nil
    | cons r _ ih=>exact .cons r.2.1 ih
   exact key rr
  have hk:es.toList.map (·.key)=(xs.map (·.2.1)).map Ap:=by
   rw [g4,BE,BE];rfl
  have hv:∀l:List AE,BK (l.map V.ref) (l.map Ap):=λl=>by
   induction l with
   | nil=>exact .nil
   | cons a l ih=>exact .cons rfl ih
  refine ⟨_,(xs.map (·.2.1)).map Ap,g _ hb,hv _,by rw [AK,AK,<-Dg rr];exact hz,λR E k=>?_⟩
  refine Q5 (Srt.TM (es:=es) (ep:=ep) sm) hh ⟨o,g1,g2,g3⟩ (by rw [hlen];exact hz) λg' tk acc kp ac=>?_
  have:acc.toList=(xs.map (·.2.1)).map Ap:=by
   rw [<-hk]
   apply GU
   intro j
   by_cases hj:j < es.size
   ·have hj2:j < acc.size:=by rw [ac.1];exact hj
    obtain ⟨_,e2⟩:=ac.2 j acc[j] (by simp [hj2]);simp [hj,hj2,e2]
   ·have hj2:¬j < acc.size:=by rw [ac.1];exact hj
    simp [hj,hj2]
  rw [this];exact k g' tk kp
theorem QK {X:Cx} {s:AD} {H:Hp} {f:V->List Int} {vs:List V} {its:List AB} (I:∀b xs,H b=some (.tup xs)->∃is:List AB,BK xs is/\Vm s.heap b is.toArray) (h:OW H f vs) (rv:BK vs its) (h2:2<=its.length) {A:Ak}:Srt.Pm X.prog X.w A s its (rowH H):=by
 rcases id h with hi | ht
 ·have:∃ns,B1 its ns:=by
   have key:∀ {vs:List V} {its:List AB},BK vs its->(∀v∈vs,∃n,v=.int n/\f v=[n])->∃ns,B1 its ns:=by
    intro vs its r
    induction r with
    | nil=>exact λ_=>⟨[],.nil⟩
    | cons r _ ih=>
     intro hv
     obtain ⟨ns,hns⟩:=ih λv hv'=>hv v (AV _ hv')
     obtain ⟨n,rfl,_⟩:=hv _ Ae;obtain ⟨t,rfl⟩:=r;exact ⟨n :: ns,.cons n t hns⟩
   exact key rv hi
  obtain ⟨ns,hns⟩:=this;obtain ⟨κ,k1,k2⟩:=Srt.UV (prog:=X.prog) (w:=X.w) (A:=A) (s:=s) hns h2;refine ⟨κ,k1,λx y hx hy Q E q=>k2 x y hx hy Q E ?_⟩;obtain ⟨n,t,e1⟩:=hns.all _ (Srt.ET hx).1;obtain ⟨m,u,e2⟩:=hns.all _ (Srt.ET hy).1
  have e:Srt.ltK Srt.Wu x y=Srt.ltK (rowH H) x y:=by
   unfold Srt.ltK Srt.Wu;rw [e1,e2];rfl
  rw [e];exact q
 ·refine Srt.UU (λu hu=>?_) (by intro e;subst e;simp at h2)
  obtain ⟨v,hv,r⟩:=Ma rv hu;rw [h.rel v hv u r];obtain ⟨b,rfl,e,ne⟩:=ht v hv;cases r;refine ⟨⟨b,?_⟩,ne⟩;obtain ⟨is,r,o,ho,hcl,n,hd⟩:=I b _ e;exact ⟨is.toArray,rfl,⟨o,ho,hcl,n,hd⟩,by simpa using intsAre_of r⟩
theorem VP {X:Cx} (hc:X.calm=true):Ej X (.builtin "sorted") (dq X.K):=by
 intro pins s σ H xs us Q I r h;obtain ⟨p,rfl,src⟩:=h;obtain ⟨u,rfl,rx⟩:=vals1 r;cases rx;obtain ⟨vs,its,⟨f,rows,q⟩,rv,hz,col⟩:=QH hc I src;refine Calls.call_function_entry kind_sorted plain_sorted entry_sorted (args_sorted1 _) ?_;unfold Builtin.«sorted»;refine AC (m:=checkCount "sorted" 1 1 _) (AH (AC (col _ _ λg tk kp=>?_)));refine AC (wpAny_newList ?_ hz);have I1:Inv X pins σ H { s with heap:=g,toks:=tk }:=I.kept kp;have hl:(g.push (Fq "list" its.toArray 0)).get? g.objs.size=some (Fq "list" its.toArray 0):=AU _ rfl;refine AC (Cn (Dw slot_list_sort ⟨_,hl,rfl⟩ entry_list_sort (Srt.NY (f:=rowH H) hl hz (λh2 s' keep=>?_) λout po so=>⟨_,rfl,AH ⟨_,rfl,?_⟩⟩) (args_list_sort _)))
 ·refine QK (λb xs e=>?_) rows rv h2
  obtain ⟨_,is,r,o,ho,hcl,n,hd⟩:=(show Bx X.prog X.w H g b (.tup xs) from I1.hok b _ e);exact ⟨is,r,o,keep b o (Ag (AT ho)) (AF _ ho),hcl,n,hd⟩
 ·obtain ⟨vo,ro,pv⟩:=QS po.symm rv
  have so':vo.Pairwise (λx y=>ltL (f y) (f x)=false):=by
   have e:out.toList.map (rowH H)=vo.map f:=Jj ro λa ha b rb=>rows.rel a (pv.mem_iff.mp ha) b rb
   have:=(DE (f:=rowH H) (R:=λx y=>ltL y x=false)).mpr so;rw [e] at this;exact DE.mp this
  obtain ⟨k,hk⟩:=sortedHeap_at (out:=out) hl
  have hlen:vo.length<=sizeLine:=by rw [pv.length_eq,rv.length];exact hz
  have I2:=I1.laid (a:=g.objs.size) (o:=.lst vo) (t':=tk) (h':=aI (g.push (Fq "list" its.toArray 0)) g.objs.size its out)
   (λb u z=>by
    have lt:b < g.objs.size:=AT z;rw [sortedHeap_old (Ag lt) (by rw [size_push'];exact Gr lt)]
    exact AF _ z) (AS _) ⟨hlen,out.toList,k,ro,hk⟩
  exact ⟨.ref g.objs.size,_,I2,rfl,q vo pv so' _ (I1.hok.fresh (AS _))⟩
def Hz (ns:List Int):List Int:=ns.mergeSort (λa b=>decide (a<=b))
@[simp] theorem UW:Hz []=[]:=by unfold Hz;simp
theorem Rm (ns:List Int):(Hz ns).Perm ns:=UL ns _
theorem WP (ns:List Int):(Hz ns).Pairwise (·<=·):=by
 have:=Px (le:=λa b:Int=>decide (a<=b)) (by intro a b c h1 h2;simp at h1 h2 ⊢;lia) (by intro a b;simp;lia) ns
 exact this.imp λh=>by simpa using h
def IA (rs:List (List Int)):List (List Int):=rs.mergeSort (λa b=>!ltL b a)
theorem EQ (rs:List (List Int)):(IA rs).Perm rs:=UL rs _
theorem Jd (rs:List (List Int)):(IA rs).Pairwise (λa b=>ltL b a=false):=by
 have:=Px (le:=λa b:List Int=>!ltL b a) (by intro a b c h1 h2;simp at h1 h2 ⊢;exact Srt.PH _ _ _ h1 h2) (by
  intro a b
  cases e:ltL b a with
  | false=>simp
  | true=>simp [Srt.Mj _ _ e]) rs
 exact this.imp λh=>by simpa using h
theorem N1 {l l':List (List Int)} (p:l.Perm l') (h:l.Pairwise (λa b=>ltL b a=false)) (h':l'.Pairwise (λa b=>ltL b a=false)):l=l':=
 p.eq_of_pairwise (λa b _ _ h1 h2=>Srt.PF a b h2 h1) h h'
def XM:Key->D
 | .inl i=>.int i
 | .inr x=>.str x
def HD (d:D) (S:Sto):Option (List D):=match d with
 | .fro ds=>some ds
 | .tup ds=>some ds
 | .ref n=>match S[n]? with
  | some (.lst ds)=>some ds
  | some (.dK kvs)=>some (kvs.map λx=>XM x.1)
  | some (.dT kvs)=>some (kvs.map λx=>.tup (x.1.map XM))
  | _=>none
 | _=>none
def Ie (r:List Int):D:=.tup (r.map D.int)
def Il:List D->Option (List (List Int))
 | []=>some []
 | .tup ds :: r=>match EA ds,Il r with
  | some (n :: ns),some rs=>some ((n :: ns) :: rs)
  | _,_=>none
 | _ :: _=>none
def Ik (ds:List D):Option (List D):=match EA ds with
 | some ns=>some ((Hz ns).map D.int)
 | none=>match Il ds with
  | some rs=>some ((IA rs).map Ie)
  | none=>none
def Ec (m:ME):ME:=λe S=>(m e S).bind λd S1=>match HD d S1 with
 | some ds=>match Ik ds with
  | some es=>.ok (.ref S1.length) (S1++[.lst es])
  | none=>.bad
 | none=>.bad
section
variable {X:Cx} {E:EW} {e:Expr} {p pos:Pos} {m:ME}
theorem ZO (x y:Int):ltL [y] [x]=decide (y < x):=by
 show (if y=x then false else decide (y < x))=_;split
 ·rename_i e;simp [e]
 ·rfl
def NU (H:Hp):V->List Int
 | .int n=>[n]
 | .ref b=>match H b with
  | some (.tup xs)=>xs.map NW
  | _=>[]
 | _=>[]
theorem QM {K:AA} {ρ:List AE} {H:Hp}:∀ {ds:List D} {rs:List (List Int)} {vs:List V},Il ds=some rs->Aj K ρ H ds vs->vs.map (NU H)=rs/\∀v∈vs,∃b,v=.ref b/\H b=some (.tup ((NU H v).map V.int))/\NU H v≠[]
 | [],_,_,h,.nil=>by cases h;exact ⟨rfl,λv hv=>nomatch hv⟩
 | .tup ts :: ds,rs,_,h,.cons r t=>by
  unfold Il at h;split at h
  ·rename_i n ns rs' h1 h2
   cases h;obtain ⟨i1,i2⟩:=QM h2 t
   cases r with
   | @tup _ b ws hb rr=>
    have:=Gj h1;subst this;have:=rr.ints;subst this
    have e:NU H (.ref b)=n :: ns:=by
     show (match H b with | some (.tup xs)=>xs.map NW | _=>[])=_;rw [hb];exact KW _
    refine ⟨by rw [Ai,e,i1],λv hv=>?_⟩
    rcases Aw.mp hv with hv | hv
    ·subst hv
     refine ⟨b,rfl,?_,?_⟩
     ·rw [e];exact hb
     ·rw [e];exact List.cons_ne_nil _ _
    ·exact i2 v hv
  ·cases h
 | .non :: _,_,_,h,_=>by cases h
 | .bl _ :: _,_,_,h,_=>by cases h
 | .int _ :: _,_,_,h,_=>by cases h
 | .str _ :: _,_,_,h,_=>by cases h
 | .fro _ :: _,_,_,h,_=>by cases h
 | .ref _ :: _,_,_,h,_=>by cases h
 | .exc _ :: _,_,_,h,_=>by cases h
theorem QR {K:AA} {ρ:List AE} {H:Hp}:∀ {vs:List V},(∀v∈vs,∃b,v=.ref b/\H b=some (.tup ((NU H v).map V.int))/\NU H v≠[])->Aj K ρ H ((vs.map (NU H)).map Ie) vs
 | [],_=>.nil
 | v :: vs,h=>by
  obtain ⟨b,e,hb,_⟩:=h v Ae;refine .cons ?_ (QR λu hu=>h u (AV _ hu));subst e;exact .tup hb (Aj.of_ints _)
theorem WO {K:AA} {ρ:List AE} {H:Hp} {ds es:List D} {vs:List V} (h:Ik ds=some es) (r:Aj K ρ H ds vs) :
  ∃f:V->List Int,OW H f vs/\∀out,out.Perm vs->out.Pairwise (λx y=>ltL (f y) (f x)=false)->Aj K ρ H es out:=by
 unfold Ik at h;split at h
 ·rename_i ns hz
  cases h;have:=Gj hz;subst this;have:=r.ints;subst this;refine ⟨λv=>[NW v],.inl λv hv=>?_,λout po so=>?_⟩
  ·obtain ⟨n,_,rfl⟩:=A9.mp hv
   exact ⟨n,rfl,rfl⟩
  ·have e1:out=(out.map NW).map V.int:=by
    rw [BE]
    conv=>lhs;rw [<-Sg out]
    refine B7 λv hv=>?_
    obtain ⟨n,_,rfl⟩:=A9.mp (po.mem_iff.mp hv);rfl
   have e2:out.map NW=Hz ns:=by
    have p1:(out.map NW).Perm (Hz ns):=by
     have:=po.map NW;rw [KW] at this;exact this.trans (Rm ns).symm
    refine p1.eq_of_pairwise (λa b _ _ h1 h2=>Int.le_antisymm h1 h2) ?_ (WP ns);rw [DE]
    refine so.imp λ{x y} hxy=>?_
    rw [ZO] at hxy;simp at hxy;exact hxy
   rw [e1,e2];exact Aj.of_ints _
 ·split at h
  ·rename_i rs hr
   cases h;obtain ⟨i1,i2⟩:=QM hr r;refine ⟨NU H,.inr i2,λout po so=>?_⟩
   have e2:out.map (NU H)=IA rs:=by
    refine N1 ?_ (DE.mpr so) (Jd rs);have:=po.map (NU H);rw [i1] at this;exact this.trans (EQ rs).symm
   rw [<-e2]
   exact QR λv hv=>i2 v (po.mem_iff.mp hv)
  ·cases h
theorem Mq {K:AA} {ρ:List AE} {H:Hp}:∀ks:List Key,Aj K ρ H (ks.map XM) (ks.map kV)
 | []=>.nil
 | .inl i :: ks=>.cons (.int i) (Mq ks)
 | .inr x :: ks=>.cons (.str x) (Mq ks)
theorem Mp {K:AA} {ρ:List AE} {H:Hp}:∀ {kvs:List (Key×D)} {kvs':List (Key×V)},KVR K ρ H kvs kvs'->Aj K ρ H (kvs.map λx=>XM x.1) (kvs'.map λx=>kV x.1)
 | _,_,.nil=>.nil
 | (k,_) :: _,(k',_) :: _,.cons r t=>by
  have e:k=k':=r.1;subst e
  cases k with
  | inl i=>exact .cons (.int i) (Mp t)
  | inr x=>exact .cons (.str x) (Mp t)
theorem Qc {K:AA} {ρ:List AE} {H:Hp}:∀ {kvs:List (List Key×D)} {kvs':List (List Key×V)} {bs:List AE},KVR K ρ H kvs kvs'->Et (λ(k:List Key×V) b=>H b=some (.tup (k.1.map kV))) kvs' bs->Aj K ρ H (kvs.map λx=>.tup (x.1.map XM)) (bs.map V.ref)
 | _,_,_,.nil,.nil=>.nil
 | (k,_) :: _,(k',_) :: _,_,.cons r t,.cons r2 t2=>by
  have e:k=k':=r.1;subst e;exact .cons (.tup r2 (Mq k)) (Qc t t2)
theorem IW (hc:X.calm=true) (hg:Gl X "sorted") (hm:X.mg "sorted" = none) (h:GE X E e m) (he:AN [e] X.env=(false,Ba e X.env) :: AN [] X.env:=by rfl):GE X E (.Call (.Name "sorted" p) [e] [] pos) (Ec m):=
 (Gg (VP hc) hg hm fN (CV h D4 he) (by decide) (by decide) he rfl).imp λσ H Q ⟨ρ,l,S,hl,hs,hm⟩=>by
 refine ⟨ρ,l,S,hl,hs,hm.seq λd S1 hm ρ1 H1 x l1 s1 r1=>?_⟩
 cases hq:HD d S1 with
 | none=>rw [hq] at hm;exact hm.elim
 | some ds=>
  rw [hq] at hm;dsimp only at hm
  cases hi:Ik ds with
  | none=>rw [hi] at hm;exact hm.elim
  | some es=>
   rw [hi] at hm
   have fin:∀vs:List V,Aj X.K ρ1 H1 es vs->∀q,H1 q=none->Q (.ref q) (upd H1 q (.lst vs)):=λvs rr q hq=>by
    have le:Le X.K ρ1 H1 (ρ1++[q]) (upd H1 q (.lst vs)):=Le.alloc hq;obtain ⟨s4,l4,at4⟩:=s1.alloc (ho:=.lst vs) (o:=.lst es) hq ⟨_,BU,rr.mono le⟩;exact hm _ _ _ (l1.trans l4) s4 (.ref at4)
   have out:∀vs,Aj X.K ρ1 H1 ds vs->∃f:V->List Int,OW H1 f vs/\∀out,out.Perm vs->out.Pairwise (λx y=>ltL (f y) (f x)=false)->∀l,H1 l=none->Q (.ref l) (upd H1 l (.lst out)):=λvs rr=>by
    obtain ⟨f,k1,k2⟩:=WO hi rr;exact ⟨f,k1,λout po so=>fin out (k2 out po so)⟩
   cases r1 with
   | fro h1 h2=>cases hq;exact ⟨_,rfl,.inl ⟨_,.inl h1.sq,out _ h2⟩⟩
   | tup h1 h2=>cases hq;exact ⟨_,rfl,.inl ⟨_,.inr (.inl (.inl h1)),out _ h2⟩⟩
   | @ref n a hn=>
    obtain ⟨o,ho,ro⟩:=s1.there hn;unfold HD at hq;simp only [ho] at hq
    cases o with
    | lst ys=>cases hq;obtain ⟨vs,e,rr⟩:=ro;exact ⟨_,rfl,.inl ⟨vs,.inl (.inl (.inl e)),out _ rr⟩⟩
    | dK kvs=>cases hq;obtain ⟨vs,e,rr⟩:=ro;exact ⟨_,rfl,.inr (.inl ⟨vs,e,out _ (Mp rr)⟩)⟩
    | dT kvs=>cases hq;obtain ⟨vs,e,rr⟩:=ro;exact ⟨_,rfl,.inr (.inr ⟨vs,e,λbs hb=>out _ (Qc rr hb)⟩)⟩
    | ins C fs=>cases hq
   | _=>cases hq
end
end L2
namespace L2
open PySem PySem.Spec PyProof.Rows
theorem cH {K:AA} {t:String} (h:∀A∈["NoneType", "bool", "int", "str", "tuple", "list", "dict"],Bs K (.type A) (.type t)=aA t A):∀A b,isB t A=some b->Bs K (.type A) (.type t)=some b:=λA b e=>by
 unfold isB at e;split at e
 ·rename_i hA
  rw [h A (by simpa using hA)];exact e
 ·cases e
theorem ZS {K:AA}:∀A b,isB "str" A=some b->Bs K (.type A) (.type "str")=some b:=cH λA h=>by
 simp only [Aw,HR,or_false] at h
 rcases h with rfl | rfl | rfl | rfl | rfl | rfl | rfl <;> kernel_rfl
def WN (K:AA):Sp:=λvs H Q _=>∃(a:AE) (ns:List Int),vs=[.ref a]/\Nf K H a (ns.map V.int)/\ns.length<=63/\∀H',Q (.bl true) H'
theorem XG {P:Aa} {w:As} {K:AA} {mg:Str->Option AB} {base:BG} {k:Nat} {fa:AE} {fd:CQ} {f:List D->Sto->Res D} (F:EE P w K mg base (CXG P w) k fa fd ["script"] (spM K 1 f))
  (h:∀ns:List Int,ns.length<=63->∃S',f [.fro (ns.map D.int)] []=.ok (.bl true) S'):EE P w K mg base (CXG P w) k fa fd ["script"] (WN K):=F.imp λvs H Q E ⟨a,ns,e,hS,hl,q⟩=>by
 subst e;obtain ⟨S',e⟩:=h ns hl;refine ⟨[],[.fro (ns.map D.int)],[],rfl,.cons (.fro hS (Aj.of_ints ns)) .nil,⟨rfl,λi j a hi=>by simp at hi,λn o a hn=>by simp at hn⟩,?_⟩;rw [e]
 exact λρ' H' x _ _ r=>by cases r;exact q H'
theorem cU {K:AA} {H:Hp} {a:AE} {ns:List Int} (hO:Zw H) (hS:SqL K H a (ns.map V.int)):Nf K H a (ns.map V.int):=by
 rcases hS with (h | h) | h
 ·rcases hO a with z | ⟨o,xs,z⟩ <;> rw [z] at h <;> cases h
 ·exact .inl h
 ·exact .inr h
theorem M8 {K:AA} {C:AE} {v:AB} {b:Bool} (h:Fs K C v=some b):(Ih K C).isSome=true:=by
 obtain ⟨cd,a,_⟩:=Of.mp h;rw [a];rfl
theorem cf {P:Aa} {w:As} {H:Hp} {s:AD} {e:AB} {s':AD} (h:CXG P w [] H s (λ_ _ _=>False) e s'):False:=by
 obtain ⟨_,_,_,_,_,_,_,_,_,z⟩:=h;exact z
end L2
namespace L2
open PySem
def aF (I:Lo->Sto->Prop) (R:Fl->Sto->Prop) (f:Fl) (S:Sto):Prop:=match f with
 | .nx e=>I e S
 | .ct e=>I e S
 | .bk e=>R (.nx e) S
 | .rt d=>R (.rt d) S
 | .ex c e=>R (.ex c e) S
theorem Zb {v:Gq} {g:MG} {b:MS} {xs:List D} (I:Nat->Lo->Sto->Prop) (R:Fl->Sto->Prop) (hv:∀i e S,I i e S->v S=some xs)
  (step:∀i d e S,xs[i]?=some d->I i e S->∃e1 S1,g d e S=.ok e1 S1/\∃f S2,b e1 S1=.ok f S2/\aF (I (i+1)) R f S2)
  (fin:∀e S,I xs.length e S->R (.nx e) S):∀(k i:Nat) (e:Lo) (S:Sto),I i e S->i<=xs.length->xs.length<=i+k->∃f S',He v g b k i e S=.ok f S'/\R f S':=by
 intro k
 induction k with
 | zero=>
  intro i e S h h1 h2
  have:i=xs.length:=by lia
  subst this;refine ⟨.nx e,S,?_,fin e S h⟩;unfold He;rw [hv _ e S h];simp
 | succ k ih=>
  intro i e S h h1 h2;unfold He;rw [hv _ e S h];dsimp only
  by_cases hi:i < xs.length
  ·have hd:xs[i]?=some xs[i]:=by simp [hi]
   rw [hd];dsimp only;obtain ⟨e1,S1,q1,f,S2,q2,t⟩:=step i _ e S hd h;rw [q1];dsimp only [Res.bind];rw [q2];dsimp only [Res.bind]
   cases f with
   | nx e2=>exact ih (i+1) e2 S2 t (by lia) (by lia)
   | ct e2=>exact ih (i+1) e2 S2 t (by lia) (by lia)
   | bk e2=>exact ⟨_,_,rfl,t⟩
   | rt d=>exact ⟨_,_,rfl,t⟩
   | ex c e2=>exact ⟨_,_,rfl,t⟩
  ·have:i=xs.length:=by lia
   subst this;rw [show xs[xs.length]?=none by simp];exact ⟨.nx e,S,rfl,fin e S h⟩
theorem Xg {v:Gq} {g:MG} {b:MS} {xs:List D} {e:Lo} {S:Sto} (I:Nat->Lo->Sto->Prop) (R:Fl->Sto->Prop) (h0:I 0 e S) (hv:∀i e S,I i e S->v S=some xs)
  (step:∀i d e S,xs[i]?=some d->I i e S->∃e1 S1,g d e S=.ok e1 S1/\∃f S2,b e1 S1=.ok f S2/\aF (I (i+1)) R f S2)
  (fin:∀e S,I xs.length e S->R (.nx e) S):∃f S',He v g b (CF v S) 0 e S=.ok f S'/\R f S':=by
 have hl:CF v S=xs.length:=by unfold CF;rw [hv 0 e S h0]
 rw [hl];exact Zb I R hv step fin _ _ _ _ h0 (DV _) (by lia)
theorem Xs {v:Gq} {g:MG} {c:MT} {m:ME} {xs:List D} (I:Nat->Lo->Sto->List D->Prop) (hv:∀i e S acc,I i e S acc->v S=some xs)
  (step:∀i d e S acc,xs[i]?=some d->I i e S acc->acc.length < sizeLine/\∃e1 S1,g d e S=.ok e1 S1/\∃b S2,c e1 S1=.ok b S2/\((b=true/\∃y S3,m e1 S2=.ok y S3/\I (i+1) e1 S3 (acc++[y]))∨(b=false/\I (i+1) e1 S2 acc))) :
  ∀(k i:Nat) (e:Lo) (S:Sto) (acc:List D),I i e S acc->i<=xs.length->xs.length<=i+k->∃r S',Dv v g c m k i e S acc=.ok r S'/\∃e',I xs.length e' S' r:=by
 intro k
 induction k with
 | zero=>
  intro i e S acc h h1 h2
  have:i=xs.length:=by lia
  subst this;refine ⟨acc,S,?_,e,h⟩;unfold Dv;rw [hv _ e S acc h];simp
 | succ k ih=>
  intro i e S acc h h1 h2;unfold Dv;rw [hv _ e S acc h];dsimp only
  by_cases hi:i < xs.length
  ·have hd:xs[i]?=some xs[i]:=by simp [hi]
   rw [hd];dsimp only;obtain ⟨hz,e1,S1,q1,b,S2,q2,t⟩:=step i _ e S acc hd h;rw [qX hz,q1];dsimp only [okR,Res.bind];rw [q2];dsimp only [okR,Res.bind]
   rcases t with ⟨rfl,y,S3,q3,t⟩ | ⟨rfl,t⟩
   ·rw [qX rfl,q3]
    exact ih (i+1) e1 S3 _ t (by lia) (by lia)
   ·rw [qY AW]
    exact ih (i+1) e1 S2 acc t (by lia) (by lia)
  ·have:i=xs.length:=by lia
   subst this;rw [show xs[xs.length]?=none by simp];exact ⟨acc,S,rfl,e,h⟩
theorem T0 {v:Gq} {g:MG} {c:MT} {m:ME} {xs:List D} {e:Lo} {S:Sto} (I:Nat->Lo->Sto->List D->Prop) (h0:I 0 e S []) (hv:∀i e S acc,I i e S acc->v S=some xs)
  (step:∀i d e S acc,xs[i]?=some d->I i e S acc->acc.length < sizeLine/\∃e1 S1,g d e S=.ok e1 S1/\∃b S2,c e1 S1=.ok b S2/\((b=true/\∃y S3,m e1 S2=.ok y S3/\I (i+1) e1 S3 (acc++[y]))∨(b=false/\I (i+1) e1 S2 acc))) :
  ∃r S',Dv v g c m (CF v S) 0 e S []=.ok r S'/\∃e',I xs.length e' S' r:=by
 have hl:CF v S=xs.length:=by unfold CF;rw [hv 0 e S [] h0]
 rw [hl];exact Xs I hv step _ _ _ _ _ h0 (DV _) (by lia)
theorem lo62 {j:Int} (h:-1000000<=j):-(2 ^ 62)<=j:=Int.le_trans (by decide) h
theorem hi62 {j:Int} (h:j<=1000000):j < 2 ^ 62:=Int.lt_of_le_of_lt h (by decide)
theorem XW {ml:ML} {e:Lo} {S S1:Sto} {j:Int} (h:ml e S=.ok [.int j] S1) (h0:-1000000<=j) (h1:j<=1000000):iR1 ml e S=.ok (HV (Gf 0 j.toNat)) S1:=by
 unfold iR1;rw [h];dsimp only [Res.bind];rw [qX ⟨lo62 h0,hi62 h1⟩]
theorem Uc (lo:Int) (n:Nat):(Gf lo n).length=n:=by simp [Gf]
theorem WU {lo:Int} {n i:Nat} {d:D} (h:(Gf lo n)[i]?=some d):i < n/\d=.int (lo+i):=by
 rw [N4] at h;split at h
 ·rename_i hi
  cases h;exact ⟨hi,rfl⟩
 ·cases h
theorem Xj {i j:Int} {S:Sto} (h:0 < j) (h1:j<=1000000):IF (.int i) (.int j) S=.ok (.int (i / j)) S:=by
 show (if X3 i j then _ else _)=_;rw [qX ⟨h,by lia⟩]
theorem TX {i j:Int} {S:Sto} (h:0 < j):Mf (.int i) (.int j) S=.ok (.int (i % j)) S:=by
 show (if 0 < j then _ else _)=_;rw [qX h]
theorem D8 {f:D->D->Sto->Res D} {ma mb:ME} {e:Lo} {S S1 S2 S3:Sto} {x y d:D} (ha:ma e S=.ok x S1) (hb:mb e S1=.ok y S2) (hf:f x y S2=.ok d S3):m2 f ma mb e S=.ok d S3:=by
 unfold m2;rw [ha];dsimp only [Res.bind];rw [hb];dsimp only [Res.bind];rw [hf];rfl
theorem KP {m:ME} {e:Lo} {S S1:Sto} {d:D} {i:Nat} (h:m e S=.ok d S1):DM i m e S=.ok (.nx (e.set i (some d))) S1:=by
 unfold DM dn;rw [h];rfl
theorem KR {m:ME} {e:Lo} {S S1:Sto} {d:D} (h:m e S=.ok d S1):Ei m e S=.ok (.rt d) S1:=by
 unfold Ei;rw [h];rfl
theorem Ld {m:ME} {e:Lo} {S S1:Sto} {d:D} (h:m e S=.ok d S1):Gc m e S=.ok (.nx e) S1:=by
 unfold Gc;rw [h];rfl
theorem Jq {t:MT} {a b:MS} {e:Lo} {S S1:Sto} {c:Bool} (h:t e S=.ok c S1):sIf t a b e S=if c=true then a e S1 else b e S1:=by
 unfold sIf;rw [h];rfl
theorem SJ {m:MI} {g:MG} {b:MS} {e:Lo} {S S1:Sto} {v:Gq} (h:m e S=.ok v S1):MQ m g b e S=He v g b (CF v S1) 0 e S1:=by
 unfold MQ;rw [h];rfl
theorem Pg {n:Nat} {f:List D->Sto->Res D} {m:ML} {e:Lo} {S S1:Sto} {ds:List D} (h:m e S=.ok ds S1) (hn:ds.length=n):D7 n f m e S=f ds S1:=by
 unfold D7;rw [h];dsimp only [Res.bind];rw [qX hn]
theorem C0 {a b:MS} {e e1:Lo} {S S1:Sto} (h:a e S=.ok (.nx e1) S1):Bh a b e S=b e1 S1:=by unfold Bh;rw [h];rfl
theorem bF {a b:MS} {e:Lo} {S S1:Sto} {d:D} (h:a e S=.ok (.rt d) S1):Bh a b e S=.ok (.rt d) S1:=by unfold Bh;rw [h];rfl
theorem Rq {a b:MS} {e e1:Lo} {S S1:Sto} {c:AE} (h:a e S=.ok (.ex c e1) S1):Bh a b e S=.ok (.ex c e1) S1:=by unfold Bh;rw [h];rfl
theorem Rr {n:Nat} {mb:MS} {ds:List D} {S S1:Sto} {d:D} (h:mb (G5 n ds) S=.ok (.rt d) S1):F0 n mb ds S=.ok d S1:=by unfold F0;rw [h];rfl
theorem bI {n:Nat} {mb:MS} {ds:List D} {S S1:Sto} {e:Lo} (h:mb (G5 n ds) S=.ok (.nx e) S1):F0 n mb ds S=.ok .non S1:=by unfold F0;rw [h];rfl
def Keeps (S S':Sto):Prop:=S.length<=S'.length/\∀j,j < S.length->S'[j]?=S[j]?
theorem Keeps.refl (S:Sto):Keeps S S:=⟨AS _,λ_ _=>rfl⟩
theorem Keeps.trans {S S1 S2:Sto} (a:Keeps S S1) (b:Keeps S1 S2):Keeps S S2:=⟨Aq a.1 b.1,λj h=>(b.2 j (AX h a.1)).trans (a.2 j h)⟩
theorem Keeps.app (S:Sto) (G:Sto):Keeps S (S++G):=⟨by simp,λj h=>Ad h⟩
theorem Keeps.set {S S1:Sto} (a:Keeps S S1) {m:Nat} (h:S.length<=m) (o:Ob):Keeps S (S1.set m o):=⟨by simpa using a.1,λj hj=>by rw [BC (by lia)];exact a.2 j hj⟩
theorem Keeps.at {S S1:Sto} (a:Keeps S S1) {j:Nat} {o:Ob} (h:S[j]?=some o):S1[j]?=some o:=by
 rw [a.2 j (AJ.mp h).1];exact h
theorem SS {mo ma:ME} {e:Lo} {S S1 S2:Sto} {n:Nat} {xs xs2:List D} {y:D} (h1:mo e S=.ok (.ref n) S1) (h2:S1[n]?=some (.lst xs)) (h3:ma e S1=.ok y S2) (h4:S2[n]?=some (.lst xs2)) (h5:xs2.length < sizeLine) :
  Mi mo ma e S=.ok .non (S2.set n (.lst (xs2++[y]))):=by
 unfold Mi;rw [h1];dsimp only [Res.bind];rw [h2];dsimp only;rw [h3];dsimp only [Res.bind];rw [h4];dsimp only;rw [qX h5]
theorem U5 {mo ma:ME} {e:Lo} {S S1 S2:Sto} {n k:Nat} {xs xs2 ys:List D} (h1:mo e S=.ok (.ref n) S1) (h2:S1[n]?=some (.lst xs)) (h3:ma e S1=.ok (.ref k) S2) (h4:S2[n]?=some (.lst xs2)) (h5:S2[k]?=some (.lst ys)) (hk:k≠n) (h6:xs2.length+ys.length<=sizeLine) :
  Jm mo ma e S=.ok .non (S2.set n (.lst (xs2++ys))):=by
 unfold Jm;rw [h1];dsimp only [Res.bind]
 have a1:atL (.ref n) S1=some (n,xs):=by unfold atL;dsimp only;rw [h2]
 have a2:atL (.ref n) S2=some (n,xs2):=by unfold atL;dsimp only;rw [h4]
 have a3:atL (.ref k) S2=some (k,ys):=by unfold atL;dsimp only;rw [h5]
 rw [a1];dsimp only;rw [h3];dsimp only [Res.bind];rw [a2,a3];dsimp only;rw [qX ⟨hk,h6⟩]
theorem GX {n:Nat} {S:Sto} {xs:List D} (h:S[n]?=some (.lst xs)):Ht (.ref n) S=some xs:=by
 unfold Ht Fg;dsimp only;rw [h]
theorem Mw {m:ME} {e:Lo} {S S1:Sto} {n:Nat} {xs:List D} (h:m e S=.ok (.ref n) S1) (hx:S1[n]?=some (.lst xs)):GB m e S=.ok (Ht (.ref n)) S1:=by
 unfold GB;rw [h];dsimp only [Res.bind];rw [GX hx]
theorem Qi {m:ME} {e:Lo} {S S1:Sto} {xs:List D} (h:m e S=.ok (.tup xs) S1):GB m e S=.ok (HV xs) S1:=by
 unfold GB;rw [h];rfl
theorem Ry {ml:ML} {e:Lo} {S S1:Sto} {ds:List D} (h:ml e S=.ok ds S1):Gh ml e S=.ok (.ref S1.length) (S1++[.lst ds]):=by
 unfold Gh;rw [h];rfl
theorem Ex (S:Sto) (o:Ob):(S++[o])[S.length]?=some o:=by simp
theorem Dd {n:Nat} {S:Sto} {ds:List D} (h:S[n]?=some (.lst ds)):Ga (.ref n) S=some ds:=by
 unfold Ga;dsimp only;rw [h]
theorem Mv {n:Nat} {S:Sto} {ds:List D} (h:S[n]?=some (.lst ds)):HD (.ref n) S=some ds:=by
 unfold HD;dsimp only;rw [h]
theorem KM {m:ME} {e:Lo} {S S1:Sto} {d:D} {ds es:List D} (h:m e S=.ok d S1) (hi:HD d S1=some ds) (hs:Ik ds=some es):Ec m e S=.ok (.ref S1.length) (S1++[.lst es]):=by
 unfold Ec;rw [h];dsimp only [Res.bind];rw [hi];dsimp only;rw [hs]
theorem Jb {m:ME} {e:Lo} {S S1:Sto} {d:D} {ds:List D} (h:m e S=.ok d S1) (hq:Ga d S1=some ds):Ew m e S=.ok (.tup ds) S1:=by
 unfold Ew;rw [h];dsimp only [Res.bind];rw [hq]
theorem XD {m:ME} {e:Lo} {S S1:Sto} {d:D} {ds:List D} (h:m e S=.ok d S1) (hq:Ga d S1=some ds):PD m e S=.ok (.int ds.length) S1:=by
 unfold PD;rw [h];dsimp only [Res.bind];rw [hq]
theorem Oy {C:AE} {f:Str} {mo mv:ME} {e:Lo} {S S1 S2:Sto} {n:Nat} {fs:List (Str×D)} {v:D} (hv:mv e S=.ok v S1) (ho:mo e S1=.ok (.ref n) S2) (hs:S2[n]?=some (.ins C fs)) (hl:fs.length < 1000) :
  N3 C f mo mv e S=.ok (.nx e) (S2.set n (.ins C (LF f v fs))):=by
 unfold N3;rw [hv];dsimp only [Res.lift];rw [ho];dsimp only [Res.lift];rw [hs];dsimp only;rw [qX ⟨rfl,hl⟩]
theorem Xi {C:AE} {f:Str} {m:ME} {e:Lo} {S S1:Sto} {n:Nat} {fs:List (Str×D)} {v:D} (h:m e S=.ok (.ref n) S1) (hs:S1[n]?=some (.ins C fs)) (hl:fs.lookup f=some v):LK C f m e S=.ok v S1:=by
 unfold LK;rw [h];dsimp only [Res.bind];rw [hs];dsimp only;rw [qX rfl,hl]
theorem ZM {C:AE} {n:Nat} {f:List D->Sto->Res D} {ml:ML} {e:Lo} {S S1 S2:Sto} {ds:List D} (h:ml e S=.ok ds S1) (hn:ds.length+1=n) (hf:f (.ref S1.length :: ds) (S1++[.ins C []])=.ok .non S2):Mg C n f ml e S=.ok (.ref S1.length) S2:=by
 unfold Mg;rw [h];dsimp only [Res.bind];rw [qX hn,hf]
theorem DQ {m:ME} {r:ML} {e:Lo} {S S1 S2:Sto} {d:D} {ds:List D} (h:m e S=.ok d S1) (hr:r e S1=.ok ds S2):Al m r e S=.ok (d :: ds) S2:=by
 unfold Al;rw [h];dsimp only [Res.bind];rw [hr]
theorem Pc {n:Nat} {mi:MI} {g:MG} {c:MT} {m:ME} {e:Lo} {S S1:Sto} {v:Gq} (h:mi e S=.ok v S1):E1 n mi g c m e S=Dv v g c m (CF v S1) 0 (A4 n none++e) S1 []:=by
 unfold E1;rw [h];rfl
theorem Q4 {m:ME} {e:Lo} {S S1:Sto} {b:Bool} (h:m e S=.ok (.bl b) S1):mB m e S=.ok b S1:=by
 unfold mB;rw [h];rfl
theorem Z9 {f g:D->D->Sto->Res D} {ma mb mc:ME} {e:Lo} {S S1 S2 S3 S4 S5:Sto} {x y w d:D} (ha:ma e S=.ok x S1) (hb:mb e S1=.ok y S2) (hf:f x y S2=.ok (.bl true) S3) (hc:mc e S3=.ok w S4) (hg:g y w S4=.ok d S5):m3 f g ma mb mc e S=.ok d S5:=by
 unfold m3;rw [ha];dsimp only [Res.bind];rw [hb];dsimp only [Res.bind];rw [hf];dsimp only [Res.bind,okR];rw [hc];dsimp only [Res.bind];rw [hg]
theorem eU {f g:D->D->Sto->Res D} {ma mb mc:ME} {e:Lo} {S S1 S2 S3:Sto} {x y:D} (ha:ma e S=.ok x S1) (hb:mb e S1=.ok y S2) (hf:f x y S2=.ok (.bl false) S3):m3 f g ma mb mc e S=.ok (.bl false) S3:=by
 unfold m3;rw [ha];dsimp only [Res.bind];rw [hb];dsimp only [Res.bind];rw [hf];rfl
theorem XF {i j:Int} {S:Sto} {b:Bool} (h:decide (i<=j)=b):leD (.int i) (.int j) S=.ok (.bl b) S:=by subst h;rfl
theorem XA {i j:Int} {S:Sto} {b:Bool} (h:decide (i < j)=b):ltD (.int i) (.int j) S=.ok (.bl b) S:=by subst h;rfl
theorem cT {i j:Int} {S:Sto} {b:Bool} (h:decide (j<=i)=b):geD (.int i) (.int j) S=.ok (.bl b) S:=by subst h;rfl
theorem cZ {i j:Int} {S:Sto} {b:Bool} (h:decide (i=j)=b):eqD false (.int i) (.int j) S=.ok (.bl b) S:=by
 subst h;show Res.ok (D.bl (i==j)) S=_;rfl
theorem Wz {m:MT} {e:Lo} {S S1:Sto} {b:Bool} (h:m e S=.ok b S1):KZ m e S=.ok (!b) S1:=by
 unfold KZ;rw [h];rfl
theorem WZ {C:AE} {ml:ML} {e:Lo} {S S1:Sto} {ds:List D} (h:ml e S=.ok ds S1) (hl:ds.length<=30):DW C ml e S=.ok (.ex C e) S1:=by
 unfold DW;rw [h];dsimp only [Res.lift];rw [qX (Aq hl (by decide))]
theorem WF {ml:ML} {e:Lo} {S S1:Sto} {ds:List D} (h:ml e S=.ok ds S1) (hl:ds.length<=1000):Iy ml e S=.ok (.tup ds) S1:=by
 unfold Iy;rw [h];dsimp only [Res.bind];rw [qX (Aq hl (by decide))]
theorem ee {tab:String->Option Bool} {tabC:AE->Option Bool} {m:ME} {e:Lo} {S S1:Sto} {d:D} {T:String} {b:Bool} (h:m e S=.ok d S1) (ht:tyD d S1=some T) (hb:tab T=some b):mIs tab tabC m e S=.ok (.bl b) S1:=by
 unfold mIs;rw [h];dsimp only [Res.bind]
 cases d with
 | exc C=>cases ht
 | _=>dsimp only;rw [ht];dsimp only;rw [hb]
theorem Wt {ta tb:MT} {e:Lo} {S S1:Sto} (h:ta e S=.ok true S1):mOr ta tb e S=.ok true S1:=by
 unfold mOr;rw [h];rfl
theorem Ru {ta tb:MT} {e:Lo} {S S1:Sto} (h:ta e S=.ok false S1):mOr ta tb e S=tb e S1:=by
 unfold mOr;rw [h];rfl
theorem Zr {ta tb:MT} {e:Lo} {S S1:Sto} (h:ta e S=.ok true S1):NX ta tb e S=tb e S1:=by
 unfold NX;rw [h];rfl
theorem Zq {ta tb:MT} {e:Lo} {S S1:Sto} (h:ta e S=.ok false S1):NX ta tb e S=.ok false S1:=by
 unfold NX;rw [h];rfl
theorem Z5 {m:ME} {e:Lo} {S S1:Sto} {d:D} {ds:List D} (h:m e S=.ok d S1) (hq:Ga d S1=some ds):Iz m e S=.ok ds S1:=by
 unfold Iz;rw [h];dsimp only [Res.bind];rw [hq]
theorem bL {f:List D->Sto->Res D} {ml:ML} {e:Lo} {S S1 S2:Sto} {ds:List D} {d:D} (h:ml e S=.ok ds S1) (hf:f ds S1=.ok d S2):mQ f ml e S=.ok d S2:=by
 unfold mQ;rw [h];dsimp only [Res.bind];rw [hf];rfl
theorem XB {n:Nat} {S:Sto} {ds:List D} (h:S[n]?=some (.lst ds)):PJ (.ref n) S=some ds:=by
 unfold PJ;dsimp only;rw [h]
end L2
namespace L2
open PySem PySem.Spec PyProof.Rows
section
variable {X:Cx} {E:EW} {e:Expr} {tg:Expr}
end
section
variable {X:Cx} {E:EW} {e:Expr} {es:List Expr} {p pos p2:Pos} {x1:Nat} {m:ME} {c:V} {cs:List V} {Cs:List AE} {tabC:AE->Option Bool}
end
section
variable {X:Cx} {E:EW} {e st:Expr} {te:TE} {lo hi:Option Expr} {tl th ts:TO} {pos p2:Pos} {m:ME} {ml mh ms:MO}
end
section
variable {X:Cx} {E:EW} {e:Expr} {p pos:Pos} {m:ME}
end
end L2
namespace PySem
open Sem (wp)
open AutoSeq1 (wpAny_loadPart')
section
variable {prog:Aa} {w:As} {A:Ak} {E:AB->AD->Prop} {s:AD}
end
end PySem
namespace L2
open PySem PySem.Spec PyProof.Rows
theorem Inv.turned2 {X:Cx} {pins:List (AE×Obj)} {σ:List (Option V)} {H:Hp} {s:AD} {h':BG} {t':Nat} {e it a:AE} {o:HO} (I:Inv X pins σ H s) (k:∀b u,b≠e->b≠it->s.heap.get? b=some u->h'.get? b=some u)
  (fe:J6 X pins H e) (fi:J6 X pins H it) (ha:s.heap.objs.size<=a) (new:Bx X.prog X.w (upd H a o) h' a o):Inv X pins σ (upd H a o) { s with heap:=h',toks:=t' }:=by
 have hn:=I.hok.fresh ha
 have nit:∀b u,H b=some u->b≠e/\b≠it:=λb u q=>⟨λz=>(by rw [z,fe.1] at q;cases q),λz=>(by rw [z,fi.1] at q;cases q)⟩
 have out:∀b:AE,b∉[e,it]->b≠e/\b≠it:=λb hb=>⟨λz=>hb (by simp [z]),λz=>hb (by simp [z])⟩
 refine I.step (g':=s.gens) (d':=s.drawn) (ch:=[e,it]) (λb hb=>?_) (λb o _ _ hc q _=>k b o (out b hc).1 (out b hc).2 q) (λb o _ _ hc q _=>⟨o.slots,k b o (out b hc).1 (out b hc).2 q⟩) (λb o _ q n=>?_)
  (λb o hc q=>⟨o,k b o (out b hc).1 (out b hc).2 q⟩) (λb xs q=>by rw [BI (BX q hn)];exact q) (λb o u q=>by rw [BI (BX q hn)];exact q) (λb ps q=>⟨#[],by rw [BI (BX q hn),q];simp⟩) (λm hm=>?_) (λb u q=>?_) I.bare
 ·have hb':b=e∨b=it:=by simpa using hb
  rcases hb' with z | z
  ·subst z;exact ⟨fe.2.2.2.1,fe.2.1,fe.2.2.2.2.1,fe.2.2.2.2.2⟩
  ·subst z;exact ⟨fi.2.2.2.1,fi.2.1,fi.2.2.2.2.1,fi.2.2.2.2.2⟩
 ·rw [BI (Ag (AX (AT q) ha))];exact n
 ·obtain ⟨o,es,ep,ho,r⟩:=hm
  exact ⟨o,es,ep,k _ o (Bp fe.2.1) (Bp fi.2.1) ho,r⟩
 ·by_cases hb:b=a
  ·subst hb;rw [BU] at q;cases q;exact new
  ·rw [BI hb] at q
   refine (I.hok b u q).stay (λc v hc r=>?_) (λc r=>by rw [BI (BX r hn)];exact r) λc xs r=>by rw [BI (BX r hn)];exact r
   have:c≠e/\c≠it:=by
    rcases hc with z | z
    ·rw [z];exact nit b u q
    ·exact nit c _ z
   exact k c v this.1 this.2 r
def Ite (sq:Hp->List V->Prop):It:=
 ⟨λi H=>∃xs x,sq H xs/\xs[i]?=some x,λi H y H'=>∃p x,H p=none/\y=.ref p/\H'=upd H p (.tup [.int i,x])/\∀xs,sq H xs->xs[i]?=some x,λi H=>∃xs,sq H xs/\xs.length<=i⟩
section
variable {P:Aa} {w:As} {K:AA} {elts:List Expr} {x1:Nat} {pos:Pos}
theorem U9 {X:Cx} {pins:List (AE×Obj)} {σ:St} {H:Hp} {s:AD} {E:AB->AD->Prop} {sq:Hp->List V->Prop} {e it:AE} {i:Nat} {x:V} {u:AB} {tk:Nat} {h':BG} {tn:Nat->BG->Prop}
  (I:Inv X pins σ H s) (hne:e≠it) (hf:∀b∈[e,it],J6 X pins H b) (le:e < s.heap.objs.size) (li:it < s.heap.objs.size) (ru:RelV x u) (hx:∀xs,sq H xs->xs[i]?=some x)
  (ho:IsEnumOut h' e it ((i:Int)+1) u s.heap.objs.size) (hT:h'.get? s.heap.objs.size=some { cls:=.type "tuple",data:=.seq #[.int i tk,u] }) (hk:∀b o,b≠e->b≠it->s.heap.get? b=some o->h'.get? b=some o)
  (ht:∀h2,Da e h' h2->(∃old,Vw h2 e it ((i+1:Nat):Int) old)->tn (i+1) h2) :
  Ab (AR X.prog X.w) X.A (JI (.Tuple elts x1 pos) (.ref e) (.ref s.heap.objs.size)) (λ_ s2=>∃y H',Inv X pins σ H' s2/\RelV y (.ref s.heap.objs.size)/\(Ite sq).yld i H y H'/\tn (i+1) s2.heap/\∀b∈[e,it],H' b=none) E { s with heap:=h',toks:=tk+1 }:=by
 have fe:=hf e (by simp);have fi:=hf it (by simp);have ne:e≠s.heap.objs.size:=Ag le;have ni:it≠s.heap.objs.size:=Ag li
 have new:Bx X.prog X.w (upd H s.heap.objs.size (.tup [.int i,x])) h' s.heap.objs.size (.tup [.int i,x]):=
  ⟨⟨Aq (show 2<=1000 by decide) (by decide),_,hT,rfl⟩,[.int i tk,u],.cons ⟨tk,rfl⟩ (.cons ru .nil),_,hT,rfl,_,rfl⟩
 have I1:=I.turned2 (t':=tk+1) hk fe fi (AS _) new
 refine wpAny_letOwnedTupleGo_enum (s:={ s with heap:=h',toks:=tk+1 }) ho λh2 he2 hs2=>?_
 have hs2':Da e h' h2:=hs2;have I2:=I1.turned (t':=tk+1) (h':=h2) (it:=e) (λb o hb q=>(hs2'.2 b hb).trans q) (by rw [BI ne];exact fe.1) fe.2.1 fe.2.2.2.1 fe.2.2.2.2.1 fe.2.2.2.2.2;refine ⟨.ref s.heap.objs.size,_,I2,rfl,⟨s.heap.objs.size,x,I.hok.fresh (AS _),rfl,rfl,hx⟩,ht h2 hs2' ⟨u,by rw [Int.natCast_add,Int.natCast_one];exact he2⟩,λb hb=>?_⟩
 have hb':b=e∨b=it:=by simpa using hb
 rcases hb' with z | z
 ·rw [z,BI ne];exact fe.1
 ·rw [z,BI ni];exact fi.1
end
section
variable {X:Cx} {E:EW} {e:Expr} {elts:List Expr} {x1:Nat} {p pos ptg:Pos} {m:ME} {ta:TA}
end
def Kw (f:Int->Int->Bool):List Int->Option Int
 | []=>none
 | a :: r=>some (r.foldl (λm x=>if f x m=true then x else m) a)
theorem J2 (f:Int->Int->Bool) (a:Int) (r:List Int):∀k,k<=r.length->(a :: r).getD (Ep (λi j=>f ((a :: r).getD i 0) ((a :: r).getD j 0)) k) 0=(r.take k).foldl (λm x=>if f x m=true then x else m) a
 | 0,_=>by simp [Ep]
 | k+1,h=>by
  have ih:=J2 f a r k (by lia)
  have hk:k < r.length:=by lia
  have e1:r.take (k+1)=r.take k++[r[k]]:=by rw [DD];simp [hk]
  have e2:(a :: r).getD (k+1) 0=r[k]:=by simp [hk]
  rw [e1,List.foldl_append,<-ih];show (a :: r).getD (if f ((a :: r).getD (k+1) 0) ((a :: r).getD (Ep (λi j=>f ((a :: r).getD i 0) ((a :: r).getD j 0)) k) 0)=true then k+1 else Ep (λi j=>f ((a :: r).getD i 0) ((a :: r).getD j 0)) k) 0=_;rw [e2];show _=(if f r[k] _=true then r[k] else _);split
  ·exact e2
  ·rfl
theorem NC (bt:Nat->Nat->Bool):∀k,Ep bt k<=k
 | 0=>AS _
 | k+1=>by
  show (if bt (k+1) (Ep bt k)=true then k+1 else Ep bt k)<=k+1;have:=NC bt k
  split <;> lia
def ltZ (x m:Int):Bool:=decide (x < m)
def gtZ (x m:Int):Bool:=decide (x > m)
theorem Qw (f:Int->Int->Bool) {ns:List Int} {b:Int} (h:Kw f ns=some b):0 < ns.length/\ns[Ep (λi j=>f (ns.getD i 0) (ns.getD j 0)) (ns.length - 1)]?=some b:=by
 cases ns with
 | nil=>cases h
 | cons a r=>
  cases h;refine ⟨by simp,?_⟩;have e:=J2 f a r r.length (AS _);rw [HQ] at e;have hl:=NC (λi j=>f ((a :: r).getD i 0) ((a :: r).getD j 0)) r.length;rw [<-e,show (a :: r).length - 1=r.length by simp]
  have hlt:Ep (λi j=>f ((a :: r).getD i 0) ((a :: r).getD j 0)) r.length < (a :: r).length:=by rw [Af];exact Nat.lt_succ_of_le hl
  rw [BD hlt,DT,BD hlt];rfl
theorem EO {ns:List Int} {us:List AB} (r:BK (ns.map V.int) us) {i:Nat} {v:AB} (h:us[i]?=some v):∃t,v=.int (ns.getD i 0) t:=by
 have hi:i < ns.length:=by
  have:=(AJ.mp h).1;have hl:=r.length;rw [AK] at hl
  lia
 obtain ⟨u,hu,ru⟩:=r.get (i:=i) (x:=.int (ns.getD i 0)) (by rw [Ao,BD hi,DT,BD hi];rfl);rw [h] at hu;cases hu;exact ru
section
variable {X:Cx}
def We (K:AA) (f:Int->Int->Bool):List V->Hp->VK->Prop:=λxs H Q=>∃a ns b,xs=[.ref a]/\(SqL K H a (ns.map V.int)∨SqT K H a (ns.map V.int))/\Kw f ns=some b/\Q (.int b) H
theorem LY {s:AD} {o:Obj} {h':BG} (hk:∀b u,b∉[s.heap.objs.size]->(s.heap.push o).get? b=some u->h'.get? b=some u):∀b u,s.heap.get? b=some u->h'.get? b=some u:=λb u e=>
 hk b u (λhm=>zX (A2.mp hm▸AT e) (CY _)) (AF _ e)
theorem Tq {s:AD} {o:Obj} {l:AE} (hl:l < s.heap.objs.size):∀b∈[s.heap.objs.size,l],b < (s.heap.push o).objs.size:=λb hb=>by
 rw [EI]
 have hb':b=s.heap.objs.size∨b=l:=by simpa using hb
 rcases hb' with rfl | rfl
 ·exact Co _
 ·exact Gr hl
theorem VR (hc:X.calm=true):Ej X (.builtin "min") (We X.K ltZ):=by
 intro pins s σ H xs us Q I r h;obtain ⟨a,ns,b,rfl,sq,hb,q⟩:=h;obtain ⟨u,rfl,ru⟩:=vals1 r;cases ru;obtain ⟨hpos,hat⟩:=Qw ltZ hb;have hh:=I.ok.hd hc
 have fin:∀(its:List AB) (v:AB) (h':BG) (tk:Nat),BK (ns.map V.int) its->its.toArray[Ep (λi j=>decide (ns.getD i 0 < ns.getD j 0)) (its.toArray.size - 1)]?=some v->(∀b o,s.heap.get? b=some o->h'.get? b=some o)->EP X pins σ Q v { s with heap:=h',toks:=tk }:=λits v h' tk rv hP hk=>by
  have hl:=rv.length;rw [AK] at hl;rw [RN,AZ,<-hl] at hP;obtain ⟨t,rfl⟩:=EO rv hP;refine ⟨.int b,H,I.kept hk,⟨t,?_⟩,q⟩
  have e:ns.getD (Ep (λi j=>decide (ns.getD i 0 < ns.getD j 0)) (ns.length - 1)) 0=b:=by
   rw [DT];unfold ltZ at hat;rw [hat];rfl
  rw [e]
 rcases sq with sq | sq
 ·obtain ⟨its,rv,pl,hz⟩:=I.list sq
  have hl:=rv.length;rw [AK] at hl
  have la:a < s.heap.objs.size:=by obtain ⟨o,q,_⟩:=pl.isList;exact AT q
  refine call_min_walk (Cg pl.isList ?_);refine ⟨_,_,_,_,_,_,_,rfl,UH (A:=X.A.in1) hh _ a (Ag la) its.toArray,⟨⟨_,AU _ rfl,rfl,rfl⟩,pl.isList.push _⟩,Tq la,by rw [AZ];lia,Z1 (λi=>ns.getD i 0) (λi v hv=>EO rv (by simpa using hv)),λv h' tk hP hk=>fin its v h' tk rv hP (LY hk)⟩
 ·obtain ⟨its,rv,pl,hz⟩:=I.tuple sq
  have hl:=rv.length;rw [AK] at hl;have pl':s.heap.IsTuple a its.toArray:=pl
  have la:a < s.heap.objs.size:=by obtain ⟨o,q,_⟩:=pl';exact AT q
  refine call_min_walk (Gv pl' ?_);refine ⟨_,_,_,_,_,_,_,rfl,RG (A:=X.A.in1) hh _ a (Ag la) its.toArray,⟨⟨_,AU _ rfl,rfl,rfl⟩,pl'.push _⟩,Tq la,by rw [AZ];lia,Z1 (λi=>ns.getD i 0) (λi v hv=>EO rv (by simpa using hv)),λv h' tk hP hk=>fin its v h' tk rv hP (LY hk)⟩
theorem VV (hc:X.calm=true):Ej X (.builtin "max") (We X.K gtZ):=by
 intro pins s σ H xs us Q I r h;obtain ⟨a,ns,b,rfl,sq,hb,q⟩:=h;obtain ⟨u,rfl,ru⟩:=vals1 r;cases ru;obtain ⟨hpos,hat⟩:=Qw gtZ hb;have hh:=I.ok.hd hc
 have fin:∀(its:List AB) (v:AB) (h':BG) (tk:Nat),BK (ns.map V.int) its->its.toArray[Ep (λi j=>decide (ns.getD i 0 > ns.getD j 0)) (its.toArray.size - 1)]?=some v->(∀b o,s.heap.get? b=some o->h'.get? b=some o)->EP X pins σ Q v { s with heap:=h',toks:=tk }:=λits v h' tk rv hP hk=>by
  have hl:=rv.length;rw [AK] at hl;rw [RN,AZ,<-hl] at hP;obtain ⟨t,rfl⟩:=EO rv hP;refine ⟨.int b,H,I.kept hk,⟨t,?_⟩,q⟩
  have e:ns.getD (Ep (λi j=>decide (ns.getD i 0 > ns.getD j 0)) (ns.length - 1)) 0=b:=by
   rw [DT];unfold gtZ at hat;rw [hat];rfl
  rw [e]
 rcases sq with sq | sq
 ·obtain ⟨its,rv,pl,hz⟩:=I.list sq
  have hl:=rv.length;rw [AK] at hl
  have la:a < s.heap.objs.size:=by obtain ⟨o,q,_⟩:=pl.isList;exact AT q
  refine call_max_walk (Cg pl.isList ?_);refine ⟨_,_,_,_,_,_,_,rfl,UH (A:=X.A.in1) hh _ a (Ag la) its.toArray,⟨⟨_,AU _ rfl,rfl,rfl⟩,pl.isList.push _⟩,Tq la,by rw [AZ];lia,Z2 (λi=>ns.getD i 0) (λi v hv=>EO rv (by simpa using hv)),λv h' tk hP hk=>fin its v h' tk rv hP (LY hk)⟩
 ·obtain ⟨its,rv,pl,hz⟩:=I.tuple sq
  have hl:=rv.length;rw [AK] at hl;have pl':s.heap.IsTuple a its.toArray:=pl
  have la:a < s.heap.objs.size:=by obtain ⟨o,q,_⟩:=pl';exact AT q
  refine call_max_walk (Gv pl' ?_);refine ⟨_,_,_,_,_,_,_,rfl,RG (A:=X.A.in1) hh _ a (Ag la) its.toArray,⟨⟨_,AU _ rfl,rfl,rfl⟩,pl'.push _⟩,Tq la,by rw [AZ];lia,Z2 (λi=>ns.getD i 0) (λi v hv=>EO rv (by simpa using hv)),λv h' tk hP hk=>fin its v h' tk rv hP (LY hk)⟩
variable {E:EW} {e:Expr} {p pos:Pos} {m:ME}
def OU (f:Int->Int->Bool) (ds:List D) (S:Sto):Res D:=match EA ds with
 | some ns=>match Kw f ns with
  | some b=>.ok (.int b) S
  | none=>.bad
 | none=>.bad
theorem TF {f:Int->Int->Bool}:Zv X.K (We X.K f) (OU f):=λρ H S ds q xs d S' Q hs rr sq hm k=>by
 unfold OU at hm;split at hm
 ·rename_i ns hi
  split at hm
  ·rename_i b hb
   cases hm;rw [Gj hi] at rr;rw [rr.ints] at sq;exact ⟨q,ns,b,rfl,sq,hb,k ρ H _ .refl hs (.int _)⟩
  ·cases hm
 ·cases hm
abbrev TY:=OU ltZ
abbrev TZ:=OU gtZ
theorem Ti (hc:X.calm=true) (hg:Gl X "min") (hm:X.mg "min" = none) (h:GE X E e m) (he:AN [e] X.env=(false,Ba e X.env) :: AN [] X.env:=by rfl):GE X E (.Call (.Name "min" p) [e] [] pos) (mQ TY (Iz m)):=
 Lc (VR hc) TF hg hm Lq (Tg h) (by decide) (by decide) he
theorem Tj (hc:X.calm=true) (hg:Gl X "max") (hm:X.mg "max" = none) (h:GE X E e m) (he:AN [e] X.env=(false,Ba e X.env) :: AN [] X.env:=by rfl):GE X E (.Call (.Name "max" p) [e] [] pos) (mQ TZ (Iz m)):=
 Lc (VV hc) TF hg hm Lr (Tg h) (by decide) (by decide) he
end
end L2
namespace PySem
open Sem (wp)
open AutoSeq1 (wpAny_loadPart')
namespace F
end F
section
variable {prog:Aa} {w:As} {A:Ak} {E:AB->AD->Prop} {s:AD} {I:AE} {fp wr:List AE} {G:Array KF->Array KF->Prop} {n:Nat} {P:Nat->AB->Prop} {St:Nat->AD->Prop}
end
end PySem
namespace L2
open PySem PySem.Spec PyProof.Rows
section
variable {X:Cx} {E:EW} {e:Expr} {p p2 pos pos2:Pos} {m:ME} {te:TE}
end
end L2
namespace L2
open PySem
theorem JE {α:Type} {xs:List α} {j:Int} {x:α} (h0:0<=j) (h:xs[j.toNat]?=some x):atI xs j=some x:=by
 have hlt:=(AJ.mp h).1;unfold atI ixN;rw [qX (by omega),qX (by lia)];simpa using h
theorem R7 {α:Type}:∀ {l:List α},l.length=1->∃x1,l=[x1]
 | [a],_=>⟨a,rfl⟩
theorem Us {α:Type}:∀ {l:List α},l.length=2->∃x1 x2,l=[x1,x2]
 | y :: _,q=>by
  obtain ⟨x2,rfl⟩:=R7 (X7 q);exact ⟨y,x2,rfl⟩
theorem eZ {α:Type}:∀ {l:List α},l.length=3->∃x1 x2 x3,l=[x1,x2,x3]
 | y :: _,q=>by
  obtain ⟨x2,x3,rfl⟩:=Us (X7 q);exact ⟨y,x2,x3,rfl⟩
end L2
namespace L2
open PySem PySem.Spec PyProof.Rows
section
variable {X:Cx} {E:EW} {e:Expr} {m:ME} {pos:Pos}
end
section
variable {X:Cx} {E:EW} {tg e a b:Expr} {p p2 pos pos2:Pos} {m:ME} {ml:ML} {ta:TA}
end
end L2
namespace PySem
open Sem (wp)
open PyProof.Rows (IntsAre)
section
variable {prog:Aa} {w:As} {A:Ak} {E:AB->AD->Prop} {s:AD}
end
end PySem
namespace L2
open PySem PySem.Spec PyProof.Rows
section
variable {X:Cx} {E:EW} {a b:Expr} {p p2 pos pos2:Pos} {ml:ML} {ta:TA}
theorem MX {K:AA} {ρ:List AE} {H:Hp}:∀ {ns:List Int} {vs:List V},Aj K ρ H (ns.map D.int) vs->vs=ns.map V.int
 | [],_,.nil=>rfl
 | n :: ns,_,.cons r t=>by
  cases r;rw [MX t];rfl
end
end L2
namespace PySem
open Sem (wp)
open AutoSeq1 (wpAny_loadPart')
section
variable {prog:Aa} {w:As} {A:Ak} {E:AB->AD->Prop} {s:AD}
theorem QT {T newId:String} {self:AB} {rest:List AB} {kw:List (Str×AB)} (hl:aH (.type T) "__init__" = pure (some (.builtin "object.__init__"))) (hm:Bind.madeBy (.type T)=pure (some newId)) (hne:(some newId != some "object.__new__")=true) (hr:(!rest.isEmpty||!kw.isEmpty)=true) :
  Meets (Builtin.«object.__init__» ⟨self :: rest,kw⟩) (λ_ R s=>s.TypeIs self T/\R (.ok (.ret .none)) s):=by
 refine Meets.of_wp λprog w A R s hs=>?_
 obtain ⟨hT,hq⟩:=hs;unfold Builtin.«object.__init__»;dsimp only;rw [qX hr];(repeat (any_goals (first | assumption | wp_step)));exact ⟨_,rfl,hq⟩
theorem SO {T newId:String} {Bn:Builtin} {args:List AB} {kw:List (Str×AB)} {S:Spec} {Q:AB->AD->Prop} (ft:TypeCalled T newId "object.__init__") (hne:(some newId != some "object.__new__")=true) (hr:(!args.isEmpty||!kw.isEmpty)=true)
  (hct:checkTypeCall T ⟨args,kw⟩=pure ()) (hcn:Oa newId ⟨.type T :: args,kw⟩=pure ()) (hok:∀obj,argsOk "object.__init__" ⟨obj :: args,kw⟩) (entryN:entryFor table newId=some Bn) (g:Meets (Bn ⟨.type T :: args,kw⟩) S)
  (h:S A.in1 (wants (λobj s₁=>s₁.TypeIs obj T/\Q obj s₁) E) s):Ab (AR prog w) A (call (.type T) args kw) Q E s:=by
 obtain ⟨c,tl,hmro⟩:=ft.mro;have hmade:=ft.made;have hsub:=ft.sub;refine Lh (codeAny_of_tree ?_);show Ab _ _ (callAny (.type T) _) _ _ _;refine AH ⟨Code.quiet_builtin _ (by decide +kernel),codeAny_builtin F.entry_type_call ?_⟩;rw [Ak.under_plain (weight_type_call_type T args kw) (units_type_call_type T args kw)];have h1:=ft.notType;have h2:=ft.canCreate;(repeat (any_goals (first | assumption | wp_step)))
 refine GM (KC ft.plain entryN (YB hcn (g prog w A.in1 _ s h))) λr s₁ hr₁=>?_
 cases r with
 | error e=>exact hr₁
 | ok fl=>
  cases fl with
  | ret obj=>
   obtain ⟨hT,hq⟩:=hr₁;have hli:=ft.init.lookup;have hbi:=ft.init.bind obj;(repeat (any_goals (first | assumption | wp_step)))
   refine GM (KC (R:=wants (λr s₂=>r=.none/\Q obj s₂) E) ft.init.plain F.entry_object_init (ft.init.check _ _ _ _ _ _ _ _ hT (hok obj) (QT ft.init.lookup ft.made hne hr prog w A.in1 _ s₁ ⟨hT,rfl,hq⟩))) λr₂ s₂ hr₂=>?_
   cases r₂ with
   | error e=>exact hr₂
   | ok fl₂=>
    cases fl₂ with
    | ret r=>
     obtain ⟨rfl,hq⟩:=hr₂;(repeat (any_goals (first | assumption | wp_step)))
    | _=>exact hr₂.elim
  | _=>exact hr₁.elim
end
end PySem
namespace PySem
section
variable {prog:Aa} {w:As} {A:Ak} {E:AB->AD->Prop} {s:AD}
end
end PySem
namespace L2
open PySem PySem.Spec PyProof.Rows
section
variable {P:Aa} {w:As} {K:AA} {elts:List Expr} {x1:Nat} {pos:Pos}
end
section
variable {X:Cx} {E:EW} {e:Expr} {elts:List Expr} {x1:Nat} {p pos ptg kp vp:Pos} {j1:Nat} {m:ME} {ta:TA}
theorem LN {M:Pr} {A:Ak} {E:AB->AD->Prop} {s:AD} {env:Env} {pos:Pos} {T:String} {e:Expr} {rest:List Expr} {kws:List FU} {Q:AB->AD->Prop}
  (h:Ab M A (spliced (Bi pos (AN (e :: rest) env))) (λvs s₁=>Ab M A (evalAll ((Eo pos (Ch kws env)).map (·.2)))
   (λkvs s₂=>Ab M A (call (.type T) vs (((Eo pos (Ch kws env)).filterMap (·.1)).zip kvs)) Q E s₂) E s₁) E s)
  (he:Bi pos (AN (e :: rest) env)=(false,Ba e env) :: Bi pos (AN rest env)) (hplain:(Bi pos (AN (e :: rest) env)).any (·.1)=false)
  (hall:(Eo pos (Ch kws env)).all (·.1.isSome)=true) (hkw:(Eo pos (Ch kws env)).any (·.1.isNone)=false) :
  Ab M A (callWith pos (.type T) [] (Bi pos (AN (e :: rest) env)) (Eo pos (Ch kws env))) Q E s:=by
 have h2:Ab M A (evalArgs (.type T) true (Bi pos (AN (e :: rest) env)) (Eo pos (Ch kws env))) (λa s₁=>Ab M A (call (.type T) ([]++a.pos) a.kw) Q E s₁) E s:=by
  rw [he] at h ⊢;exact evalArgs_kwB hall h
 unfold callWith;refine AC (Cn (Cm h2 (λa s₁ h₁=>AC (UB ?_)) λ_ _ x=>x));simp only [hplain,hkw,aU];exact AC (AH (AC (Cm h₁ (λr s₂ hr=>AC (Cn (wpAny_point (AH hr)))) λ_ _ x=>x)))
end
end L2
namespace PySem
open Sem (wp)
section
variable {prog:Aa} {w:As} {A:Ak} {E:AB->AD->Prop} {s:AD}
end
end PySem
namespace L2
open PySem PySem.Spec PyProof.Rows
section
variable {X:Cx} {E:EW} {e a b c:Expr} {p p2 pos pos2:Pos} {m:ME} {te:TE} {ml:ML} {ta:TA} {tg:Expr}
def ltT (x y:D) (S:Sto):Res D:=match x,y with
 | .tup xs,.tup ys=>match EA xs,EA ys with
  | some i,some j=>.ok (.bl (HT.lexLt i j)) S
  | _,_=>.bad
 | _,_=>.bad
theorem bq (hu:X.A.units+64 < Cy):OpR X (A8 .Lt) (rD X.K ltT):=(bi (by lia)).imp λx y H Q ⟨ρ,S,d1,d2,d,S',hs,r1,r2,hm,k⟩=>by
 unfold ltT at hm;split at hm
 ·split at hm
  ·rename_i h1 h2
   cases hm;rw [Gj h1] at r1;rw [Gj h2] at r2
   cases r1 with
   | @tup _ a1 v1 g1 q1=>
    cases r2 with
    | @tup _ a2 v2 g2 q2=>
     rw [MX q1] at g1;rw [MX q2] at g2;exact ⟨a1,a2,_,_,rfl,rfl,.inl (.inl g1),.inl (.inl g2),k ρ H _ .refl hs (.bl _)⟩
  ·cases hm
 ·cases hm
end
section
variable {X:Cx} {E:EW} {a b c:Expr} {p pos:Pos} {ml:ML} {ta:TA} {tg:Expr}
end
section
variable {X:Cx} {E:EW} {e a b c:Expr} {p p2 pos pos2:Pos} {m:ME} {te:TE} {ml:ML} {ta:TA} {tg:Expr}
end
section
variable {X:Cx} {E:EW} {k v:Expr} {pos:Pos} {mk mv:ME}
end
end L2
namespace PySem
end PySem
namespace L2
open PySem PySem.Spec PyProof.Rows
section
variable {X:Cx} {E:EW} {o e:Expr} {apos cpos:Pos} {mo ma:ME}
end
section
variable {X:Cx} {o e:Expr} {apos cpos:Pos} {td ty:TE}
end
section
variable {X:Cx} {E:EW} {o e:Expr} {apos cpos:Pos} {mo ma:ME}
end
section
variable {X:Cx}
end
section
variable {X:Cx} {E:EW} {o e f:Expr} {apos cpos:Pos} {mo mi my:ME}
end
end L2
namespace PySem
open Sem (wp)
section
variable {prog:Aa} {w:As} {A:Ak} {E:AB->AD->Prop} {s:AD}
end
end PySem
namespace L2
open PySem PySem.Spec PyProof.Rows
section
variable {P:Aa} {w:As} {K:AA} {elts:List Expr} {x1:Nat} {pos:Pos}
end
section
variable {X:Cx} {E:EW} {e1 e2:Expr} {elts:List Expr} {x1:Nat} {p pos ptg:Pos} {ml:ML} {ta:TA}
end
end L2
namespace HT
open PySem PySem.Spec PyProof.Rows
section
variable {prog:Aa} {w:As} {A:Ak} {E:AB->AD->Prop} {s:AD}
end
end HT
namespace L2
open PySem PySem.Spec PyProof.Rows
section
variable {X:Cx}
variable {E:EW} {e:Expr} {lo hi:Option Expr} {pos p2:Pos} {m:ME} {ml mh:MO}
end
section
variable {X:Cx}
instance (i j:Int):Decidable ((λ_ j:Int=>0<=j) i j):=inferInstanceAs (Decidable (0<=j))
end
section
variable {X:Cx} {E:EW} {CX:CXT} {k n:Nat} {f C:AE} {fd:CQ} {ps:List Str} {m:Str} {pos apos:Pos} {o e:Expr} {es:List Expr} {mo:ME} {ml:ML} {g:List D->Sto->Res D}
end
section
variable {X:Cx} {E:EW} {o:Expr} {apos cpos:Pos} {mo:ME}
end
section
variable {X:Cx}
end
section
variable {X:Cx} {E:EW} {g:Str} {gp hpos pos:Pos} {G:AE} {cs:List AE} {body suite:List CW} {b₀:CW} {mb mh:MS}
end
end L2
namespace L2
open PySem PySem.Spec PyProof.Rows PySem.SeqAt
section
variable {X:Cx} {K:AA} {ρ:List AE} {H:Hp}
variable {pins:List (AE×Obj)} {σ:St} {s:AD}
end
section
variable {P:Aa} {w:As} {K:AA} {mg:Str->Option AB} {base:BG}
theorem KY {N ps:List Str} {sc:Fb} (h1:N.Nodup:=by decide +kernel) (h2:∀x∈ps,sc.names.lookup x=some .local∨sc.names.lookup x=some .cell:=by decide +kernel) (h3:∀y∈sc.names,y.2≠.free:=by decide +kernel) (h4:sc.kind=.function:=by rfl) (h5:sc.isCoroutine=false:=by rfl) (h6:sc.isGenerator=false:=by rfl) (h7:N.take ps.length=ps:=by rfl):CH N ps sc:=⟨h4,h5,h6,h1,h7,h2,h3⟩
theorem DP {x qual:Str} {st:CW} {f:AE} {fd:CQ} {N ps:List Str} {k n:Nat} (F:Fun K x qual st f fd) (Sc:CH N ps (A0 st)) (hn:ps.length=n) {mb:MS}
  (hbody:∀(cdv:AB) (A:Ak) (outer:List Env) (s:AD) (H:Hp) (E:XK),Ey k (A.deeper (Iq qual (A0 st) s.heap.objs.size f cdv))->HZ (Pa (CXG P w) P w K mg base N qual (A0 st) f cdv A outer s H E)->(A.deeper (Iq qual (A0 st) s.heap.objs.size f cdv)).units+64 < Cy->N.Nodup ->
   ∀pn E',GSs ((Pa (CXG P w) P w K mg base N qual (A0 st) f cdv A outer s H E).w' pn E') E' (B6 st) mb) :
  EE P w K mg base (CXG P w) (k+1) f fd ps (spM K n (F0 N.length mb)):=cV F Sc hn λcdv A outer s H E hr=>hbody cdv A outer s H E hr ⟨rfl,rfl,rfl⟩ hr.units Sc.nd
end
section
variable {X:Cx} {E:EW} {e:Expr} {m:ME} {pos:Pos}
theorem EK {x:Str} (i:Nat) (hN:X.N.Nodup) (hi:X.N[i]?=some x:=by rfl) (hx:Loc X.env.scope x:=by first | exact Se rfl | exact Pq rfl) (hf:X.fn x=true∨X.env.scope.names.lookup x=some .local:=by first | exact .inl rfl | exact .inr rfl | assumption):GG X (.Name x pos) (tgN i):=ZV (Y3 hN hi hx hf)
theorem Du {x:Str} {pos':Pos} (i:Nat) (hN:X.N.Nodup) (he:GE X E e m) (hi:X.N[i]?=some x:=by rfl) (hx:Loc X.env.scope x:=by first | exact Se rfl | exact Pq rfl) (hs:Dx e (some (.Name x pos')) pos.line X.env=pure false:=by rfl)
  (hf:X.fn x=true∨X.env.scope.names.lookup x=some .local:=by first | exact .inl rfl | exact .inr rfl | assumption):GS X E (.Assign [.Name x pos'] e pos) (DM i m):=cL hN hi hx he hs hf
end
end L2
namespace PySem
open Sem (wp)
section
variable {prog:Aa} {w:As} {A:Ak} {R:aP->AD->Prop} {z B:AE} {fp wr:List AE} {n:Nat} {P:Nat->AB->Prop} {St:Nat->BG->Prop} {bt:Nat->Nat->Bool} {J:BG->Prop}
variable {E:AB->AD->Prop} {s:AD}
end
end PySem
namespace L2
open PySem PySem.Spec PyProof.Rows
section
variable {X:Cx} {E:EW} {e:Expr} {p pos:Pos} {m:ME}
end
end L2
namespace L2
open PySem PySem.Spec PyProof.Rows Srt
section
variable {X:Cx} {E:EW} {e a b c:Expr} {p p2 pos pos2:Pos} {m:ME} {te:TE} {ml:ML} {ta:TA} {tg:Expr}
end
end L2
namespace Srt
open PySem PyProof.Rows
section
variable {prog:Aa} {w:As} {A:Ak} {E:AB->AD->Prop} {s:AD}
end
end Srt
namespace L2
open PySem PySem.Spec PyProof.Rows
open Srt (ltL)
end L2
namespace PySem
open Sem (wp)
section
variable {prog:Aa} {w:As} {A:Ak} {E:AB->AD->Prop} {s:AD} {I:AE} {fp wr:List AE} {G:Array KF->Array KF->Prop} {n:Nat} {P:Nat->AB->Prop} {St:Nat->AD->Prop}
end
end PySem
namespace L2
open PySem PySem.Spec PyProof.Rows
section
variable {X:Cx} {E:EW} {e:Expr} {p p2 pos pos2:Pos} {m:ME} {te:TE}
end
section
variable {X:Cx} {E:EW} {a b c:Expr} {p pos:Pos} {ml:ML} {ta:TA} {tg:Expr}
end
end L2
namespace L2
open PySem PySem.Spec PyProof.Rows
open AutoSeq1 (wpAny_loadPart')
open MeetsSeq
def eg (k:Int):List Int->Option Nat
 | []=>none
 | x :: l=>if x=k then some 0 else (eg k l).map (· + 1)
section
variable {X:Cx}
variable {o e:Expr} {es:List Expr} {to:TE} {t:TA} {name:Str} {apos cpos:Pos} {id:String} {r:V->List V->Hp->VK->Prop}
end
def mIndex (mo mi:ME):ME:=λe S=>(mo e S).bind λd S1=>match d with
 | .tup ds=>(mi e S1).bind λx S2=>match EA ds,x with
  | some ns,.int k=>match eg k ns with
   | some j=>.ok (.int j) S2
   | none=>.bad
  | _,_=>.bad
 | _=>.bad
section
variable {X:Cx} {E:EW} {o e:Expr} {mo mi:ME} {apos cpos:Pos}
end
section
variable {X:Cx} {E:EW} {e:Expr} {m:ME} {p pos:Pos}
def mLenD (m:ME):ME:=λe S=>(m e S).bind λd S1=>match d with
 | .ref n=>match S1[n]? with
  | some (.dK kvs)=>.ok (.int kvs.length) S1
  | _=>.bad
 | _=>.bad
structure fE (K:AA) (C:AE):Prop where
 cl:Cls K C
 ha:BY K (.ref C) "__class__" = some (some (.builtin "object.__class__"))
 hn:JM K (.builtin "object.__class__") "__get__" = some (some (.builtin "getset_descriptor.__get__"))
 htk:K6 K (.builtin "object.__class__")=some true
 hm:Fs K C (.type "object")=some true
 ki:Bs K (.ref C) (.ref C)=some true
def ZN (C:AE) (m:ME):ME:=λe S=>(m e S).bind λd S1=>match d with
 | .ref n=>match S1[n]? with
  | some (.ins C' _)=>if C'=C then .ok (.bl true) S1 else .bad
  | _=>.bad
 | _=>.bad
theorem cQ {C:AE} {ce:Expr} (O:fE X.K C) (hg:Gl X "isinstance") (hm:X.mg "isinstance" = none) (h:GE X E e m) (hce:PE X ce (tC (.ref C)))
  (he:AN [e,ce] X.env=(false,Ba e X.env) :: AN [ce] X.env:=by rfl) (he2:AN [ce] X.env=(false,Ba ce X.env) :: AN [] X.env:=by rfl) (hpl:(Bi pos (AN [ce] X.env)).any (·.1)=false:=by rfl):GE X E (.Call (.Name "isinstance" p) [e,ce] [] pos) (ZN C m):=
 (Gg (Xx (c:=.ref C) (cv:=.ref C) λ_ r=>r) hg hm JJ (CV h (CV hce D4 he2) he) (by decide) (by decide) he hpl).imp λσ H Q ⟨ρ,l,S,hl,hs,hm⟩=>by
 refine ⟨ρ,l,S,hl,hs,hm.seq λd S1 hm2 ρ1 H1 x l1 s1 r1=>?_⟩
 cases d <;> first | exact hm2.elim | skip
 rename_i n
 cases r1 with
 | @ref _ a hn=>
  dsimp only at hm2
  cases hk:S1[n]? with
  | none=>rw [hk] at hm2;exact hm2.elim
  | some ob=>
   rw [hk] at hm2
   cases ob <;> first | exact hm2.elim | skip
   rename_i C' fs;dsimp only at hm2
   by_cases ec:C'=C
   ·rw [qX ec] at hm2
    subst ec;obtain ⟨dx,fs',e1,rr⟩:=s1.ob n _ a hk hn;exact ⟨.ref a,_,true,rfl,.ins e1 O.cl O.ha O.hn O.htk O.hm,O.ki,hm2 ρ1 H1 _ l1 s1 (.bl _)⟩
   ·rw [qY ec] at hm2
    exact hm2.elim
end
end L2
namespace L2
open PySem PySem.Spec PyProof.Rows
section
variable {X:Cx} {E:EW} {e o f:Expr} {m mo mi:ME} {p pos apos cpos:Pos}
def SW:D->D->Sto->Res D
 | .str a,.str b,S=>if a.length+b.length<=sizeLine then .ok (.str (a++b)) S else .bad
 | _,_,_=>.bad
theorem LX:OpR X (Dj .Add) (rD X.K SW):=by
 intro pins s σ H x y v u Q I rx ry h;obtain ⟨ρ,S,a,b,d,S',hs,ra,rb,hm,k⟩:=h;unfold SW at hm;split at hm
 ·rename_i a b S
  split at hm
  ·rename_i hz
   cases hm;cases ra;cases rb;obtain ⟨t,rfl⟩:=rx;obtain ⟨t',rfl⟩:=ry;exact SB.add (λt2 k2=>⟨.str _,H,I.tok _,⟨_,rfl⟩,k ρ H _ .refl hs (.str _)⟩) hz
  ·cases hm
 ·cases hm
def inS (neg:Bool):D->D->Sto->Res D
 | .str c,.str x,S=>.ok (.bl (if neg then !Txt.contains x c else Hl x c)) S
 | _,_,_=>.bad
theorem bu:OpR X (A8 .In) (rD X.K (inS false)):=by
 intro pins s σ H x y v u Q I rx ry h;obtain ⟨ρ,S,a,b,d,S',hs,ra,rb,hm,k⟩:=h;unfold inS at hm;split at hm
 ·cases hm
  cases ra;cases rb;obtain ⟨t,rfl⟩:=rx;obtain ⟨t',rfl⟩:=ry;exact SB.contains ⟨.bl _,H,I,rfl,k ρ H _ .refl hs (.bl _)⟩
 ·cases hm
def ixS:D->D->Sto->Res D
 | .str x,.int i,S=>if x.length<=sizeLine then (match atI x.cps.toList i with
  | some c=>.ok (.str ⟨#[c]⟩) S
  | none=>.bad) else .bad
 | _,_,_=>.bad
theorem br:IxR X (rD X.K ixS):=cG.imp λx y H Q ⟨ρ,S,a,b,d,S',hs,ra,rb,hm,k⟩=>by
 unfold ixS at hm;split at hm
 ·split at hm
  ·rename_i hz
   split at hm
   ·rename_i c hc
    cases hm;cases ra;cases rb;exact ⟨_,_,c,rfl,rfl,hz,hc,k ρ H _ .refl hs (.str _)⟩
   ·cases hm
  ·cases hm
 ·cases hm
def Qb (m:ME):ME:=λe S=>(m e S).bind λd S1=>match d with
 | .str x=>if x.length<=sizeLine then .ok (.int x.length) S1 else .bad
 | _=>.bad
theorem Tl (hg:Gl X "len") (hm:X.mg "len" = none) (h:GE X E e m) (he:AN [e] X.env=(false,Ba e X.env) :: AN [] X.env:=by rfl):GE X E (.Call (.Name "len" p) [e] [] pos) (Qb m):=
 (Gg Ph hg hm YG (CV h D4 he) (by decide) (by decide) he rfl).imp λσ H Q ⟨ρ,l,S,hl,hs,hm⟩=>by
 refine ⟨ρ,l,S,hl,hs,hm.seq λd S1 hm2 ρ1 H1 x l1 s1 r1=>?_⟩
 cases d <;> first | exact hm2.elim | skip
 rename_i z;cases r1;dsimp only at hm2;split at hm2
 ·rename_i hz
  exact ⟨z,rfl,hz,hm2 ρ1 H1 _ l1 s1 (.int _)⟩
 ·exact hm2.elim
theorem VN:Ej X (.type "str") (λxs H Q=>∃i:Int,xs=[.int i]/\(if i < 0 then 0 - i else i) < 1000000/\Q (.str (toString i)) H):=by
 intro pins s σ H xs us Q I r h;obtain ⟨i,rfl,hi,q⟩:=h;obtain ⟨u,rfl,t,rfl⟩:=vals1 r
 exact str_of_int_fit (N:=1000000) hi (by decide) λ_=>⟨.str _,H,I.tok _,⟨_,rfl⟩,q⟩
def OE (m:ME):ME:=λe S=>(m e S).bind λd S1=>match d with
 | .int i=>if (if i < 0 then 0 - i else i) < 1000000 then .ok (.str (toString i)) S1 else .bad
 | _=>.bad
theorem PU (hg:Gl X "str") (hm:X.mg "str" = none) (h:GE X E e m) (he:AN [e] X.env=(false,Ba e X.env) :: AN [] X.env:=by rfl):GE X E (.Call (.Name "str" p) [e] [] pos) (OE m):=
 (KS VN hg hm Lp (CV h D4 he) (by decide) (by decide) he rfl).imp λσ H Q ⟨ρ,l,S,hl,hs,hm⟩=>by
 refine ⟨ρ,l,S,hl,hs,hm.seq λd S1 hm2 ρ1 H1 x l1 s1 r1=>?_⟩
 cases d <;> first | exact hm2.elim | skip
 rename_i i;cases r1;dsimp only at hm2
 by_cases hz:(if i < 0 then 0 - i else i) < 1000000
 ·rw [qX hz] at hm2
  exact ⟨i,rfl,hz,hm2 ρ1 H1 _ l1 s1 (.str _)⟩
 ·rw [qY hz] at hm2
  exact hm2.elim
theorem VW:Ej X (.type "int") (λxs H Q=>∃x n,xs=[.str x]/\Ib x=some n/\x.length<=640/\Q (.int n) H):=by
 intro pins s σ H xs us Q I r h;obtain ⟨x,n,rfl,hn,hl,q⟩:=h;obtain ⟨u,rfl,t,rfl⟩:=vals1 r;exact PySem.W.KIN.call_text hn hl ⟨.int n,H,I.tok _,⟨_,rfl⟩,q⟩
def Ta (m:ME):ME:=λe S=>(m e S).bind λd S1=>match d with
 | .str x=>if x.length<=640 then (match Ib x with
  | some n=>.ok (.int n) S1
  | none=>.bad) else .bad
 | _=>.bad
theorem ZZ (hg:Gl X "int") (hm:X.mg "int" = none) (h:GE X E e m) (he:AN [e] X.env=(false,Ba e X.env) :: AN [] X.env:=by rfl):GE X E (.Call (.Name "int" p) [e] [] pos) (Ta m):=
 (KS VW hg hm fO (CV h D4 he) (by decide) (by decide) he rfl).imp λσ H Q ⟨ρ,l,S,hl,hs,hm⟩=>by
 refine ⟨ρ,l,S,hl,hs,hm.seq λd S1 hm2 ρ1 H1 x l1 s1 r1=>?_⟩
 cases d <;> first | exact hm2.elim | skip
 rename_i z;cases r1;dsimp only at hm2;split at hm2
 ·rename_i hz
  cases hn:Ib z with
  | none=>rw [hn] at hm2;exact hm2.elim
  | some n=>
   rw [hn] at hm2;exact ⟨z,n,rfl,hn,hz,hm2 ρ1 H1 _ l1 s1 (.int _)⟩
 ·exact hm2.elim
def Km:List D->Option (List Str)
 | []=>some []
 | .str x :: r=>(Km r).map (x :: ·)
 | _=>none
theorem QE:∀ {ds:List D} {ys:List Str},Km ds=some ys->ds=ys.map D.str
 | [],ys,h=>by cases h;rfl
 | d :: r,ys,h=>by
  cases d <;> first | (cases h;done) | skip
  rename_i x;unfold Km at h
  cases hq:Km r with
  | none=>rw [hq] at h;cases h
  | some zs=>
   rw [hq] at h;cases h;rw [Ai,QE hq]
theorem QD:∀ys:List Str,Km (ys.map D.str)=some ys
 | []=>rfl
 | y :: ys=>by
  show (Km (ys.map D.str)).map (y :: ·)=_;rw [QD ys];rfl
theorem QQ {K:AA} {ρ:List AE} {H:Hp}:∀ {ys:List Str} {vs:List V},Aj K ρ H (ys.map D.str) vs->vs=ys.map V.str
 | [],_,.nil=>rfl
 | y :: ys,_,.cons r t=>by
  cases r;rw [Ai,QQ t]
theorem TR {K:AA} {ρ:List AE} {H:Hp}:∀(ys:List Str),Aj K ρ H (ys.map D.str) (ys.map V.str)
 | []=>.nil
 | y :: ys=>.cons (.str y) (TR ys)
theorem Nt:∀ {ys:List Str} {us:List AB},BK (ys.map V.str) us->∃l:List (Str×Tok),us=Vb l/\l.map (·.1)=ys
 | [],_,.nil=>⟨[],rfl,rfl⟩
 | y :: ys,_,.cons r t=>by
  obtain ⟨l,rfl,e⟩:=Nt t;obtain ⟨tk,rfl⟩:=r;exact ⟨(y,tk) :: l,rfl,by rw [Ai,e]⟩
theorem Nz:∀(l:List (Str×Tok)),BK ((l.map (·.1)).map V.str) (Vb l)
 | []=>.nil
 | x :: l=>.cons ⟨x.2,rfl⟩ (Nz l)
theorem ZL:MtM X "str.join" (λx vs H Q=>∃sep p ys,x=.str sep/\vs=[.ref p]/\H p=some (.lst (ys.map V.str))/\JoinOk sep ys=true/\Q (.str (UI sep ys)) H):=by
 intro pins s σ H x vs v us Q I rx rv h;obtain ⟨sep,p,ys,rfl,rfl,hH,hok,q⟩:=h;obtain ⟨t,rfl⟩:=rx;obtain ⟨u,rfl,ru⟩:=vals1 rv;cases ru;obtain ⟨z,its,n,r,_,e⟩:=I.lstM hH;obtain ⟨l,rfl,el⟩:=Nt r
 exact SC.join ⟨_,e,rfl,n,rfl⟩ el hok λt' k=>⟨.str _,H,I.tok _,⟨_,rfl⟩,q⟩
def Mh (mo mi:ME):ME:=λe S=>(mo e S).bind λd S1=>match d with
 | .str sep=>(mi e S1).bind λx S2=>match atL x S2 with
  | some (_,ds)=>match Km ds with
   | some ys=>if JoinOk sep ys=true then .ok (.str (UI sep ys)) S2 else .bad
   | none=>.bad
  | none=>.bad
 | _=>.bad
theorem Ql (ho:GE X E o mo) (he:GE X E e mi) (hbase:DR o "join" X.env (Ba o X.env)=Ba o X.env:=by rfl)
  (hfew:((Bi cpos (AN [e] X.env)).all (λx=>!x.1)&&(Eo cpos (Ch [] X.env)).all (λx=>x.1.isSome)
    &&decide ([e].length+([]:List FU).length+(if ([]:List FU).isEmpty then 0 else 1) < 30))=true:=by rfl)
  (hline:(apos.endLine==cpos.line)=true:=by rfl) (hs:AN [e] X.env=(false,Ba e X.env) :: AN [] X.env:=by rfl) (hplain:(Bi cpos (AN [] X.env)).any (·.1)=false:=by rfl) :
  GE X E (.Call (.Attribute o "join" apos) [e] [] cpos) (Mh mo mi):=(TQ Oe PySem.F.slot_str_join PySem.F.type_str_join ZL ho (CV he D4 hs) hbase hfew hline hs hplain).imp λσ H Q ⟨ρ,l,S,hl,hs,hm⟩=>by
 refine ⟨ρ,l,S,hl,hs,hm.seq λd S1 hm ρ1 H1 v l1 s1 r1=>?_⟩
 cases d <;> first | exact hm.elim | skip
 rename_i sep;cases r1;refine ⟨rfl,ρ1,l,S1,hl.mono l1,s1,(hm.later l1).seq λx S2 hm2 ρ2 H2 u l2 s2 r2=>?_⟩
 cases hq:atL x S2 with
 | none=>rw [hq] at hm2;exact hm2.elim
 | some z=>
  obtain ⟨n,ds⟩:=z;rw [hq] at hm2;dsimp only at hm2
  cases hy:Km ds with
  | none=>rw [hy] at hm2;exact hm2.elim
  | some ys=>
   rw [hy] at hm2;dsimp only at hm2;split at hm2
   ·rename_i hok
    obtain ⟨e',h4,a,vs,ea,hn2,e2,rr⟩:=Pj s2 r2 hq;subst ea;rw [QE hy] at rr;rw [QQ rr] at e2;exact ⟨sep,a,ys,rfl,rfl,e2,hok,hm2 ρ2 H2 _ (l1.trans l2) s2 (.str _)⟩
   ·exact hm2.elim
theorem UT {prog:Aa} {w:As} {A:Ak} {E:AB->AD->Prop} {s:AD} {Q:AB->AD->Prop} {x y:Str} {t u:Tok} (hy:(y.length==0)=false)
  (hq:∀(l:List (Str×Tok)) (k:Nat),l.map (·.1)=Dc x y->Q (.ref s.heap.objs.size) { s with heap:=s.heap.push { cls:=.type "list",data:=.seq (Vb l).toArray },toks:=k })
  (hsz:x.length<=sizeLine) (hsz2:(FC x (Db x y 0 x.length (x.length+1)) y.length).length<=sizeLine) :
  Ab (AR prog w) A (call (.builtin "str.split") [.str x t,.str y u]) Q E s:=by
 cases h1:(decide (x.length < y.length)||decide (Nn x < Nn y))
 ·cases hf:(Db x y 0 x.length (x.length+1)).isEmpty
  ·refine Lj NN (Li _ _ _) Lu (LA _ _) (meets_str_split_sep x y t u h1 hy hf hsz hsz2) ?_
   show wants Q E _ { s with toks:=_,heap:=s.heap.push { cls:=.type "list",data:=.seq (strsFrom s.toks (FC x (Db x y 0 x.length (x.length+1)) y.length)).toArray } };rw [strsFrom_eq];exact hq (numbered s.toks _) _ ((numbered_texts _ _).trans ((qY (ne_true_of_eq_false h1)).trans (qY (ne_true_of_eq_false hf))).symm)
  ·exact Lj NN (Li _ _ _) Lu (LA _ _) (meets_str_split_not_found x y t u h1 hy hf)
    (hq [(x,t)] s.toks ((qY (ne_true_of_eq_false h1)).trans (qX hf)).symm)
 ·exact Lj NN (Li _ _ _) Lu (LA _ _) (meets_str_split_cannot_occur x y t u h1)
   (hq [(x,t)] s.toks (qX h1).symm)
def Jc (x y:Str):Bool:=!(y.length==0)&&decide (x.length<=1000000)&&decide ((FC x (Db x y 0 x.length (x.length+1)) y.length).length<=1000000)&&decide ((Dc x y).length<=1000000)
theorem W1:MtM X "str.split" (λx vs H Q=>∃z y,x=.str z/\vs=[.str y]/\Jc z y=true/\∀l,H l=none->Q (.ref l) (upd H l (.lst ((Dc z y).map V.str)))):=by
 intro pins s σ H x vs v us Q I rx rv h;obtain ⟨z,y,rfl,rfl,hok,q⟩:=h;obtain ⟨t,rfl⟩:=rx;obtain ⟨u,rfl,tu,rfl⟩:=vals1 rv;unfold Jc at hok;simp only [Br,EJ,decide_eq_true_eq] at hok;obtain ⟨⟨⟨h1,h2⟩,h3⟩,h4⟩:=hok;refine UT h1 (λl k el=>?_) (Aq h2 (by decide)) (Aq h3 (by decide));refine ⟨.ref s.heap.objs.size,_,I.laid (t':=k) (o:=.lst ((Dc z y).map V.str)) (λb ob q=>AF _ q) (AS _) ?_,rfl,q _ (I.hok.fresh (AS _))⟩;refine ⟨by rw [AK];exact Aq h4 (by decide),Vb l,0,?_,AU _ rfl⟩;rw [<-el];exact Nz l
def Jl (mo mi:ME):ME:=λe S=>(mo e S).bind λd S1=>match d with
 | .str z=>(mi e S1).bind λx S2=>match x with
  | .str y=>if Jc z y=true then .ok (.ref S2.length) (S2++[.lst ((Dc z y).map D.str)]) else .bad
  | _=>.bad
 | _=>.bad
theorem OM (ho:GE X E o mo) (he:GE X E e mi) (hbase:DR o "split" X.env (Ba o X.env)=Ba o X.env:=by rfl)
  (hfew:((Bi cpos (AN [e] X.env)).all (λx=>!x.1)&&(Eo cpos (Ch [] X.env)).all (λx=>x.1.isSome)
    &&decide ([e].length+([]:List FU).length+(if ([]:List FU).isEmpty then 0 else 1) < 30))=true:=by rfl)
  (hline:(apos.endLine==cpos.line)=true:=by rfl) (hs:AN [e] X.env=(false,Ba e X.env) :: AN [] X.env:=by rfl) (hplain:(Bi cpos (AN [] X.env)).any (·.1)=false:=by rfl) :
  GE X E (.Call (.Attribute o "split" apos) [e] [] cpos) (Jl mo mi):=(TQ Oe PySem.F.slot_str_split PySem.F.type_str_split W1 ho (CV he D4 hs) hbase hfew hline hs hplain).imp λσ H Q ⟨ρ,l,S,hl,hs,hm⟩=>by
 refine ⟨ρ,l,S,hl,hs,hm.seq λd S1 hm ρ1 H1 v l1 s1 r1=>?_⟩
 cases d <;> first | exact hm.elim | skip
 rename_i z;cases r1;refine ⟨rfl,ρ1,l,S1,hl.mono l1,s1,(hm.later l1).seq λx S2 hm2 ρ2 H2 u l2 s2 r2=>?_⟩
 cases x <;> first | exact hm2.elim | skip
 rename_i y;cases r2;dsimp only at hm2;split at hm2
 ·rename_i hok
  refine ⟨z,y,rfl,rfl,hok,λq hq=>?_⟩;have le:Le X.K ρ2 H2 (ρ2++[q]) (upd H2 q (.lst ((Dc z y).map V.str))):=Le.alloc hq;obtain ⟨s4,l4,at4⟩:=s2.alloc (ho:=.lst ((Dc z y).map V.str)) (o:=.lst ((Dc z y).map D.str)) hq ⟨_,BU,TR _⟩;exact hm2 _ _ _ ((l1.trans l2).trans l4) s4 (.ref at4)
 ·exact hm2.elim
end
def Its (x:Str):It:=⟨λi _=>i < x.cps.size,λi H v H'=>H'=H/\∃c,x.cps[i]?=some c/\v=.str ⟨#[c]⟩,λi _=>x.cps.size<=i⟩
theorem WE {P:Aa} {w:As} {K:AA} {tg:Expr} (it:AE) (x:Str) (t:Tok):Q0 P w K tg (Its x) [it] it (λi h=>h.IsStrIter it "str_ascii_iterator" x t i) where
 mem:=by simp
 obj:=λi h st b hb=>by
  have e:b=it:=by simpa using hb
  subst e;obtain ⟨o,ho,_,hd⟩:=st;exact ⟨o,ho,λv z=>by rw [hd] at z;cases z⟩
 keep:=λi h h' st k=>by
  obtain ⟨o,ho,r⟩:=st;exact ⟨o,k it (by simp) _ ho,r⟩
 item:=by
  intro X hP hw hK hc i pins s σ H E I hf st hg;subst hP hw hK;obtain ⟨f0,f1,f2,f3,f4,f5⟩:=hf it (by simp);have hx:x.cps[i]?=some (x.cps[i]'hg):=Fv hg
  refine wpAny_pyNext_ascii_item st hx λh' st' sb=>?_
  have I1:Inv X pins σ H { s with heap:=h',toks:=s.toks+1 }:=I.turned (λb o hb e=>(sb.2 b hb).trans e) f0 f1 f3 f4 f5;obtain ⟨o,ho,hcl,hd⟩:=id st';exact ⟨_,rfl,Th (s:={ s with heap:=h',toks:=s.toks+1 }) (n:="str_ascii_iterator") ho hcl hd (by decide) ⟨.str ⟨#[x.cps[i]'hg]⟩,H,I1,⟨_,rfl⟩,⟨rfl,_,hx,rfl⟩,st',λb hb=>(hf b hb).1⟩⟩
 done:=by
  intro X hP hw hK hc i pins s σ H E I hf st hg;subst hP hw hK;obtain ⟨f0,f1,f2,f3,f4,f5⟩:=hf it (by simp)
  exact wpAny_pyNext_ascii_end (I.ok.hd hc) st (Py hg) λh' eb=>⟨rfl,I.turned (t':=s.toks) (λb o hb e=>eb b o hb e) f0 f1 f3 f4 f5⟩
 self:=λ_ _ _ _ _ st h=>wpAny_pyIter_striter_ascii st h
section
variable {X:Cx} {E:EW} {tg e:Expr} {m:ME} {te:TE}
def eh (te:TE):TI:=λσ H R=>te σ H λx H1=>∃z,x=.str z/\z.cps.all (· < 128)=true/\R (Its z) H1
theorem bV (he:PE X e te):PI X tg e (eh te):=by
 intro pins s σ H R I h
 refine thn (he pins s σ H _ I h) λv s1 ⟨x,H1,I1,r1,z,e,ha,q⟩=>?_
 subst e;obtain ⟨t,rfl⟩:=r1;refine wpAny_pyIter_ascii ha ?_;refine ⟨s1.heap.objs.size,[s1.heap.objs.size],_,_,H1,rfl,I1.kept (t':=s1.toks) λb o e=>AF _ e,WE _ z t,⟨_,AU _ rfl,rfl,rfl⟩,λb hb=>?_,q⟩
 have e:b=s1.heap.objs.size:=by simpa using hb
 subst e;exact I1.fpOk (AS _) (I1.hok.fresh (AS _))
def KO (z:Str):List D:=z.cps.toList.map λc=>D.str ⟨#[c]⟩
def Td (m:ME):MI:=λe S=>(m e S).bind λd S1=>match d with
 | .str z=>if z.cps.all (· < 128)=true then .ok (HV (KO z)) S1 else .bad
 | _=>.bad
theorem cN (h:GE X E e m):GI X E tg e (Td m):=(bV h).imp λσ H R ⟨ρ,l,S,hl,hs,hm⟩=>by
 refine ⟨ρ,l,S,hl,hs,hm.seq λd S1 hm ρ1 H1 x l1 s1 r1=>?_⟩
 cases d <;> first | exact hm.elim | skip
 rename_i z;cases r1;dsimp only at hm;split at hm
 ·rename_i ha
  refine ⟨z,rfl,ha,hm ρ1 H1 _ l1 s1 ?_⟩;intro ρ2 H2 S2 ds i l2 s2 hv;cases hv
  have e:(KO z)[i]?=(z.cps[i]?).map λc=>D.str ⟨#[c]⟩:=by
   unfold KO;rw [Ao,RC]
  rw [e];refine ⟨λhn=>?_,λd hd=>?_⟩
  ·show z.cps.size<=i
   by_cases hk:i < z.cps.size
   ·rw [Fv hk] at hn;cases hn
   ·omega
  ·cases hc:z.cps[i]? with
   | none=>rw [hc] at hd;cases hd
   | some c=>
    rw [hc] at hd;cases hd;refine ⟨(CI.mp hc).1,λy H' ⟨e1,c',e2,e3⟩=>?_⟩;subst e1;rw [hc] at e2;cases e2;subst e3;exact ⟨ρ2,.refl,s2,.str _⟩
 ·exact hm.elim
end
end L2
namespace PySem
open Sem (wp)
open AutoSeq1 (wpAny_loadPart')
section
variable {prog:Aa} {w:As} {A:Ak} {E:AB->AD->Prop} {s:AD}
theorem Hd (l:AE) (items:Array AB) (n:Nat) (dct:Option AE) (sl:Array (Option AB)) (t:Tok) :
  Meets (Builtin.«enumerate.__new__» ⟨[.type "enumerate",.ref l],[("start",.int 2 t)]⟩) (λ_ R s=>s.heap.get? l=some { cls:=.type "list",dict:=dct,data:=.seq items n,slots:=sl } /\
   R (.ok (.ret (.ref (s.heap.push { cls:=.type "list_iterator",data:=.fields #[.ref l,.int 0 0] }).objs.size)))
    { s with heap:=(s.heap.push { cls:=.type "list_iterator",data:=.fields #[.ref l,.int 0 0] }).push { cls:=.type "enumerate",data:=.fields #[.none,.bool false,.ref s.heap.objs.size,DB 2,.none,.none] } }):=
 .of_wp λprog w A R s h=>by
  obtain ⟨hp,g,d,tk,os⟩:=s;obtain ⟨hl,h⟩:=h;have hsub:=sub_enumerate;have hL:BG.IsList (AD.heap ⟨hp,g,d,tk,os⟩) l items:=⟨_,hl,rfl,n,rfl⟩
  wp_walk using EG hl
  refine wpAny_stack_any λst=>AH ?_
  split
  ·rename_i c _ _ _ _ _
   cases (c==Dz "enumerate")
   ·wp_walk using EG hl,Cg hL
    exact ⟨_,rfl,h⟩
   ·wp_walk using EG hl,Cg hL
    exact ⟨_,rfl,h⟩
  ·wp_walk using EG hl,Cg hL
   exact ⟨_,rfl,h⟩
end
end PySem
namespace PySem
section
variable {prog:Aa} {w:As} {A:Ak} {E:AB->AD->Prop} {s:AD}
theorem IM {l:AE} {items:Array AB} {t:Tok} {Q:AB->AD->Prop} (hL:s.heap.IsList l items)
  (h:∀h',Vw h' (s.heap.objs.size+1) s.heap.objs.size 2 .none->h'.IsListIter s.heap.objs.size l 0->h'.objs.size=s.heap.objs.size+2 ->
   (∀b o,s.heap.get? b=some o->h'.get? b=some o)->Q (.ref (s.heap.objs.size+1)) { s with heap:=h' }) :
  Ab (AR prog w) A (call (.type "enumerate") [.ref l] [("start",.int 2 t)]) Q E s:=by
 obtain ⟨⟨c,dct,dt,sl⟩,hl,hc,n,hd⟩:=hL
 replace hc:c=.type "list":=hc
 replace hd:dt=.seq items n:=hd
 subst hc hd
 refine SO F.called_enumerate (by decide) rfl (by kernel_rfl) (by kernel_rfl) (λobj=>by
  unfold argsOk;rw [signature?_of (id:="object.__init__") (n:=['_','_','t','i','n','i','_','_']) (o:=['t','c','e','j','b','o']) (by kernel_rfl) F.owner_object];kernel_rfl) F.entry_enumerate_new
  (Hd l items n dct sl t) ⟨hl,?_⟩
 have hz:(s.heap.push { cls:=.type "list_iterator",data:=.fields #[.ref l,.int 0 0] }).objs.size=s.heap.objs.size+1:=EI ..;show _/\_;rw [hz]
 have he:Vw ((s.heap.push { cls:=.type "list_iterator",data:=.fields #[.ref l,.int 0 0] }).push
   { cls:=.type "enumerate",data:=.fields #[.none,.bool false,.ref s.heap.objs.size,DB 2,.none,.none] }) (s.heap.objs.size+1) s.heap.objs.size 2 .none:=by
  have:=AU (s.heap.push { cls:=.type "list_iterator",data:=.fields #[.ref l,.int 0 0] })
   (o:={ cls:=.type "enumerate",data:=.fields #[.none,.bool false,.ref s.heap.objs.size,DB 2,.none,.none] }) rfl
  rw [hz] at this;exact this
 refine ⟨⟨_,he,rfl⟩,h _ he ⟨_,AF _ (AU _ rfl),rfl,rfl⟩ (by rw [EI,hz]) λb o x=>AF _ (AF _ x)⟩
theorem Me {e it l:AE} {i:Nat} {j:Int} {items:Array AB} {old:AB} {Q:Option AB->AD->Prop} (hh:A.handled=none)
  (he:Vw s.heap e it j old) (hit:s.heap.IsListIter it l i) (hl:s.heap.IsList l items) (hx:items[i]?=none)
  (hQ:∀h',dH it s.heap h'->Q none { s with heap:=h' }):Ab (AR prog w) A (OY (.ref e)) Q E s:=by
 have hT:s.TypeIs (.ref e) "enumerate":=⟨_,he,rfl⟩;unfold OY
 refine AC (FT (EY (name:=Fa "__next__") hT Vn
  (Dw Vn hT F.entry_enumerate_next ?_ (F.args_enumerate_next_1 _))))
 show Ab _ _ (field (.ref e) 2 >>= _) _ _ _;refine AC (Di he rfl (x:=.ref it) rfl (AC (X4 hh hit hl hx λh' x he' hx'=>?_)));obtain ⟨o,ho,hc⟩:=hx';exact AC (c8 (T:="StopIteration") (b:=true) ⟨o,ho,hc⟩ isSubtype_stop (AH (hQ _ he')))
theorem Q2 (hh:A.handled=none) (it l:AE) (hne:l≠it) (items:Array AB) :
  Draws prog w A it [it,l] (items.size+2) (λi v=>items[i - 2]?=some v) (λi h=>2<=i/\h.IsListIter it l (i - 2)/\h.IsList l items) where
 live:=λ_ _ st=>let ⟨o,ho,_⟩:=st.2.1;⟨o,ho⟩
 frame:=λ_ _ _ st hk=>⟨st.1,st.2.1.at λo e=>hk it (by simp) o e,let ⟨o,ho,r⟩:=st.2.2;⟨o,hk l (by simp) o ho,r⟩⟩
 item:=λi s Q E hi st hQ=>by
  obtain ⟨h1,st⟩:=st
  have hlt:i - 2 < items.size:=by omega
  refine wpAny_nextOf_list_item st.1 st.2 (x:=items[i - 2]) (by simp [hlt]) λh' hit' hs'=>?_
  refine hQ _ h' s.toks (by simp [hlt]) ⟨by lia,?_,st.2.extBut hs'.extBut hne⟩ hs';rw [show i+1 - 2=i - 2+1 by lia];exact hit'
 done:=λs Q E st hE=>X4 hh st.2.1 st.2.2 (by simp) hE
end
end PySem
namespace L2
open PySem PySem.Spec PyProof.Rows
def cm (sq:Hp->List V->Prop):It:=
 ⟨λi H=>∃xs x,sq H xs/\xs[i]?=some x,λi H y H'=>∃p x,H p=none/\y=.ref p/\H'=upd H p (.tup [.int ((i+2:Nat):Int),x])/\∀xs,sq H xs->xs[i]?=some x,λi H=>∃xs,sq H xs/\xs.length<=i⟩
section
variable {P:Aa} {w:As} {K:AA} {elts:List Expr} {x1:Nat} {pos:Pos}
theorem P9 (a e it:AE) (hne:e≠it) (hae:a≠it) (hef:e≠a):Q0 P w K (.Tuple elts x1 pos) (cm λH xs=>SqL K H a xs) [e,it] e (λi h=>(∃old,Vw h e it ((i+2:Nat):Int) old)/\h.IsListIter it a i) where
 mem:=by simp
 obj:=λi h st b hb=>by
  have hb':b=e∨b=it:=by simpa using hb
  rcases hb' with z | z
  ·subst z
   obtain ⟨⟨old,he⟩,_⟩:=st
   exact ⟨_,he,λv z=>by
    have z':dI _=Data.cell v:=z
    cases z'⟩
  ·subst z
   obtain ⟨_,o,e,c,d⟩:=st;exact ⟨o,e,λv z=>by rw [d] at z;cases z⟩
 keep:=λi h h' st k=>⟨st.1.imp λold he=>k e (by simp) _ he,st.2.at λo q=>k it (by simp) o q⟩
 item:=by
  intro X hP hw hK hc i pins s σ H E I hf st hg;subst hP hw hK;obtain ⟨xs,x,hq,hx⟩:=hg;obtain ⟨its,rv,p,hz⟩:=I.list hq;have p':s.heap.IsList a its.toArray:=p.isList;obtain ⟨u,hu,ru⟩:=rv.get hx
  have hlt:i < its.toArray.size:=by
   have:=(AJ.mp hu).1;simpa using this
  obtain ⟨⟨old,he⟩,hit⟩:=st
  have li:it < s.heap.objs.size:=by obtain ⟨o,q,_⟩:=hit;exact AT q
  refine wpAny_pyNext_enum_itemD (Q2 (A:=X.A.in1) (I.ok.hd hc) it a hae its.toArray) (i:=i+2) he ⟨by lia,hit,p'⟩ (by lia) hne (by simp [hne,hef]) λu' h' tk hu' ho hst' hT hsz hk=>?_
  have:u'=u:=by
   have hu2:its[i]?=some u':=by simpa using hu'
   rw [hu] at hu2;cases hu2;rfl
  subst this
  have t:=U9 (i:=i+2) (E:=E) (elts:=elts) (x1:=x1) (pos:=pos) (sq:=λH xs=>∃y z ys,xs=y :: z :: ys/\SqL X.K H a ys) (tn:=λj h=>(∃old,Vw h e it (j:Int) old)/\h.IsListIter it a (j - 2)) I hne hf (AT he) li ru (λys hy=>by
   obtain ⟨y,z,ys',rfl,hy⟩:=hy;rw [HS,HS,I.list_inj hy hq]
   exact hx) ho hT hk λh2 hs2 he2=>⟨he2,hst'.2.1.at λo q=>(hs2.2 it (Bp hne)).trans q⟩
  refine ⟨_,rfl,Cm t (λ_ s2 h2=>?_) λ_ _ z=>z⟩;obtain ⟨y,H',q1,q2,⟨p,x,e1,e2,e3,e4⟩,q4,q5⟩:=h2;exact ⟨y,H',q1,q2,⟨p,x,e1,e2,e3,λzs hz=>by simpa using e4 (x :: x :: zs) ⟨x,x,zs,rfl,hz⟩⟩,q4,q5⟩
 done:=by
  intro X hP hw hK hc i pins s σ H E I hf st hg;subst hP hw hK;obtain ⟨xs,hq,hx⟩:=hg;obtain ⟨its,rv,p,hz⟩:=I.list hq;obtain ⟨⟨old,he⟩,hit⟩:=st;obtain ⟨f0,f1,f2,f3,f4,f5⟩:=hf it (by simp);have hl:=rv.length
  exact Me (I.ok.hd hc) he hit p.isList (by simp;lia) λh' eb=>⟨rfl,I.turned (t':=s.toks) (λb o hb e=>eb b o hb e) f0 f1 f3 f4 f5⟩
 self:=λ_ _ _ _ _ st h=>by
  obtain ⟨⟨old,he⟩,_⟩:=st;exact cq he h
end
section
variable {X:Cx} {E:EW} {e:Expr} {elts:List Expr} {x1:Nat} {p pos ptg kp vp:Pos} {j1:Nat} {m:ME} {ta:TA}
def cI (K:AA) (ta:TA):TI:=λσ H R=>ta σ H λvs H1=>∃a,vs=[.ref a]/\(∃xs,SqL K H1 a xs)/\R (cm λH xs=>SqL K H a xs) H1
theorem Wn (hg:Gl X "enumerate") (hm:X.mg "enumerate" = none) (ha:PA X [e] ta) (hs:AN [e] X.env=[(false,Ba e X.env)]:=by rfl) :
  PI X (.Tuple elts x1 ptg) (.Call (.Name "enumerate" p) [e] [⟨some "start",.Constant (.int 2) j1 vp,kp⟩] pos) (cI X.K ta):=by
 intro pins s σ H R I h;refine EL (Mo I hg hm boot_enumerate ?_ (by decide) (by decide));refine LN (thn (ha pos pins s σ H _ I h) λus s1 ⟨vs,H1,I1,r1,q1⟩=>?_) (by rw [hs];rfl) (by rw [hs];rfl) rfl rfl;obtain ⟨a,rfl,⟨xs,sq⟩,q⟩:=q1;obtain ⟨u,rfl,ru⟩:=vals1 r1;cases ru;refine kws_cons ?_
 refine thn (Wq (X:=X) (i:=2) (j:=j1) (pos:=vp) pins s1 σ H1 (λx H2=>x=.int 2/\H2=H1) I1 ⟨rfl,rfl⟩) λv s2 ⟨x,H2,I2,r2,e1,e2⟩=>?_
 subst e1 e2;obtain ⟨t,rfl⟩:=r2;refine kws_nil ?_;show Ab _ _ (call (.type "enumerate") [.ref a] [("start",.int 2 t)]) _ _ _;obtain ⟨its,rv,pl,hz⟩:=I2.list sq;have pl':s2.heap.IsList a its.toArray:=pl.isList
 have la:a < s2.heap.objs.size:=by obtain ⟨o,q,_⟩:=pl';exact AT q
 refine IM pl' λh' he hit hsz hk=>cq he ?_
 refine ⟨_,[s2.heap.objs.size+1,s2.heap.objs.size],_,_,_,rfl,I2.kept (t':=s2.toks) hk,P9 a _ _ (Nat.succ_ne_self _) (Ag la) (K9 (Gr la)),⟨⟨_,he⟩,hit⟩,λb hb=>?_,q⟩
 have hb':b=s2.heap.objs.size+1∨b=s2.heap.objs.size:=by simpa using hb
 rcases hb' with z | z
 ·rw [z];exact I2.fpOk (ND _) (I2.hok.fresh (ND _))
 ·rw [z];exact I2.fpOk (AS _) (I2.hok.fresh (AS _))
def IY (ds:List D):List D:=ds.zipIdx.map λx=>.tup [.int ((x.2+2:Nat):Int),x.1]
theorem Ku (ds:List D) (i:Nat):(IY ds)[i]?=(ds[i]?).map λd=>.tup [.int ((i+2:Nat):Int),d]:=by
 unfold IY;rw [Ao,Sh]
 cases ds[i]? with
 | none=>rfl
 | some d=>simp
def L6 (v:Gq):Gq:=λS=>(v S).map IY
theorem On {K:AA} {ρ:List AE} {H:Hp} {J:It} {v:Gq} {sq:Hp->List V->Prop} (hJ:Kf K ρ H J v) (h1:∀i H,J.go i H->∃xs x,sq H xs/\xs[i]?=some x) (h2:∀i H,J.stop i H->∃xs,sq H xs/\xs.length<=i)
  (h3:∀i H x,(∀xs,sq H xs->xs[i]?=some x)->J.yld i H x H):Kf K ρ H (cm sq) (L6 v):=by
 intro ρ2 H2 S ds i l s hv;unfold L6 at hv
 cases hd:v S with
 | none=>rw [hd] at hv;cases hv
 | some ds0=>
  rw [hd] at hv;cases hv;obtain ⟨a1,a2⟩:=hJ ρ2 H2 S ds0 i l s hd;refine ⟨λhn=>?_,λd hd'=>?_⟩
  ·rw [Ku] at hn
   refine h2 i H2 (a1 ?_)
   cases hq:ds0[i]? with
   | none=>rfl
   | some d=>rw [hq] at hn;cases hn
  ·rw [Ku] at hd'
   cases hq:ds0[i]? with
   | none=>rw [hq] at hd';cases hd'
   | some d0=>
    rw [hq] at hd';cases hd';obtain ⟨b1,b2⟩:=a2 d0 hq;refine ⟨h1 i H2 b1,λy H' hy=>?_⟩;obtain ⟨p,x,hp,rfl,rfl,hx⟩:=hy;obtain ⟨ρ3,l3,s3,r3⟩:=b2 x H2 (h3 i H2 x hx);obtain ⟨s4,l4⟩:=Fh (ho:=.tup [.int ((i+2:Nat):Int),x]) s3 hp;exact ⟨ρ3,l3.trans l4,s4,.tup BU (.cons (.int _) (.cons (r3.mono l4) .nil))⟩
def Lb (m:ME):MI:=λe S=>(m e S).bind λd S1=>match Fg d S1 with
 | some _=>.ok (L6 (Fg d)) S1
 | none=>.bad
theorem Xa (hg:Gl X "enumerate") (hm:X.mg "enumerate" = none) (h:GE X E e m) (he:AN [e] X.env=[(false,Ba e X.env)]:=by rfl) :
  GI X E (.Tuple elts x1 ptg) (.Call (.Name "enumerate" p) [e] [⟨some "start",.Constant (.int 2) j1 vp,kp⟩] pos) (Lb m):=
 (Wn hg hm (CV h D4 he) he).imp λσ H R ⟨ρ,l,S,hl,hs,hm⟩=>by
 refine ⟨ρ,l,S,hl,hs,hm.seq λd S1 hm ρ1 H1 x l1 s1 r1=>?_⟩
 cases hv:Fg d S1 with
 | none=>rw [hv] at hm;exact hm.elim
 | some ds=>
  rw [hv] at hm
  have:∃a,x=.ref a:=by
   cases r1 <;> first | exact ⟨_,rfl⟩ | (cases hv;done)
  obtain ⟨a,rfl⟩:=this;obtain ⟨xs,sq,_⟩:=L5 s1 r1 hv;exact ⟨a,rfl,⟨xs,sq⟩,hm ρ1 H1 _ l1 s1 (On (L3 r1) (λi H z=>z) (λi H z=>z) λi H x z=>⟨rfl,z⟩)⟩
end
theorem Xc {X:Cx} {E:EW} {x z:Str} {tk:Tok} {pos:Pos} (hg:Gl X x) (hm:X.mg x=some (.str z tk)) (hd:(x==("__debug__" : Str))=false:=by decide):GE X E (.Name x pos) (mC (.str z)):=
 U3 (O4 (v:=.str z) hg hm ⟨tk,rfl⟩ hd) λ_ _=>.str z
end L2
namespace L4
open PySem L2
inductive Cel where
 | no | fz (o:Ob) | ow (i:Nat)
abbrev Fz:=Nat->Cel
inductive Sl where
 | u | v (d:D) | z (o:Ob) | y (o:Ob) | w (i:Nat) (o:Ob) | q (P:(Nat->Option Ob)->D->Prop)
def Sl.ok (S0:Sto) (F:Fz) (S:Sto):Sl->Option D->Prop
 | .u,_=>True
 | .v d,x=>x=some d
 | .z o,x=>∃n,x=some (.ref n)/\F n=.fz o
 | .y o,x=>∃n,x=some (.ref n)/\F n=.fz o/\S0.length<=n
 | .w i o,x=>∃n,x=some (.ref n)/\F n=.ow i/\S[n]?=some o
 | .q P,x=>∃d,x=some d/\∀L:Nat->Option Ob,(∀n o,F n=.fz o->L n=some o)->P L d
structure Vs (S0:Sto) (A:List Sl) (e:Lo) (F:Fz) (S:Sto):Prop where
 kp:Keeps S0 S
 fz:∀n o,F n=.fz o->S[n]?=some o
 ow:∀n i,F n=.ow i->S0.length<=n/\n < S.length
 hi:∀n,S.length<=n->F n=.no
 sl:∀(i:Nat) (a:Sl),A[i]?=some a->∃x,e[i]?=some x/\a.ok S0 F S x
def Fle (F F':Fz):Prop:=∀n o,F n=.fz o->F' n=.fz o
theorem Fle.refl (F:Fz):Fle F F:=λ_ _ h=>h
theorem Fle.trans {F G H:Fz} (a:Fle F G) (b:Fle G H):Fle F H:=λn o h=>b n o (a n o h)
def M2 (F:Fz) (S S':Sto):Fz:=λn=>if n < S.length then F n else match S'[n]? with
 | some o=>.fz o
 | none=>.no
section
variable {S0 S S':Sto} {A B:List Sl} {e:Lo} {F:Fz} {α β γ ρ σ τ:Type}
theorem Go {n:Nat} (h:n < S.length):M2 F S S' n=F n:=qX h
theorem J1 {n:Nat} {o:Ob} (h:S.length<=n) (ho:S'[n]?=some o):M2 F S S' n=.fz o:=by
 unfold M2;rw [qY (Ho.mpr h),ho]
theorem De {n:Nat} {o:Ob} (h:S[n]?=some o):n < S.length:=(AJ.mp h).1
theorem Sl.mono {S0:Sto} {F F':Fz} {S S':Sto} {a:Sl} {x:Option D} (h:a.ok S0 F S x) (h1:∀n o,F n=.fz o->F' n=.fz o) (h2:∀n i o,F n=.ow i->S[n]?=some o->F' n=.ow i/\S'[n]?=some o):a.ok S0 F' S' x:=by
 cases a with
 | u=>trivial
 | v d=>exact h
 | z o=>obtain ⟨n,h3,h4⟩:=h;exact ⟨n,h3,h1 _ _ h4⟩
 | y o=>obtain ⟨n,h3,h4,h5⟩:=h;exact ⟨n,h3,h1 _ _ h4,h5⟩
 | w i o=>obtain ⟨n,h3,h4,h5⟩:=h;exact ⟨n,h3,h2 _ _ _ h4 h5⟩
 | q P=>obtain ⟨d,h3,h4⟩:=h;exact ⟨d,h3,λL hL=>h4 L λn o q=>hL n o (h1 n o q)⟩
theorem Vs.fle (h:Vs S0 A e F S) (S':Sto):Fle F (M2 F S S'):=λn o q=>by rw [Go (De (h.fz n o q))];exact q
theorem Vs.grow (h:Vs S0 A e F S) (k:Keeps S S'):Vs S0 A e (M2 F S S') S':=by
 refine ⟨h.kp.trans k,λn o q=>?_,λn i q=>?_,λn hn=>?_,λi a ha=>?_⟩
 ·unfold M2 at q
  split at q
  ·rename_i hn
   rw [k.2 n hn];exact h.fz n o q
  ·cases hs:S'[n]? with
   | none=>rw [hs] at q;cases q
   | some o'=>rw [hs] at q;cases q;rfl
 ·unfold M2 at q
  split at q
  ·exact ⟨(h.ow n i q).1,AX (h.ow n i q).2 k.1⟩
  ·cases hs:S'[n]? with
   | none=>rw [hs] at q;cases q
   | some o'=>rw [hs] at q;cases q
 ·unfold M2
  rw [qY (Ho.mpr (Aq k.1 hn)),CJ hn]
 ·obtain ⟨x,h1,h2⟩:=h.sl i a ha
  exact ⟨x,h1,Sl.mono h2 (h.fle S') λn i o q1 q2=>⟨by rw [Go (De q2)];exact q1,by rw [k.2 n (De q2)];exact q2⟩⟩
theorem Vs.cons (h:Vs S0 A e F S) {a:Sl} {x:Option D} (hx:a.ok S0 F S x):Vs S0 (a :: A) (x :: e) F S:=
 ⟨h.kp,h.fz,h.ow,h.hi,λi b hb=>by
  cases i with
  | zero=>cases hb;exact ⟨x,rfl,hx⟩
  | succ i=>exact h.sl i b hb⟩
theorem Vs.set (h:Vs S0 A e F S) {a:Sl} {x:Option D} (i:Nat) (hx:a.ok S0 F S x):Vs S0 (A.set i a) (e.set i x) F S:=
 ⟨h.kp,h.fz,h.ow,h.hi,λj b hb=>by
  by_cases c:i=j
  ·subst c
   rw [GR] at hb;rw [qX rfl] at hb;split at hb
   ·rename_i hl
    cases hb;obtain ⟨y,hy,_⟩:=h.sl i (A[i]) (BD hl);exact ⟨x,by rw [GR];rw [qX rfl,qX (AJ.mp hy).1],hx⟩
   ·cases hb
  ·rw [BC c] at hb ⊢
   exact h.sl j b hb⟩
inductive Wk:List Sl->List Sl->Prop where
 | nil:Wk [] []
 | same {a:Sl} {A B:List Sl}:Wk A B->Wk (a :: A) (a :: B)
 | drop {a:Sl} {A B:List Sl}:Wk A B->Wk (a :: A) (.u :: B)
 | less {o:Ob} {A B:List Sl}:Wk A B->Wk (.y o :: A) (.z o :: B)
theorem Wk.at:∀ {A B:List Sl},Wk A B->∀(i:Nat) (b:Sl),B[i]?=some b->∃a,A[i]?=some a/\(b=.u∨b=a∨∃o,a=.y o/\b=.z o)
 | _,_,.nil,i,b,h=>by simp at h
 | _,_,.same w,0,b,h=>by cases h;exact ⟨_,rfl,.inr (.inl rfl)⟩
 | _,_,.less w,0,b,h=>by cases h;exact ⟨_,rfl,.inr (.inr ⟨_,rfl,rfl⟩)⟩
 | _,_,.less w,i+1,b,h=>Wk.at w i b h
 | _,_,.drop w,0,b,h=>by cases h;exact ⟨_,rfl,.inl rfl⟩
 | _,_,.same w,i+1,b,h=>Wk.at w i b h
 | _,_,.drop w,i+1,b,h=>Wk.at w i b h
theorem Vs.weak (h:Vs S0 A e F S) (w:Wk A B):Vs S0 B e F S:=⟨h.kp,h.fz,h.ow,h.hi,λi b hb=>by
 obtain ⟨a,h1,h2⟩:=w.at i b hb;obtain ⟨x,h3,h4⟩:=h.sl i a h1
 rcases h2 with rfl | rfl | ⟨o,rfl,rfl⟩
 ·exact ⟨x,h3,trivial⟩
 ·exact ⟨x,h3,h4⟩
 ·obtain ⟨n,h5,h6,_⟩:=h4
  exact ⟨x,h3,n,h5,h6⟩⟩
def Sl.oth (i:Nat):Sl->Bool
 | .w k _=>!(Nat.beq k i)
 | _=>true
theorem bg {i j k:Nat} {o:Ob} (h:((A.set i .u).all (Sl.oth i))=true) (hj:j≠i) (ha:A[j]?=some (.w k o)):k≠i:=by
 have h1:(A.set i .u)[j]?=some (.w k o):=by rw [BC (Bp hj)];exact ha
 have:=DZ.mp h _ (DS h1);intro e;subst e;have h2:(!(Nat.beq k k))=true:=this;rw [Nat.beq_refl] at h2;cases h2
theorem Vs.put (h:Vs S0 A e F S) {i n:Nat} {o o':Ob} (ht:((A.set i .u).all (Sl.oth i))=true) (ha:A[i]?=some (.w i o)) (hx:e[i]?=some (some (.ref n))) (hn:F n=.ow i):Vs S0 (A.set i (.w i o')) e F (S.set n o'):=by
 have hl:=h.ow n i hn;refine ⟨h.kp.set hl.1 o',λk q hq=>?_,λk j q=>by rw [YK];exact h.ow k j q,λk hk=>h.hi k (by rw [YK] at hk;exact hk),λj b hb=>?_⟩
 ·have:n≠k:=λc=>by subst c;rw [hn] at hq;cases hq
  rw [BC this];exact h.fz k q hq
 ·by_cases c:i=j
  ·subst c
   rw [GR] at hb;rw [qX rfl] at hb;split at hb
   ·cases hb
    exact ⟨_,hx,n,rfl,hn,by rw [GR];rw [qX rfl,qX hl.2]⟩
   ·cases hb
  ·rw [BC c] at hb
   obtain ⟨x,h1,h2⟩:=h.sl j b hb;refine ⟨x,h1,?_⟩
   cases b with
   | u=>trivial
   | v d=>exact h2
   | z q=>exact h2
   | y q=>exact h2
   | q P=>exact h2
   | w k q=>
    obtain ⟨m,h3,h4,h5⟩:=h2;refine ⟨m,h3,h4,?_⟩
    have:n≠m:=λz=>by
     subst z;rw [hn] at h4;cases h4;exact bg ht (λz=>c z.symm) hb rfl
    rw [BC this];exact h5
theorem Vs.own (h:Vs S0 A e F S) (k:Keeps S S') {i n:Nat} {o:Ob} (hn:S.length<=n) (ho:S'[n]?=some o):∃F',Vs S0 (A.set i (.w i o)) (e.set i (some (.ref n))) F' S'/\Fle F F':=by
 have g:=h.grow k;have hnl:=De ho
 have fl:Fle F (λj=>if j=n then Cel.ow i else M2 F S S' j):=λj q hq=>by
  have:j≠n:=λc=>by subst c;exact zX (De (h.fz _ _ hq)) (Ho.mpr hn)
  show (if j=n then Cel.ow i else _)=_;rw [qY this];exact h.fle S' _ _ hq
 refine ⟨λj=>if j=n then .ow i else M2 F S S' j,(Vs.set (a:=.w i o) (x:=some (.ref n)) ⟨g.kp,λj q hq=>?_,λj q hq=>?_,λj hj=>?_,λj b hb=>?_⟩ i ⟨n,rfl,qX rfl,ho⟩),fl⟩
 ·split at hq
  ·cases hq
  ·exact g.fz j q hq
 ·split at hq
  ·rename_i c;subst c;exact ⟨Aq h.kp.1 hn,hnl⟩
  ·exact g.ow j q hq
 ·have:j≠n:=λc=>by subst c;exact zX hnl (Ho.mpr hj)
  show (if j=n then Cel.ow i else _)=_;rw [qY this];exact g.hi j hj
 ·obtain ⟨x,h1,h2⟩:=h.sl j b hb
  refine ⟨x,h1,Sl.mono h2 fl λm j q q1 q2=>?_⟩;have hm:=De q2
  have:m≠n:=λc=>by subst c;exact zX hm (Ho.mpr hn)
  refine ⟨?_,by rw [k.2 m hm];exact q2⟩;show (if m=n then Cel.ow i else _)=_;rw [qY this,Go hm];exact q1
abbrev Rk (α:Type):=α->Sto->D->Sto->Prop
def rV (enc:α->D):Rk α:=λv _ d _=>d=enc v
def rO (ob:α->Ob):Rk α:=λv _ d S=>∃n,d=.ref n/\S[n]?=some (ob v)
def rN (ob:α->Ob):Rk α:=λv S0 d S=>∃n,d=.ref n/\S0.length<=n/\S[n]?=some (ob v)
def VE (A:List Sl) (m:ME) (R:Rk α) (p:Option α):Prop:=∀v,p=some v->∀S0 e F S,Vs S0 A e F S->∃d S',m e S=.ok d S'/\Keeps S S'/\R v S d S'
def VB (A:List Sl) (t:MT) (p:Option Bool):Prop:=∀v,p=some v->∀S0 e F S,Vs S0 A e F S->∃S',t e S=.ok v S'/\Keeps S S'
def VL (A:List Sl) (ml:ML) (enc:α->D) (p:Option (List α)):Prop:=∀v,p=some v->∀S0 e F S,Vs S0 A e F S->∃S',ml e S=.ok (v.map enc) S'/\Keeps S S'
def VK (A:List Sl) (mi:MI) (enc:α->D) (p:Option (List α)):Prop:=∀v,p=some v->∀S0 e F S,Vs S0 A e F S->∃w S',mi e S=.ok w S'/\Keeps S S'/\∀S'',Keeps S' S''->w S''=some (v.map enc)
def VI (A:List Sl) (mi:MI) (enc:α->D) (p:Option (List α)):Prop:=∀v,p=some v->∀S0 e F S,Vs S0 A e F S->∃w S',mi e S=.ok w S'/\Keeps S S'/\∀F'' S'',Fle (M2 F S S') F''->(∀n o,F'' n=.fz o->S''[n]?=some o)->w S''=some (v.map enc)
theorem VI.k {mi:MI} {enc:α->D} {p:Option (List α)} (h:VI A mi enc p):VK A mi enc p:=λv hv S0 e F S hs=>by
 obtain ⟨w,S',h1,h2,h3⟩:=h v hv S0 e F S hs;have g:=hs.grow h2;exact ⟨w,S',h1,h2,λS'' k=>h3 _ S'' (g.fle S'') (g.grow k).fz⟩
def eT (enc:α->D) (l:List α):D:=.tup (l.map enc)
def eP (a:α->D) (b:β->D) (x:α×β):D:=.tup [a x.1,b x.2]
def eO (a:α->D):Option α->D
 | none=>.non
 | some x=>a x
def eF (l:List Int):D:=.fro (l.map D.int)
def oL (enc:α->D) (l:List α):Ob:=.lst (l.map enc)
theorem ap {m:ME} {R R':Rk α} {p:Option α} (h:VE A m R p) (i:∀v S d S',R v S d S'->R' v S d S'):VE A m R' p:=λv hv S0 e F S hs=>by
 obtain ⟨d,S',h1,h2,h3⟩:=h v hv S0 e F S hs;exact ⟨d,S',h1,h2,i _ _ _ _ h3⟩
theorem Kl {m:ME} {ob:α->Ob} {p:Option α} (h:VE A m (rN ob) p):VE A m (rO ob) p:=ap h λv S d S' ⟨n,h1,_,h2⟩=>⟨n,h1,h2⟩
theorem Ax {enc:α->D} {v:α} {i:Nat} (h:A[i]?=some (.v (enc v))):VE A (AY i) (rV enc) (some v):=λ_ hv S0 e F S hs=>by
 cases hv;obtain ⟨x,h1,h2⟩:=hs.sl i _ h;cases h2;exact ⟨_,S,by unfold AY;rw [h1],Keeps.refl S,rfl⟩
theorem Sr {ob:α->Ob} {v:α} {i:Nat} (h:A[i]?=some (.z (ob v))):VE A (AY i) (rO ob) (some v):=λ_ hv S0 e F S hs=>by
 cases hv;obtain ⟨x,h1,n,rfl,h2⟩:=hs.sl i _ h;exact ⟨_,S,by unfold AY;rw [h1],Keeps.refl S,n,rfl,hs.fz _ _ h2⟩
theorem Bw {ob:α->Ob} {v:α} {i:Nat} (h:A[i]?=some (.y (ob v))):VE A (AY i) (rO ob) (some v):=λ_ hv S0 e F S hs=>by
 cases hv;obtain ⟨x,h1,n,rfl,h2,_⟩:=hs.sl i _ h;exact ⟨_,S,by unfold AY;rw [h1],Keeps.refl S,n,rfl,hs.fz _ _ h2⟩
theorem JU {ob:α->Ob} {v:α} {i k:Nat} (h:A[i]?=some (.w k (ob v))):VE A (AY i) (rO ob) (some v):=λ_ hv S0 e F S hs=>by
 cases hv;obtain ⟨x,h1,n,rfl,h2,h3⟩:=hs.sl i _ h;exact ⟨_,S,by unfold AY;rw [h1],Keeps.refl S,n,rfl,h3⟩
theorem CM {enc:α->D} {v:α} {d:D} (h:d=enc v):VE A (mC d) (rV enc) (some v):=λ_ hv S0 e F S hs=>by
 cases hv;exact ⟨d,S,rfl,Keeps.refl S,h⟩
theorem Az {p:Option α} {q:α->Option β} {v:β} (h:p.bind q=some v):∃x,p=some x/\q x=some v:=Of.mp h
theorem Hu {f:D->D->Sto->Res D} {a b:ME} {ea:α->D} {eb:β->D} {ec:γ->D} {pa:Option α} {pb:Option β} {g:α->β->Option γ} (ha:VE A a (rV ea) pa) (hb:VE A b (rV eb) pb)
  (hf:∀x y z S,g x y=some z->f (ea x) (eb y) S=.ok (ec z) S):VE A (m2 f a b) (rV ec) (pa.bind λx=>pb.bind λy=>g x y):=λv hv S0 e F S hs=>by
 obtain ⟨x,h1,hv⟩:=Az hv;obtain ⟨y,h2,h3⟩:=Az hv;obtain ⟨d1,S1,q1,k1,rfl⟩:=ha x h1 S0 e F S hs;obtain ⟨d2,S2,q2,k2,rfl⟩:=hb y h2 S0 e _ S1 (hs.grow k1);exact ⟨_,S2,D8 q1 q2 (hf x y v S2 h3),k1.trans k2,rfl⟩
theorem V8 {f:D->D->Sto->Res D} {a b:ME} {ea:α->D} {ob:β->Ob} {ec:γ->D} {pa:Option α} {pb:Option β} {g:α->β->Option γ} (ha:VE A a (rV ea) pa) (hb:VE A b (rO ob) pb)
  (hf:∀x y z S (n:Nat),S[n]?=some (ob y)->g x y=some z->f (ea x) (.ref n) S=.ok (ec z) S):VE A (m2 f a b) (rV ec) (pa.bind λx=>pb.bind λy=>g x y):=λv hv S0 e F S hs=>by
 obtain ⟨x,h1,hv⟩:=Az hv;obtain ⟨y,h2,h3⟩:=Az hv;obtain ⟨d1,S1,q1,k1,rfl⟩:=ha x h1 S0 e F S hs;obtain ⟨d2,S2,q2,k2,n,rfl,hn⟩:=hb y h2 S0 e _ S1 (hs.grow k1);exact ⟨_,S2,D8 q1 q2 (hf x y v S2 n hn h3),k1.trans k2,rfl⟩
theorem av {f:D->D->Sto->Res D} {a b:ME} {ob:α->Ob} {eb:β->D} {ec:γ->D} {pa:Option α} {pb:Option β} {g:α->β->Option γ} (ha:VE A a (rO ob) pa) (hb:VE A b (rV eb) pb)
  (hf:∀x y z S (n:Nat),S[n]?=some (ob x)->g x y=some z->f (.ref n) (eb y) S=.ok (ec z) S):VE A (m2 f a b) (rV ec) (pa.bind λx=>pb.bind λy=>g x y):=λv hv S0 e F S hs=>by
 obtain ⟨x,h1,hv⟩:=Az hv;obtain ⟨y,h2,h3⟩:=Az hv;obtain ⟨d1,S1,q1,k1,n,rfl,hn⟩:=ha x h1 S0 e F S hs;obtain ⟨d2,S2,q2,k2,rfl⟩:=hb y h2 S0 e _ S1 (hs.grow k1);exact ⟨_,S2,D8 q1 q2 (hf x y v S2 n (k2.at hn) h3),k1.trans k2,rfl⟩
theorem G3 {m:ME} {p:Option Bool} (h:VE A m (rV D.bl) p):VB A (mB m) p:=λv hv S0 e F S hs=>by
 obtain ⟨d,S',h1,h2,rfl⟩:=h v hv S0 e F S hs;exact ⟨S',Q4 h1,h2⟩
theorem JY:VB A Gp (some true):=λv hv S0 e F S hs=>by cases hv;exact ⟨S,rfl,Keeps.refl S⟩
theorem Iv {t:MT} {p:Option Bool} (h:VB A t p):VB A (KZ t) (p.bind λb=>some (!b)):=λv hv S0 e F S hs=>by
 obtain ⟨x,h1,h2⟩:=Az hv;cases h2;obtain ⟨S',h3,h4⟩:=h x h1 S0 e F S hs;exact ⟨S',Wz h3,h4⟩
theorem RZ {t u:MT} {p q:Option Bool} (h:VB A t p) (hu:VB A u q):VB A (NX t u) (p.bind λb=>if b=true then q else some false):=λv hv S0 e F S hs=>by
 obtain ⟨x,h1,h2⟩:=Az hv;obtain ⟨S1,h3,h4⟩:=h x h1 S0 e F S hs
 cases x with
 | true=>
  obtain ⟨S2,h5,h6⟩:=hu v h2 S0 e _ S1 (hs.grow h4);exact ⟨S2,(Zr h3).trans h5,h4.trans h6⟩
 | false=>cases h2;exact ⟨S1,Zq h3,h4⟩
theorem L9 {t u:MT} {p q:Option Bool} (h:VB A t p) (hu:VB A u q):VB A (mOr t u) (p.bind λb=>if b=true then some true else q):=λv hv S0 e F S hs=>by
 obtain ⟨x,h1,h2⟩:=Az hv;obtain ⟨S1,h3,h4⟩:=h x h1 S0 e F S hs
 cases x with
 | false=>
  obtain ⟨S2,h5,h6⟩:=hu v h2 S0 e _ S1 (hs.grow h4);exact ⟨S2,(Ru h3).trans h5,h4.trans h6⟩
 | true=>cases h2;exact ⟨S1,Wt h3,h4⟩
theorem N5 {enc:α->D}:∀(v:α) (S S1:Sto) (d:D) (S':Sto),S.length<=S1.length->rV enc v S1 d S'->rV enc v S d S':=λ_ _ _ _ _ _ h=>h
theorem Wb {ob:α->Ob}:∀(v:α) (S S1:Sto) (d:D) (S':Sto),S.length<=S1.length->rN ob v S1 d S'->rN ob v S d S':=λ_ _ _ _ _ l ⟨n,h1,h2,h3⟩=>⟨n,h1,Aq l h2,h3⟩
inductive Fw (ρ σ:Type) where
 | rt (r:ρ) | nx (s:σ) | bk (s:σ) | ct (s:σ)
def VG (S0:Sto) (F:Fz) (S':Sto) (R:Rk ρ) (B:σ->List Sl) (g:Fl):Fw ρ σ->Prop
 | .nx s=>∃e' F',g=.nx e'/\Vs S0 (B s) e' F' S'/\Fle F F'
 | .ct s=>∃e' F',g=.ct e'/\Vs S0 (B s) e' F' S'/\Fle F F'
 | .bk s=>∃e' F',g=.bk e'/\Vs S0 (B s) e' F' S'/\Fle F F'
 | .rt r=>∃d,g=.rt d/\R r S0 d S'/\Keeps S0 S'
def VS (A:List Sl) (b:MS) (R:Rk ρ) (p:Option (Fw ρ σ)) (B:σ->List Sl):Prop:=∀f,p=some f->∀S0 e F S,Vs S0 A e F S->∃g S',b e S=.ok g S'/\VG S0 F S' R B g f
def CC (p:Option (Fw ρ σ)) (q:σ->Option (Fw ρ τ)):Option (Fw ρ τ):=match p with
 | some (.nx s)=>q s
 | some (.rt r)=>some (.rt r)
 | _=>none
theorem VG.up {S0:Sto} {F F1:Fz} {S':Sto} {R:Rk ρ} {B:σ->List Sl} {g:Fl} {f:Fw ρ σ} (l:Fle F F1) (h:VG S0 F1 S' R B g f):VG S0 F S' R B g f:=by
 cases f with
 | rt r=>exact h
 | nx s=>obtain ⟨e',F',h1,h2,h3⟩:=h;exact ⟨e',F',h1,h2,l.trans h3⟩
 | bk s=>obtain ⟨e',F',h1,h2,h3⟩:=h;exact ⟨e',F',h1,h2,l.trans h3⟩
 | ct s=>obtain ⟨e',F',h1,h2,h3⟩:=h;exact ⟨e',F',h1,h2,l.trans h3⟩
theorem Bm {a b:MS} {R:Rk ρ} {p:Option (Fw ρ σ)} {q:σ->Option (Fw ρ τ)} {B:σ->List Sl} {C:τ->List Sl} (ha:VS A a R p B) (hb:∀s,VS (B s) b R (q s) C):VS A (Bh a b) R (CC p q) C:=λf hf S0 e F S hs=>by
 cases p with
 | none=>cases hf
 | some w=>
  obtain ⟨g,S1,h1,h2⟩:=ha _ rfl S0 e F S hs
  cases w with
  | nx s=>
   obtain ⟨e1,F1,rfl,h2,h3⟩:=h2;obtain ⟨g2,S2,h4,h5⟩:=hb s f hf S0 e1 F1 S1 h2;exact ⟨g2,S2,(C0 h1).trans h4,h5.up h3⟩
  | rt r=>
   cases hf;obtain ⟨d,rfl,h2,h3⟩:=h2;exact ⟨_,S1,bF h1,d,rfl,h2,h3⟩
  | bk s=>cases hf
  | ct s=>cases hf
theorem Lx {R:Rk ρ} {B:σ->List Sl} {s:σ} (w:Wk A (B s)):VS A sNx R (some (.nx s)) B:=λf hf S0 e F S hs=>by
 cases hf;exact ⟨_,S,rfl,e,F,rfl,hs.weak w,Fle.refl F⟩
def R0 (g:σ->τ) (p:Option (Fw ρ σ)):Option (Fw ρ τ):=match p with
 | some (.nx s)=>some (.nx (g s))
 | some (.rt r)=>some (.rt r)
 | some (.bk s)=>some (.bk (g s))
 | some (.ct s)=>some (.ct (g s))
 | none=>none
theorem Ly {b:MS} {R:Rk ρ} {p:Option (Fw ρ σ)} {g:σ->τ} {B:σ->List Sl} {C:τ->List Sl} (h:VS A b R p B) (w:∀s,Wk (B s) (C (g s))):VS A b R (R0 g p) C:=λf hf S0 e F S hs=>by
 cases p with
 | none=>cases hf
 | some x=>
  obtain ⟨g,S1,h1,h2⟩:=h _ rfl S0 e F S hs
  cases x with
  | nx s=>cases hf;obtain ⟨e1,F1,rfl,h2,h3⟩:=h2;exact ⟨_,S1,h1,e1,F1,rfl,h2.weak (w s),h3⟩
  | rt r=>cases hf;exact ⟨_,S1,h1,h2⟩
  | bk s=>cases hf;obtain ⟨e1,F1,rfl,h2,h3⟩:=h2;exact ⟨_,S1,h1,e1,F1,rfl,h2.weak (w s),h3⟩
  | ct s=>cases hf;obtain ⟨e1,F1,rfl,h2,h3⟩:=h2;exact ⟨_,S1,h1,e1,F1,rfl,h2.weak (w s),h3⟩
theorem Hr {m:ME} {enc:α->D} {R:Rk ρ} {p:Option α} {i:Nat} (h:VE A m (rV enc) p):VS A (DM i m) R (p.bind λv=>some (.nx v)) (λv=>A.set i (.v (enc v))):=λf hf S0 e F S hs=>by
 obtain ⟨v,h1,h2⟩:=Az hf;cases h2;obtain ⟨d,S',h3,h4,rfl⟩:=h v h1 S0 e F S hs;exact ⟨_,S',KP h3,_,_,rfl,(hs.grow h4).set i rfl,hs.fle S'⟩
theorem JR {m:ME} {ob:α->Ob} {R:Rk ρ} {p:Option α} {i:Nat} (h:VE A m (rN ob) p):VS A (DM i m) R (p.bind λv=>some (.nx v)) (λv=>A.set i (.y (ob v))):=λf hf S0 e F S hs=>by
 obtain ⟨v,h1,h2⟩:=Az hf;cases h2;obtain ⟨d,S',h3,h4,n,rfl,h5,h6⟩:=h v h1 S0 e F S hs;exact ⟨_,S',KP h3,_,_,rfl,(hs.grow h4).set (a:=.y (ob v)) i ⟨n,rfl,J1 h5 h6,Aq hs.kp.1 h5⟩,hs.fle S'⟩
theorem LR {m:ME} {ob:α->Ob} {R:Rk ρ} {p:Option α} {i:Nat} (h:VE A m (rN ob) p):VS A (DM i m) R (p.bind λv=>some (.nx v)) (λv=>A.set i (.w i (ob v))):=λf hf S0 e F S hs=>by
 obtain ⟨v,h1,h2⟩:=Az hf;cases h2;obtain ⟨d,S',h3,h4,n,rfl,h5,h6⟩:=h v h1 S0 e F S hs;obtain ⟨F',h7,h8⟩:=hs.own h4 (i:=i) h5 h6;exact ⟨_,S',KP h3,_,F',rfl,h7,h8⟩
theorem FD {m:ME} {enc:ρ->D} {p:Option ρ} {B:σ->List Sl} (h:VE A m (rV enc) p):VS A (Ei m) (rV enc) (p.bind λv=>some (.rt v)) B:=λf hf S0 e F S hs=>by
 obtain ⟨v,h1,h2⟩:=Az hf;cases h2;obtain ⟨d,S',h3,h4,rfl⟩:=h v h1 S0 e F S hs;exact ⟨_,S',KR h3,_,rfl,rfl,hs.kp.trans h4⟩
theorem YS {m:ME} {ob:ρ->Ob} {p:Option ρ} {B:σ->List Sl} (h:VE A m (rN ob) p):VS A (Ei m) (rN ob) (p.bind λv=>some (.rt v)) B:=λf hf S0 e F S hs=>by
 obtain ⟨v,h1,h2⟩:=Az hf;cases h2;obtain ⟨d,S',h3,h4,n,rfl,h5,h6⟩:=h v h1 S0 e F S hs;exact ⟨_,S',KR h3,_,rfl,⟨n,rfl,Aq hs.kp.1 h5,h6⟩,hs.kp.trans h4⟩
theorem So {i:Nat} {ob:ρ->Ob} {v:ρ} {B:σ->List Sl} {k:Nat} (h:A[i]?=some (.w k (ob v))):VS A (Ei (AY i)) (rN ob) (some (.rt v)) B:=λf hf S0 e F S hs=>by
 cases hf;obtain ⟨x,h1,n,rfl,h2,h3⟩:=hs.sl i _ h;exact ⟨_,S,KR (d:=.ref n) (by unfold AY;rw [h1]),_,rfl,⟨n,rfl,(hs.ow _ _ h2).1,h3⟩,hs.kp⟩
theorem Lz {t:MT} {a b:MS} {R:Rk ρ} {pt:Option Bool} {p q:Option (Fw ρ σ)} {B:σ->List Sl} (ht:VB A t pt) (ha:VS A a R p B) (hb:VS A b R q B):VS A (sIf t a b) R (pt.bind λc=>if c=true then p else q) B:=λf hf S0 e F S hs=>by
 obtain ⟨c,h1,h2⟩:=Az hf;obtain ⟨S1,h3,h4⟩:=ht c h1 S0 e F S hs
 cases c with
 | true=>
  obtain ⟨g,S2,h5,h6⟩:=ha f h2 S0 e _ S1 (hs.grow h4);exact ⟨g,S2,(Jq h3).trans h5,h6.up (hs.fle S1)⟩
 | false=>
  obtain ⟨g,S2,h5,h6⟩:=hb f h2 S0 e _ S1 (hs.grow h4);exact ⟨g,S2,(Jq h3).trans h5,h6.up (hs.fle S1)⟩
def VY (l:List α) (x:α):Option (List α):=if l.length < 1000000 then some (l++[x]) else none
def Zd (l k:List α):Option (List α):=if l.length+k.length<=1000000 then some (l++k) else none
theorem eV {n:Nat} (h:n < 1000000):n < sizeLine:=AX h (by decide)
theorem cA {n:Nat} (h:n<=1000000):n<=sizeLine:=Aq h (by decide)
theorem RT {m:ME} {enc:α->D} {R:Rk ρ} {p:Option α} {i:Nat} {l:List α} (hi:A[i]?=some (.w i (oL enc l))) (h:VE A m (rV enc) p) (ht:((A.set i .u).all (Sl.oth i))=true) :
  VS A (Gc (Mi (AY i) m)) R (p.bind λv=>(VY l v).bind λl'=>some (.nx l')) (λl'=>A.set i (.w i (oL enc l'))):=λf hf S0 e F S hs=>by
 obtain ⟨v,h1,h2⟩:=Az hf;obtain ⟨l',h2,h0⟩:=Az h2;cases h0;unfold VY at h2;split at h2
 ·rename_i hl
  cases h2;obtain ⟨x,g1,n,rfl,g2,g3⟩:=hs.sl i _ hi;obtain ⟨d,S',h3,h4,rfl⟩:=h v h1 S0 e F S hs;have hg:=hs.grow h4;have hx:=SS (mo:=AY i) (e:=e) (S:=S) (S1:=S) (n:=n) (by unfold AY;rw [g1]) g3 h3 (h4.at g3) (by rw [AK];exact eV hl);rw [show l.map enc++[enc v]=(l++[v]).map enc by simp] at hx;exact ⟨_,_,Ld hx,e,_,rfl,hg.put ht hi g1 (by rw [Go (De g3)];exact g2),hs.fle S'⟩
 ·cases h2
theorem aZ {m:ME} {enc:α->D} {R:Rk ρ} {p:Option (List α)} {i:Nat} {l:List α} (hi:A[i]?=some (.w i (oL enc l))) (h:VE A m (rN (oL enc)) p) (ht:((A.set i .u).all (Sl.oth i))=true) :
  VS A (Gc (Jm (AY i) m)) R (p.bind λv=>(Zd l v).bind λl'=>some (.nx l')) (λl'=>A.set i (.w i (oL enc l'))):=λf hf S0 e F S hs=>by
 obtain ⟨v,h1,h2⟩:=Az hf;obtain ⟨l',h2,h0⟩:=Az h2;cases h0;unfold Zd at h2;split at h2
 ·rename_i hl
  cases h2;obtain ⟨x,g1,n,rfl,g2,g3⟩:=hs.sl i _ hi;obtain ⟨d,S',h3,h4,k,rfl,h5,h6⟩:=h v h1 S0 e F S hs;have hg:=hs.grow h4;have hx:=U5 (mo:=AY i) (e:=e) (S:=S) (S1:=S) (n:=n) (by unfold AY;rw [g1]) g3 h3 (h4.at g3) h6 (λc=>by subst c;exact zX (De g3) (Ho.mpr h5)) (by rw [AK,AK];exact cA hl);rw [<-CP] at hx;exact ⟨_,_,Ld hx,e,_,rfl,hg.put ht hi g1 (by rw [Go (De g3)];exact g2),hs.fle S'⟩
 ·cases h2
def VT (g:MG) (enc:α->D) (t:α->List Sl->List Sl):Prop:=∀x S0 A e F S,Vs S0 A e F S->∃e',g (enc x) e S=.ok e' S/\Vs S0 (t x A) e' F S
theorem Sn {enc:α->D} {i:Nat}:VT (tgN i) enc (λx A=>A.set i (.v (enc x))):=λx S0 A e F S hs=>⟨_,rfl,hs.set (a:=.v (enc x)) i rfl⟩
theorem Sm {a:α->D} {b:β->D} {i j:Nat}:VT (HW 2 (CS (tgN i) (CS (tgN j) Hw))) (eP a b) (λx A=>(A.set i (.v (a x.1))).set j (.v (b x.2))):=λx S0 A e F S hs=>⟨_,rfl,(hs.set (a:=.v (a x.1)) i rfl).set (a:=.v (b x.2)) j rfl⟩
def Hf:List α->σ->(σ->α->Option (Fw ρ σ))->Option (Fw ρ σ)
 | [],s,_=>some (.nx s)
 | x :: l,s,q=>match q s x with
  | some (.nx s')=>Hf l s' q
  | some (.ct s')=>Hf l s' q
  | some (.bk s')=>some (.nx s')
  | some (.rt r)=>some (.rt r)
  | none=>none
theorem YT {enc:α->D} {g:MG} {t:α->List Sl->List Sl} {b:MS} {R:Rk ρ} {q:σ->α->Option (Fw ρ σ)} {B:σ->List Sl} (hg:VT g enc t) (hb:∀s x,VS (t x (B s)) b R (q s x) B) {w:Gq} {S0:Sto} {F1:Fz} {full:List α}
  (hw:∀F'' S'',Fle F1 F''->(∀n o,F'' n=.fz o->S''[n]?=some o)->w S''=some (full.map enc)):∀(l:List α) (k:Nat),full.drop k=l->∀(s:σ) (f:Fw ρ σ),Hf l s q=some f->∀e F S,Vs S0 (B s) e F S->Fle F1 F->∃h S',He w g b (l.length) k e S=.ok h S'/\VG S0 F1 S' R B h f:=by
 intro l
 induction l with
 | nil=>
  intro k hk s f hf e F S hs hF;cases hf
  have:full.length<=k:=by
   have:=congrArg GP hk;rw [Em,C3] at this
   lia
  refine ⟨_,S,?_,e,F,rfl,hs,hF⟩;unfold He;rw [hw F S hF hs.fz];dsimp only;rw [CJ (by rw [AK];exact this)]
 | cons x l ih=>
  intro k hk s f hf e F S hs hF
  have hx:full[k]?=some x:=by
   have:=congrArg (λz=>z[0]?) hk;rw [Fe] at this;simpa using this
  have hk':full.drop (k+1)=l:=by
   have e1:full.drop (k+1)=(full.drop k).drop 1:=by rw [Nm]
   exact e1.trans (congrArg (List.drop 1) hk)
  obtain ⟨e1,g1,g2⟩:=hg x S0 _ e F S hs
  have run:∀h S',b e1 S=.ok h S'->He w g b ((x :: l).length) k e S=(match h with
    | .nx e2=>He w g b l.length (k+1) e2 S'
    | .ct e2=>He w g b l.length (k+1) e2 S'
    | .bk e2=>.ok (.nx e2) S'
    | .rt d=>.ok (.rt d) S'
    | .ex c e2=>.ok (.ex c e2) S'):=λh S' hb'=>by
   show He w g b (l.length+1) k e S=_
   conv=>lhs;unfold He
   rw [hw F S hF hs.fz];dsimp only;rw [Ao,hx];dsimp only [c6];rw [g1];dsimp only [Res.bind];rw [hb']
   all_goals (cases h <;> rfl)
  unfold Hf at hf;split at hf
  ·rename_i s' hq
   obtain ⟨h,S1,h1,e2,F2,rfl,h2,h3⟩:=hb s x _ hq S0 e1 F S g2;rw [run _ _ h1];exact ih (k+1) hk' s' f hf e2 F2 S1 h2 (hF.trans h3)
  ·rename_i s' hq
   obtain ⟨h,S1,h1,e2,F2,rfl,h2,h3⟩:=hb s x _ hq S0 e1 F S g2;rw [run _ _ h1];exact ih (k+1) hk' s' f hf e2 F2 S1 h2 (hF.trans h3)
  ·rename_i s' hq
   cases hf;obtain ⟨h,S1,h1,e2,F2,rfl,h2,h3⟩:=hb s x _ hq S0 e1 F S g2;rw [run _ _ h1];exact ⟨_,S1,rfl,e2,F2,rfl,h2,hF.trans h3⟩
  ·rename_i r hq
   cases hf;obtain ⟨h,S1,h1,d,rfl,h2,h3⟩:=hb s x _ hq S0 e1 F S g2;rw [run _ _ h1];exact ⟨_,S1,rfl,d,rfl,h2,h3⟩
  ·cases hf
theorem Ol {enc:α->D} {mi:MI} {g:MG} {t:α->List Sl->List Sl} {b:MS} {R:Rk ρ} {p:Option (List α)} {q:σ->α->Option (Fw ρ σ)} {B:σ->List Sl} {s0:σ} (hi:VI A mi enc p) (hg:VT g enc t) (w0:Wk A (B s0)) (hb:∀s x,VS (t x (B s)) b R (q s x) B) :
  VS A (MQ mi g b) R (p.bind λl=>Hf l s0 q) B:=λf hf S0 e F S hs=>by
 obtain ⟨l,h1,h2⟩:=Az hf;obtain ⟨w,S1,h3,h4,h5⟩:=hi l h1 S0 e F S hs;have hg1:=hs.grow h4
 have hl:CF w S1=l.length:=by unfold CF;rw [h5 _ S1 (Fle.refl _) hg1.fz];exact AK _
 obtain ⟨h,S2,h6,h7⟩:=YT hg hb h5 l 0 rfl s0 f h2 e _ S1 (hg1.weak w0) (Fle.refl _);refine ⟨h,S2,?_,h7.up (hs.fle S1)⟩;rw [SJ h3,hl];exact h6
def M7 (c:α->Option Bool) (m:α->Option β):List α->Option (List β)
 | []=>some []
 | x :: l=>(c x).bind λb=>if b=true then (m x).bind λy=>(M7 c m l).bind λys=>some (y :: ys) else M7 c m l
def FQ (l:List α) (c:α->Option Bool) (m:α->Option β):Option (List β):=if l.length<=1000000 then M7 c m l else none
theorem V1 {enc:α->D} {eb:β->D} {g:MG} {P:List (Option D)->Prop} {T:α->List Sl} {c:MT} {m:ME} {pc:α->Option Bool} {pm:α->Option β}
  (hg:∀x S0 e F S pre,P pre->Vs S0 A e F S->∃pre',g (enc x) (pre++e) S=.ok (pre'++e) S/\P pre'/\Vs S0 (T x) (pre'++e) F S)
  (hc:∀x,VB (T x) c (pc x)) (hm:∀x,VE (T x) m (rV eb) (pm x)) {w:Gq} {S0:Sto} {e:Lo} {full:List α} {S1:Sto} (hf:full.length<=1000000) (hw:∀S'',Keeps S1 S''->w S''=some (full.map enc)) :
  ∀(l:List α) (k:Nat),full.drop k=l->∀(r:List β),M7 pc pm l=some r->∀pre F S acc,P pre->Vs S0 A e F S->Keeps S1 S->acc.length<=k->∃S',Dv w g c m l.length k (pre++e) S acc=.ok (acc++r.map eb) S'/\Keeps S S':=by
 intro l
 induction l with
 | nil=>
  intro k hk r hr pre F S acc hp hs hk1 ha;cases hr
  have:full.length<=k:=by
   have:=congrArg GP hk;rw [Em,C3] at this
   lia
  refine ⟨S,?_,Keeps.refl S⟩;unfold Dv;rw [hw S hk1];dsimp only;rw [CJ (by rw [AK];exact this),Hi,Bd]
 | cons x l ih=>
  intro k hk r hr pre F S acc hp hs hk1 ha
  have hx:full[k]?=some x:=by
   have:=congrArg (λz=>z[0]?) hk;rw [Fe] at this;simpa using this
  have hk':full.drop (k+1)=l:=by
   have e1:full.drop (k+1)=(full.drop k).drop 1:=by rw [Nm]
   exact e1.trans (congrArg (List.drop 1) hk)
  have hkl:k < full.length:=(AJ.mp hx).1;obtain ⟨pre',g1,g2,g3⟩:=hg x S0 e F S pre hp hs;unfold M7 at hr;obtain ⟨b,h1,h2⟩:=Az hr;obtain ⟨S2,h3,h4⟩:=hc x b h1 S0 _ F S g3;have hs2:=hs.grow h4
  show ∃S',Dv w g c m (l.length+1) k (pre++e) S acc=_/\_
  conv=>arg 1;ext S';arg 1;lhs;unfold Dv
  rw [hw S hk1];dsimp only;rw [Ao,hx];dsimp only [c6];rw [qX (Cz ha (eV (AX hkl hf))),g1];dsimp only [okR,Res.bind];rw [h3];dsimp only [okR,Res.bind]
  cases b with
  | true=>
   rw [qX rfl] at h2 ⊢;obtain ⟨y,h5,h6⟩:=Az h2;obtain ⟨ys,h6',h7⟩:=Az h6;cases h7;obtain ⟨d,S3,h8,h9,rfl⟩:=hm x y h5 S0 _ _ S2 (g3.grow h4);rw [h8];obtain ⟨S4,q1,q2⟩:=ih (k+1) hk' ys h6' pre' _ S3 (acc++[eb y]) g2 (hs2.grow h9) (hk1.trans (h4.trans h9)) (by rw [At,Bb];lia);refine ⟨S4,?_,(h4.trans h9).trans q2⟩;show Dv w g c m l.length (k+1) (pre'++e) S3 (acc++[eb y])=_;rw [q1,BJ];rfl
  | false=>
   rw [qY AW] at h2 ⊢;obtain ⟨S4,q1,q2⟩:=ih (k+1) hk' r h2 pre' _ S2 acc g2 hs2 (hk1.trans h4) (by lia);exact ⟨S4,q1,h4.trans q2⟩
theorem Sq {enc:α->D} {eb:β->D} {n:Nat} {mi:MI} {g:MG} {P:List (Option D)->Prop} {T:α->List Sl} {c:MT} {m:ME} {p:Option (List α)} {pc:α->Option Bool} {pm:α->Option β} (hi:VK A mi enc p) (h0:P (A4 n none))
  (hg:∀x S0 e F S pre,P pre->Vs S0 A e F S->∃pre',g (enc x) (pre++e) S=.ok (pre'++e) S/\P pre'/\Vs S0 (T x) (pre'++e) F S)
  (hc:∀x,VB (T x) c (pc x)) (hm:∀x,VE (T x) m (rV eb) (pm x)):VL A (E1 n mi g c m) eb (p.bind λl=>FQ l pc pm):=λr hr S0 e F S hs=>by
 obtain ⟨l,h1,h2⟩:=Az hr;obtain ⟨w,S1,h3,h4,h5⟩:=hi l h1 S0 e F S hs;unfold FQ at h2;split at h2
 ·rename_i hl
  have hs1:=hs.grow h4;obtain ⟨S2,h6,h7⟩:=V1 hg hc hm hl h5 l 0 rfl r h2 _ _ S1 [] h0 hs1 (Keeps.refl _) (AS _);refine ⟨S2,?_,h4.trans h7⟩;rw [Pc h3,show CF w S1=l.length by unfold CF;rw [h5 S1 (Keeps.refl _)];exact AK _];exact h6
 ·cases h2
theorem JT {enc:α->D} {eb:β->D} {mi:MI} {c:MT} {m:ME} {p:Option (List α)} {pc:α->Option Bool} {pm:α->Option β} (hi:VK A mi enc p) (hc:∀x,VB (.v (enc x) :: A) c (pc x)) (hm:∀x,VE (.v (enc x) :: A) m (rV eb) (pm x)) :
  VL A (E1 1 mi (tgN 0) c m) eb (p.bind λl=>FQ l pc pm):=
 Sq (P:=λpre=>∃z,pre=[z]) hi ⟨none,rfl⟩ (λx S0 e F S pre hp hs=>by
  obtain ⟨z,rfl⟩:=hp
  exact ⟨[some (enc x)],rfl,⟨_,rfl⟩,hs.cons (a:=.v (enc x)) rfl⟩) hc hm
theorem V2 {a:α->D} {b:γ->D} {eb:β->D} {mi:MI} {c:MT} {m:ME} {p:Option (List (α×γ))} {pc:α×γ->Option Bool} {pm:α×γ->Option β} (hi:VK A mi (eP a b) p) (hc:∀x:α×γ,VB (.v (a x.1) :: .v (b x.2) :: A) c (pc x)) (hm:∀x:α×γ,VE (.v (a x.1) :: .v (b x.2) :: A) m (rV eb) (pm x)) :
  VL A (E1 2 mi (HW 2 (CS (tgN 0) (CS (tgN 1) Hw))) c m) eb (p.bind λl=>FQ l pc pm):=
 Sq (P:=λpre=>∃z y,pre=[z,y]) hi ⟨none,none,rfl⟩ (λx S0 e F S pre hp hs=>by
  obtain ⟨z,y,rfl⟩:=hp
  exact ⟨[some (a x.1),some (b x.2)],rfl,⟨_,_,rfl⟩,(hs.cons (a:=.v (b x.2)) rfl).cons (a:=.v (a x.1)) rfl⟩) hc hm
theorem Fx {ml:ML} {enc:α->D} {p:Option (List α)} (h:VL A ml enc p):VE A (Gh ml) (rN (oL enc)) p:=λv hv S0 e F S hs=>by
 obtain ⟨S',h1,h2⟩:=h v hv S0 e F S hs;exact ⟨_,_,Ry h1,h2.trans (Keeps.app _ _),_,rfl,h2.1,Ex _ _⟩
inductive Ar where
 | v (d:D) | z (o:Ob) | q (P:(Nat->Option Ob)->D->Prop)
def Ar.ok (S:Sto):Ar->D->Prop
 | .v d,x=>x=d
 | .z o,x=>∃n,x=.ref n/\S[n]?=some o
 | .q P,x=>∀L:Nat->Option Ob,(∀n o,S[n]?=some o->L n=some o)->P L x
def Ar.sl:Ar->Sl
 | .v d=>.v d
 | .z o=>.z o
 | .q P=>.q P
def Ip (S:Sto):List Ar->List D->Prop
 | [],[]=>True
 | a :: as,d :: ds=>a.ok S d/\Ip S as ds
 | _,_=>False
theorem Ip.len {S:Sto}:∀ {as:List Ar} {ds:List D},Ip S as ds->ds.length=as.length
 | [],[],_=>rfl
 | _ :: as,_ :: ds,h=>by rw [Af,Af,Ip.len h.2]
 | [],_ :: _,h=>h.elim
 | _ :: _,[],h=>h.elim
theorem Ip.at {S:Sto}:∀ {as:List Ar} {ds:List D},Ip S as ds->∀(i:Nat) (a:Ar),as[i]?=some a->∃d,ds[i]?=some d/\a.ok S d
 | [],[],_,i,a,h=>by simp at h
 | b :: as,d :: ds,h,0,a,q=>by cases q;exact ⟨d,rfl,h.1⟩
 | b :: as,d :: ds,h,i+1,a,q=>Ip.at h.2 i a q
 | [],_ :: _,h,_,_,_=>h.elim
 | _ :: _,[],h,_,_,_=>h.elim
def VF (f:List D->Sto->Res D) (as:List Ar) (R:Rk α) (p:Option α):Prop:=∀v,p=some v->∀S ds,Ip S as ds->∃d S',f ds S=.ok d S'/\Keeps S S'/\R v S d S'
def VA (A:List Sl) (ml:ML) (p:Option γ) (ar:γ->List Ar):Prop:=∀v,p=some v->∀S0 e F S,Vs S0 A e F S->∃ds S',ml e S=.ok ds S'/\Keeps S S'/\Ip S' (ar v) ds
theorem FE:VA A BZ (some ()) (λ_=>[]):=λv hv S0 e F S hs=>⟨[],S,rfl,Keeps.refl S,trivial⟩
theorem JZ {m:ME} {ml:ML} {enc:α->D} {p:Option α} {q:Option γ} {ar:γ->List Ar} (h:VE A m (rV enc) p) (hl:VA A ml q ar):VA A (Al m ml) (p.bind λx=>q.bind λy=>some (x,y)) (λz=>.v (enc z.1) :: ar z.2):=λv hv S0 e F S hs=>by
 obtain ⟨x,h1,h2⟩:=Az hv;obtain ⟨y,h2',h3⟩:=Az h2;cases h3;obtain ⟨d,S1,h4,h5,rfl⟩:=h x h1 S0 e F S hs;obtain ⟨ds,S2,h6,h7,h8⟩:=hl y h2' S0 e _ S1 (hs.grow h5);exact ⟨_,S2,DQ h4 h6,h5.trans h7,rfl,h8⟩
theorem Yc {m:ME} {ml:ML} {ob:α->Ob} {p:Option α} {q:Option γ} {ar:γ->List Ar} (h:VE A m (rO ob) p) (hl:VA A ml q ar):VA A (Al m ml) (p.bind λx=>q.bind λy=>some (x,y)) (λz=>.z (ob z.1) :: ar z.2):=λv hv S0 e F S hs=>by
 obtain ⟨x,h1,h2⟩:=Az hv;obtain ⟨y,h2',h3⟩:=Az h2;cases h3;obtain ⟨d,S1,h4,h5,n,rfl,h0⟩:=h x h1 S0 e F S hs;obtain ⟨ds,S2,h6,h7,h8⟩:=hl y h2' S0 e _ S1 (hs.grow h5);exact ⟨_,S2,DQ h4 h6,h5.trans h7,⟨n,rfl,h7.at h0⟩,h8⟩
theorem D1 {f:List D->Sto->Res D} {n:Nat} {ml:ML} {p:Option γ} {ar:γ->List Ar} {R:Rk α} {q:γ->Option α} (ha:VA A ml p ar) (hf:∀z,VF f (ar z) R (q z)) (hn:∀z,(ar z).length=n) (hR:∀v S S1 d S',S.length<=S1.length->R v S1 d S'->R v S d S'):VE A (D7 n f ml) R (p.bind q):=λv hv S0 e F S hs=>by
 obtain ⟨z,h1,h2⟩:=Az hv;obtain ⟨ds,S1,h3,h4,h5⟩:=ha z h1 S0 e F S hs;obtain ⟨d,S2,h6,h7,h8⟩:=hf z v h2 S1 ds h5;exact ⟨d,S2,(Pg h3 (h5.len.trans (hn z))).trans h6,h4.trans h7,hR _ _ _ _ _ h4.1 h8⟩
def OV (S:Sto):Fz:=λn=>match S[n]? with
 | some o=>.fz o
 | none=>.no
theorem Vs.start {as:List Ar} {ds:List D} {n:Nat} (h:Ip S as ds):Vs S (as.map Ar.sl++A4 (n - as.length) .u) (G5 n ds) (OV S) S:=by
 refine ⟨Keeps.refl S,λn o q=>?_,λn i q=>?_,λn hn=>by unfold OV;rw [CJ hn],λi a ha=>?_⟩
 ·unfold OV at q
  split at q
  ·rename_i o' ho;cases q;exact ho
  ·cases q
 ·unfold OV at q
  split at q <;> cases q
 ·unfold G5
  by_cases c:i < as.length
  ·rw [Ad (by rw [AK];exact c),Ao] at ha
   rw [Ad (by rw [AK,h.len];exact c),Ao]
   cases hq:as[i]? with
   | none=>rw [hq] at ha;cases ha
   | some b=>
    rw [hq] at ha;cases ha;obtain ⟨d,h1,h2⟩:=h.at i b hq;refine ⟨some d,by rw [h1];rfl,?_⟩
    cases b with
    | v x=>exact congrArg some h2
    | z o=>obtain ⟨m,h3,h4⟩:=h2;exact ⟨m,congrArg some h3,by unfold OV;rw [h4]⟩
    | q P=>exact ⟨d,rfl,λL hL=>h2 L λn o q=>hL n o (by unfold OV;rw [q])⟩
  ·rw [A5 (by rw [AK];lia)] at ha
   rw [AK,B0] at ha;split at ha
   ·rename_i hlt
    cases ha;refine ⟨none,?_,trivial⟩;rw [A5 (by rw [AK,h.len];lia),AK,h.len,B0,qX hlt]
   ·cases ha
def KU (p:Option (Fw ρ σ)):Option ρ:=match p with
 | some (.rt r)=>some r
 | _=>none
end
section
variable {S0 S S':Sto} {A B:List Sl} {e:Lo} {F:Fz} {α β γ δ ρ σ τ:Type}
section
variable {a b c:ME} {pa pb pc:Option Int}
theorem au (ha:VE A a (rV D.int) pa) (hb:VE A b (rV D.int) pb):VE A (m2 X1 a b) (rV D.int) (pa.bind λx=>pb.bind λy=>some (x+y)):=Hu ha hb λx y z S h=>by cases h;rfl
def OO (x y:Int):Option Int:=if X3 x y then some (x / y) else none
def W2 (x y:Int):Option Int:=if 0 < y then some (x % y) else none
theorem Oq (ha:VE A a (rV D.int) pa) (hb:VE A b (rV D.int) pb):VE A (m2 IF a b) (rV D.int) (pa.bind λx=>pb.bind λy=>OO x y):=Hu ha hb λx y z S h=>by
 unfold OO at h;split at h
 ·rename_i hc;cases h;exact qX hc
 ·cases h
theorem V9 (ha:VE A a (rV D.int) pa) (hb:VE A b (rV D.int) pb):VE A (m2 Mf a b) (rV D.int) (pa.bind λx=>pb.bind λy=>W2 x y):=Hu ha hb λx y z S h=>by
 unfold W2 at h;split at h
 ·rename_i hc;cases h;exact TX hc
 ·cases h
theorem JX {k:Int} (hk:(decide (0 < k)&&decide (k<=1000000))=true) (ha:VE A a (rV D.int) pa):VE A (m2 IF a (mC (.int k))) (rV D.int) (pa.bind λx=>some (x / k)):=λv hv S0 e F S hs=>by
 obtain ⟨x,h1,h2⟩:=Az hv;cases h2;obtain ⟨d,S',h3,h4,rfl⟩:=ha x h1 S0 e F S hs;have hk':=Br _ _▸hk;exact ⟨_,S',D8 h3 rfl (Xj (of_decide_eq_true hk'.1) (of_decide_eq_true hk'.2)),h4,rfl⟩
theorem JW {k:Int} (hk:decide (0 < k)=true) (ha:VE A a (rV D.int) pa):VE A (m2 Mf a (mC (.int k))) (rV D.int) (pa.bind λx=>some (x % k)):=λv hv S0 e F S hs=>by
 obtain ⟨x,h1,h2⟩:=Az hv;cases h2;obtain ⟨d,S',h3,h4,rfl⟩:=ha x h1 S0 e F S hs;exact ⟨_,S',D8 h3 rfl (TX (of_decide_eq_true hk)),h4,rfl⟩
theorem RX (ha:VE A a (rV D.int) pa):VE A (Uq a) (rV D.int) (pa.bind λx=>some (-x)):=λv hv S0 e F S hs=>by
 obtain ⟨x,h1,h2⟩:=Az hv;cases h2;obtain ⟨d,S',h3,h4,rfl⟩:=ha x h1 S0 e F S hs;exact ⟨_,S',by unfold Uq;rw [h3];rfl,h4,rfl⟩
theorem dQ (ha:VE A a (rV D.int) pa) (hb:VE A b (rV D.int) pb):VE A (m2 ltD a b) (rV D.bl) (pa.bind λx=>pb.bind λy=>some (decide (x < y))):=Hu ha hb λx y z S h=>by cases h;rfl
theorem dS (ha:VE A a (rV D.int) pa) (hb:VE A b (rV D.int) pb):VE A (m2 gtD a b) (rV D.bl) (pa.bind λx=>pb.bind λy=>some (decide (y < x))):=Hu ha hb λx y z S h=>by cases h;rfl
theorem L8 {f g:D->D->Sto->Res D} {P Q:Int->Int->Bool} (hf:∀x y S,f (.int x) (.int y) S=.ok (.bl (P x y)) S) (hg:∀x y S,g (.int x) (.int y) S=.ok (.bl (Q x y)) S) (ha:VE A a (rV D.int) pa) (hb:VE A b (rV D.int) pb) (hc:VE A c (rV D.int) pc) :
  VE A (m3 f g a b c) (rV D.bl) (pa.bind λx=>pb.bind λy=>if P x y=true then pc.bind λz=>some (Q y z) else some false):=λv hv S0 e F S hs=>by
 obtain ⟨x,h1,hv⟩:=Az hv;obtain ⟨y,h2,h3⟩:=Az hv;obtain ⟨d1,S1,q1,k1,rfl⟩:=ha x h1 S0 e F S hs;obtain ⟨d2,S2,q2,k2,rfl⟩:=hb y h2 S0 e _ S1 (hs.grow k1);have e1:=hf x y S2
 cases hp:P x y with
 | false=>
  rw [hp] at h3 e1;cases h3;exact ⟨_,S2,eU q1 q2 e1,k1.trans k2,rfl⟩
 | true=>
  rw [hp] at h3 e1;rw [qX rfl] at h3;obtain ⟨w,h4,h5⟩:=Az h3;cases h5;obtain ⟨d3,S3,q3,k3,rfl⟩:=hc w h4 S0 e _ S2 ((hs.grow k1).grow k2);exact ⟨_,S3,Z9 q1 q2 e1 q3 (hg y w S3),(k1.trans k2).trans k3,rfl⟩
theorem aE (x y:Int) (S:Sto):ltD (.int x) (.int y) S=.ok (.bl (decide (x < y))) S:=rfl
theorem T4 (x y:Int) (S:Sto):leD (.int x) (.int y) S=.ok (.bl (decide (x<=y))) S:=rfl
end
def EqN (n:Nat) (enc:α->D) [DecidableEq α]:Prop:=∀x y,eqP n (enc x) (enc y)=some (decide (x=y))
def NL (enc:α->D):Prop:=∀x S,PJ (enc x) S=none
theorem Ed {n:Nat}:EqN n D.int:=λx y=>by
 have:IK (.int x) (.int y)=some (decide (x=y)):=rfl
 cases n <;> exact this
theorem Lf {n:Nat}:EqN n D.str:=λx y=>by
 have:IK (.str x) (.str y)=some (decide (x=y)):=rfl
 cases n <;> exact this
theorem Zf {n:Nat} {enc:α->D} [DecidableEq α] (h:EqN n enc):EqN (n+1) (eT enc):=by
 have key:∀l k:List α,eqL (eqP n) (l.map enc) (k.map enc)=some (decide (l=k)):=by
  intro l
  induction l with
  | nil=>intro k;cases k <;> rfl
  | cons x l ih=>
   intro k
   cases k with
   | nil=>rfl
   | cons y k=>
    rw [Ai,Ai];unfold eqL;rw [h x y,ih k]
    by_cases c:x=y <;> by_cases d:l=k <;> simp [c,d]
 exact λl k=>key l k
theorem M4 {n:Nat} {a:α->D} {b:β->D} [DecidableEq α] [DecidableEq β] (ha:EqN n a) (hb:EqN n b):EqN (n+1) (eP a b):=λx y=>by
 show eqL (eqP n) [a x.1,b x.2] [a y.1,b y.2]=_;unfold eqL eqL eqL;rw [ha,hb];obtain ⟨x1,x2⟩:=x;obtain ⟨y1,y2⟩:=y
 by_cases c:x1=y1 <;> by_cases d:x2=y2 <;> simp [c,d]
theorem Rx:NL D.int:=λ_ _=>rfl
theorem PB:NL D.str:=λ_ _=>rfl
theorem bx {enc:α->D}:NL (eT enc):=λ_ _=>rfl
section
variable {a b:ME} {enc:α->D} [DecidableEq α] {pa pb:Option α}
theorem Xm (h:EqN 8 enc) (n:NL enc) (neg:Bool) (x y:α) (S:Sto):eqD neg (enc x) (enc y) S=.ok (.bl (if neg then !decide (x=y) else decide (x=y))) S:=by
 unfold eqD eqB;rw [n x S,n y S];dsimp only;rw [h x y]
theorem Z3 (h:EqN 8 enc) (n:NL enc) (ha:VE A a (rV enc) pa) (hb:VE A b (rV enc) pb):VE A (m2 (eqD false) a b) (rV D.bl) (pa.bind λx=>pb.bind λy=>some (decide (x=y))):=Hu ha hb λx y z S q=>by cases q;exact Xm h n false x y S
theorem Nr (h:EqN 8 enc) (n:NL enc) (ha:VE A a (rV enc) pa) (hb:VE A b (rV enc) pb):VE A (m2 (eqD true) a b) (rV D.bl) (pa.bind λx=>pb.bind λy=>some (!decide (x=y))):=Hu ha hb λx y z S q=>by cases q;exact Xm h n true x y S
theorem Qz (h:EqN 8 enc) (x:α):∀l:List α,Io (enc x) (l.map enc)=some (decide (x∈l))
 | []=>by simp [Io]
 | y :: l=>by
  rw [Ai];unfold Io;rw [h y x,Qz h x l]
  by_cases c:y=x
  ·subst c;simp
  ·have:¬x=y:=λz=>c z.symm
   simp [c,this]
theorem XV (h:EqN 8 enc) (neg:Bool) (x:α) {l:List α} {d:D} {S:Sto} (hs:Ga d S=some (l.map enc)):inA neg (enc x) d S=.ok (.bl (if neg then !decide (x∈l) else decide (x∈l))) S:=by
 show IC (inD neg (enc x) d S) _=_
 have e:inD neg (enc x) d S=.ok (.bl (if neg then !decide (x∈l) else decide (x∈l))) S:=by
  unfold inD;rw [hs];dsimp only;rw [Qz h]
 rw [e];rfl
theorem ao {pl:Option (List α)} (h:EqN 8 enc) (ha:VE A a (rV enc) pa) (hb:VE A b (rO (oL enc)) pl):VE A (m2 (inA false) a b) (rV D.bl) (pa.bind λx=>pl.bind λl=>some (decide (x∈l))):=V8 ha hb λx l z S n hn q=>by cases q;exact XV h false x (Dd hn)
theorem Su {pl:Option (List α)} (h:EqN 8 enc) (ha:VE A a (rV enc) pa) (hb:VE A b (rO (oL enc)) pl):VE A (m2 (inA true) a b) (rV D.bl) (pa.bind λx=>pl.bind λl=>some (!decide (x∈l))):=V8 ha hb λx l z S n hn q=>by cases q;exact XV h true x (Dd hn)
end
section
variable {a b m mo:ME} {enc:α->D} {ml:ML} {pl pk:Option (List α)} {pi:Option Int}
theorem Zp (l:List α) (i:Int) (f:α->β):atI (l.map f) i=(atI l i).map f:=by
 unfold atI;rw [AK]
 cases ixN l.length i with
 | none=>rfl
 | some j=>show (l.map f)[j]?=(l[j]?).map f;rw [Ao]
theorem XS {l:List α} {d:D} {S:Sto} {i:Int} {x:α} (hs:Ga d S=some (l.map enc)) (h:atI l i=some x):ixA d (.int i) S=.ok (enc x) S:=by
 show IC (ixD d (.int i) S) _=_
 have:ixD d (.int i) S=.ok (enc x) S:=by
  unfold ixD;rw [hs];dsimp only;rw [Zp,h];rfl
 rw [this];rfl
theorem aj {pl:Option (List Int)} (ha:VE A a (rV eF) pl) (hb:VE A b (rV D.int) pi):VE A (m2 ixA a b) (rV D.int) (pl.bind λl=>pi.bind λi=>atI l i):=Hu ha hb λl i z S q=>XS rfl q
theorem G2 (ha:VE A a (rO (oL enc)) pl) (hb:VE A b (rV D.int) pi):VE A (m2 ixA a b) (rV enc) (pl.bind λl=>pi.bind λi=>atI l i):=av ha hb λl i z S n hn q=>XS (Dd hn) q
theorem YY {pl:Option (List Int)} (ha:VE A a (rV eF) pl):VE A (PD a) (rV D.int) (pl.bind λl=>some (l.length:Int)):=λv hv S0 e F S hs=>by
 obtain ⟨l,h1,h2⟩:=Az hv;cases h2;obtain ⟨d,S',h3,h4,rfl⟩:=ha l h1 S0 e F S hs;exact ⟨_,S',(XD (ds:=l.map D.int) h3 rfl).trans (by rw [AK]),h4,rfl⟩
theorem YX (ha:VE A a (rO (oL enc)) pl):VE A (PD a) (rV D.int) (pl.bind λl=>some (l.length:Int)):=λv hv S0 e F S hs=>by
 obtain ⟨l,h1,h2⟩:=Az hv;cases h2;obtain ⟨d,S',h3,h4,n,rfl,hn⟩:=ha l h1 S0 e F S hs;exact ⟨_,S',(XD (ds:=l.map enc) h3 (Dd hn)).trans (by rw [AK]),h4,rfl⟩
theorem ID:∀ns:List Int,EA (ns.map D.int)=some ns
 | []=>rfl
 | x :: ns=>by rw [Ai];unfold EA;rw [ID ns];rfl
theorem KI (ha:VE A a (rO (oL enc)) pl):VE A (Ew a) (rV (eT enc)) pl:=λl hv S0 e F S hs=>by
 obtain ⟨d,S',h3,h4,n,rfl,hn⟩:=ha l hv S0 e F S hs;exact ⟨_,S',Jb h3 (Dd hn),h4,rfl⟩
theorem YU (ha:VE A a (rO (oL enc)) pl):VL A (Iz a) enc pl:=λl hv S0 e F S hs=>by
 obtain ⟨d,S',h3,h4,n,rfl,hn⟩:=ha l hv S0 e F S hs;exact ⟨S',Z5 h3 (Dd hn),h4⟩
theorem T6:∀l:List Bool,SR (l.map D.bl)=some l
 | []=>rfl
 | x :: l=>by rw [Ai];unfold SR;rw [T6 l];rfl
theorem aq {pl:Option (List Bool)} (h:VL A ml D.bl pl):VE A (mQ Zs ml) (rV D.bl) (pl.bind λl=>some (l.all id)):=λv hv S0 e F S hs=>by
 obtain ⟨l,h1,h2⟩:=Az hv;cases h2;obtain ⟨S',h3,h4⟩:=h l h1 S0 e F S hs;refine ⟨_,S',bL h3 ?_,h4,rfl⟩;unfold Zs Zl;rw [T6]
theorem KH:VL A BZ enc (some []):=λv hv S0 e F S hs=>by cases hv;exact ⟨S,rfl,Keeps.refl S⟩
theorem E4 {p:Option α} (h:VE A m (rV enc) p) (hl:VL A ml enc pl):VL A (Al m ml) enc (p.bind λx=>pl.bind λl=>some (x :: l)):=λv hv S0 e F S hs=>by
 obtain ⟨x,h1,h2⟩:=Az hv;obtain ⟨l,h2',h3⟩:=Az h2;cases h3;obtain ⟨d,S1,h4,h5,rfl⟩:=h x h1 S0 e F S hs;obtain ⟨S2,h6,h7⟩:=hl l h2' S0 e _ S1 (hs.grow h5);exact ⟨S2,DQ h4 h6,h5.trans h7⟩
def Jz (l:List α):Option (List α):=if l.length<=1000000 then some l else none
theorem Hs (h:VL A ml enc pl):VL A (FI ml) enc (pl.bind Jz):=λv hv S0 e F S hs=>by
 obtain ⟨l,h1,h2⟩:=Az hv;unfold Jz at h2;split at h2
 ·rename_i hl
  cases h2;obtain ⟨S',h3,h4⟩:=h _ h1 S0 e F S hs;refine ⟨S',?_,h4⟩;unfold FI;rw [h3];dsimp only [Res.bind];rw [qX (by rw [AK];exact cA hl)]
 ·cases h2
theorem ag (h:VL A ml enc pl):VE A (Iy ml) (rV (eT enc)) (pl.bind Jz):=λv hv S0 e F S hs=>by
 obtain ⟨l,h1,h2⟩:=Az hv;unfold Jz at h2;split at h2
 ·rename_i hl
  cases h2;obtain ⟨S',h3,h4⟩:=h _ h1 S0 e F S hs;refine ⟨_,S',?_,h4,rfl⟩;unfold Iy;rw [h3];dsimp only [Res.bind];rw [qX (by rw [AK];exact cA hl)];rfl
 ·cases h2
theorem JV {a':α->D} {b':β->D} {pa:Option α} {pb:Option β} (ha:VE A a (rV a') pa) (hb:VE A b (rV b') pb):VE A (Iy (Al a (Al b BZ))) (rV (eP a' b')) (pa.bind λx=>pb.bind λy=>some (x,y)):=λv hv S0 e F S hs=>by
 obtain ⟨x,h1,hv⟩:=Az hv;obtain ⟨y,h2,h3⟩:=Az hv;cases h3;obtain ⟨d1,S1,q1,k1,rfl⟩:=ha x h1 S0 e F S hs;obtain ⟨d2,S2,q2,k2,rfl⟩:=hb y h2 S0 e _ S1 (hs.grow k1);exact ⟨_,S2,WF (ds:=[a' x,b' y]) (DQ q1 (DQ q2 rfl)) (by simp),k1.trans k2,rfl⟩
def VO (A:List Sl) (mo:MO) (p:Option (Option Int)):Prop:=∀v,p=some v->∀S0 e F S,Vs S0 A e F S->∃S',mo e S=.ok v S'/\Keeps S S'
theorem Om:VO A QU (some none):=λv hv S0 e F S hs=>by cases hv;exact ⟨S,rfl,Keeps.refl S⟩
theorem JS {pi:Option Int} (h:VE A m (rV D.int) pi):VO A (Kq m) (pi.bind λi=>some (some i)):=λv hv S0 e F S hs=>by
 obtain ⟨x,h1,h2⟩:=Az hv;cases h2;obtain ⟨d,S',h3,h4,rfl⟩:=h x h1 S0 e F S hs;exact ⟨S',by unfold Kq;rw [h3];rfl,h4⟩
theorem Qr (l:List α) (f:α->β) (lo hi:Option Int):FP (l.map f) lo hi=(FP l lo hi).map f:=by
 unfold FP;rw [AK,<-List.map_drop,<-aR]
theorem Os {mlo mhi:MO} {po ph:Option (Option Int)} (ha:VE A a (rO (oL enc)) pl) (hl:VO A mlo po) (hh:VO A mhi ph):VE A (HC a mlo mhi) (rN (oL enc)) (pl.bind λl=>po.bind λx=>ph.bind λy=>some (FP l x y)):=λv hv S0 e F S hs=>by
 obtain ⟨l,h1,hv⟩:=Az hv;obtain ⟨x,h2,hv⟩:=Az hv;obtain ⟨y,h3,h4⟩:=Az hv;cases h4;obtain ⟨d1,S1,q1,k1,n,rfl,hn⟩:=ha l h1 S0 e F S hs;obtain ⟨S2,q2,k2⟩:=hl x h2 S0 e _ S1 (hs.grow k1);obtain ⟨S3,q3,k3⟩:=hh y h3 S0 e _ S2 ((hs.grow k1).grow k2);refine ⟨.ref S3.length,S3++[oL enc (FP l x y)],?_,((k1.trans k2).trans k3).trans (Keeps.app _ _),_,rfl,((k1.trans k2).trans k3).1,Ex _ _⟩;unfold HC;rw [q1];dsimp only [Res.bind];rw [q2];dsimp only;rw [q3];dsimp only;unfold Ow;dsimp only;rw [XB ((k2.trans k3).at hn)];show Res.ok _ (S3++[Ob.lst (FP (l.map enc) x y)])=_;rw [Qr];rfl
theorem QO:∀rs:List (List Int),rs.all (λr=>!r.isEmpty)=true->Il (rs.map Ie)=some rs
 | [],_=>rfl
 | [] :: rs,h=>by simp at h
 | (x :: r) :: rs,h=>by
  rw [aS,Br] at h;show Il (.tup ((x :: r).map D.int) :: rs.map Ie)=_;unfold Il;rw [ID,QO rs h.2]
theorem aa (ha:VE A a (rV (eT enc)) pl):VI A (GB a) enc pl:=λl hv S0 e F S hs=>by
 obtain ⟨d,S',h3,h4,rfl⟩:=ha l hv S0 e F S hs;exact ⟨_,S',Qi (xs:=l.map enc) h3,h4,λ_ _ _ _=>rfl⟩
theorem RW (ha:VE A a (rN (oL enc)) pl):VI A (GB a) enc pl:=λl hv S0 e F S hs=>by
 obtain ⟨d,S',h3,h4,n,rfl,h5,h6⟩:=ha l hv S0 e F S hs;exact ⟨_,S',Mw h3 h6,h4,λF2 S2 hF h=>GX (h n _ (hF _ _ (J1 h5 h6)))⟩
theorem V4 {i:Nat} {l:List α} (h:A[i]?=some (.z (oL enc l))):VI A (GB (AY i)) enc (some l):=λ_ hv S0 e F S hs=>by
 cases hv;obtain ⟨x,h1,n,rfl,h2⟩:=hs.sl i _ h;have hn:=hs.fz _ _ h2;exact ⟨_,S,Mw (n:=n) (by unfold AY;rw [h1]) hn,Keeps.refl S,λF2 S2 hF h=>GX (h n _ (hF _ _ (by rw [Go (De hn)];exact h2)))⟩
def Ub (lo:Int) (n:Nat):List Int:=(Be n).map λi:Nat=>lo+i
def Yn (j:Int):Option (List Int):=if -1000000<=j/\j<=1000000 then some (Ub 0 j.toNat) else none
theorem bK (lo:Int) (n:Nat):Gf lo n=(Ub lo n).map D.int:=by
 unfold Gf Ub;rw [BE];rfl
theorem UQ (ha:VE A a (rV D.int) pi):VI A (iR1 (Al a BZ)) D.int (pi.bind Yn):=λl hv S0 e F S hs=>by
 obtain ⟨j,h1,h2⟩:=Az hv;obtain ⟨d,S',h3,h4,rfl⟩:=ha j h1 S0 e F S hs;unfold Yn at h2;split at h2
 ·rename_i hj
  cases h2;exact ⟨_,S',XW (j:=j) (DQ h3 rfl) hj.1 hj.2,h4,λ_ _ _ _=>congrArg some (bK _ _)⟩
 ·cases h2
theorem YW {p:Option α} (ha:VE A a (rV enc) p):VE A a (rV (eO enc)) (p.bind λo=>some (some o)):=λv hv S0 e F S hs=>by
 obtain ⟨x,h1,h2⟩:=Az hv;cases h2;exact ha _ h1 S0 e F S hs
theorem Op:VE A (mC .non) (rV (eO enc)) (some none):=CM rfl
end
end
section
variable {S0 S S':Sto} {A B:List Sl} {e:Lo} {F:Fz} {α β γ δ ρ σ τ κ κ':Type}
section
variable {a b m:ME} {enc:α->D}
def toPr (r:List Int):Int×Int:=(r.getD 0 0,r.getD 1 0)
def Je (l:List (Int×Int)):List (Int×Int):=(IA (l.map λx=>[x.1,x.2])).map toPr
theorem Yh (l:List (Int×Int)):(IA (l.map λx=>[x.1,x.2])).map Ie=(Je l).map (eP D.int D.int):=by
 unfold Je;rw [BE]
 refine B7 λr hr=>?_
 obtain ⟨x,_,rfl⟩:=A9.mp ((EQ _).mem_iff.mp hr);rfl
theorem P2 {pl:Option (List (Int×Int))} (ha:VE A a (rO (oL (eP D.int D.int))) pl):VE A (Ec a) (rN (oL (eP D.int D.int))) (pl.bind λl=>some (Je l)):=λv hv S0 e F S hs=>by
 obtain ⟨l,h1,h2⟩:=Az hv;cases h2;obtain ⟨d,S',h3,h4,n,rfl,hn⟩:=ha l h1 S0 e F S hs;refine ⟨_,_,KM h3 (Mv hn) (es:=(Je l).map (eP D.int D.int)) ?_,h4.trans (Keeps.app _ _),_,rfl,h4.1,Ex _ _⟩;rw [<-Yh]
 cases l with
 | nil=>show some ((Hz []).map D.int)=some ((IA []).map Ie);rw [UW];unfold IA;rw [List.mergeSort_nil];rfl
 | cons x l=>
  have hr:Il (Nk (eP D.int D.int) (x :: l))=some ((x :: l).map λx=>[x.1,x.2]):=by
   have:=QO ((x :: l).map λx=>[x.1,x.2]) (DZ.mpr λr hr=>by obtain ⟨y,_,rfl⟩:=A9.mp hr;rfl);rw [BE] at this;exact this
  unfold Ik;rw [show EA (Nk (eP D.int D.int) (x :: l))=none from rfl,hr]
end
end
section
variable {α β γ ρ σ τ:Type}
theorem Ct {s:σ} {q:σ->Option (Fw ρ τ)}:CC (some (.nx s)) q=q s:=rfl
theorem Xh {l:List α} {q:σ->α->Option (Fw ρ σ)} {s0:σ} (I:List α->σ->Prop) (R:ρ->Prop) (h0:I [] s0) (h:∀pre x s,x∈l->pre++[x] <+: l->I pre s->(∃s',q s x=some (.nx s')/\I (pre++[x]) s')∨∃r,q s x=some (.rt r)/\R r):(∃s,Hf l s0 q=some (.nx s)/\I l s)∨∃r,Hf l s0 q=some (.rt r)/\R r:=by
 have key:∀(r pre:List α) (s:σ),l=pre++r->I pre s->(∃s',Hf r s q=some (.nx s')/\I l s')∨∃y,Hf r s q=some (.rt y)/\R y:=by
  intro r
  induction r with
  | nil=>intro pre s e hI;rw [Bd] at e;subst e;exact .inl ⟨s,rfl,hI⟩
  | cons x r ih=>
   intro pre s e hI
   rcases h pre x s (by rw [e];simp) ⟨r,by rw [e];simp⟩ hI with ⟨s',h1,h2⟩ | ⟨y,h1,h2⟩
   ·have e':Hf (x :: r) s q=Hf r s' q:=by
     conv=>lhs;unfold Hf
     rw [h1]
    rw [e'];exact ih (pre++[x]) s' (by rw [e];simp) h2
   ·refine .inr ⟨y,?_,h2⟩
    unfold Hf;rw [h1]
 exact key l [] s0 rfl h0
theorem Xu {l:List α} {c:α->Option Bool} {m:α->Option β} {P:α->Bool} {f:α->β} (hc:∀x∈l,c x=some (P x)) (hm:∀x∈l,P x=true->m x=some (f x)):M7 c m l=some ((l.filter P).map f):=by
 induction l with
 | nil=>rfl
 | cons x l ih=>
  have ih:=ih (λy hy=>hc y (AV _ hy)) λy hy=>hm y (AV _ hy)
  unfold M7;rw [hc x Ae];show (if P x=true then _ else _)=_
  cases hp:P x with
  | true=>
   rw [qX rfl,hm x Ae hp,ih,List.filter_cons_of_pos hp];rfl
  | false=>
   rw [qY AW,ih,List.filter_cons_of_neg (by rw [hp];exact AW)]
theorem Xv {l:List α} {c:α->Option Bool} {m:α->Option β} {P:α->Bool} {f:α->β} (hl:l.length<=1000000) (hc:∀x∈l,c x=some (P x)) (hm:∀x∈l,P x=true->m x=some (f x)):FQ l c m=some ((l.filter P).map f):=by
 unfold FQ;rw [qX hl,Xu hc hm]
theorem IZ {l:List α} {m:α->Option β} {f:α->β} (hl:l.length<=1000000) (hm:∀x∈l,m x=some (f x)):FQ l (λ_=>some true) m=some (l.map f):=by
 rw [Xv (P:=λ_=>true) hl (λ_ _=>rfl) λx hx _=>hm x hx,List.filter_eq_self.mpr λ_ _=>rfl]
theorem Pl {l:List α} {x:α} (h:l.length < 1000000):VY l x=some (l++[x]):=qX h
theorem Zc {l k:List α} (h:l.length+k.length<=1000000):Zd l k=some (l++k):=qX h
theorem few0:Jz ([]:List α)=some []:=rfl
theorem cY (a:α):Jz [a]=some [a]:=qX (by simp)
theorem few2 (a b:α):Jz [a,b]=some [a,b]:=qX (by simp)
theorem few4 (a b c d:α):Jz [a,b,c,d]=some [a,b,c,d]:=qX (by simp)
theorem Ym {j:Int} (h0:-1000000<=j) (h1:j<=1000000):Yn j=some (Ub 0 j.toNat):=qX ⟨h0,h1⟩
theorem QP (lo:Int) (n:Nat):(Ub lo n).length=n:=by unfold Ub;rw [AK,List.length_range]
theorem X0 {l:List α} {i:Int} (h0:0<=i) (h1:i < l.length):∃x,atI l i=some x/\l[i.toNat]?=some x:=by
 have hlt:i.toNat < l.length:=by lia
 exact ⟨l[i.toNat],JE h0 (BD hlt),BD hlt⟩
theorem TW {x y:Int} (h:0 < y):W2 x y=some (x % y):=qX h
theorem Xr (l:List α) (lo hi:Option Int):(FP l lo hi).length<=l.length:=by
 unfold FP;rw [Ci,Em]
 lia
def Ok (p:Option α) (P:α->Prop):Prop:=∃v,p=some v/\P v
theorem Ok.is {p:Option α} {v:α} (h:Ok p λr=>r=v):p=some v:=by
 obtain ⟨_,h1,rfl⟩:=h;exact h1
def OkF (p:Option (Fw ρ σ)) (N:σ->Prop) (R:ρ->Prop):Prop:=(∃s,p=some (.nx s)/\N s)∨∃r,p=some (.rt r)/\R r
theorem OkF.nx {s:σ} {N:σ->Prop} {R:ρ->Prop} (h:N s):OkF (some (.nx s)) N R:=.inl ⟨s,rfl,h⟩
theorem OkF.rt {r:ρ} {N:σ->Prop} {R:ρ->Prop} (h:R r):OkF (some (.rt r)) N R:=.inr ⟨r,rfl,h⟩
theorem OkF.seq {p:Option (Fw ρ σ)} {q:σ->Option (Fw ρ τ)} {N:σ->Prop} {N':τ->Prop} {R:ρ->Prop} (h:OkF p N R) (hq:∀s,N s->OkF (q s) N' R):OkF (CC p q) N' R:=by
 rcases h with ⟨s,rfl,h⟩ | ⟨r,rfl,h⟩
 ·exact hq s h
 ·exact .inr ⟨r,rfl,h⟩
theorem OkF.map {p:Option (Fw ρ σ)} {g:σ->τ} {N:σ->Prop} {N':τ->Prop} {R:ρ->Prop} (h:OkF p N R) (hg:∀s,N s->N' (g s)):OkF (R0 g p) N' R:=by
 rcases h with ⟨s,rfl,h⟩ | ⟨r,rfl,h⟩
 ·exact .inl ⟨_,rfl,hg s h⟩
 ·exact .inr ⟨r,rfl,h⟩
theorem OkF.for {l:List α} {q:σ->α->Option (Fw ρ σ)} {s0:σ} {R:ρ->Prop} (I:List α->σ->Prop) (h0:I [] s0) (h:∀pre x s,x∈l->pre++[x] <+: l->I pre s->OkF (q s x) (I (pre++[x])) R):OkF (Hf l s0 q) (I l) R:=Xh I R h0 h
theorem OkF.out {p:Option (Fw ρ σ)} {R:ρ->Prop} (h:OkF p (λ_=>False) R):Ok (KU p) R:=by
 rcases h with ⟨s,rfl,h⟩ | ⟨r,rfl,h⟩
 ·exact h.elim
 ·exact ⟨r,rfl,h⟩
theorem OkF.imp {p:Option (Fw ρ σ)} {N N':σ->Prop} {R R':ρ->Prop} (h:OkF p N R) (hn:∀s,N s->N' s) (hr:∀r,R r->R' r):OkF p N' R':=by
 rcases h with ⟨s,rfl,h⟩ | ⟨r,rfl,h⟩
 ·exact .inl ⟨s,rfl,hn s h⟩
 ·exact .inr ⟨r,rfl,hr r h⟩
theorem VF.law {f:List D->Sto->Res D} {ns:List Int} (h:VF f [.v (eF ns)] (rV D.bl) (some true)):∃S',f [.fro (ns.map D.int)] []=.ok (.bl true) S':=by
 obtain ⟨d,S',h1,_,rfl⟩:=h true rfl [] [.fro (ns.map D.int)] ⟨rfl,trivial⟩;exact ⟨S',h1⟩
end
section
variable {A:List Sl} {a b m:ME} {pa pb:Option Int}
end
section
variable {A:List Sl} {a m:ME} {α ρ:Type} {enc:α->D}
end
section
variable {S0 S S':Sto} {A B:List Sl} {e:Lo} {F:Fz} {α β γ ρ σ τ:Type} {a:ME} {enc:α->D}
theorem Ij {n:Nat} {b:MS} {as:List Ar} {R:Rk ρ} {p:Option (Fw ρ σ)} {B:σ->List Sl} (h:VS (as.map Ar.sl++A4 (n - as.length) .u) b R p B):VF (F0 n b) as R (KU p):=λv hv S ds ha=>by
 cases p with
 | none=>cases hv
 | some x=>
  obtain ⟨g,S',h1,h2⟩:=h _ rfl S _ _ S (Vs.start ha)
  cases x with
  | rt r=>cases hv;obtain ⟨d,rfl,h2,h3⟩:=h2;exact ⟨d,S',L2.Rr h1,h3,h2⟩
  | nx s=>cases hv
  | bk s=>cases hv
  | ct s=>cases hv
theorem dR {t T:String} {r:Bool} {p:Option α} (ha:VE A a (rV enc) p) (ht:∀x S,tyD (enc x) S=some T) (hb:isB t T=some r):VE A (L2.mIs (isB t) (λ_=>none) a) (rV D.bl) (p.bind λ_=>some r):=λv hv S0 e F S hs=>by
 obtain ⟨x,h1,h2⟩:=Az hv;cases h2;obtain ⟨d,S',h3,h4,rfl⟩:=ha x h1 S0 e F S hs;exact ⟨_,S',L2.ee h3 (ht x S') hb,h4,rfl⟩
end
section
variable {κ α:Type} [DecidableEq κ]
end
def hb (bits x:Int):Bool:=Builtin.bitAnd (bits / 2 ^ x.toNat) 1 != 0
abbrev HL:=List (Int×Int)
abbrev QL:=List (Int×Bool)
section
variable {T:Int->List Int} {bits:Int} {U:List Int} {Gd:Int->Prop}
abbrev w0 (T:Int->List Int) (bits g:Int):List Int:=(T g).filter (hb bits)
def MOn (T:Int->List Int) (bits:Int) (P:Int->Prop) (H:HL):Prop:=(∀x,P x->∀a,G4 H x=some a->x∈w0 T bits a)/\∀x y a,P x->P y->G4 H x=some a->G4 H y=some a->x=y
abbrev sn (Q:QL) (x:Int):Prop:=(G4 Q x).isSome=true
def Good (T:Int->List Int) (bits:Int) (H:HL) (g:Int) (Q:QL) (H':HL):Prop:=
 (∀x,sn Q x->G4 H' x=G4 H x)/\(MOn T bits (λx=>¬sn Q x) H->(∀x,¬sn Q x->G4 H x≠some g)->MOn T bits (λx=>¬sn Q x) H'/\∀a,(∃x,¬sn Q x/\G4 H' x=some a)↔a=g∨∃x,¬sn Q x/\G4 H x=some a)
end
section
variable {T:Int->List Int} {bits:Int} {U:List Int} {Gd:Int->Prop}
end
section
variable {α β ρ σ:Type} {A:List Sl} {enc:α->D} {ob:β->Ob}
theorem WA {e:Lo} {S:Sto} {i:Nat} {d:D} (h:e[i]?=some (some d)):AY i e S=.ok d S:=by unfold AY;rw [h]
end
abbrev inG {α:Type} [DecidableEq α] (x:α) (l:List α):Bool:=decide (x∈l)
theorem PN {α:Type} [DecidableEq α] {x:α} {l:List α}:inG x l=true↔x∈l:=decide_eq_true_iff
section
variable {α β ρ σ:Type} {A:List Sl} {enc:α->D} {ob:β->Ob}
theorem Ya {a:ME} {pl:Option (List Int)} {mlo mhi:MO} {po ph:Option (Option Int)} (ha:VE A a (rV eF) pl) (hl:VO A mlo po) (hh:VO A mhi ph):VE A (HC a mlo mhi) (rN (oL D.int)) (pl.bind λl=>po.bind λx=>ph.bind λy=>some (FP l x y)):=λv hv S0 e F S hs=>by
 obtain ⟨l,h1,hv⟩:=Az hv;obtain ⟨x,h2,hv⟩:=Az hv;obtain ⟨y,h3,h4⟩:=Az hv;cases h4;obtain ⟨d1,S1,q1,k1,rfl⟩:=ha l h1 S0 e F S hs;obtain ⟨S2,q2,k2⟩:=hl x h2 S0 e _ S1 (hs.grow k1);obtain ⟨S3,q3,k3⟩:=hh y h3 S0 e _ S2 ((hs.grow k1).grow k2);refine ⟨.ref S3.length,S3++[oL D.int (FP l x y)],?_,((k1.trans k2).trans k3).trans (Keeps.app _ _),_,rfl,((k1.trans k2).trans k3).1,Ex _ _⟩;unfold HC;rw [q1];dsimp only [Res.bind];rw [q2];dsimp only;rw [q3];show Res.ok _ (S3++[Ob.lst (FP (l.map D.int) x y)])=_;rw [Qr];rfl
end
section
variable {S0 S S':Sto} {A B:List Sl} {e:Lo} {F:Fz} {α β γ ρ σ τ:Type} {enc:α->D} {xss:List (List α)} {i:Nat}
end
section
variable {S0 S S':Sto} {A:List Sl} {ρ σ:Type}
end
section
variable {A:List Sl} {α:Type} {enc:α->D} {a:ME}
end
section
variable {A:List Sl} {a b c:ME} {ml:ML}
def Um (l:List Int):Option Int:=Kw ltZ l
def Uo (l:List Int):Option Int:=Kw gtZ l
theorem S6 {f:Int->Int->Bool} {pl:Option (List Int)} (h:VL A ml D.int pl):VE A (mQ (OU f) ml) (rV D.int) (pl.bind λl=>Kw f l):=λv hv S0 e F S hs=>by
 obtain ⟨l,h1,h2⟩:=Az hv;obtain ⟨S',h3,h4⟩:=h l h1 S0 e F S hs;refine ⟨_,S',?_,h4,rfl⟩;unfold mQ;rw [h3];dsimp only [Res.bind];unfold OU;rw [ID];dsimp only;rw [h2];rfl
theorem Sv {pl:Option (List Int)} (h:VL A ml D.int pl):VE A (mQ TY ml) (rV D.int) (pl.bind Um):=S6 h
theorem Sw {pl:Option (List Int)} (h:VL A ml D.int pl):VE A (mQ TZ ml) (rV D.int) (pl.bind Uo):=S6 h
end
section
variable {A:List Sl} {β σ:Type} {ob:β->Ob}
def rOL (ob:β->Ob):Rk (Option β):=λv S0 d S=>match v with
 | none=>d=.non
 | some b=>∃n,d=.ref n/\S0.length<=n/\S[n]?=some (ob b)
theorem Wa:∀(v:Option β) (S S1:Sto) (d:D) (S':Sto),S.length<=S1.length->rOL ob v S1 d S'->rOL ob v S d S':=λv S S1 d S' l h=>by
 cases v with
 | none=>exact h
 | some b=>obtain ⟨n,h1,h2,h3⟩:=h;exact ⟨n,h1,Aq l h2,h3⟩
theorem Vz {B:σ->List Sl}:VS A (Ei (mC .non)) (rOL ob) (some (.rt none)) B:=λf hf S0 e F S hs=>by
 cases hf;exact ⟨.rt .non,S,rfl,_,rfl,rfl,hs.kp⟩
end
section
variable {α β ρ σ:Type} {A:List Sl} {enc:α->D}
end
section
variable {α β ρ σ:Type} {A:List Sl} {enc:α->D} {ob:β->Ob}
end
section
variable {α β ρ σ:Type} {A:List Sl} {enc:α->D} {a b m:ME}
def HY (x y:Str):Option Str:=if x.length+y.length<=sizeLine then some (x++y) else none
theorem LU {pa pb:Option Str} (ha:VE A a (rV D.str) pa) (hb:VE A b (rV D.str) pb):VE A (m2 SW a b) (rV D.str) (pa.bind λx=>pb.bind λy=>HY x y):=Hu ha hb λx y z S h=>by
 unfold HY at h;split at h
 ·rename_i hz
  cases h;show (if x.length+y.length<=sizeLine then Res.ok (D.str (x++y)) S else .bad)=_;rw [qX hz]
 ·cases h
theorem am {pa pb:Option Str} (ha:VE A a (rV D.str) pa) (hb:VE A b (rV D.str) pb):VE A (m2 (inS false) a b) (rV D.bl) (pa.bind λx=>pb.bind λy=>some (Hl y x)):=Hu ha hb λx y z S h=>by
 cases h;rfl
def XR (x:Str) (i:Int):Option Str:=if x.length<=sizeLine then (atI x.cps.toList i).map λc=>⟨#[c]⟩ else none
theorem ai {pa:Option Str} {pi:Option Int} (ha:VE A a (rV D.str) pa) (hb:VE A b (rV D.int) pi):VE A (m2 ixS a b) (rV D.str) (pa.bind λx=>pi.bind λi=>XR x i):=Hu ha hb λx i z S h=>by
 unfold XR at h;split at h
 ·rename_i hz
  show (if x.length<=sizeLine then (match atI x.cps.toList i with | some c=>Res.ok (D.str ⟨#[c]⟩) S | none=>.bad) else .bad)=_;rw [qX hz]
  cases hc:atI x.cps.toList i with
  | none=>rw [hc] at h;cases h
  | some c=>rw [hc] at h;cases h;rfl
 ·cases h
def OG (x:Str):Option Int:=if x.length<=sizeLine then some (x.length:Int) else none
theorem Sx {pa:Option Str} (ha:VE A a (rV D.str) pa):VE A (Qb a) (rV D.int) (pa.bind OG):=λv hv S0 e F S hs=>by
 obtain ⟨x,h1,h2⟩:=Az hv;obtain ⟨d,S',h3,h4,rfl⟩:=ha x h1 S0 e F S hs;unfold OG at h2;split at h2
 ·rename_i hz
  cases h2;refine ⟨_,S',?_,h4,rfl⟩;unfold Qb;rw [h3];dsimp only [Res.bind];rw [qX hz]
 ·cases h2
def MK (i:Int):Option Str:=if (if i < 0 then 0 - i else i) < 1000000 then some (toString i) else none
theorem Oo {pa:Option Int} (ha:VE A a (rV D.int) pa):VE A (OE a) (rV D.str) (pa.bind MK):=λv hv S0 e F S hs=>by
 obtain ⟨x,h1,h2⟩:=Az hv;obtain ⟨d,S',h3,h4,rfl⟩:=ha x h1 S0 e F S hs;unfold MK at h2
 by_cases hz:(if x < 0 then 0 - x else x) < 1000000
 ·rw [qX hz] at h2
  cases h2;refine ⟨_,S',?_,h4,rfl⟩;unfold OE;rw [h3];dsimp only [Res.bind];rw [qX hz]
 ·rw [qY hz] at h2
  cases h2
def Na (i:Int):Option Str:=if i.natAbs.log2 < 1920 then some (toString i) else none
theorem RY {pa:Option Int} (ha:VE A a (rV D.int) pa):VE A (R4 a) (rV D.str) (pa.bind Na):=λv hv S0 e F S hs=>by
 obtain ⟨x,h1,h2⟩:=Az hv;obtain ⟨d,S',h3,h4,rfl⟩:=ha x h1 S0 e F S hs;unfold Na at h2;split at h2
 ·rename_i hz
  cases h2;refine ⟨_,S',?_,h4,rfl⟩;unfold R4;rw [h3];dsimp only [Res.bind];rw [qX hz]
 ·cases h2
def Qh (x:Str):Option Int:=if x.length<=640 then Ib x else none
theorem YZ {pa:Option Str} (ha:VE A a (rV D.str) pa):VE A (Ta a) (rV D.int) (pa.bind Qh):=λv hv S0 e F S hs=>by
 obtain ⟨x,h1,h2⟩:=Az hv;obtain ⟨d,S',h3,h4,rfl⟩:=ha x h1 S0 e F S hs;unfold Qh at h2;split at h2
 ·rename_i hz
  refine ⟨_,S',?_,h4,rfl⟩;unfold Ta;rw [h3];dsimp only [Res.bind];rw [qX hz,h2]
 ·cases h2
def VJ (A:List Sl) (mj:MJ) (p:Str->Option Str):Prop:=∀acc v,p acc=some v->∀S0 e F S,Vs S0 A e F S->∃S',mj acc e S=.ok v S'/\Keeps S S'
def Qn (acc:Str):Option Str:=if acc.length<=sizeLine then some acc else none
theorem V3:VJ A Uv Qn:=λacc v hv S0 e F S hs=>by
 unfold Qn at hv;split at hv
 ·rename_i hz
  cases hv;exact ⟨S,qX hz,Keeps.refl S⟩
 ·cases hv
def FF (p:Option Str) (q:Str->Option Str) (acc:Str):Option Str:=p.bind λy=>if (acc++y).length<=sizeLine then q (acc++y) else none
theorem IU {mj:MJ} {p:Option Str} {q:Str->Option Str} (h:VE A m (rV D.str) p) (hr:VJ A mj q):VJ A (HX m mj) (FF p q):=λacc v hv S0 e F S hs=>by
 obtain ⟨y,h1,h2⟩:=Az hv;obtain ⟨d,S1,h3,h4,rfl⟩:=h y h1 S0 e F S hs;split at h2
 ·rename_i hz
  obtain ⟨S2,h5,h6⟩:=hr _ v h2 S0 e _ S1 (hs.grow h4);refine ⟨S2,?_,h4.trans h6⟩;unfold HX;rw [h3];dsimp only [Res.bind];rw [qX hz];exact h5
 ·cases h2
theorem Sy {mj:MJ} {q:Str->Option Str} (h:VJ A mj q):VE A (OF mj) (rV D.str) (q Er):=λv hv S0 e F S hs=>by
 obtain ⟨S',h1,h2⟩:=h _ v hv S0 e F S hs;refine ⟨_,S',?_,h2,rfl⟩;unfold OF;rw [h1];rfl
def Mu (sep:Str) (l:List Str):Option Str:=if JoinOk sep l=true then some (UI sep l) else none
theorem P3 {pa:Option Str} {pl:Option (List Str)} (ha:VE A a (rV D.str) pa) (hb:VE A b (rO (oL D.str)) pl):VE A (Mh a b) (rV D.str) (pa.bind λx=>pl.bind λl=>Mu x l):=λv hv S0 e F S hs=>by
 obtain ⟨x,h1,hv⟩:=Az hv;obtain ⟨l,h2,h3⟩:=Az hv;obtain ⟨d,S1,q1,k1,rfl⟩:=ha x h1 S0 e F S hs;obtain ⟨d2,S2,q2,k2,n,rfl,hn⟩:=hb l h2 S0 e _ S1 (hs.grow k1);unfold Mu at h3;split at h3
 ·rename_i hz
  cases h3;refine ⟨_,S2,?_,k1.trans k2,rfl⟩
  have a2:atL (.ref n) S2=some (n,l.map D.str):=by unfold atL;dsimp only;rw [hn];rfl
  unfold Mh;rw [q1];dsimp only [Res.bind];rw [q2];dsimp only [Res.bind];rw [a2];dsimp only;rw [QD];dsimp only;rw [qX hz]
 ·cases h3
def Hy (x y:Str):Option (List Str):=if Jc x y=true then some (Dc x y) else none
theorem Np {pa pb:Option Str} (ha:VE A a (rV D.str) pa) (hb:VE A b (rV D.str) pb):VE A (Jl a b) (rN (oL D.str)) (pa.bind λx=>pb.bind λy=>Hy x y):=λv hv S0 e F S hs=>by
 obtain ⟨x,h1,hv⟩:=Az hv;obtain ⟨y,h2,h3⟩:=Az hv;obtain ⟨d,S1,q1,k1,rfl⟩:=ha x h1 S0 e F S hs;obtain ⟨d2,S2,q2,k2,rfl⟩:=hb y h2 S0 e _ S1 (hs.grow k1);unfold Hy at h3;split at h3
 ·rename_i hz
  cases h3;refine ⟨.ref S2.length,_,?_,(k1.trans k2).trans (Keeps.app _ _),_,rfl,(k1.trans k2).1,Ex _ _⟩;unfold Jl;rw [q1];dsimp only [Res.bind];rw [q2];dsimp only [Res.bind];rw [qX hz];rfl
 ·cases h3
def signs (z:Str):List Str:=z.cps.toList.map λc=>⟨#[c]⟩
def MN (z:Str):Option (List Str):=if z.cps.all (· < 128)=true then some (signs z) else none
theorem ae {p:Option Str} (h:VE A m (rV D.str) p):VI A (Td m) D.str (p.bind MN):=λv hv S0 e F S hs=>by
 obtain ⟨z,h1,h2⟩:=Az hv;obtain ⟨d,S',h3,h4,rfl⟩:=h z h1 S0 e F S hs;unfold MN at h2;split at h2
 ·rename_i hz
  cases h2;refine ⟨HV (KO z),S',?_,h4,λ_ _ _ _=>?_⟩
  ·unfold Td
   rw [h3];dsimp only [Res.bind];rw [qX hz]
  ·show some (KO z)=_
   unfold KO signs;rw [BE];rfl
 ·cases h2
def HI (l:List α):List (Int×α):=l.zipIdx.map λx=>(((x.2+2:Nat):Int),x.1)
theorem SM (l:List α):IY (l.map enc)=(HI l).map (eP D.int enc):=by
 unfold IY HI;rw [BE,List.zipIdx_map,BE];rfl
theorem V5 {pl:Option (List α)} (ha:VE A a (rN (oL enc)) pl):VI A (Lb a) (eP D.int enc) (pl.bind λl=>some (HI l)):=λv hv S0 e F S hs=>by
 obtain ⟨l,h1,h2⟩:=Az hv;cases h2;obtain ⟨d,S',h3,h4,n,rfl,h5,h6⟩:=ha l h1 S0 e F S hs
 have vl:∀S2:Sto,S2[n]?=some (oL enc l)->Fg (.ref n) S2=some (l.map enc):=λS2 h=>by unfold Fg;dsimp only;rw [h];rfl
 refine ⟨L6 (Fg (.ref n)),S',?_,h4,λF2 S2 hF h=>?_⟩
 ·unfold Lb
  rw [h3];dsimp only [Res.bind];rw [vl S' h6]
 ·unfold L6
  rw [vl S2 (h n _ (hF _ _ (J1 h5 h6)))];show some (IY (l.map enc))=_;rw [SM]
theorem Tb:∀a b:List Int,HT.lexLt a b=Srt.ltL a b
 | [],[]=>rfl
 | [],_ :: _=>rfl
 | _ :: _,[]=>rfl
 | x :: a,y :: b=>by
  unfold HT.lexLt Srt.ltL;rw [Tb a b]
theorem ah {pa pb:Option (List Int)} (ha:VE A a (rV (eT D.int)) pa) (hb:VE A b (rV (eT D.int)) pb):VE A (m2 ltT a b) (rV D.bl) (pa.bind λx=>pb.bind λy=>some (HT.lexLt x y)):=λv hv S0 e F S hs=>by
 obtain ⟨x,h1,hv⟩:=Az hv;obtain ⟨y,h2,h3⟩:=Az hv;cases h3;obtain ⟨d1,S1,q1,k1,rfl⟩:=ha x h1 S0 e F S hs;obtain ⟨d2,S2,q2,k2,rfl⟩:=hb y h2 S0 e _ S1 (hs.grow k1);refine ⟨_,S2,D8 q1 q2 (d:=.bl (HT.lexLt x y)) ?_,k1.trans k2,rfl⟩;show (match EA (x.map D.int),EA (y.map D.int) with | some ns,some ms=>Res.ok (D.bl (HT.lexLt ns ms)) S2 | _,_=>.bad)=_;rw [ID,ID]
theorem Xl {n:Nat}:EqN n (eO D.int):=λx y=>by
 cases x with
 | none=>
  cases y with
  | none=>cases n <;> rfl
  | some y=>cases n <;> rfl
 | some x=>
  cases y with
  | none=>cases n <;> rfl
  | some y=>rw [show eqP n (eO D.int (some x)) (eO D.int (some y))=eqP n (D.int x) (D.int y) from rfl,Ed];simp
theorem LS {pl:Option (Int×Int)} (ha:VE A a (rV (eP D.int D.int)) pl):VL A (Iz a) D.int (pl.bind λx=>some [x.1,x.2]):=λv hv S0 e F S hs=>by
 obtain ⟨x,h1,h2⟩:=Az hv;cases h2;obtain ⟨d,S',h3,h4,rfl⟩:=ha x h1 S0 e F S hs;exact ⟨S',Z5 h3 rfl,h4⟩
def IB:List (List Int)->Option (List (Int×Int))
 | []=>some []
 | [x,y] :: r=>(IB r).map ((x,y) :: ·)
 | _=>none
theorem N7:∀ {rs:List (List Int)} {ps:List (Int×Int)},IB rs=some ps->rs.map (eT D.int)=ps.map (eP D.int D.int)
 | [],ps,h=>by cases h;rfl
 | [x,y] :: r,ps,h=>by
  unfold IB at h
  cases hq:IB r with
  | none=>rw [hq] at h;cases h
  | some qs=>
   rw [hq] at h;cases h;rw [Ai,Ai,N7 hq];rfl
 | [] :: r,ps,h=>by cases h
 | [_] :: r,ps,h=>by cases h
 | (_ :: _ :: _ :: _) :: r,ps,h=>by cases h
theorem V7 {pl:Option (List (List Int))} (ha:VE A a (rO (oL (eT D.int))) pl):VE A a (rO (oL (eP D.int D.int))) (pl.bind IB):=λv hv S0 e F S hs=>by
 obtain ⟨l,h1,h2⟩:=Az hv;obtain ⟨d,S',h3,h4,n,rfl,hn⟩:=ha l h1 S0 e F S hs;refine ⟨_,S',h3,h4,n,rfl,?_⟩;rw [hn];unfold oL;rw [N7 h2]
def Nc:List (Option α)->Option (List α)
 | []=>some []
 | some x :: r=>(Nc r).map (x :: ·)
 | none :: _=>none
theorem T9:∀ {rs:List (Option α)} {ps:List α},Nc rs=some ps->rs.map (eO enc)=ps.map enc
 | [],ps,h=>by cases h;rfl
 | some x :: r,ps,h=>by
  unfold Nc at h
  cases hq:Nc r with
  | none=>rw [hq] at h;cases h
  | some qs=>
   rw [hq] at h;cases h;rw [Ai,Ai,T9 hq];rfl
 | none :: r,ps,h=>by cases h
def UA (o:Option (List (Option α))):Option (Option (List α)):=match o with
 | none=>some none
 | some l=>(Nc l).map some
theorem VF.all {f:List D->Sto->Res D} {as:List Ar} {p:Option (Option (List (Option α)))} (h:VF f as (rOL (oL (eO enc))) p):VF f as (rOL (oL enc)) (p.bind UA):=λv hv S ds ha=>by
 obtain ⟨o,h1,h2⟩:=Az hv;obtain ⟨d,S',c1,k1,r1⟩:=h o h1 S ds ha
 cases o with
 | none=>cases h2;exact ⟨d,S',c1,k1,r1⟩
 | some l=>
  have h2:(Nc l).map some=some v:=h2
  cases hq:Nc l with
  | none=>rw [hq] at h2;cases h2
  | some qs=>
   rw [hq] at h2;cases h2;obtain ⟨n,e1,e2,e3⟩:=r1;refine ⟨d,S',c1,k1,n,e1,e2,?_⟩;rw [e3];unfold oL;rw [T9 hq]
theorem V0 {B:σ->List Sl} {ob:β->Ob} {i:Nat} {v:β} (h:A[i]?=some (.y (ob v))):VS A (Ei (AY i)) (rOL ob) (some (.rt (some v))) B:=λf hf S0 e F S hs=>by
 cases hf;obtain ⟨x,h1,n,rfl,h2,h3⟩:=hs.sl i _ h;exact ⟨.rt (.ref n),S,KR (WA h1),_,rfl,⟨n,rfl,h3,hs.fz _ _ h2⟩,hs.kp⟩
theorem P0 {B:σ->List Sl} {R:Rk ρ} {ob:β->Ob} {t:MT} {rest:MS} {p:Option (Option β)} {i:Nat} {qt:β->Option Bool} {q:β->Option (Fw ρ σ)} (hk:A[i]?=some .u) (h:VE A m (rOL ob) p) (ht:∀l,VB (A.set i (.y (ob l))) t (qt l)) (hr:∀l,VS (A.set i (.y (ob l))) rest R (q l) B) :
  VS A (Bh (DM i m) (Bh (sIf (mOr (mB (m2 (XT false) (AY i) (mC .non))) t) Yl sNx) rest)) R (p.bind λo=>o.bind λl=>(qt l).bind λb=>if b=true then none else q l) B:=λf hf S0 e F S hs=>by
 obtain ⟨o,h1,h2⟩:=Az hf;obtain ⟨l,rfl,h3⟩:=Az h2;obtain ⟨b,h4,h5⟩:=Az h3;obtain ⟨d,S',c1,k1,n,rfl,hn,hb⟩:=h _ h1 S0 e F S hs;have g:=hs.grow k1;have s1:DM i m e S=.ok (.nx (e.set i (some (.ref n)))) S':=KP c1;obtain ⟨xk,ek,_⟩:=hs.sl i _ hk;have hkl:=(AJ.mp ek).1
 have vk:(e.set i (some (D.ref n)))[i]?=some (some (.ref n)):=by rw [A7 hkl]
 have t1:mB (m2 (XT false) (AY i) (mC .non)) (e.set i (some (.ref n))) S'=.ok false S':=Q4 (D8 (WA vk) rfl rfl);have g2:=g.set (a:=.y (ob l)) (x:=some (.ref n)) i ⟨n,rfl,J1 hn hb,Aq hs.kp.1 hn⟩;obtain ⟨S2,c2,k2⟩:=ht l b h4 S0 _ _ S' g2
 cases b with
 | true=>rw [qX rfl] at h5;cases h5
 | false=>
  rw [qY AW] at h5;obtain ⟨h6,S3,c3,g3⟩:=hr l f h5 S0 _ _ S2 (g2.grow k2);exact ⟨h6,S3,(C0 s1).trans ((C0 (e1:=e.set i (some (.ref n))) ((Jq ((Ru t1).trans c2)).trans ((qY AW).trans rfl))).trans c3),g3.up ((hs.fle S').trans (g2.fle S2))⟩
end
end L4
namespace M
open PySem PySem.Spec PyProof.Rows L2
abbrev oN(e:L2.Lo)(S:L2.Sto):L2.Res L2.Fl:=.ok (.nx e) S
abbrev sR(n:Nat):Option L2.D:=some (.ref n)
abbrev sI(i:Int):Option L2.D:=some (.int i)
abbrev sF(l:List Int):Option L2.D:=some (.fro (l.map L2.D.int))
def top (i:Nat):CW:=aQ.main.body.getD i (.Pass ⟨0,0,0,0⟩)
structure Wd where
 BadPlaces:AE
 BadTie:AE
 Web:AE
def Wd.excs (W:Wd):List AE:=[W.BadPlaces,W.BadTie]
abbrev Ca:CW:=top 8
abbrev CZ:CW:=top 9
abbrev ES:CW:=ZT (top 7) 0
abbrev ER:CW:=top 13
abbrev Dp:CW:=top 14
abbrev B9:CW:=top 15
abbrev Gb:CW:=top 16
abbrev Cb:CW:=top 18
abbrev Cw:CW:=top 20
abbrev DL:CW:=top 21
abbrev Dq:CW:=top 22
abbrev Dr:CW:=top 23
abbrev N2:CW:=top 24
def NA (W:Wd):MS:=
  (Bh (DM 2 W7)
  (Bh (MQ (GB (AY 1)) (HW 2 (CS (tgN 3) (CS (tgN 4) Hw)))
  (Bh (DM 5 (Iy (Al (mQ OC (Al (AY 3) (Al (AY 4) BZ))) (Al (mQ OD (Al (AY 3) (Al (AY 4) BZ))) BZ))))
  (Bh (sIf (mB (m2 (eqD false) (m2 ixA (AY 5) (mC (.int 0))) (m2 ixA (AY 5) (mC (.int 1))))) (DW W.BadTie (Al (mC (.str "a tie has one place twice")) BZ)) sNx)
  (Bh (sIf (mOr (mB (m2 ltD (m2 ixA (AY 5) (mC (.int 0))) (mC (.int 0)))) (mB (m2 geD (m2 ixA (AY 5) (mC (.int 1))) (AY 0)))) (DW W.BadTie (Al (mC (.str "a tie has a place that is not there")) BZ)) sNx)
  (Bh (sIf (mB (m2 (inA false) (AY 5) (AY 2))) (DW W.BadTie (Al (mC (.str "a tie is there twice")) BZ)) sNx)
  (MR (AY 2) (AY 5) (mC (.bl true))))))))
  (Ei (Ew (Ec (AY 2))))))
def EC (W:Wd):List D->Sto->Res D:=F0 6 (NA W)
def IP (W:Wd):MS:=
  (Bh (DM 2 (Gh (E1 1 (iR1 (Al (AY 0) BZ)) (tgN 0) Gp (Gh (FI BZ)))))
  (Bh (MQ (GB (AY 1)) (HW 2 (CS (tgN 3) (CS (tgN 4) Hw)))
  (Bh (Gc (Mi (m2 ixA (AY 2) (AY 3)) (AY 4)))
  (Gc (Mi (m2 ixA (AY 2) (AY 4)) (AY 3)))))
  (Ei (Ew (Gh (E1 1 (GB (AY 2)) (tgN 0) Gp (Ew (Ec (AY 0)))))))))
def EB (W:Wd):List D->Sto->Res D:=F0 5 (IP W)
def NB (W:Wd):MS:=
  (Bh (sIf (KZ (mB (m3 leD leD (mC (.int 1)) (AY 1) (mC (.int 60))))) (DW W.BadPlaces (Al (OF (HX (mC (.str "a web has 1 to ")) (HX (R4 (mC (.int 60))) (HX (mC (.str " places")) Uv)))) BZ)) sNx)
  (Bh (N3 W.Web "places" (AY 0) (AY 1))
  (Bh (N3 W.Web "ties" (AY 0) (D7 2 (EC W) (Al (AY 1) (Al (AY 2) BZ))))
  (N3 W.Web "near_sets" (AY 0) (D7 2 (EB W) (Al (AY 1) (Al (LK W.Web "ties" (AY 0)) BZ)))))))
def FN (W:Wd):List D->Sto->Res D:=F0 3 (NB W)
def JD (W:Wd):MS:=
  (Bh (DM 1 (LK W.Web "places" (AY 0)))
  (Bh (DM 2 (Gh (FI (Al (OF (HX (mC (.str "places ")) (HX (R4 (AY 1)) Uv))) BZ))))
  (Bh (Gc (Jm (AY 2) (Gh (E1 2 (GB (LK W.Web "ties" (AY 0))) (HW 2 (CS (tgN 0) (CS (tgN 1) Hw))) Gp (OF (HX (mC (.str "tie ")) (HX (R4 (AY 0)) (HX (mC (.str " ")) (HX (R4 (AY 1)) Uv)))))))))
  (Ei (Mh (mC (.str "\n")) (AY 2))))))
def HF (W:Wd):List D->Sto->Res D:=F0 3 (JD W)
def IN (W:Wd):MS:=
  (Bh (sIf (mOr (KZ (mB (m3 leD leD (mC (.int 1)) (Qb (AY 0)) (mC (.int 2))))) (KZ (mB (mQ Zs (Iz (Gh (E1 1 (Td (AY 0)) (tgN 0) Gp (m2 (inS false) (AY 0) (mC (.str "0123456789")))))))))) (Ei (mC .non)) sNx)
  (Bh (sIf (NX (mB (m2 gtD (Qb (AY 0)) (mC (.int 1)))) (mB (m2 (eqD false) (m2 ixS (AY 0) (mC (.int 0))) (mC (.str "0"))))) (Ei (mC .non)) sNx)
  (Ei (Ta (AY 0)))))
def IG (W:Wd):List D->Sto->Res D:=F0 1 (IN W)
def EX (W:Wd):MS:=
  (Bh (DM 3 (Jl (AY 0) (mC (.str " "))))
  (Bh (DM 4 (Gh (E1 1 (GB (HC (AY 3) (Kq (mC (.int 1))) QU)) (tgN 0) Gp (D7 1 (IG W) (Al (AY 0) BZ)))))
  (Bh (sIf (mOr (mB (m2 (eqD true) (m2 ixA (AY 3) (mC (.int 0))) (AY 1))) (mOr (mB (m2 (eqD true) (PD (AY 4)) (AY 2))) (mB (m2 (inA false) (mC .non) (AY 4))))) (Ei (mC .non)) sNx)
  (Ei (AY 4)))))
def Cd (W:Wd):List D->Sto->Res D:=F0 5 (EX W)
def M9 (W:Wd):MS:=
  (Bh (DM 1 (Jl (AY 0) (mC (.str "\n"))))
  (Bh (DM 2 (D7 3 (Cd W) (Al (m2 ixA (AY 1) (mC (.int 0))) (Al (mC (.str "places")) (Al (mC (.int 1)) BZ)))))
  (Bh (sIf (mOr (mB (m2 (XT false) (AY 2) (mC .non))) (KZ (mB (m3 leD leD (mC (.int 1)) (m2 ixA (AY 2) (mC (.int 0))) (mC (.int 60)))))) Yl sNx)
  (Bh (DM 3 (Gh (FI (Al (Iy (Al (Uq (mC (.int 1))) (Al (Uq (mC (.int 1))) BZ))) BZ))))
  (Bh (MQ (Lb (HC (AY 1) (Kq (mC (.int 1))) QU)) (HW 2 (CS (tgN 4) (CS (tgN 5) Hw)))
  (Bh (DM 6 (D7 3 (Cd W) (Al (AY 5) (Al (mC (.str "tie")) (Al (mC (.int 2)) BZ)))))
  (Bh (sIf (mOr (mB (m2 (XT false) (AY 6) (mC .non))) (mOr (KZ (mB (m3 ltD ltD (m2 ixA (AY 6) (mC (.int 0))) (m2 ixA (AY 6) (mC (.int 1))) (m2 ixA (AY 2) (mC (.int 0)))))) (KZ (mB (m2 ltT (m2 ixA (AY 3) (Uq (mC (.int 1)))) (Ew (AY 6))))))) Yl sNx)
  (Gc (Mi (AY 3) (Ew (AY 6)))))))
  (Ei (Mg W.Web 3 (FN W) (Al (m2 ixA (AY 2) (mC (.int 0))) (Al (HC (AY 3) (Kq (mC (.int 1))) QU) BZ)))))))))
def M1 (W:Wd):List D->Sto->Res D:=F0 7 (M9 W)
def FR (W:Wd):MS:=
  (Bh (sIf (mB (m2 ltD (AY 1) (PD (AY 0)))) (Ei (m2 ixA (AY 0) (AY 1))) sNx)
  (Ei (mC (.int 0))))
def FM (W:Wd):List D->Sto->Res D:=F0 2 (FR W)
def GD (W:Wd):MS:=
  (Bh (DM 1 (D7 2 (FM W) (Al (AY 0) (Al (mC (.int 0)) BZ))))
  (Ei (m2 X1 (mC (.int 1)) (m2 ixA (Gh (FI (Al (m2 Mf (m2 IF (AY 1) (mC (.int 4))) (mC (.int 7))) (Al (m2 Mf (m2 IF (AY 1) (mC (.int 4))) (mC (.int 9))) (Al (m2 Mf (m2 IF (AY 1) (mC (.int 4))) (mC (.int 20))) (Al (m2 Mf (m2 IF (AY 1) (mC (.int 4))) (mC (.int 60))) BZ)))))) (m2 Mf (AY 1) (mC (.int 4)))))))
def GC (W:Wd):List D->Sto->Res D:=F0 2 (GD W)
def HK (W:Wd):MS:=
  (Bh (DM 2 (Gh (FI BZ)))
  (Bh (MQ (GB (HC (AY 0) (Kq (mC (.int 1))) (Kq (mC (.int 63))))) (tgN 3)
  (MQ (iR1 (Al (mC (.int 2)) BZ)) (tgN 4)
  (Bh (DM 5 (m2 Mf (AY 3) (AY 1)))
  (Bh (DM 6 (m2 Mf (m2 IF (AY 3) (AY 1)) (AY 1)))
  (Bh (DM 3 (m2 IF (m2 IF (AY 3) (AY 1)) (AY 1)))
  (sIf (NX (mB (m2 (eqD true) (AY 5) (AY 6))) (NX (mB (m2 (inA true) (Iy (Al (AY 5) (Al (AY 6) BZ))) (AY 2))) (mB (m2 (inA true) (Iy (Al (AY 6) (Al (AY 5) BZ))) (AY 2))))) (Gc (Mi (AY 2) (Iy (Al (AY 5) (Al (AY 6) BZ))))) sNx))))))
  (Ei (AY 2))))
def HG (W:Wd):List D->Sto->Res D:=F0 7 (HK W)
def IQ (W:Wd):MS:=
  (Ei (Ew (Ec (Gh (E1 1 (GB (AY 0)) (tgN 0) Gp (Iy (Al (mQ TY (Iz (AY 0))) (Al (mQ TZ (Iz (AY 0))) BZ))))))))
def IH (W:Wd):List D->Sto->Res D:=F0 1 (IQ W)
def IR (W:Wd):MS:=
  (Bh (DM 2 (Gh (FI (Al (m2 SW (mC (.str "places ")) (OE (AY 0))) BZ))))
  (Bh (MQ (GB (Ec (Gh (E1 1 (GB (AY 1)) (tgN 0) Gp (Iy (Al (mQ TY (Iz (AY 0))) (Al (mQ TZ (Iz (AY 0))) BZ))))))) (HW 2 (CS (tgN 3) (CS (tgN 4) Hw)))
  (Gc (Mi (AY 2) (m2 SW (m2 SW (m2 SW (mC (.str "tie ")) (OE (AY 3))) (mC (.str " "))) (OE (AY 4))))))
  (Ei (AY 2))))
def II (W:Wd):List D->Sto->Res D:=F0 5 (IR W)
def Xy (W:Wd):MS:=
  (Bh (DM 1 (D7 1 (GC W) (Al (AY 0) BZ)))
  (Bh (DM 2 (D7 2 (HG W) (Al (AY 0) (Al (AY 1) BZ))))
  (Bh (DM 3 (Mh (mC (.str "\n")) (D7 2 (II W) (Al (AY 1) (Al (AY 2) BZ)))))
  (Bh (DM 4 (D7 1 (HF W) (Al (Mg W.Web 3 (FN W) (Al (AY 1) (Al (AY 2) BZ))) BZ)))
  (Bh (sIf (mOr (KZ (mB (mIs (isB "str") (λ_=>none) (AY 4)))) (mB (m2 (eqD true) (AY 4) (AY 3)))) (Ei (mC (.bl false))) sNx)
  (Bh (DM 5 (D7 1 (M1 W) (Al (AY 3) BZ)))
  (Bh (sIf (mOr (KZ (mB (ZN W.Web (AY 5)))) (mOr (mB (m2 (eqD true) (LK W.Web "places" (AY 5)) (AY 1))) (mB (m2 (eqD true) (LK W.Web "ties" (AY 5)) (D7 1 (IH W) (Al (AY 2) BZ)))))) (Ei (mC (.bl false))) sNx)
  (Ei (m2 (eqD false) (D7 1 (HF W) (Al (AY 5) BZ)) (AY 3))))))))))
def Tr (W:Wd):List D->Sto->Res D:=F0 6 (Xy W)
structure Txt (K:AA) (mg:Str->Option AB) (W:Wd) where
 d_checked_ties:Dfn K mg "checked_ties" "checked_ties" Ca ["places", "ties"]
 d_near_sets_of:Dfn K mg "near_sets_of" "near_sets_of" CZ ["places", "ties"]
 d_Web_init:Mtd K "__init__" "Web.__init__" ES ["self", "places", "ties"]
 d_web_text:Dfn K mg "web_text" "web_text" ER ["web"]
 d_number_in:Dfn K mg "number_in" "number_in" Dp ["word"]
 d_numbers_behind:Dfn K mg "numbers_behind" "numbers_behind" B9 ["row", "first", "many"]
 d_web_of:Dfn K mg "web_of" "web_of" Gb ["text"]
 d__law_cell_at:Dfn K mg "_law_cell_at" "_law_cell_at" Cb ["script", "k"]
 d__law_places:Dfn K mg "_law_places" "_law_places" Cw ["script"]
 d__law_pairs:Dfn K mg "_law_pairs" "_law_pairs" DL ["script", "places"]
 d__law_ties:Dfn K mg "_law_ties" "_law_ties" Dq ["pairs"]
 d__law_text:Dfn K mg "_law_text" "_law_text" Dr ["places", "pairs"]
 d_law:Dfn K mg "law" "law" N2 ["script"]
 c_Web:Own K mg "Web" W.Web d_Web_init.f
 n_Web_places:FS K W.Web "places"
 n_Web_ties:FS K W.Web "ties"
 n_Web_near_sets:FS K W.Web "near_sets"
 oi_Web:fE K W.Web
 x_BadPlaces:Xcl K mg "BadPlaces" W.BadPlaces
 x_BadTie:Xcl K mg "BadTie" W.BadTie
 nd:W.excs.Nodup
 b_all:mg "all" = none
 b_enumerate:mg "enumerate" = none
 b_int:mg "int" = none
 b_isinstance:mg "isinstance" = none
 b_len:mg "len" = none
 b_max:mg "max" = none
 b_min:mg "min" = none
 b_range:mg "range" = none
 b_sorted:mg "sorted" = none
 b_str:mg "str" = none
 b_tuple:mg "tuple" = none
 g_MOST_PLACES:∃tk,mg "MOST_PLACES" = some (.int 60 tk)
 g_FIGURES:∃tk,mg "FIGURES" = some (.str "0123456789" tk)
 g_MOST_FIGURES:∃tk,mg "MOST_FIGURES" = some (.int 2 tk)
section
variable {P:Aa} {w:As} {K:AA} {mg:Str->Option AB} {base:BG} {W:Wd}
theorem LC:CH ["places", "ties", "found", "one", "other", "tie"] ["places", "ties"] (A0 Ca):=KY
theorem LH (T:Txt K mg W):EE P w K mg base (CXG P w) 1 T.d_checked_ties.f T.d_checked_ties.fd ["places", "ties"] (spM K 2 (EC W)):=by
 refine DP (k:=0) T.d_checked_ties.F LC rfl λ_ _ _ _ _ _ hr O hu nd pn E'=>?_
 exact (Au (Du 2 nd Xd)
  (Au (Kb (B5 O).own rfl (HE (AQ (pv 1))) (Mx rfl (Df (EK 3 nd) (Df (EK 4 nd) Jv)))
  (Au (Du 5 nd (JC (Am (ZX rfl rfl T.b_min (Am (AQ (pv 3)) (Am (AQ (pv 4)) BR))) (Am (ZY rfl rfl T.b_max (Am (AQ (pv 3)) (Am (AQ (pv 4)) BR))) BR))))
  (Au (Gk (DI (Wx hu) (E2 hu (AQ (pv 5)) ge_int) (E2 hu (AQ (pv 5)) ge_int) (DX _)) (BH (Js (B5 O) rfl T.x_BadTie.xc rfl T.x_BadTie.m (Am C2 BR))) DN)
  (Au (Gk (PQ (Im (DI TU (E2 hu (AQ (pv 5)) ge_int) ge_int (DX _)) (JB (DI eK (E2 hu (AQ (pv 5)) ge_int) (AQ (pv 0)) (DX _))))) (BH (Js (B5 O) rfl T.x_BadTie.xc rfl T.x_BadTie.m (Am C2 BR))) DN)
  (Au (Gk (aC hu (AQ (pv 5)) (AQ (pv 2))) (BH (Js (B5 O) rfl T.x_BadTie.xc rfl T.x_BadTie.m (Am C2 BR))) DN)
  (BH (ZU (Cz (Nat.add_le_add_left (by decide:1<=64) _) hu) (AQ (pv 2)) (AQ (pv 5)) Xf rfl)))))))
  (BH (C1 (Gm rfl T.b_tuple (IW rfl rfl T.b_sorted (AQ (pv 2))))))))
theorem LB:CH ["places", "ties", "rows", "one", "other"] ["places", "ties"] (A0 CZ):=KY
theorem LG (T:Txt K mg W):EE P w K mg base (CXG P w) 1 T.d_near_sets_of.f T.d_near_sets_of.fd ["places", "ties"] (spM K 2 (EB W)):=by
 refine DP (k:=0) T.d_near_sets_of.F LB rfl λ_ _ _ _ _ _ hr O hu nd pn E'=>?_
 exact (Au (Tf (i:=2) (own:=["place"]) (N':=["place", "·1", "·2", "·3", "·4", "·5"]) rfl rfl nd rfl (by first | exact Se rfl | exact Pq rfl) (HJ (by kernel_rfl)) (OL rfl T.b_range (Am (AQ (pv 0)) BR)) (λ_ _ _ _ _ _=>(EK 0 (by decide +kernel:(["place", "·1", "·2", "·3", "·4", "·5"]:List Str).Nodup))) (λ_ _ _ _ _ _=>FJ) (λ_ _ _ _ _ _=>(FL (Kc BR))))
  (Au (Kb (B5 O).own rfl (HE (AQ (pv 1))) (Mx rfl (Df (EK 3 nd) (Df (EK 4 nd) Jv)))
  (Au (IV (Gn (E2 hu (AQ (pv 2)) (AQ (pv 3))) (AQ (pv 4))))
  (BH (IV (Gn (E2 hu (AQ (pv 2)) (AQ (pv 4))) (AQ (pv 3)))))))
  (BH (C1 (Gm rfl T.b_tuple (FL (Ju (own:=["row"]) (N':=["row", "·1", "·2", "·3", "·4", "·5"]) rfl (HJ (by kernel_rfl)) (HE (AQ (pv 2))) (λ_ _ _ _ _ _=>(EK 0 (by decide +kernel:(["row", "·1", "·2", "·3", "·4", "·5"]:List Str).Nodup))) (λ_ _ _ _ _ _=>FJ) (λ_ _ _ _ _ _=>(Gm rfl T.b_tuple (IW rfl rfl T.b_sorted (AQ (pv 0))))))))))))
theorem QJ:CH ["self", "places", "ties"] ["self", "places", "ties"] (A0 ES):=KY
theorem Kp (T:Txt K mg W):EE P w K mg base (CXG P w) 2 T.d_Web_init.f T.d_Web_init.fd ["self", "places", "ties"] (spM K 3 (FN W)):=by
 refine DP (k:=1) T.d_Web_init.F QJ rfl λ_ _ _ _ _ _ hr O hu nd pn E'=>?_
 exact (Au (Gk (IE (Jr N9 N9 ge_int (AQ (pv 1)) (Jy rfl T.g_MOST_PLACES.choose_spec))) (BH (Js (B5 O) rfl T.x_BadPlaces.xc rfl T.x_BadPlaces.m (Am (PV (E7 C2 (E7 (PX (Jy rfl T.g_MOST_PLACES.choose_spec)) (E7 C2 SG)))) BR))) DN)
  (Au (SF T.c_Web.cl T.n_Web_places (AQ (pv 0)) (AQ (pv 1)) rfl)
  (Au (SF T.c_Web.cl T.n_Web_ties (AQ (pv 0)) (DO (LH T) (B5 O).pass (hr.mono (by decide)) rfl T.d_checked_ties.m T.d_checked_ties.kp T.d_checked_ties.b (Am (AQ (pv 1)) (Am (AQ (pv 2)) BR))) rfl)
  (BH (SF T.c_Web.cl T.n_Web_near_sets (AQ (pv 0)) (DO (LG T) (B5 O).pass (hr.mono (by decide)) rfl T.d_near_sets_of.m T.d_near_sets_of.kp T.d_near_sets_of.b (Am (AQ (pv 1)) (Am (Mz T.c_Web.cl T.n_Web_ties (AQ (pv 0)) rfl) BR))) rfl)))))
theorem QI:CH ["web", "places", "rows"] ["web"] (A0 ER):=KY
theorem Ko (T:Txt K mg W):EE P w K mg base (CXG P w) 1 T.d_web_text.f T.d_web_text.fd ["web"] (spM K 1 (HF W)):=by
 refine DP (k:=0) T.d_web_text.F QI rfl λ_ _ _ _ _ _ hr O hu nd pn E'=>?_
 exact (Au (Du 1 nd (Mz T.c_Web.cl T.n_Web_places (AQ (pv 0)) rfl))
  (Au (Du 2 nd (FL (Kc (Am (PV (E7 C2 (E7 (PX (AQ (pv 1))) SG))) BR))))
  (Au (IV (U2 (AQ (pv 2)) (FL (Ju (own:=["one", "other"]) (N':=["one", "other", "·2", "·3", "·4"]) rfl (HJ (by kernel_rfl)) (HE (Mz T.c_Web.cl T.n_Web_ties (AQ (pv 0)) rfl)) (λ_ _ _ _ _ _=>(Mx rfl (Df (EK 0 (by decide +kernel:(["one", "other", "·2", "·3", "·4"]:List Str).Nodup)) (Df (EK 1 (by decide +kernel:(["one", "other", "·2", "·3", "·4"]:List Str).Nodup)) Jv)))) (λ_ _ _ _ _ _=>FJ) (λ_ _ _ _ _ _=>(PV (E7 C2 (E7 (PX (AQ (pv 0))) (E7 C2 (E7 (PX (AQ (pv 1))) SG))))))))))
  (BH (C1 (Ql C2 (AQ (pv 2))))))))
theorem O0:CH ["word"] ["word"] (A0 Dp):=KY
theorem O6 (T:Txt K mg W):EE P w K mg base (CXG P w) 1 T.d_number_in.f T.d_number_in.fd ["word"] (spM K 1 (IG W)):=by
 refine DP (k:=0) T.d_number_in.F O0 rfl λ_ _ _ _ _ _ hr O hu nd pn E'=>?_
 exact (Au (Gk (PQ (Im (IE (Jr N9 N9 ge_int (Tl rfl T.b_len (AQ (pv 0))) (Jy rfl T.g_MOST_FIGURES.choose_spec))) (JB (IE (SE (cS rfl rfl T.b_all (FL (Ju (own:=["sign"]) (N':=["sign", "·1"]) rfl (HJ (by kernel_rfl)) (cN (AQ (pv 0))) (λ_ _ _ _ _ _=>(EK 0 (by decide +kernel:(["sign", "·1"]:List Str).Nodup))) (λ_ _ _ _ _ _=>FJ) (λ_ _ _ _ _ _=>(Xe bu (AQ (pv 0)) (Xc rfl T.g_FIGURES.choose_spec) (by with_unfolding_all rfl))))))))))) (BH (C1 Kd)) DN)
  (Au (Gk (PQ (SD (DI eJ (Tl rfl T.b_len (AQ (pv 0))) ge_int (DX _)) (Te (DI (Wx hu) (aD br (AQ (pv 0)) ge_int) C2 (DX _))))) (BH (C1 Kd)) DN)
  (BH (C1 (ZZ rfl T.b_int (AQ (pv 0)))))))
theorem Jg:CH ["row", "first", "many", "words", "numbers"] ["row", "first", "many"] (A0 B9):=KY
theorem Fo (T:Txt K mg W):EE P w K mg base (CXG P w) 2 T.d_numbers_behind.f T.d_numbers_behind.fd ["row", "first", "many"] (spM K 3 (Cd W)):=by
 refine DP (k:=1) T.d_numbers_behind.F Jg rfl λ_ _ _ _ _ _ hr O hu nd pn E'=>?_
 exact (Au (Du 3 nd (OM (AQ (pv 0)) C2))
  (Au (Tf (i:=4) (own:=["word"]) (N':=["word", "·1", "·2", "·3", "·4", "·5"]) rfl rfl nd rfl (by first | exact Se rfl | exact Pq rfl) (HJ (by kernel_rfl)) (HE (Jx (AQ (pv 3)) (Jt ge_int) PR)) (λ_ _ _ _ _ _=>(EK 0 (by decide +kernel:(["word", "·1", "·2", "·3", "·4", "·5"]:List Str).Nodup))) (λ_ _ _ _ _ _=>FJ) (λ_ _ _ _ _ _=>(DO (O6 T) (good_none rfl).pass (hr.mono (by decide)) rfl T.d_number_in.m T.d_number_in.kp T.d_number_in.b (Am (AQ (pv 0)) BR))))
  (Au (Gk (PQ (Im (DI (N8 hu) (E2 hu (AQ (pv 3)) ge_int) (AQ (pv 1)) (DX _)) (Im (DI (N8 hu) (Xb rfl T.b_len (AQ (pv 4))) (AQ (pv 2)) (DX _)) (JB (aC hu Kd (AQ (pv 4))))))) (BH (C1 Kd)) DN)
  (BH (C1 (AQ (pv 4)))))))
theorem UY:CH ["text", "rows", "head", "ties", "number", "row", "ends"] ["text"] (A0 Gb):=KY
theorem Uj (T:Txt K mg W):EE P w K mg base (CXG P w) 4 T.d_web_of.f T.d_web_of.fd ["text"] (spM K 1 (M1 W)):=by
 refine DP (k:=3) T.d_web_of.F UY rfl λ_ _ _ _ _ _ hr O hu nd pn E'=>?_
 exact (Au (Du 1 nd (OM (AQ (pv 0)) C2))
  (Au (Du 2 nd (DO (Fo T) (B5 O).pass (hr.mono (by decide)) rfl T.d_numbers_behind.m T.d_numbers_behind.kp T.d_numbers_behind.b (Am (E2 hu (AQ (pv 1)) ge_int) (Am C2 (Am ge_int BR)))))
  (Au (Gk (PQ (Im (DI Ww (AQ (pv 2)) Kd (DX _)) (JB (IE (Jr N9 N9 ge_int (E2 hu (AQ (pv 2)) ge_int) (Jy rfl T.g_MOST_PLACES.choose_spec)))))) (BH Qk) DN)
  (Au (Du 3 nd (FL (Kc (Am (JC (Am (SI ge_int) (Am (SI ge_int) BR))) BR))))
  (Au (Kb (B5 O).own rfl (Xa rfl T.b_enumerate (Jx (AQ (pv 1)) (Jt ge_int) PR)) (Mx rfl (Df (EK 4 nd) (Df (EK 5 nd) Jv)))
  (Au (Du 6 nd (DO (Fo T) (B5 O).pass (hr.mono (by decide)) rfl T.d_numbers_behind.m T.d_numbers_behind.kp T.d_numbers_behind.b (Am (AQ (pv 5)) (Am C2 (Am ge_int BR)))))
  (Au (Gk (PQ (Im (DI Ww (AQ (pv 6)) Kd (DX _)) (Im (IE (Jr TU TU (E2 hu (AQ (pv 6)) ge_int) (E2 hu (AQ (pv 6)) ge_int) (E2 hu (AQ (pv 2)) ge_int))) (JB (IE (DI (bq hu) (E2 hu (AQ (pv 3)) (SI ge_int)) (Gm rfl T.b_tuple (AQ (pv 6))) (DX _))))))) (BH Qk) DN)
  (BH (IV (Gn (AQ (pv 3)) (Gm rfl T.b_tuple (AQ (pv 6)))))))))
  (BH (C1 (Tk T.c_Web.mk' (Kp T) (B5 O).pass (hr.mono (by decide)) rfl T.c_Web.m T.d_Web_init.b (Am (E2 hu (AQ (pv 2)) ge_int) (Am (Jx (AQ (pv 3)) (Jt ge_int) PR) BR))))))))))
theorem LD:CH ["script", "k"] ["script", "k"] (A0 Cb):=KY
theorem LJ (T:Txt K mg W):EE P w K mg base (CXG P w) 1 T.d__law_cell_at.f T.d__law_cell_at.fd ["script", "k"] (spM K 2 (FM W)):=by
 refine DP (k:=0) T.d__law_cell_at.F LD rfl λ_ _ _ _ _ _ hr O hu nd pn E'=>?_
 exact (Au (Gk (DI TU (AQ (pv 1)) (Xb rfl T.b_len (AQ (pv 0))) (DX _)) (BH (C1 (E2 hu (AQ (pv 0)) (AQ (pv 1))))) DN)
  (BH (C1 ge_int)))
theorem MP:CH ["script", "head"] ["script"] (A0 Cw):=KY
theorem Mb (T:Txt K mg W):EE P w K mg base (CXG P w) 2 T.d__law_places.f T.d__law_places.fd ["script"] (spM K 1 (GC W)):=by
 refine DP (k:=1) T.d__law_places.F MP rfl λ_ _ _ _ _ _ hr O hu nd pn E'=>?_
 exact (Au (Du 1 nd (DO (LJ T) (B5 O).pass (hr.mono (by decide)) rfl T.d__law_cell_at.m T.d__law_cell_at.kp T.d__law_cell_at.b (Am (AQ (pv 0)) (Am ge_int BR))))
  (BH (C1 (Cq bv ge_int (E2 hu (FL (Kc (Am (Cq Ix (Cq G9 (AQ (pv 1)) ge_int) ge_int) (Am (Cq Ix (Cq G9 (AQ (pv 1)) ge_int) ge_int) (Am (Cq Ix (Cq G9 (AQ (pv 1)) ge_int) ge_int) (Am (Cq Ix (Cq G9 (AQ (pv 1)) ge_int) ge_int) BR)))))) (Cq Ix (AQ (pv 1)) ge_int))))))
theorem NT:CH ["script", "places", "pairs", "cell", "turn", "one", "other"] ["script", "places"] (A0 DL):=KY
theorem NV (T:Txt K mg W):EE P w K mg base (CXG P w) 1 T.d__law_pairs.f T.d__law_pairs.fd ["script", "places"] (spM K 2 (HG W)):=by
 refine DP (k:=0) T.d__law_pairs.F NT rfl λ_ _ _ _ _ _ hr O hu nd pn E'=>?_
 exact (Au (Du 2 nd (FL (Kc BR)))
  (Au (Kb (B5 O).own rfl (HE (Jx (AQ (pv 0)) (Jt ge_int) (Jt ge_int))) (EK 3 nd)
  (BH (Kb (B5 O).own rfl (OL rfl T.b_range (Am ge_int BR)) (EK 4 nd)
  (Au (Du 5 nd (Cq Ix (AQ (pv 3)) (AQ (pv 1))))
  (Au (Du 6 nd (Cq Ix (Cq G9 (AQ (pv 3)) (AQ (pv 1))) (AQ (pv 1))))
  (Au (Du 3 nd (Cq G9 (Cq G9 (AQ (pv 3)) (AQ (pv 1))) (AQ (pv 1))))
  (BH (Gk (PQ (SD (DI (N8 hu) (AQ (pv 5)) (AQ (pv 6)) (DX _)) (SD (Qj hu (JC (Am (AQ (pv 5)) (Am (AQ (pv 6)) BR))) (AQ (pv 2))) (Te (Qj hu (JC (Am (AQ (pv 6)) (Am (AQ (pv 5)) BR))) (AQ (pv 2))))))) (BH (IV (Gn (AQ (pv 2)) (JC (Am (AQ (pv 5)) (Am (AQ (pv 6)) BR)))))) DN))))))))
  (BH (C1 (AQ (pv 2))))))
theorem O1:CH ["pairs"] ["pairs"] (A0 Dq):=KY
theorem O7 (T:Txt K mg W):EE P w K mg base (CXG P w) 1 T.d__law_ties.f T.d__law_ties.fd ["pairs"] (spM K 1 (IH W)):=by
 refine DP (k:=0) T.d__law_ties.F O1 rfl λ_ _ _ _ _ _ hr O hu nd pn E'=>?_
 exact (BH (C1 (Gm rfl T.b_tuple (IW rfl rfl T.b_sorted (FL (Ju (own:=["pair"]) (N':=["pair", "·1"]) rfl (HJ (by kernel_rfl)) (HE (AQ (pv 0))) (λ_ _ _ _ _ _=>(EK 0 (by decide +kernel:(["pair", "·1"]:List Str).Nodup))) (λ_ _ _ _ _ _=>FJ) (λ_ _ _ _ _ _=>(JC (Am (Ti rfl rfl T.b_min (AQ (pv 0))) (Am (Tj rfl rfl T.b_max (AQ (pv 0))) BR))))))))))
theorem O2:CH ["places", "pairs", "rows", "one", "other"] ["places", "pairs"] (A0 Dr):=KY
theorem O8 (T:Txt K mg W):EE P w K mg base (CXG P w) 1 T.d__law_text.f T.d__law_text.fd ["places", "pairs"] (spM K 2 (II W)):=by
 refine DP (k:=0) T.d__law_text.F O2 rfl λ_ _ _ _ _ _ hr O hu nd pn E'=>?_
 exact (Au (Du 2 nd (FL (Kc (Am (Cq LX C2 (PU rfl T.b_str (AQ (pv 0)))) BR))))
  (Au (Kb (B5 O).own rfl (HE (IW rfl rfl T.b_sorted (FL (Ju (own:=["pair"]) (N':=["pair", "·1", "·2", "·3", "·4", "·5"]) rfl (HJ (by kernel_rfl)) (HE (AQ (pv 1))) (λ_ _ _ _ _ _=>(EK 0 (by decide +kernel:(["pair", "·1", "·2", "·3", "·4", "·5"]:List Str).Nodup))) (λ_ _ _ _ _ _=>FJ) (λ_ _ _ _ _ _=>(JC (Am (Ti rfl rfl T.b_min (AQ (pv 0))) (Am (Tj rfl rfl T.b_max (AQ (pv 0))) BR)))))))) (Mx rfl (Df (EK 3 nd) (Df (EK 4 nd) Jv)))
  (BH (IV (Gn (AQ (pv 2)) (Cq LX (Cq LX (Cq LX C2 (PU rfl T.b_str (AQ (pv 3)))) C2) (PU rfl T.b_str (AQ (pv 4))))))))
  (BH (C1 (AQ (pv 2))))))
theorem bG:CH ["script", "places", "pairs", "due", "found", "again"] ["script"] (A0 N2):=KY
theorem bp (T:Txt K mg W):EE P w K mg base (CXG P w) 5 T.d_law.f T.d_law.fd ["script"] (spM K 1 (Tr W)):=by
 refine DP (k:=4) T.d_law.F bG rfl λ_ _ _ _ _ _ hr O hu nd pn E'=>?_
 exact (Au (Du 1 nd (DO (Mb T) (B5 O).pass (hr.mono (by decide)) rfl T.d__law_places.m T.d__law_places.kp T.d__law_places.b (Am (AQ (pv 0)) BR)))
  (Au (Du 2 nd (DO (NV T) (B5 O).pass (hr.mono (by decide)) rfl T.d__law_pairs.m T.d__law_pairs.kp T.d__law_pairs.b (Am (AQ (pv 0)) (Am (AQ (pv 1)) BR))))
  (Au (Du 3 nd (Ql C2 (DO (O8 T) (B5 O).pass (hr.mono (by decide)) rfl T.d__law_text.m T.d__law_text.kp T.d__law_text.b (Am (AQ (pv 1)) (Am (AQ (pv 2)) BR)))))
  (Au (Du 4 nd (DO (Ko T) (B5 O).pass (hr.mono (by decide)) rfl T.d_web_text.m T.d_web_text.kp T.d_web_text.b (Am (Tk T.c_Web.mk' (Kp T) (B5 O).pass (hr.mono (by decide)) rfl T.c_Web.m T.d_Web_init.b (Am (AQ (pv 1)) (Am (AQ (pv 2)) BR))) BR)))
  (Au (Gk (PQ (Im (IE (SE (eo (c:=.ty "str") (cv:=.type "str") (λ_ r=>r) ZS (λ_ _ z=>nomatch z) rfl T.b_isinstance (AQ (pv 4)) (ZA rfl T.b_str Lp rfl)))) (JB (DI (N8 hu) (AQ (pv 4)) (AQ (pv 3)) (DX _))))) (BH (C1 Xf)) DN)
  (Au (Du 5 nd (DO (Uj T) (B5 O).pass (hr.mono (by decide)) rfl T.d_web_of.m T.d_web_of.kp T.d_web_of.b (Am (AQ (pv 3)) BR)))
  (Au (Gk (PQ (Im (IE (SE (cQ T.oi_Web rfl T.b_isinstance (AQ (pv 5)) (O4 rfl T.c_Web.m rfl)))) (Im (DI (N8 hu) (Mz T.c_Web.cl T.n_Web_places (AQ (pv 5)) rfl) (AQ (pv 1)) (DX _)) (JB (DI (N8 hu) (Mz T.c_Web.cl T.n_Web_ties (AQ (pv 5)) rfl) (DO (O7 T) (B5 O).pass (hr.mono (by decide)) rfl T.d__law_ties.m T.d__law_ties.kp T.d__law_ties.b (Am (AQ (pv 2)) BR)) (DX _)))))) (BH (C1 Xf)) DN)
  (BH (C1 (Xe (Wx hu) (DO (Ko T) (B5 O).pass (hr.mono (by decide)) rfl T.d_web_text.m T.d_web_text.kp T.d_web_text.b (Am (AQ (pv 5)) BR)) (AQ (pv 3)) (DX _)))))))))))
end
end M
namespace M
open PySem L2
open Srt (ltL)
def pairD (x:Int×Int):D:=.tup [.int x.1,.int x.2]
def nrm (x:Int×Int):Int×Int:=(if x.2 < x.1 then x.2 else x.1,if x.2 > x.1 then x.2 else x.1)
def MW (x:Int×Int):List Int:=[x.1,x.2]
def Jo (x:Int×Int):List Key:=[.inl x.1,.inl x.2]
theorem Qe {x y:Int×Int} (h:Jo x=Jo y):x=y:=by
 unfold Jo at h;simp at h;exact Ni h.1 h.2
theorem JA:∀ns:List Int,EA (ns.map D.int)=some ns
 | []=>rfl
 | n :: ns=>by
  rw [Ai];unfold EA;rw [JA ns];rfl
theorem MU:∀rs:List (List Int),(∀r∈rs,r≠[])->Il (rs.map Ie)=some rs
 | [],_=>rfl
 | [] :: rs,h=>zX rfl (h [] Ae)
 | (n :: ns) :: rs,h=>by
  rw [Ai];unfold Ie Il;rw [JA,show Nk (λr:List Int=>D.tup (r.map D.int)) rs=rs.map Ie from rfl,MU rs λr hr=>h r (AV _ hr)]
theorem Rn (rs:List (List Int)) (h:∀r∈rs,r≠[]):Ik (rs.map Ie)=some ((IA rs).map Ie):=by
 unfold Ik
 cases rs with
 | nil=>simp [EA,IA]
 | cons r rs=>
  have:EA ((r :: rs).map Ie)=none:=rfl;rw [this,MU _ h]
theorem Ro (ns:List Int):Ik (ns.map D.int)=some ((Hz ns).map D.int):=by
 unfold Ik;rw [JA]
def Ig (ps:List (Int×Int)):List (List Key×D):=ps.map λx=>(Jo (nrm x),.bl true)
theorem W5 (ps:List (Int×Int)) (x:Int×Int):(G4 (Ig ps) (Jo (nrm x))).isSome=decide (nrm x∈ps.map nrm):=by
 unfold G4 Ig
 induction ps with
 | nil=>rfl
 | cons y ps ih=>
  rw [Ai,B2]
  by_cases e:Jo (nrm y)=Jo (nrm x)
  ·rw [wX e]
   simp [Qe e]
  ·rw [wY e]
   have e':nrm x≠nrm y:=λz=>e (by rw [z])
   simp only [Ai,Aw,e',false_or];exact ih
theorem W4 (ps:List (Int×Int)) (x:Int×Int) (h:nrm x∉ps.map nrm):MY (Ig ps) (Jo (nrm x)) (.bl true)=Ig (ps++[x]):=by
 unfold MY;rw [qY]
 ·simp [Ig]
 ·intro z
  obtain ⟨y,hy,e⟩:=List.any_eq_true.mp z;obtain ⟨a,ha,rfl⟩:=A9.mp hy;exact h (by rw [<-Qe (of_decide_eq_true e)];exact List.mem_map_of_mem ha)
theorem ef {S:Sto} {n:Nat} {kvs:List (List Key×D)} {x:Int×Int} (h:S[n]?=some (.dT kvs)) (neg:Bool):inA neg (pairD x) (.ref n) S=.ok (.bl (if neg then !(G4 kvs (Jo x)).isSome else (G4 kvs (Jo x)).isSome)) S:=by
 show IC (inD neg (pairD x) (.ref n) S) (LM neg (pairD x) (.ref n) S)=_
 have e:inD neg (pairD x) (.ref n) S=.bad:=by
  unfold inD Ga;dsimp only;rw [h]
 have e2:VH (.ref n) (pairD x) S=some (G4 kvs (Jo x)):=by
  unfold VH pairD;dsimp only;rw [h];rfl
 rw [e];show LM neg (pairD x) (.ref n) S=_;unfold LM;rw [e2]
theorem Xq {mo mi mv:ME} {e:Lo} {S:Sto} {d:Nat} {kvs:List (List Key×D)} {x:Int×Int} {v:D} (hv:mv e S=.ok v S) (ho:mo e S=.ok (.ref d) S) (hi:mi e S=.ok (pairD x) S) (h:S[d]?=some (.dT kvs)) (hl:kvs.length < sizeLine) :
  MR mo mi mv e S=.ok (.nx e) (S.set d (.dT (MY kvs (Jo x) v))):=by
 unfold MR;rw [hv];dsimp only [Res.lift];rw [ho];dsimp only [Res.lift];rw [hi];dsimp only [Res.lift]
 have:Zh (.ref d) (pairD x) v S=some (S.set d (.dT (MY kvs (Jo x) v))):=by
  unfold Zh pairD;dsimp only;rw [h];show (if kvs.length < sizeLine then some (S.set d (.dT (MY kvs (Jo x) v))) else none)=_;rw [qX hl]
 rw [this]
theorem ix0 (x:Int×Int) (S:Sto):ixA (pairD x) (.int 0) S=.ok (.int x.1) S:=rfl
theorem ix1 (x:Int×Int) (S:Sto):ixA (pairD x) (.int 1) S=.ok (.int x.2) S:=rfl
def Fit (p:Int) (x:Int×Int):Prop:=(nrm x).1≠(nrm x).2/\0<=(nrm x).1/\(nrm x).2 < p
abbrev Xz (W:Wd):MS:=Bh (DM 5 (Iy (Al (mQ OC (Al (AY 3) (Al (AY 4) BZ))) (Al (mQ OD (Al (AY 3) (Al (AY 4) BZ))) BZ))))
  (Bh (sIf (mB (m2 (eqD false) (m2 ixA (AY 5) (mC (.int 0))) (m2 ixA (AY 5) (mC (.int 1))))) (DW W.BadTie (Al (mC (.str "a tie has one place twice")) BZ)) sNx)
  (Bh (sIf (mOr (mB (m2 ltD (m2 ixA (AY 5) (mC (.int 0))) (mC (.int 0)))) (mB (m2 geD (m2 ixA (AY 5) (mC (.int 1))) (AY 0)))) (DW W.BadTie (Al (mC (.str "a tie has a place that is not there")) BZ)) sNx)
  (Bh (sIf (mB (m2 (inA false) (AY 5) (AY 2))) (DW W.BadTie (Al (mC (.str "a tie is there twice")) BZ)) sNx)
  (MR (AY 2) (AY 5) (mC (.bl true))))))
theorem WG {W:Wd} {p:Int} {t:D} {n:Nat} {S:Sto} {x:Int×Int} {z5:Option D} {ps:List (Int×Int)} (hn:S[n]?=some (.dT (Ig ps))) (hl:ps.length<=100000) :
  (Fit p x/\nrm x∉ps.map nrm->Xz W [sI p,some t,sR n,sI x.1,sI x.2,z5] S=oN [sI p,some t,sR n,sI x.1,sI x.2,some (pairD (nrm x))] (S.set n (.dT (Ig (ps++[x]))))) /\
  (¬(Fit p x/\nrm x∉ps.map nrm)->Xz W [sI p,some t,sR n,sI x.1,sI x.2,z5] S=.ok (.ex W.BadTie [sI p,some t,sR n,sI x.1,sI x.2,some (pairD (nrm x))]) S):=by
 have e0:DM 5 (Iy (Al (mQ OC (Al (AY 3) (Al (AY 4) BZ))) (Al (mQ OD (Al (AY 3) (Al (AY 4) BZ))) BZ))) [sI p,some t,sR n,sI x.1,sI x.2,z5] S =
   oN [sI p,some t,sR n,sI x.1,sI x.2,some (pairD (nrm x))] S:=
  KP (i:=5) (WF (ds:=[.int (nrm x).1,.int (nrm x).2]) (DQ (bL (ds:=[.int x.1,.int x.2]) (S1:=S) rfl rfl) (DQ (bL (ds:=[.int x.1,.int x.2]) (S1:=S) rfl rfl) rfl)) (by simp))
 have t1:=Jq (t:=mB (m2 (eqD false) (m2 ixA (AY 5) (mC (.int 0))) (m2 ixA (AY 5) (mC (.int 1))))) (a:=DW W.BadTie (Al (mC (.str "a tie has one place twice")) BZ)) (b:=sNx) (e:=[sI p,some t,sR n,sI x.1,sI x.2,some (pairD (nrm x))]) (S:=S) (S1:=S)
  (Q4 (D8 (D8 rfl rfl (ix0 _ _)) (D8 rfl rfl (ix1 _ _)) (cZ (b:=decide ((nrm x).1=(nrm x).2)) rfl)))
 have t2:mOr (mB (m2 ltD (m2 ixA (AY 5) (mC (.int 0))) (mC (.int 0)))) (mB (m2 geD (m2 ixA (AY 5) (mC (.int 1))) (AY 0))) [sI p,some t,sR n,sI x.1,sI x.2,some (pairD (nrm x))] S=.ok (decide ((nrm x).1 < 0∨p<=(nrm x).2)) S:=by
  by_cases c:(nrm x).1 < 0
  ·rw [Wt (Q4 (D8 (D8 rfl rfl (ix0 _ _)) rfl (XA (wX c))))]
   simp [c]
  ·rw [Ru (Q4 (D8 (D8 rfl rfl (ix0 _ _)) rfl (XA (wY c)))),Q4 (D8 (D8 rfl rfl (ix1 _ _)) rfl (cT (b:=decide (p<=(nrm x).2)) rfl))]
   simp [c]
 have t3:mB (m2 (inA false) (AY 5) (AY 2)) [sI p,some t,sR n,sI x.1,sI x.2,some (pairD (nrm x))] S=.ok (decide (nrm x∈ps.map nrm)) S:=by
  refine Q4 (D8 rfl rfl ?_);rw [ef hn,<-W5];rfl
 have rz:∀s:Str,DW W.BadTie (Al (mC (.str s)) BZ) [sI p,some t,sR n,sI x.1,sI x.2,some (pairD (nrm x))] S=.ok (.ex W.BadTie [sI p,some t,sR n,sI x.1,sI x.2,some (pairD (nrm x))]) S:=λs=>WZ rfl (by simp)
 constructor
 ·rintro ⟨⟨f1,f2,f3⟩,f4⟩
  rw [wY f1,qY AW] at t1;have t2':=Jq (a:=DW W.BadTie (Al (mC (.str "a tie has a place that is not there")) BZ)) (b:=sNx) t2;rw [wY (by lia),qY AW] at t2';have t3':=Jq (a:=DW W.BadTie (Al (mC (.str "a tie is there twice")) BZ)) (b:=sNx) t3;rw [wY f4,qY AW] at t3';unfold Xz;rw [C0 e0,C0 (t1.trans rfl),C0 (t2'.trans rfl),C0 (t3'.trans rfl),Xq (x:=nrm x) rfl rfl rfl hn (by unfold Ig;rw [AK];exact Cz hl (by decide)),W4 _ _ f4]
 ·intro nf
  unfold Xz;rw [C0 e0]
  by_cases f1:(nrm x).1=(nrm x).2
  ·rw [wX f1,qX rfl] at t1
   exact Rq (t1.trans (rz _))
  rw [wY f1,qY AW] at t1;rw [C0 (t1.trans rfl)];have t2':=Jq (a:=DW W.BadTie (Al (mC (.str "a tie has a place that is not there")) BZ)) (b:=sNx) t2
  by_cases f2:(nrm x).1 < 0∨p<=(nrm x).2
  ·rw [wX f2,qX rfl] at t2'
   exact Rq (t2'.trans (rz _))
  rw [wY f2,qY AW] at t2';rw [C0 (t2'.trans rfl)];have t3':=Jq (a:=DW W.BadTie (Al (mC (.str "a tie is there twice")) BZ)) (b:=sNx) t3
  by_cases f3:nrm x∈ps.map nrm
  ·rw [wX f3,qX rfl] at t3'
   exact Rq (t3'.trans (rz _))
  ·exact zX ⟨⟨f1,by lia,by lia⟩,f3⟩ nf
theorem Uy {m:ME} {e:Lo} {S S1:Sto} {d:D} {xs:List D} (h:m e S=.ok d S1) (hx:Ht d S1=some xs):GB m e S=.ok (Ht d) S1:=by
 unfold GB;rw [h];dsimp only [Res.bind];rw [hx]
def Bg (p:Int) (ps:List (Int×Int)):Prop:=(∀x∈ps,Fit p x)/\(ps.map nrm).Nodup
theorem Bg.snoc {p:Int} {ps:List (Int×Int)} {x:Int×Int}:Bg p (ps++[x])↔Bg p ps/\Fit p x/\nrm x∉ps.map nrm:=by
 unfold Bg;rw [CP,List.nodup_append]
 constructor
 ·rintro ⟨h1,h2,h3,h4⟩
  exact ⟨⟨λy hy=>h1 y (by simp [hy]),h2⟩,h1 x (by simp),λz=>h4 _ z _ (by simp) rfl⟩
 ·rintro ⟨⟨h1,h2⟩,h3,h4⟩
  refine ⟨λy hy=>?_,h2,by simp,λa ha b hb e=>?_⟩
  ·rcases BP.mp hy with hy | hy
   ·exact h1 y hy
   ·rw [A2.mp hy];exact h3
  ·simp at hb
   subst hb;subst e;exact h4 ha
theorem Bg.take {p:Int} {ps:List (Int×Int)} (h:Bg p ps) (i:Nat):Bg p (ps.take i):=by
 refine ⟨λx hx=>h.1 x (List.mem_of_mem_take hx),?_⟩;rw [aR];exact h.2.sublist (Vt _ _)
theorem take_snoc {α:Type} {l:List α} {i:Nat} {x:α} (h:l[i]?=some x):l.take (i+1)=l.take i++[x]:=by
 rw [DD,h];rfl
theorem Pe (W:Wd) {p:Int} {d:D} {S:Sto} {ps:List (Int×Int)} (hv:∀S',Keeps S S'->Ht d S'=some (ps.map pairD)) (hl:ps.length<=100000) :
  ∃f S',MQ (GB (AY 1)) (HW 2 (CS (tgN 3) (CS (tgN 4) Hw))) (Xz W) [sI p,some d,sR S.length,none,none,none] (S++[.dT []])=.ok f S' /\
   ((Bg p ps/\(∃z3 z4 z5,f=.nx [sI p,some d,sR S.length,z3,z4,z5])/\S'=S++[.dT (Ig ps)])∨(¬Bg p ps/\∃e',f=.ex W.BadTie e'/\Keeps S S')):=by
 rw [SJ (Uy (m:=AY 1) (d:=d) (S1:=S++[.dT []]) rfl (hv _ (Keeps.app _ _)))];refine Xg (xs:=ps.map pairD) (λi e S'=>(∃z3 z4 z5,e=[sI p,some d,sR S.length,z3,z4,z5])/\S'=S++[.dT (Ig (ps.take i))]/\Bg p (ps.take i)) _ ⟨⟨none,none,none,rfl⟩,by simp [Ig],by simp [Bg]⟩ ?_ ?_ ?_
 ·rintro i e S' ⟨_,rfl,_⟩
  exact hv _ (Keeps.app _ _)
 ·rintro i y e S' hy ⟨⟨z3,z4,z5,rfl⟩,rfl,af⟩
  rw [Ao] at hy
  cases hx:ps[i]? with
  | none=>rw [hx] at hy;cases hy
  | some x=>
   rw [hx] at hy;cases hy;have hlt:=(AJ.mp hx).1;refine ⟨[sI p,some d,sR S.length,sI x.1,sI x.2,z5],_,rfl,?_⟩;obtain ⟨s1,s2⟩:=WG (W:=W) (p:=p) (t:=d) (z5:=z5) (x:=x) (Ex S (.dT (Ig (ps.take i)))) (by rw [Ci];lia)
   by_cases c:Fit p x/\nrm x∉(ps.take i).map nrm
   ·refine ⟨_,_,s1 c,⟨⟨_,_,_,rfl⟩,?_,?_⟩⟩
    ·rw [take_snoc hx];simp
    ·rw [take_snoc hx];exact Bg.snoc.mpr ⟨af,c⟩
   ·refine ⟨_,_,s2 c,.inr ⟨λa=>c ?_,_,rfl,Keeps.app _ _⟩⟩
    have:=a.take (i+1);rw [take_snoc hx] at this;exact (Bg.snoc.mp this).2
 ·rintro e S' ⟨z,rfl,af⟩
  rw [AK,HQ] at *
  obtain ⟨z3,z4,z5,rfl⟩:=z;exact .inl ⟨af,⟨_,_,_,rfl⟩,rfl⟩
def Fy (ps:List (Int×Int)):List (List Int):=IA (ps.map λx=>MW (nrm x))
theorem Pf (W:Wd) {p:Int} {d:D} {S:Sto} {ps:List (Int×Int)} (hv:∀S',Keeps S S'->Ht d S'=some (ps.map pairD)) (hl:ps.length<=100000) (hf:Bg p ps) :
  ∃S',EC W [.int p,d] S=.ok (.tup ((Fy ps).map Ie)) S'/\Keeps S S':=by
 obtain ⟨f,S1,h1,⟨_,⟨z3,z4,z5,rfl⟩,rfl⟩ | ⟨h,_⟩⟩:=Pe W hv hl (p:=p)
 ·have hi:HD (.ref S.length) (S++[.dT (Ig ps)])=some ((ps.map λx=>MW (nrm x)).map Ie):=by
   unfold HD;dsimp only;rw [Ex];dsimp only;unfold Ig;rw [BE,BE];rfl
  have hs:=KM (m:=AY 2) (e:=[sI p,some d,sR S.length,z3,z4,z5]) (S:=S++[.dT (Ig ps)]) rfl hi (Rn _ (by intro r hr;obtain ⟨x,_,rfl⟩:=A9.mp hr;simp [MW]));refine ⟨S++[.dT (Ig ps)]++[.lst ((Fy ps).map Ie)],Rr ?_,(Keeps.app S _).trans (Keeps.app _ _)⟩;refine Hj (C0 (e:=[sI p,some d,none,none,none,none]) (e1:=[sI p,some d,sR S.length,none,none,none]) (S:=S) (S1:=S++[.dT []]) rfl) ?_;refine Hj (C0 h1) ?_;exact KR (Jb hs (Dd (Ex _ _)))
 ·exact zX hf h
end M
namespace M
open PySem L2
def Cp (ts:List (Int×Int)) (x:Nat):List Int:=ts.flatMap λt=>(if t.1=(x:Int) then [t.2] else [])++(if t.2=(x:Int) then [t.1] else [])
theorem QX (ts:List (Int×Int)) (t:Int×Int) (x:Nat):Cp (ts++[t]) x=Cp ts x++((if t.1=(x:Int) then [t.2] else [])++(if t.2=(x:Int) then [t.1] else [])):=by
 unfold Cp;rw [List.flatMap_append];simp
def D2 (p:Nat) (F:Nat->List Int):Sto:=(Be p).map λx=>Ob.lst ((F x).map D.int)
def DH (k p:Nat):List D:=(Be p).map λx=>D.ref (k+x)
def stN (S:Sto) (p:Nat) (F:Nat->List Int):Sto:=S++D2 p F++[.lst (DH S.length p)]
theorem FG (p:Nat) (F:Nat->List Int):(D2 p F).length=p:=by simp [D2]
theorem Ou (S:Sto) (p:Nat) (F:Nat->List Int):(stN S p F).length=S.length+p+1:=by simp [stN,FG];lia
theorem KL (S:Sto) (p:Nat) (F:Nat->List Int):Keeps S (stN S p F):=(Keeps.app S _).trans (Keeps.app _ _)
theorem Hx (S:Sto) (p:Nat) (F:Nat->List Int):(stN S p F)[S.length+p]?=some (.lst (DH S.length p)):=by
 have:S.length+p=(S++D2 p F).length:=by simp [FG]
 unfold stN;rw [this];exact Ex _ _
theorem G6 (S:Sto) {p a:Nat} (F:Nat->List Int) (h:a < p):(stN S p F)[S.length+a]?=some (.lst ((F a).map D.int)):=by
 unfold stN;rw [BJ,A5 (by lia),Ad (by rw [FG];lia),show S.length+a - S.length=a by lia];unfold D2;rw [Ao,Dh h];rfl
theorem TC (S:Sto) {p a:Nat} (F:Nat->List Int) (ys:List Int) (h:a < p):(stN S p F).set (S.length+a) (.lst (ys.map D.int))=stN S p (λx=>if x=a then ys else F x):=by
 apply GU
 intro j
 by_cases e:S.length+a=j
 ·subst e
  rw [A7 (by rw [Ou];lia),G6 _ _ h,qX rfl]
 ·rw [BC e]
  by_cases h1:j < S.length
  ·rw [(KL S p F).2 j h1,(KL S p _).2 j h1]
  by_cases h2:j - S.length < p
  ·have e2:j=S.length+(j - S.length):=by lia
   rw [e2,G6 S F h2,G6 S _ h2,qY (by lia)]
  by_cases h3:j=S.length+p
  ·subst h3
   rw [Hx,Hx]
  ·rw [CJ (by rw [Ou];lia),CJ (by rw [Ou];lia)]
theorem Tc {S:Sto} {p a:Nat} (F:Nat->List Int) (h:a < p):ixA (.ref (S.length+p)) (.int a) (stN S p F)=.ok (.ref (S.length+a)) (stN S p F):=by
 show IC (ixD _ _ _) _=_;have e1:Ga (.ref (S.length+p)) (stN S p F)=some (DH S.length p):=Dd (Hx S p F)
 have e2:atI (DH S.length p) (a:Int)=some (.ref (S.length+a)):=by
  unfold atI ixN;rw [show (DH S.length p).length=p by simp [DH],qX (by lia),qX (by lia)];simp only [AL,Bj];unfold DH;rw [Ao,Dh h];rfl
 have:ixD (.ref (S.length+p)) (.int a) (stN S p F)=.ok (.ref (S.length+a)) (stN S p F):=by
  unfold ixD;rw [e1];dsimp only;rw [e2]
 rw [this];rfl
theorem WM (S:Sto):∀p:Nat,S++D2 (p+1) (λ_=>[])=S++D2 p (λ_=>[])++[.lst []]:=λp=>by
 unfold D2;rw [NE,CP,BJ];rfl
theorem Ua {p:Nat} (hp:p<=60) {mp:ME} {e:Lo} {S:Sto} (h0:mp e S=.ok (.int p) S) :
  E1 1 (iR1 (Al mp BZ)) (tgN 0) Gp (Gh (FI BZ)) e S=.ok (DH S.length p) (S++D2 p λ_=>[]):=by
 have hi:iR1 (Al mp BZ) e S=.ok (HV (Gf 0 p)) S:=by
  have:=XW (ml:=Al mp BZ) (e:=e) (S:=S) (S1:=S) (j:=p) (DQ h0 rfl) (by lia) (by lia);simpa using this
 obtain ⟨r,S1,q1,e',⟨z,_⟩,rfl,rfl⟩:=T0 (v:=HV (Gf 0 p)) (g:=tgN 0) (c:=Gp) (m:=Gh (FI BZ)) (xs:=Gf 0 p) (e:=none :: e) (S:=S)
  (λi e' S' acc=>(∃z,e'=z :: e)/\S'=S++D2 i (λ_=>[])/\acc=DH S.length i)
  ⟨⟨none,rfl⟩,by simp [D2],rfl⟩ (λ_ _ _ _ _=>rfl)
  (by
   rintro i d e' S' acc hd ⟨⟨z,rfl⟩,rfl,rfl⟩;obtain ⟨hi,rfl⟩:=WU hd;refine ⟨by simp [DH];exact Cz (m:=60) (by lia) (by decide),some (.int (0+i)) :: e,_,rfl,true,_,rfl,.inl ⟨rfl,.ref (S++D2 i λ_=>[]).length,_,rfl,⟨_,rfl⟩,(WM S i).symm,?_⟩⟩;unfold DH;rw [NE,CP,At,FG]
   rfl)
 rw [Uc] at q1;exact (Pc hi).trans q1
abbrev T7:MS:=Bh (Gc (Mi (m2 ixA (AY 2) (AY 3)) (AY 4))) (Gc (Mi (m2 ixA (AY 2) (AY 4)) (AY 3)))
def In (p:Nat) (t:Int×Int):Prop:=0<=t.1/\t.1 < p/\0<=t.2/\t.2 < p/\t.1≠t.2
theorem UZ {p:Nat} {S:Sto} {F:Nat->List Int} {t:Int×Int} {d0 d1:D} (ht:In p t) (hF:∀x,(F x).length < 200000) :
  T7 [some d0,some d1,sR (S.length+p),sI t.1,sI t.2] (stN S p F)=.ok (.nx [some d0,some d1,sR (S.length+p),sI t.1,sI t.2])
   (stN S p λx=>F x++((if t.1=(x:Int) then [t.2] else [])++(if t.2=(x:Int) then [t.1] else []))):=by
 obtain ⟨a,ha⟩:∃a:Nat,t.1=a:=⟨t.1.toNat,by have:=ht.1;lia⟩
 obtain ⟨b,hb⟩:∃b:Nat,t.2=b:=⟨t.2.toNat,by have:=ht.2.2.1;lia⟩
 obtain ⟨_,h2,_,h4,h5⟩:=ht
 have hab:a≠b:=λe=>h5 (by rw [ha,hb,e])
 rw [ha,hb]
 have hz:∀x,((F x).map D.int).length < sizeLine:=λx=>by rw [AK];exact dE (hF x) (by decide)
 have s1:=SS (mo:=m2 ixA (AY 2) (AY 3)) (ma:=AY 4) (e:=[some d0,some d1,sR (S.length+p),sI a,sI b]) (S:=stN S p F) (S1:=stN S p F) (S2:=stN S p F) (n:=S.length+a) (y:=.int b) (D8 rfl rfl (Tc F (by lia))) (G6 S F (by lia)) rfl (G6 S F (by lia)) (hz a);rw [show (F a).map D.int++[D.int b]=(F a++[(b:Int)]).map D.int by simp,TC S F _ (by lia)] at s1
 have hrow:(stN S p λx=>if x=a then F a++[(b:Int)] else F x)[S.length+b]?=some (.lst ((F b).map D.int)):=by
  rw [G6 S _ (by lia),qY (Bp hab)]
 have s2:=SS (mo:=m2 ixA (AY 2) (AY 4)) (ma:=AY 3) (e:=[some d0,some d1,sR (S.length+p),sI a,sI b]) (S:=stN S p λx=>if x=a then F a++[(b:Int)] else F x) (S1:=stN S p λx=>if x=a then F a++[(b:Int)] else F x) (S2:=stN S p λx=>if x=a then F a++[(b:Int)] else F x) (n:=S.length+b) (y:=.int a) (D8 rfl rfl (Tc _ (by lia))) hrow rfl hrow (hz b);rw [show (F b).map D.int++[D.int a]=(F b++[(a:Int)]).map D.int by simp,TC S _ _ (by lia)] at s2;unfold T7;rw [C0 (Ld s1),Ld s2]
 congr 2
 funext x
 by_cases e1:x=b
 ·subst e1
  have:¬((a:Int)=(x:Int)):=by lia
  simp [this]
 ·by_cases e2:x=a
  ·subst e2
   have:¬((b:Int)=(x:Int)):=by lia
   simp [e1,this]
  ·have h1:¬((a:Int)=(x:Int)):=by lia
   have h2:¬((b:Int)=(x:Int)):=by lia
   simp [e1,e2,h1,h2]
theorem Rz (ts:List (Int×Int)) (x:Nat):(Cp ts x).length<=2 * ts.length:=by
 unfold Cp
 induction ts with
 | nil=>simp
 | cons t ts ih=>
  rw [List.flatMap_cons,At,Af]
  have:((if t.1=(x:Int) then [t.2] else [])++(if t.2=(x:Int) then [t.1] else [])).length<=2:=by split <;> split <;> simp
  lia
def Ox (p:Nat) (ts:List (Int×Int)):List D:=(Be p).map λx=>.tup ((Hz (Cp ts x)).map D.int)
theorem ZK (W:Wd) {p:Nat} (hp:p<=60) {ts:List (Int×Int)} (ht:∀t∈ts,In p t) (hl:ts.length<=90000) (S:Sto) :
  ∃S',EB W [.int p,.tup (ts.map pairD)] S=.ok (.tup (Ox p ts)) S'/\Keeps S S':=by
 have a1:=KP (i:=2) (Ry (Ua hp (mp:=AY 0) (e:=[sI p,some (.tup (ts.map pairD)),none,none,none]) (S:=S) rfl));have e1:(S++D2 p λ_=>[])++[.lst (DH S.length p)]=stN S p (Cp []):=rfl
 have e2:(S++D2 p λ_=>[]).length=S.length+p:=by simp [FG]
 rw [e1,e2] at a1
 obtain ⟨f,S1,h1,⟨z3,z4,rfl⟩,rfl⟩:=Xg (v:=HV (ts.map pairD)) (g:=HW 2 (CS (tgN 3) (CS (tgN 4) Hw))) (b:=T7) (xs:=ts.map pairD) (e:=[sI p,some (.tup (ts.map pairD)),sR (S.length+p),none,none]) (S:=stN S p (Cp []))
  (λi e S'=>(∃z3 z4,e=[sI p,some (.tup (ts.map pairD)),sR (S.length+p),z3,z4])/\S'=stN S p (Cp (ts.take i)))
  (λf S'=>(∃z3 z4,f=.nx [sI p,some (.tup (ts.map pairD)),sR (S.length+p),z3,z4])/\S'=stN S p (Cp ts))
  ⟨⟨none,none,rfl⟩,rfl⟩ (λ_ _ _ _=>rfl)
  (by
   rintro i y e S' hy ⟨⟨z3,z4,rfl⟩,rfl⟩;rw [Ao] at hy
   cases hx:ts[i]? with
   | none=>rw [hx] at hy;cases hy
   | some t=>
    rw [hx] at hy;cases hy;refine ⟨[sI p,some (.tup (ts.map pairD)),sR (S.length+p),sI t.1,sI t.2],_,rfl,_,_,UZ (ht t (DS hx)) (λx=>?_),⟨_,_,rfl⟩,?_⟩
    ·have:=Rz (ts.take i) x
     rw [Ci] at this;exact Cz (Aq this (Nat.mul_le_mul_left 2 (Aq (YH _ _) hl))) (by decide)
    ·rw [take_snoc hx,show Cp (ts.take i++[t])=_ from funext λx=>QX _ _ x])
  (by
   rintro e S' ⟨⟨z3,z4,rfl⟩,rfl⟩;rw [AK,HQ]
   exact ⟨⟨_,_,rfl⟩,rfl⟩)
 have a2:=(SJ (g:=HW 2 (CS (tgN 3) (CS (tgN 4) Hw))) (b:=T7) (Qi (m:=AY 1) (e:=[sI p,some (.tup (ts.map pairD)),sR (S.length+p),none,none]) (S:=stN S p (Cp [])) (S1:=stN S p (Cp [])) (xs:=ts.map pairD) rfl)).trans h1
 obtain ⟨r,S2,q1,e',⟨z,_⟩,K,rfl⟩:=T0 (v:=Ht (.ref (S.length+p))) (g:=tgN 0) (c:=Gp) (m:=Ew (Ec (AY 0))) (xs:=DH S.length p) (e:=[none,sI p,some (.tup (ts.map pairD)),sR (S.length+p),z3,z4]) (S:=stN S p (Cp ts))
  (λi e' S' acc=>(∃z,e'=[z,sI p,some (.tup (ts.map pairD)),sR (S.length+p),z3,z4])/\Keeps (stN S p (Cp ts)) S'/\acc=(Be i).map λx=>.tup ((Hz (Cp ts x)).map D.int))
  ⟨⟨none,rfl⟩,.refl _,rfl⟩ (λi e' S' acc h=>GX (h.2.1.at (Hx S p _)))
  (by
   rintro i d e' S' acc hd ⟨⟨z,rfl⟩,K,rfl⟩
   have hi:i < p:=by
    have:=(AJ.mp hd).1;simpa [DH] using this
   unfold DH at hd;rw [Ao,Dh hi] at hd;cases hd;have hit:HD (.ref (S.length+i)) S'=some ((Cp ts i).map D.int):=Mv (K.at (G6 S _ hi));have hs:=KM (m:=AY 0) (e:=[sR (S.length+i),sI p,some (.tup (ts.map pairD)),sR (S.length+p),z3,z4]) (S:=S') (S1:=S') rfl hit (Ro _);refine ⟨by simp;exact Cz (m:=60) (by lia) (by decide),[sR (S.length+i),sI p,some (.tup (ts.map pairD)),sR (S.length+p),z3,z4],_,rfl,true,_,rfl,.inl ⟨rfl,_,_,Jb hs (Dd (Ex _ _)),⟨_,rfl⟩,K.trans (Keeps.app _ _),?_⟩⟩;rw [NE,CP]
   rfl)
 have a3:=(Pc (n:=1) (g:=tgN 0) (c:=Gp) (m:=Ew (Ec (AY 0))) (Mw (m:=AY 2) (e:=[sI p,some (.tup (ts.map pairD)),sR (S.length+p),z3,z4]) (S:=stN S p (Cp ts)) (S1:=stN S p (Cp ts)) rfl (Hx S p _))).trans q1;rw [show (DH S.length p).length=p by simp [DH]] at a3;refine ⟨S2++[.lst (Ox p ts)],Rr ?_,((KL S p _).trans K).trans (Keeps.app _ _)⟩;unfold IP;refine Hj (C0 a1) ?_;refine Hj (C0 a2) ?_;exact KR (Jb (Ry a3) (Dd (Ex _ _)))
end M
namespace M
open PySem L2
open Srt (ltL)
def toP (r:List Int):Int×Int:=(r.getD 0 0,r.getD 1 0)
def Dl (ps:List (Int×Int)):List (Int×Int):=(Fy ps).map toP
theorem MF {ps:List (Int×Int)} {r:List Int} (h:r∈Fy ps):∃x∈ps,r=MW (nrm x):=by
 have:=(EQ _).mem_iff.mp h;obtain ⟨x,hx,rfl⟩:=A9.mp this;exact ⟨x,hx,rfl⟩
theorem Nx (ps:List (Int×Int)):(Dl ps).map MW=Fy ps:=by
 unfold Dl;rw [BE]
 conv=>rhs;rw [<-Sg (Fy ps)]
 refine B7 λr hr=>?_
 obtain ⟨x,_,rfl⟩:=MF hr;rfl
theorem Re (ps:List (Int×Int)):(Fy ps).map Ie=(Dl ps).map pairD:=by
 rw [<-Nx,BE];rfl
theorem QA {ps:List (Int×Int)} {t:Int×Int} (h:t∈Dl ps):∃x∈ps,t=nrm x:=by
 obtain ⟨r,hr,rfl⟩:=A9.mp h;obtain ⟨x,hx,rfl⟩:=MF hr;exact ⟨x,hx,rfl⟩
theorem GZ (ps:List (Int×Int)):(Dl ps).Perm (ps.map nrm):=by
 unfold Dl Fy;have:=(EQ (ps.map λx=>MW (nrm x))).map toP;refine this.trans ?_;rw [BE];exact Si rfl
theorem bw (x:Int×Int):(nrm x).1<=(nrm x).2:=by
 unfold nrm;dsimp only
 split <;> split <;> lia
theorem Fit.in {p:Nat} {x:Int×Int} (h:Fit p x):In p (nrm x):=by
 obtain ⟨h1,h2,h3⟩:=h;have:=bw x;exact ⟨h2,by lia,by lia,h3,h1⟩
theorem eQ:¬(("places" : Str) = "ties"):=by decide +kernel
theorem eR:¬(("places" : Str) = "near_sets"):=by decide +kernel
theorem eN:¬(("ties" : Str) = "near_sets"):=by decide +kernel
theorem put2 (a b:D):LF "ties" b [(("places" : Str),a)]=([("places",a),("ties",b)]:List (Str×D)):=by
 show (if ("places" : Str) = "ties" then _ else _)=_;rw [qY eQ];rfl
theorem put3 (a b c:D):LF "near_sets" c [(("places" : Str),a),("ties",b)]=([("places",a),("ties",b),("near_sets",c)]:List (Str×D)):=by
 show (if ("places" : Str) = "near_sets" then _ else _)=_;rw [qY eR]
 have:LF "near_sets" c [(("ties" : Str),b)]=([("ties",b),("near_sets",c)]:List (Str×D)):=by
  show (if ("ties" : Str) = "near_sets" then _ else _)=_;rw [qY eN];rfl
 rw [this]
theorem eX (a b c:D):([("places",a),("ties",b),("near_sets",c)]:List (Str×D)).lookup ("places" : Str)=some a:=by
 rw [Bq,show (("places" : Str)=="places")=true by decide +kernel]
theorem eW (a b c:D):([("places",a),("ties",b),("near_sets",c)]:List (Str×D)).lookup ("ties" : Str)=some b:=by
 rw [Bq,show (("ties" : Str)=="places")=false by decide +kernel];dsimp only;rw [Bq,show (("ties" : Str)=="ties")=true by decide +kernel]
theorem bz (a b:D):([("places",a),("ties",b)]:List (Str×D)).lookup ("ties" : Str)=some b:=by
 rw [Bq,show (("ties" : Str)=="places")=false by decide +kernel];dsimp only;rw [Bq,show (("ties" : Str)=="ties")=true by decide +kernel]
end M
namespace M
open PySem L2 L4
def Md (W:Wd) (w:Nat×List (Int×Int)):Ob:=.ins W.Web [("places",.int w.1),("ties",.tup (w.2.map pairD)),("near_sets",.tup (Ox w.1 w.2))]
open Classical in
def RS (x:Int) (l:List (Int×Int)):Option (Nat×List (Int×Int)):=if 1<=x/\x<=60/\Bg x l/\l.length<=90000 then some (x.toNat,Dl l) else none
section
variable {W:Wd} {A:List Sl} {a b m:ME} {p:Option (Nat×List (Int×Int))}
theorem Sz {α:Type} {f:Str} {enc:α->D} {g:Nat×List (Int×Int)->α} (h:VE A m (rO (Md W)) p) (hl:∀w,([("places",D.int w.1),("ties",.tup (w.2.map pairD)),("near_sets",.tup (Ox w.1 w.2))]:List (Str×D)).lookup f=some (enc (g w))):VE A (LK W.Web f m) (rV enc) (p.bind λw=>some (g w)):=λv hv S0 e F S hs=>by
 obtain ⟨w,h1,h2⟩:=Az hv;cases h2;obtain ⟨d,S',h3,h4,n,rfl,hn⟩:=h w h1 S0 e F S hs;exact ⟨_,S',Xi h3 hn (hl w),h4,rfl⟩
theorem Nq (h:VE A m (rO (Md W)) p):VE A (LK W.Web "places" m) (rV D.int) (p.bind λw=>some (w.1:Int)):=Sz h λw=>eX _ _ _
theorem Ss (h:VE A m (rO (Md W)) p):VE A (LK W.Web "ties" m) (rV (eT (eP D.int D.int))) (p.bind λw=>some w.2):=Sz h λw=>eW _ _ _
theorem aY (W:Wd) {p:Nat} (h1:1<=p) (hp:p<=60) {d:D} {S:Sto} {ps:List (Int×Int)} (hv:∀S',Keeps S S'->Ht d S'=some (ps.map pairD)) (hl:ps.length<=90000) (hf:Bg p ps) {e:Lo} {ml:ML} {S0:Sto} (ha:ml e S0=.ok [.int p,d] S) :
  ∃S',Mg W.Web 3 (FN W) ml e S0=.ok (.ref S.length) S'/\Keeps S S'/\S'[S.length]?=some (Md W (p,Dl ps)):=by
 have t0:KZ (mB (m3 leD leD (mC (.int 1)) (AY 1) (mC (.int 60)))) [sR S.length,sI p,some d] (S++[.ins W.Web []])=.ok false (S++[.ins W.Web []]):=
  Wz (b:=true) (Q4 (Z9 (S3:=S++[.ins W.Web []]) rfl rfl (XF (wX (by lia))) rfl (XF (wX (by lia)))))
 have hq0:(S++[Ob.ins W.Web []])[S.length]?=some (.ins W.Web []):=Ex _ _;have e1:=Oy (C:=W.Web) (f:="places") (mo:=AY 0) (mv:=AY 1) (e:=[sR S.length,sI p,some d]) (S:=S++[.ins W.Web []]) (v:=.int p) rfl rfl hq0 (by decide);have K1:Keeps S ((S++[Ob.ins W.Web []]).set S.length (.ins W.Web (LF "places" (.int p) []))):=(Keeps.app S _).set (AS _) _;generalize hS1:(S++[Ob.ins W.Web []]).set S.length (.ins W.Web (LF "places" (.int p) []))=S1 at e1 K1
 have hq1:S1[S.length]?=some (.ins W.Web [("places",.int p)]):=by rw [<-hS1];exact A7 (by simp)
 obtain ⟨S2,c2,K2⟩:=Pf W (p:=p) (d:=d) (S:=S1) (ps:=ps) (λS' k=>hv S' (K1.trans k)) (Aq hl (by decide)) hf;rw [Re] at c2;have e2:=Oy (C:=W.Web) (f:="ties") (mo:=AY 0) (mv:=D7 2 (EC W) (Al (AY 1) (Al (AY 2) BZ))) (e:=[sR S.length,sI p,some d]) (S:=S1) ((Pg rfl rfl).trans c2) rfl (K2.at hq1) (by simp);have K3:Keeps S (S2.set S.length (.ins W.Web (LF "ties" (.tup ((Dl ps).map pairD)) [("places",.int p)]))):=(K1.trans K2).set (AS _) _;rw [put2] at e2 K3;have hlt2:S.length < S2.length:=(AJ.mp (K2.at hq1)).1;generalize hS3:S2.set S.length (.ins W.Web [("places",.int p),("ties",.tup ((Dl ps).map pairD))])=S3 at e2 K3
 have hq3:S3[S.length]?=some (.ins W.Web [("places",.int p),("ties",.tup ((Dl ps).map pairD))]):=by rw [<-hS3];exact A7 hlt2
 obtain ⟨S4,c4,K4⟩:=ZK W hp (ts:=Dl ps) (λt ht=>by
  obtain ⟨x,hx,rfl⟩:=QA ht
  exact (hf.1 x hx).in) (by rw [(GZ ps).length_eq,AK];exact hl) S3
 have e3:=Oy (C:=W.Web) (f:="near_sets") (mo:=AY 0) (mv:=D7 2 (EB W) (Al (AY 1) (Al (LK W.Web "ties" (AY 0)) BZ))) (e:=[sR S.length,sI p,some d]) (S:=S3)
  ((Pg (DQ (S1:=S3) rfl (DQ (Xi rfl hq3 (bz _ _)) rfl)) rfl).trans c4) rfl (K4.at hq3) (by simp)
 have hlt4:S.length < S4.length:=(AJ.mp (K4.at hq3)).1;rw [put3] at e3;refine ⟨_,ZM ha rfl (bI (e:=[sR S.length,sI p,some d]) ?_),(K3.trans K4).set (AS _) _,A7 hlt4⟩;unfold NB;refine Hj (C0 (e:=[sR S.length,sI p,some d]) (e1:=[sR S.length,sI p,some d]) (S1:=S++[.ins W.Web []]) (Hj (Jq t0) rfl)) ?_;rw [C0 e1,C0 e2];exact e3
theorem V6 {pa:Option Int} {pl:Option (List (Int×Int))} (ha:VE A a (rV D.int) pa) (hb:VE A b (rO (oL (eP D.int D.int))) pl):VE A (Mg W.Web 3 (FN W) (Al a (Al b BZ))) (rN (Md W)) (pa.bind λx=>pl.bind λl=>RS x l):=λv hv S0 e F S hs=>by
 obtain ⟨x,h1,hv⟩:=Az hv;obtain ⟨l,h2,h3⟩:=Az hv;obtain ⟨d1,S1,q1,k1,rfl⟩:=ha x h1 S0 e F S hs;obtain ⟨d2,S2,q2,k2,n,rfl,hn⟩:=hb l h2 S0 e _ S1 (hs.grow k1);unfold RS at h3;split at h3
 ·rename_i hc
  cases h3;obtain ⟨c1,c2,c3,c4⟩:=hc;have hx:((x.toNat:Nat):Int)=x:=FV (by lia);obtain ⟨S3,h5,h6,h7⟩:=aY W (p:=x.toNat) (d:=.ref n) (S:=S2) (ps:=l) (by lia) (by lia) (λS' k=>GX (k.at hn)) c4 (by rw [hx];exact c3) (ml:=Al a (Al b BZ)) (e:=e) (S0:=S) (by rw [hx];exact DQ q1 (DQ q2 rfl));exact ⟨_,S3,h5,(k1.trans k2).trans h6,_,rfl,(k1.trans k2).1,h7⟩
 ·cases h3
end
theorem ak {W:Wd} {A:List Sl} {a:ME} {p:Option (Nat×List (Int×Int))} (h:VE A a (rO (Md W)) p):VE A (ZN W.Web a) (rV D.bl) (p.bind λ_=>some true):=λv hv S0 e F S hs=>by
 obtain ⟨w,h1,h2⟩:=Az hv;cases h2;obtain ⟨d,S',h3,h4,n,rfl,hn⟩:=h w h1 S0 e F S hs;refine ⟨_,S',?_,h4,rfl⟩;unfold ZN;rw [h3];dsimp only [Res.bind];rw [hn];unfold Md;dsimp only;rw [qX rfl]
def Fi (ED:Str):Option (Fw (Option Int) Unit):=
 CC (((((some (1:Int)).bind λx2=>((some ED).bind OG).bind λx3=>if decide (x2<=x3)=true then (some (2:Int)).bind λx4=>some (decide (x3<=x4)) else some false).bind λx5=>some (!x5)).bind λx12=>if x12=true then some true else ((((some ED).bind MN).bind λl9=>FQ l9 (λx6=>some true) (λx6=>(some x6).bind λx7=>(some ("0123456789" : Str)).bind λx8=>some (Hl x8 x7))).bind λx10=>some (x10.all id)).bind λx11=>some (!x11)).bind λx15=>if x15=true then (some none).bind λx14=>some (.rt x14) else some (.nx ())) λ_=>CC (((((some ED).bind OG).bind λx18=>(some (1:Int)).bind λx19=>some (decide (x19 < x18))).bind λx25=>if x25=true then ((some ED).bind λl23=>(some (0:Int)).bind λx24=>XR l23 x24).bind λx21=>(some ("0" : Str)).bind λx22=>some (decide (x21=x22)) else some false).bind λx28=>if x28=true then (some none).bind λx27=>some (.rt x27) else some (.nx ())) λ_=>(((some ED).bind Qh).bind λx32=>some (some x32)).bind λx33=>some (.rt x33)
def Cj (ED:Str):Option (Option Int):=KU (Fi ED)
theorem P5 (W:Wd) (ED:Str):VF (IG W) [.v (D.str ED)] (rV (eO D.int)) (Cj ED):=by
 refine Ij (n:=1) (b:=IN W) (p:=Fi ED) (B:=λ_=>[]) ?_;show VS [.v (D.str ED)] _ _ _ _;unfold IN Fi;exact (Bm (Lz (B:=(λ(_:Unit)=>[.v (D.str ED)])) (L9 (Iv (G3 (L8 T4 T4 (CM rfl) (Sx (Ax rfl)) (CM rfl)))) (Iv (G3 (aq (YU (Kl (Fx (JT (VI.k (ae (Ax rfl))) (λx6=>JY) (λx6=>(am (Ax rfl) (CM rfl))))))))))) (FD Op) (Lx (.same .nil))) (λ_=>(Bm (Lz (B:=(λ(_:Unit)=>[.v (D.str ED)])) (RZ (G3 (dS (Sx (Ax rfl)) (CM rfl))) (G3 (Z3 Lf PB (ai (Ax rfl) (CM rfl)) (CM rfl)))) (FD Op) (Lx (.same .nil))) (λ_=>(FD (YW (YZ (Ax rfl))))))))
def C5 (J5:Str) (E8:Str) (HN:Int):Option (Fw (Option (List (Option Int))) Unit):=
 CC (((some J5).bind λl2=>(some (" " : Str)).bind λx3=>Hy l2 x3).bind λx4=>some (.nx x4)) λv1=>CC ((((some v1).bind λl7=>((some (1:Int)).bind λx6=>some (some x6)).bind λx8=>(some none).bind λx9=>some (FP l7 x8 x9)).bind λl14=>FQ l14 (λx10=>some true) (λx10=>((some x10).bind λx11=>(some ()).bind λx12=>some (x11,x12)).bind λz13=>Cj z13.1)).bind λx15=>some (.nx x15)) λv5=>CC (((((some v1).bind λl18=>(some (0:Int)).bind λx19=>atI l18 x19).bind λx16=>(some E8).bind λx17=>some (!decide (x16=x17))).bind λx27=>if x27=true then some true else (((some v5).bind λx22=>some (x22.length:Int)).bind λx20=>(some HN).bind λx21=>some (!decide (x20=x21))).bind λx26=>if x26=true then some true else (some none).bind λx23=>(some v5).bind λx24=>some (inG x23 x24)).bind λx28=>if x28=true then some (.rt none) else some (.nx ())) λ_=>some (.rt (some v5))
def D6 (J5:Str) (E8:Str) (HN:Int):Option (Option (List (Option Int))):=KU (C5 J5 E8 HN)
theorem Ja (W:Wd) (J5:Str) (E8:Str) (HN:Int):VF (Cd W) [.v (D.str J5),.v (D.str E8),.v (D.int HN)] (rOL (oL (eO D.int))) (D6 J5 E8 HN):=by
 refine Ij (n:=5) (b:=EX W) (p:=C5 J5 E8 HN) (B:=λ_=>[]) ?_;show VS [.v (D.str J5),.v (D.str E8),.v (D.int HN),.u,.u] _ _ _ _;unfold EX C5;exact (Bm (JR (Np (Ax rfl) (CM rfl))) (λv1=>(Bm (JR (Fx (JT (VI.k (RW (Os (Bw rfl) (JS (CM rfl)) Om))) (λx10=>JY) (λx10=>(D1 (JZ (Ax rfl) FE) (λz13=>P5 W z13.1) (λ_=>rfl) N5))))) (λv5=>(Bm (Lz (B:=(λ(_:Unit)=>[.v (D.str J5),.v (D.str E8),.v (D.int HN),.y ((oL D.str) v1),.y ((oL (eO D.int)) v5)])) (L9 (G3 (Nr Lf PB (G2 (Bw rfl) (CM rfl)) (Ax rfl))) (L9 (G3 (Nr Ed Rx (YX (Bw rfl)) (Ax rfl))) (G3 (ao Xl Op (Bw rfl))))) Vz (Lx (.same (.same (.same (.same (.same .nil))))))) (λ_=>(V0 rfl)))))))
def Bo (row first:Str) (many:Int):Option (Option (List Int)):=(D6 row first many).bind UA
theorem GY (W:Wd) (row first:Str) (many:Int):VF (Cd W) [.v (D.str row),.v (D.str first),.v (D.int many)] (rOL (oL D.int)) (Bo row first many):=(Ja W row first many).all
def G7 (J4:(Nat×List (Int×Int))):Option (Fw Str Unit):=
 CC (((some J4).bind λx2=>some (x2.1:Int)).bind λx3=>some (.nx x3)) λv1=>CC (((((FF (some ("places " : Str)) (FF ((some v1).bind Na) Qn)) Er).bind λx5=>(some []).bind λl6=>some (x5 :: l6)).bind Jz).bind λx7=>some (.nx x7)) λv4=>CC ((((some J4).bind λx11=>some x11.2).bind λl13=>FQ l13 (λx12=>some true) (λx12=>(FF (some ("tie " : Str)) (FF ((some x12.1).bind Na) (FF (some (" " : Str)) (FF ((some x12.2).bind Na) Qn)))) Er)).bind λx9=>(Zd v4 x9).bind λl10=>some (.nx l10)) λv8=>((some ("\n" : Str)).bind λl14=>(some v8).bind λx15=>Mu l14 x15).bind λx16=>some (.rt x16)
def FH (J4:(Nat×List (Int×Int))):Option Str:=KU (G7 J4)
theorem MC (W:Wd) (J4:(Nat×List (Int×Int))):VF (HF W) [.z ((Md W) J4)] (rV D.str) (FH J4):=by
 refine Ij (n:=3) (b:=JD W) (p:=G7 J4) (B:=λ_=>[]) ?_;show VS [.z ((Md W) J4),.u,.u] _ _ _ _;unfold JD G7;exact (Bm (Hr (Nq (Sr rfl))) (λv1=>(Bm (LR (Fx (Hs (E4 (Sy (IU (CM rfl) (IU (RY (Ax rfl)) V3))) KH)))) (λv4=>(Bm (aZ rfl (Fx (V2 (VI.k (aa (Ss (Sr rfl)))) (λx12=>JY) (λx12=>(Sy (IU (CM rfl) (IU (RY (Ax rfl)) (IU (CM rfl) (IU (RY (Ax rfl)) V3)))))))) rfl) (λv8=>(FD (P3 (CM rfl) (JU rfl)))))))))
def Ji (HM:Str):Option (Fw (Nat×List (Int×Int)) Unit):=
 CC (((some HM).bind λl2=>(some ("\n" : Str)).bind λx3=>Hy l2 x3).bind λx4=>some (.nx x4)) λv1=>((((some v1).bind λl5=>(some (0:Int)).bind λx6=>atI l5 x6).bind λx7=>((some ("places" : Str)).bind λx8=>((some (1:Int)).bind λx9=>(some ()).bind λx10=>some (x9,x10)).bind λx11=>some (x8,x11)).bind λx12=>some (x7,x12)).bind λz13=>Bo z13.1 z13.2.1 z13.2.2.1).bind λx14=>x14.bind λl15=>(((some (1:Int)).bind λx19=>((some l15).bind λl17=>(some (0:Int)).bind λx18=>atI l17 x18).bind λx20=>if decide (x19<=x20)=true then (some (60:Int)).bind λx21=>some (decide (x20<=x21)) else some false).bind λx22=>some (!x22)).bind λx16=>if x16=true then none else CC (((((((some (1:Int)).bind λx24=>some (-x24)).bind λx28=>(((some (1:Int)).bind λx25=>some (-x25)).bind λx26=>(some []).bind λl27=>some (x26 :: l27)).bind λl29=>some (x28 :: l29)).bind Jz).bind λx30=>(some []).bind λl31=>some (x30 :: l31)).bind Jz).bind λx32=>some (.nx x32)) λv23=>CC ((((some v1).bind λl34=>((some (1:Int)).bind λx33=>some (some x33)).bind λx35=>(some none).bind λx36=>some (FP l34 x35 x36)).bind λx37=>some (HI x37)).bind λl70=>Hf l70 v23 λ(s38:(List (List Int))) x39=>(((some x39.2).bind λx40=>((some ("tie" : Str)).bind λx41=>((some (2:Int)).bind λx42=>(some ()).bind λx43=>some (x42,x43)).bind λx44=>some (x41,x44)).bind λx45=>some (x40,x45)).bind λz46=>Bo z46.1 z46.2.1 z46.2.2.1).bind λx47=>x47.bind λl48=>(((((some l48).bind λl50=>(some (0:Int)).bind λx51=>atI l50 x51).bind λx56=>((some l48).bind λl52=>(some (1:Int)).bind λx53=>atI l52 x53).bind λx57=>if decide (x56 < x57)=true then ((some l15).bind λl54=>(some (0:Int)).bind λx55=>atI l54 x55).bind λx58=>some (decide (x57 < x58)) else some false).bind λx59=>some (!x59)).bind λx66=>if x66=true then some true else (((some s38).bind λl63=>((some (1:Int)).bind λx62=>some (-x62)).bind λx64=>atI l63 x64).bind λx60=>(some l48).bind λx61=>some (HT.lexLt x60 x61)).bind λx65=>some (!x65)).bind λx49=>if x49=true then none else R0 (λv67=>v67) ((some l48).bind λx68=>(VY s38 x68).bind λl69=>some (.nx l69))) λs71=>(((some l15).bind λl73=>(some (0:Int)).bind λx74=>atI l73 x74).bind λx79=>(((some s71).bind λl76=>((some (1:Int)).bind λx75=>some (some x75)).bind λx77=>(some none).bind λx78=>some (FP l76 x77 x78)).bind IB).bind λx80=>RS x79 x80).bind λx81=>some (.rt x81)
def Jk (HM:Str):Option (Nat×List (Int×Int)):=KU (Ji HM)
theorem WB (W:Wd) (HM:Str):VF (M1 W) [.v (D.str HM)] (rN (Md W)) (Jk HM):=by
 refine Ij (n:=7) (b:=M9 W) (p:=Ji HM) (B:=λ_=>[]) ?_;show VS [.v (D.str HM),.u,.u,.u,.u,.u,.u] _ _ _ _;unfold M9 Ji;exact (Bm (JR (Np (Ax rfl) (CM rfl))) (λv1=>(P0 (i:=2) rfl (D1 (JZ (G2 (Bw rfl) (CM rfl)) (JZ (CM rfl) (JZ (CM rfl) FE))) (λz13=>GY W z13.1 z13.2.1 z13.2.2.1) (λ_=>rfl) Wa) (λl15=>(Iv (G3 (L8 T4 T4 (CM rfl) (G2 (Bw rfl) (CM rfl)) (CM rfl))))) (λl15=>(Bm (LR (Fx (Hs (E4 (ag (E4 (RX (CM rfl)) (E4 (RX (CM rfl)) KH))) KH)))) (λv23=>(Bm (Ol (s0:=v23) (B:=(λ(s72:(List (List Int)))=>[.v (D.str HM),.y ((oL D.str) v1),.y ((oL D.int) l15),.w 3 ((oL (eT D.int)) s72),.u,.u,.u])) (V5 (Os (Bw rfl) (JS (CM rfl)) Om)) Sm (.same (.same (.same (.same (.same (.same (.same .nil))))))) (λs38 x39=>(P0 (i:=6) rfl (D1 (JZ (Ax rfl) (JZ (CM rfl) (JZ (CM rfl) FE))) (λz46=>GY W z46.1 z46.2.1 z46.2.2.1) (λ_=>rfl) Wa) (λl48=>(L9 (Iv (G3 (L8 aE aE (G2 (Bw rfl) (CM rfl)) (G2 (Bw rfl) (CM rfl)) (G2 (Bw rfl) (CM rfl))))) (Iv (G3 (ah (G2 (JU rfl) (RX (CM rfl))) (KI (Bw rfl))))))) (λl48=>(Ly (RT rfl (KI (Bw rfl)) rfl) (λv67=>(.same (.same (.same (.same (.drop (.drop (.drop .nil))))))))))))) (λs71=>(YS (V6 (G2 (Bw rfl) (CM rfl)) (V7 (Kl (Os (JU rfl) (JS (CM rfl)) Om)))))))))))))
def D3 (Av:(List Int)) (YA:Int):Option (Fw Int Unit):=
 CC (((some YA).bind λx1=>((some Av).bind λx3=>some (x3.length:Int)).bind λx2=>some (decide (x1 < x2))).bind λx7=>if x7=true then ((some Av).bind λl4=>(some YA).bind λx5=>atI l4 x5).bind λx6=>some (.rt x6) else some (.nx ())) λ_=>(some (0:Int)).bind λx10=>some (.rt x10)
def D5 (Av:(List Int)) (YA:Int):Option Int:=KU (D3 Av YA)
theorem MD (W:Wd) (Av:(List Int)) (YA:Int):VF (FM W) [.v (eF Av),.v (D.int YA)] (rV D.int) (D5 Av YA):=by
 refine Ij (n:=2) (b:=FR W) (p:=D3 Av YA) (B:=λ_=>[]) ?_;show VS [.v (eF Av),.v (D.int YA)] _ _ _ _;unfold FR D3;exact (Bm (Lz (B:=(λ(_:Unit)=>[.v (eF Av),.v (D.int YA)])) (G3 (dQ (Ax rfl) (YY (Ax rfl)))) (FD (aj (Ax rfl) (Ax rfl))) (Lx (.same (.same .nil)))) (λ_=>(FD (CM rfl))))
def Ea (Av:(List Int)):Option (Fw Int Unit):=
 CC ((((some Av).bind λx2=>((some (0:Int)).bind λx3=>(some ()).bind λx4=>some (x3,x4)).bind λx5=>some (x2,x5)).bind λz6=>D5 z6.1 z6.2.1).bind λx7=>some (.nx x7)) λv1=>((some (1:Int)).bind λx27=>((((((some v1).bind λx8=>some (x8 / 4)).bind λx9=>some (x9 % 7)).bind λx22=>((((some v1).bind λx10=>some (x10 / 4)).bind λx11=>some (x11 % 9)).bind λx20=>((((some v1).bind λx12=>some (x12 / 4)).bind λx13=>some (x13 % 20)).bind λx18=>((((some v1).bind λx14=>some (x14 / 4)).bind λx15=>some (x15 % 60)).bind λx16=>(some []).bind λl17=>some (x16 :: l17)).bind λl19=>some (x18 :: l19)).bind λl21=>some (x20 :: l21)).bind λl23=>some (x22 :: l23)).bind Jz).bind λl25=>((some v1).bind λx24=>some (x24 % 4)).bind λx26=>atI l25 x26).bind λx28=>some (x27+x28)).bind λx29=>some (.rt x29)
def Eb (Av:(List Int)):Option Int:=KU (Ea Av)
theorem NQ (W:Wd) (Av:(List Int)):VF (GC W) [.v (eF Av)] (rV D.int) (Eb Av):=by
 refine Ij (n:=2) (b:=GD W) (p:=Ea Av) (B:=λ_=>[]) ?_;show VS [.v (eF Av),.u] _ _ _ _;unfold GD Ea;exact (Bm (Hr (D1 (JZ (Ax rfl) (JZ (CM rfl) FE)) (λz6=>MD W z6.1 z6.2.1) (λ_=>rfl) N5)) (λv1=>(FD (au (CM rfl) (G2 (Kl (Fx (Hs (E4 (JW rfl (JX rfl (Ax rfl))) (E4 (JW rfl (JX rfl (Ax rfl))) (E4 (JW rfl (JX rfl (Ax rfl))) (E4 (JW rfl (JX rfl (Ax rfl))) KH))))))) (JW rfl (Ax rfl)))))))
def E5 (Av:(List Int)) (BN:Int):Option (Fw (List (Int×Int)) Unit):=
 CC (((some []).bind Jz).bind λx2=>some (.nx x2)) λv1=>CC (((some Av).bind λl5=>((some (1:Int)).bind λx3=>some (some x3)).bind λx6=>((some (63:Int)).bind λx4=>some (some x4)).bind λx7=>some (FP l5 x6 x7)).bind λl51=>Hf l51 v1 λ(s8:(List (Int×Int))) x9=>R0 (λs49=>s49.2) (((some (2:Int)).bind Yn).bind λl48=>Hf l48 (x9,s8) λ(s10:Int×(List (Int×Int))) x11=>CC (((some s10.1).bind λx13=>(some BN).bind λx14=>W2 x13 x14).bind λx15=>some (.nx x15)) λv12=>CC ((((some s10.1).bind λx17=>(some BN).bind λx18=>OO x17 x18).bind λx19=>(some BN).bind λx20=>W2 x19 x20).bind λx21=>some (.nx x21)) λv16=>CC ((((some s10.1).bind λx23=>(some BN).bind λx24=>OO x23 x24).bind λx25=>(some BN).bind λx26=>OO x25 x26).bind λx27=>some (.nx x27)) λv22=>R0 (λs46=>(v22,s46)) ((((some v12).bind λx28=>(some v16).bind λx29=>some (!decide (x28=x29))).bind λx39=>if x39=true then (((some v12).bind λx32=>(some v16).bind λx33=>some (x32,x33)).bind λx30=>(some s10.2).bind λx31=>some (!inG x30 x31)).bind λx38=>if x38=true then ((some v16).bind λx36=>(some v12).bind λx37=>some (x36,x37)).bind λx34=>(some s10.2).bind λx35=>some (!inG x34 x35) else some false else some false).bind λx45=>if x45=true then R0 (λv40=>v40) (((some v12).bind λx43=>(some v16).bind λx44=>some (x43,x44)).bind λx41=>(VY s10.2 x41).bind λl42=>some (.nx l42)) else some (.nx s10.2)))) λs52=>some (.rt s52)
def E6 (Av:(List Int)) (BN:Int):Option (List (Int×Int)):=KU (E5 Av BN)
theorem Ot (W:Wd) (Av:(List Int)) (BN:Int):VF (HG W) [.v (eF Av),.v (D.int BN)] (rN (oL (eP D.int D.int))) (E6 Av BN):=by
 refine Ij (n:=7) (b:=HK W) (p:=E5 Av BN) (B:=λ_=>[]) ?_;show VS [.v (eF Av),.v (D.int BN),.u,.u,.u,.u,.u] _ _ _ _;unfold HK E5;exact (Bm (LR (Fx (Hs KH))) (λv1=>(Bm (Ol (s0:=v1) (B:=(λ(s53:(List (Int×Int)))=>[.v (eF Av),.v (D.int BN),.w 2 ((oL (eP D.int D.int)) s53),.u,.u,.u,.u])) (RW (Ya (Ax rfl) (JS (CM rfl)) (JS (CM rfl)))) Sn (.same (.same (.same (.same (.same (.same (.same .nil))))))) (λs8 x9=>(Ly (Ol (s0:=(x9,s8)) (B:=(λ(s50:Int×(List (Int×Int)))=>[.v (eF Av),.v (D.int BN),.w 2 ((oL (eP D.int D.int)) s50.2),.v (D.int s50.1),.u,.u,.u])) (UQ (CM rfl)) Sn (.same (.same (.same (.same (.same (.same (.same .nil))))))) (λs10 x11=>(Bm (Hr (V9 (Ax rfl) (Ax rfl))) (λv12=>(Bm (Hr (V9 (Oq (Ax rfl) (Ax rfl)) (Ax rfl))) (λv16=>(Bm (Hr (Oq (Oq (Ax rfl) (Ax rfl)) (Ax rfl))) (λv22=>(Ly (Lz (B:=(λ(s47:(List (Int×Int)))=>[.v (eF Av),.v (D.int BN),.w 2 ((oL (eP D.int D.int)) s47),.v (D.int v22),.v (D.int x11),.v (D.int v12),.v (D.int v16)])) (RZ (G3 (Nr Ed Rx (Ax rfl) (Ax rfl))) (RZ (G3 (Su (M4 Ed Ed) (JV (Ax rfl) (Ax rfl)) (JU rfl))) (G3 (Su (M4 Ed Ed) (JV (Ax rfl) (Ax rfl)) (JU rfl))))) (Ly (RT rfl (JV (Ax rfl) (Ax rfl)) rfl) (λv40=>(.same (.same (.same (.same (.same (.same (.same .nil))))))))) (Lx (.same (.same (.same (.same (.same (.same (.same .nil))))))))) (λs46=>(.same (.same (.same (.same (.drop (.drop (.drop .nil))))))))))))))))) (λs49=>(.same (.same (.same (.drop (.same (.same (.same .nil))))))))))) (λs52=>(So rfl)))))
def Fj (CG:(List (Int×Int))):Option (Fw (List (Int×Int)) Unit):=
 (((some CG).bind λl6=>FQ l6 (λx1=>some true) (λx1=>(((some x1).bind λx2=>some [x2.1,x2.2]).bind Um).bind λx4=>(((some x1).bind λx3=>some [x3.1,x3.2]).bind Uo).bind λx5=>some (x4,x5))).bind λx7=>some (Je x7)).bind λx8=>some (.rt x8)
def Fm (CG:(List (Int×Int))):Option (List (Int×Int)):=KU (Fj CG)
theorem P6 (W:Wd) (CG:(List (Int×Int))):VF (IH W) [.z ((oL (eP D.int D.int)) CG)] (rV (eT (eP D.int D.int))) (Fm CG):=by
 refine Ij (n:=1) (b:=IQ W) (p:=Fj CG) (B:=λ_=>[]) ?_;show VS [.z ((oL (eP D.int D.int)) CG)] _ _ _ _;unfold IQ Fj;exact (FD (KI (Kl (P2 (Kl (Fx (JT (VI.k (V4 rfl)) (λx1=>JY) (λx1=>(JV (Sv (LS (Ax rfl))) (Sw (LS (Ax rfl))))))))))))
def Fk (BN:Int) (CG:(List (Int×Int))):Option (Fw (List Str) Unit):=
 CC (((((some ("places " : Str)).bind λx2=>((some BN).bind MK).bind λx3=>HY x2 x3).bind λx4=>(some []).bind λl5=>some (x4 :: l5)).bind Jz).bind λx6=>some (.nx x6)) λv1=>CC ((((some CG).bind λl12=>FQ l12 (λx7=>some true) (λx7=>(((some x7).bind λx8=>some [x8.1,x8.2]).bind Um).bind λx10=>(((some x7).bind λx9=>some [x9.1,x9.2]).bind Uo).bind λx11=>some (x10,x11))).bind λx13=>some (Je x13)).bind λl25=>Hf l25 v1 λ(s14:(List Str)) x15=>R0 (λv16=>v16) (((((some ("tie " : Str)).bind λx19=>((some x15.1).bind MK).bind λx20=>HY x19 x20).bind λx21=>(some (" " : Str)).bind λx22=>HY x21 x22).bind λx23=>((some x15.2).bind MK).bind λx24=>HY x23 x24).bind λx17=>(VY s14 x17).bind λl18=>some (.nx l18))) λs26=>some (.rt s26)
def Fn (BN:Int) (CG:(List (Int×Int))):Option (List Str):=KU (Fk BN CG)
theorem P7 (W:Wd) (BN:Int) (CG:(List (Int×Int))):VF (II W) [.v (D.int BN),.z ((oL (eP D.int D.int)) CG)] (rN (oL D.str)) (Fn BN CG):=by
 refine Ij (n:=5) (b:=IR W) (p:=Fk BN CG) (B:=λ_=>[]) ?_;show VS [.v (D.int BN),.z ((oL (eP D.int D.int)) CG),.u,.u,.u] _ _ _ _;unfold IR Fk;exact (Bm (LR (Fx (Hs (E4 (LU (CM rfl) (Oo (Ax rfl))) KH)))) (λv1=>(Bm (Ol (s0:=v1) (B:=(λ(s27:(List Str))=>[.v (D.int BN),.z ((oL (eP D.int D.int)) CG),.w 2 ((oL D.str) s27),.u,.u])) (RW (P2 (Kl (Fx (JT (VI.k (V4 rfl)) (λx7=>JY) (λx7=>(JV (Sv (LS (Ax rfl))) (Sw (LS (Ax rfl)))))))))) Sm (.same (.same (.same (.same (.same .nil))))) (λs14 x15=>(Ly (RT rfl (LU (LU (LU (CM rfl) (Oo (Ax rfl))) (CM rfl)) (Oo (Ax rfl))) rfl) (λv16=>(.same (.same (.same (.drop (.drop .nil))))))))) (λs26=>(So rfl)))))
def TN (Av:(List Int)):Option (Fw Bool Unit):=
 CC ((((some Av).bind λx2=>(some ()).bind λx3=>some (x2,x3)).bind λz4=>Eb z4.1).bind λx5=>some (.nx x5)) λv1=>CC ((((some Av).bind λx7=>((some v1).bind λx8=>(some ()).bind λx9=>some (x8,x9)).bind λx10=>some (x7,x10)).bind λz11=>E6 z11.1 z11.2.1).bind λx12=>some (.nx x12)) λv6=>CC (((some ("\n" : Str)).bind λl19=>(((some v1).bind λx14=>((some v6).bind λx15=>(some ()).bind λx16=>some (x15,x16)).bind λx17=>some (x14,x17)).bind λz18=>Fn z18.1 z18.2.1).bind λx20=>Mu l19 x20).bind λx21=>some (.nx x21)) λv13=>CC (((((some v1).bind λx23=>(some v6).bind λx24=>RS x23 x24).bind λx25=>(some ()).bind λx26=>some (x25,x26)).bind λz27=>FH z27.1).bind λx28=>some (.nx x28)) λv22=>CC (((((some v22).bind λx29=>some true).bind λx30=>some (!x30)).bind λx33=>if x33=true then some true else (some v22).bind λx31=>(some v13).bind λx32=>some (!decide (x31=x32))).bind λx35=>if x35=true then (some false).bind λx34=>some (.rt x34) else some (.nx ())) λ_=>CC ((((some v13).bind λx39=>(some ()).bind λx40=>some (x39,x40)).bind λz41=>Jk z41.1).bind λx42=>some (.nx x42)) λv38=>CC (((((some v38).bind λx43=>some true).bind λx44=>some (!x44)).bind λx55=>if x55=true then some true else (((some v38).bind λx47=>some (x47.1:Int)).bind λx45=>(some v1).bind λx46=>some (!decide (x45=x46))).bind λx54=>if x54=true then some true else ((some v38).bind λx50=>some x50.2).bind λx48=>(((some v6).bind λx51=>(some ()).bind λx52=>some (x51,x52)).bind λz53=>Fm z53.1).bind λx49=>some (!decide (x48=x49))).bind λx57=>if x57=true then (some false).bind λx56=>some (.rt x56) else some (.nx ())) λ_=>((((some v38).bind λx62=>(some ()).bind λx63=>some (x62,x63)).bind λz64=>FH z64.1).bind λx60=>(some v13).bind λx61=>some (decide (x60=x61))).bind λx65=>some (.rt x65)
def Ws (Av:(List Int)):Option Bool:=KU (TN Av)
theorem dU (W:Wd) (Av:(List Int)):VF (Tr W) [.v (eF Av)] (rV D.bl) (Ws Av):=by
 refine Ij (n:=6) (b:=Xy W) (p:=TN Av) (B:=λ_=>[]) ?_;show VS [.v (eF Av),.u,.u,.u,.u,.u] _ _ _ _;unfold Xy TN;exact (Bm (Hr (D1 (JZ (Ax rfl) FE) (λz4=>NQ W z4.1) (λ_=>rfl) N5)) (λv1=>(Bm (JR (D1 (JZ (Ax rfl) (JZ (Ax rfl) FE)) (λz11=>Ot W z11.1 z11.2.1) (λ_=>rfl) Wb)) (λv6=>(Bm (Hr (P3 (CM rfl) (Kl (D1 (JZ (Ax rfl) (Yc (Bw rfl) FE)) (λz18=>P7 W z18.1 z18.2.1) (λ_=>rfl) Wb)))) (λv13=>(Bm (Hr (D1 (Yc (Kl (V6 (Ax rfl) (Bw rfl))) FE) (λz27=>MC W z27.1) (λ_=>rfl) N5)) (λv22=>(Bm (Lz (B:=(λ(_:Unit)=>[.v (eF Av),.v (D.int v1),.y ((oL (eP D.int D.int)) v6),.v (D.str v13),.v (D.str v22),.u])) (L9 (Iv (G3 (dR (T:="str") (Ax rfl) (λ_ _=>rfl) (by decide +kernel)))) (G3 (Nr Lf PB (Ax rfl) (Ax rfl)))) (FD (CM rfl)) (Lx (.same (.same (.same (.same (.same (.same .nil)))))))) (λ_=>(Bm (JR (D1 (JZ (Ax rfl) FE) (λz41=>WB W z41.1) (λ_=>rfl) Wb)) (λv38=>(Bm (Lz (B:=(λ(_:Unit)=>[.v (eF Av),.v (D.int v1),.y ((oL (eP D.int D.int)) v6),.v (D.str v13),.v (D.str v22),.y ((Md W) v38)])) (L9 (Iv (G3 (ak (Bw rfl)))) (L9 (G3 (Nr Ed Rx (Nq (Bw rfl)) (Ax rfl))) (G3 (Nr (Zf (M4 Ed Ed)) bx (Ss (Bw rfl)) (D1 (Yc (Bw rfl) FE) (λz53=>P6 W z53.1) (λ_=>rfl) N5))))) (FD (CM rfl)) (Lx (.same (.same (.same (.same (.same (.same .nil)))))))) (λ_=>(FD (Z3 Lf PB (D1 (Yc (Bw rfl) FE) (λz64=>MC W z64.1) (λ_=>rfl) N5) (Ax rfl)))))))))))))))))
def jn (c:Nat):List (List Nat)->List Nat
 | []=>[]
 | [x]=>x
 | x :: r=>x++c :: jn c r
theorem T8 {c:Nat}:∀ {x y a b:List Nat},c∉x->c∉y->x++c :: a=y++c :: b->x=y/\a=b
 | [],[],a,b,_,_,h=>⟨rfl,(Cr h).2⟩
 | [],y :: ys,a,b,_,hy,h=>zX (by rw [(Cr h).1];exact Ae) hy
 | x :: xs,[],a,b,hx,_,h=>zX (by rw [<-(Cr h).1];exact Ae) hx
 | x :: xs,y :: ys,a,b,hx,hy,h=>by
  obtain ⟨h1,h2⟩:=Cr h;obtain ⟨h3,h4⟩:=T8 (λz=>hx (AV _ z)) (λz=>hy (AV _ z)) h2;exact ⟨by rw [h1,h3],h4⟩
theorem XO {c:Nat}:∀ {xs ys:List (List Nat)},xs≠[]->ys≠[]->(∀x∈xs,c∉x)->(∀y∈ys,c∉y)->jn c xs=jn c ys->xs=ys
 | [],_,h,_,_,_,_=>zX rfl h
 | _,[],_,h,_,_,_=>zX rfl h
 | [x],[y],_,_,_,_,h=>by rw [show x=y from h]
 | [x],y :: y' :: r,_,_,hx,_,h=>by
  have h:x=y++c :: jn c (y' :: r):=h;exact zX (by rw [h];simp) (hx x Ae)
 | x :: x' :: r,[y],_,_,_,hy,h=>by
  have h:x++c :: jn c (x' :: r)=y:=h;exact zX (by rw [<-h];simp) (hy y Ae)
 | x :: x' :: r,y :: y' :: s,_,_,hx,hy,h=>by
  obtain ⟨h1,h2⟩:=T8 (hx x Ae) (hy y Ae) h;rw [h1,XO (by simp) (by simp) (λz hz=>hx z (AV _ hz)) (λz hz=>hy z (AV _ hz)) h2]
theorem Jp (c:Nat):∀ps:List Str,(By ⟨#[c]⟩ ps).cps.toList=jn c (ps.map (·.cps.toList))
 | []=>rfl
 | [x]=>rfl
 | x :: y :: r=>by
  show ((x++⟨#[c]⟩++By ⟨#[c]⟩ (y :: r)).cps).toList=_;rw [aO,aO,An,An,Jp c (y :: r)];show x.cps.toList++[c]++_=x.cps.toList++c :: _;simp
theorem Rj {c:Nat} {ps:List Str} (hne:ps≠[]) (h:∀p∈ps,c∉p.cps.toList):Dc (By ⟨#[c]⟩ ps) ⟨#[c]⟩=ps:=by
 have h1:=StrLaws.join_split (By ⟨#[c]⟩ ps) ⟨#[c]⟩;have h2:=StrLaws.split_free (By ⟨#[c]⟩ ps) c;have h3:=fH (By ⟨#[c]⟩ ps) ⟨#[c]⟩;generalize Dc (By ⟨#[c]⟩ ps) ⟨#[c]⟩=qs at h1 h2 h3
 have h4:jn c (qs.map (·.cps.toList))=jn c (ps.map (·.cps.toList)):=by rw [<-Jp,<-Jp,h1]
 have h5:=XO (by simp;intro e;rw [e] at h3;simp at h3) (by simpa using hne) (λx hx=>by
  obtain ⟨q,hq,rfl⟩:=A9.mp hx
  exact h2 q hq) (λx hx=>by
  obtain ⟨q,hq,rfl⟩:=A9.mp hx
  exact h q hq) h4
 have inj:∀ {as bs:List Str},as.map (λx:Str=>x.cps.toList)=bs.map (λx:Str=>x.cps.toList)->as=bs:=λ{as}=>by
  induction as with
  | nil=>intro bs e;cases bs with
   | nil=>rfl
   | cons _ _=>cases e
  | cons a as ih=>
   intro bs e
   cases bs with
   | nil=>cases e
   | cons b bs=>
    obtain ⟨e1,e2⟩:=Cr e;rw [ih e2,Str.ext' (Array.toList_inj.mp e1)]
 exact inj h5
theorem Kn {c:Nat} {ps:List Str} (hne:ps≠[]) (h:∀p∈ps,c∉p.cps.toList) (hl:(By ⟨#[c]⟩ ps).length<=100000):Hy (By ⟨#[c]⟩ ps) ⟨#[c]⟩=some ps:=by
 have h1:=fI (By ⟨#[c]⟩ ps) ⟨#[c]⟩;have h2:=StrLaws.occ_length_le (By ⟨#[c]⟩ ps) ⟨#[c]⟩ 0 (By ⟨#[c]⟩ ps).length ((By ⟨#[c]⟩ ps).length+1);unfold Hy Jc;rw [qX,Rj hne h];rw [fK];simp only [Br,EJ,decide_eq_true_eq];exact ⟨⟨⟨rfl,by omega⟩,by omega⟩,by omega⟩
theorem Mt (sep:Str) (k:Nat):∀ps:List Str,(∀p∈ps,p.length<=k)->(By sep ps).length<=ps.length * (k+sep.length)
 | [],_=>DV _
 | [x],h=>by
  have:=h x Ae;show x.length<=1 * _;omega
 | x :: y :: r,h=>by
  have h1:=h x Ae
  have h2:=Mt sep k (y :: r) λp hp=>h p (AV _ hp)
  show (x++sep++By sep (y :: r)).length<=_;rw [K5,K5,Af,fQ];omega
theorem joinOk_of {sep:Str} {k:Nat} {ps:List Str} (h:∀p∈ps,p.length<=k) (hl:ps.length * (k+sep.length)<=100000):Mu sep ps=some (By sep ps):=by
 have key:∀(ps:List Str) (a:Nat),(∀p∈ps,p.length<=k)->ps.foldl (λa p=>a+p.length+sep.length) a<=a+ps.length * (k+sep.length):=by
  intro ps
  induction ps with
  | nil=>intro a _;simp
  | cons x r ih=>
   intro a h;have h1:=h x Ae
   have h2:=ih (a+x.length+sep.length) λp hp=>h p (AV _ hp)
   rw [List.foldl_cons,Af,fQ];omega
 unfold Mu;rw [qX,show UI sep ps=By sep ps from StrLaws.glued_eq_join sep ps];unfold JoinOk Builtin.Str.tooLong;have:=key ps 0 h;rw [List.foldl_toArray];simp only [EJ,decide_eq_false_iff_not]
 have h3:100000<=sizeLine:=by decide
 omega
abbrev tS (n:Nat):Str:=Fa (toString (n:Int))
def dg (m:Nat):List Nat:=(Nat.toDigits 10 m).map Char.toNat
theorem cc:∀m∈Be 61,(1<=(dg m).length/\(dg m).length<=2)/\(∀c∈dg m,48<=c/\c<=57)/\(1 < (dg m).length->(dg m)[0]?≠some 48):=by decide +kernel
theorem MH (m:Nat):(tS m).cps.toList=dg m:=PySem.W.KIN.signs_num m
theorem WI (m:Nat):(tS m).length=(dg m).length:=by
 rw [<-MH,BB];rfl
theorem HA {m:Nat} (h:m < 61):1<=(tS m).length/\(tS m).length<=2:=by rw [WI];exact (cc m (Fd.mpr h)).1
theorem Wy {m c:Nat} (h:m < 61) (hc:c < 48):c∉(tS m).cps.toList:=by
 rw [MH];intro hm;have:=(cc m (Fd.mpr h)).2.1 c hm;omega
theorem figs:(("0123456789" : Str)).cps.toList=[48,49,50,51,52,53,54,55,56,57]:=by decide +kernel
theorem aX:("0" : Str)=⟨#[48]⟩:=by decide +kernel
theorem QV {m:Nat} (h:m < 61):Cj (tS m)=some (some (m:Int)):=by
 obtain ⟨⟨l1,l2⟩,hd,hz⟩:=cc m (Fd.mpr h);have hlen:=WI m
 have hs:2<=sizeLine:=by decide
 have e1:OG (tS m)=some ((dg m).length:Int):=by
  unfold OG;rw [qX (by omega),hlen]
 have e2:MN (tS m)=some ((dg m).map λc=>⟨#[c]⟩):=by
  unfold MN;rw [qX,signs,MH];rw [<-Array.all_toList,MH,DZ];intro c hc;have:=hd c hc;exact wX (by omega)
 have e3:FQ ((dg m).map λc=>(⟨#[c]⟩:Str)) (λ_=>some true) (λx6=>some (Hl ("0123456789" : Str) x6))=some (((dg m).map λc=>(⟨#[c]⟩:Str)).map λ_=>true):=by
  refine IZ (by rw [AK];omega) λx hx=>?_
  obtain ⟨c,hc,rfl⟩:=A9.mp hx;have h1:=hd c hc;unfold Hl;rw [StrLaws.found_one,figs,wX]
  have:c=48∨c=49∨c=50∨c=51∨c=52∨c=53∨c=54∨c=55∨c=56∨c=57:=by omega
  rcases this with rfl | rfl | rfl | rfl | rfl | rfl | rfl | rfl | rfl | rfl <;> simp
 have e4:Qh (tS m)=some (m:Int):=by
  unfold Qh;rw [qX (by omega)];exact PySem.W.KIN.num_reads (by omega) (Int.lt_trans (show (m:Int) < 61 by omega) (by decide))
 unfold Cj Fi;simp only [AL];rw [e1];simp only [AL];rw [wX (by omega:(1:Int)<=((dg m).length:Int)),qX rfl,wX (by omega:((dg m).length:Int)<=2)];simp only [Bu,A1,if_false,AL];rw [e2];simp only [AL];rw [e3]
 have ha:((((dg m).map λc=>(⟨#[c]⟩:Str)).map λ_=>true).all id)=true:=by
  rw [DZ];intro b hb;obtain ⟨_,_,rfl⟩:=A9.mp hb;rfl
 simp only [AL];rw [ha];simp only [Bu,A1,if_false,Ct];rw [e4];simp only [AL]
 by_cases c:(1:Int) < ((dg m).length:Int)
 ·rw [wX c,qX rfl]
  obtain ⟨x,hx⟩:∃x,(dg m)[0]?=some x:=⟨_,BD (by omega)⟩
  have e5:XR (tS m) 0=some ⟨#[x]⟩:=by
   unfold XR;rw [qX (by omega),MH,JE (Gs _) hx];rfl
  have hne:=hz (by omega);rw [e5];simp only [AL]
  rw [wY (λe=>hne (by
   rw [aX] at e;have:=congrArg (λs:Str=>s.cps[0]?) e;rw [hx]
   exact this))]
  rfl
 ·rw [wY c,qY AW]
  rfl
theorem dk:(" " : Str)=⟨#[32]⟩:=by decide +kernel
theorem eM:("\n" : Str)=⟨#[10]⟩:=by decide +kernel
theorem Pb {α:Type} (l:List α) {k:Int} (h0:0<=k):FP l (some k) none=l.drop k.toNat:=by
 unfold FP;rw [show (k:Int)=((k.toNat:Nat):Int) by omega,HT.Yk,HT.WS,Bj]
 by_cases c:k.toNat<=l.length
 ·rw [Nat.min_eq_left c,CA (by simp)]
 ·rw [Nat.min_eq_right (by omega),Q8 (AS _),Q8 (by omega)]
  simp
def O3 (first:Str) (ns:List Nat):Str:=By ⟨#[32]⟩ (first :: ns.map tS)
theorem MV {first:Str} {ns:List Nat} (hf:first.length<=6) (hn:ns.length<=2) (h:∀n∈ns,n < 61):(O3 first ns).length<=21:=by
 have:=Mt ⟨#[32]⟩ 6 (first :: ns.map tS) λp hp=>by
  rcases Aw.mp hp with rfl | hp
  ·exact hf
  ·obtain ⟨n,hn,rfl⟩:=A9.mp hp
   have:=(HA (h n hn)).2;omega
 rw [Af,AK] at this;have h1:(⟨#[32]⟩:Str).length=1:=rfl;rw [h1] at this;unfold O3
 have:(ns.length+1) * 7<=21:=by omega
 omega
theorem OA {first:Str} {ns:List Nat} (hf:32∉first.cps.toList) (hl:first.length<=6) (hn:ns.length<=2) (h:∀n∈ns,n < 61):Bo (O3 first ns) first ns.length=some (some (ns.map λn:Nat=>(n:Int))):=by
 have hlen:=MV hl hn h
 have e1:Hy (O3 first ns) (" " : Str)=some (first :: ns.map tS):=by
  rw [dk];refine Kn (by simp) (λp hp=>?_) (by unfold O3 at hlen;omega)
  rcases Aw.mp hp with rfl | hp
  ·exact hf
  ·obtain ⟨n,hn,rfl⟩:=A9.mp hp
   exact Wy (h n hn) (by decide)
 have e2:FQ (ns.map tS) (λ_=>some true) (λx=>Cj x)=some ((ns.map tS).map λx=>(Cj x).getD none):=by
  refine IZ (by rw [AK];omega) λx hx=>?_
  obtain ⟨n,hn,rfl⟩:=A9.mp hx;rw [QV (h n hn)];rfl
 have e3:((ns.map tS).map λx=>(Cj x).getD none)=ns.map λn:Nat=>some (n:Int):=by
  rw [BE]
  refine B7 λn hn=>?_
  show (Cj (tS n)).getD none=_;rw [QV (h n hn)];rfl
 have e4:∀l:List Nat,Nc (l.map λn:Nat=>some (n:Int))=some (l.map λn:Nat=>(n:Int)):=λl=>by
  induction l with
  | nil=>rfl
  | cons a l ih=>
   show (Nc (l.map λn:Nat=>some (n:Int))).map ((a:Int) :: ·)=_;rw [ih];rfl
 unfold Bo D6 C5;simp only [AL];rw [e1];simp only [AL,Ct];rw [Pb _ (by decide),show (1:Int).toNat=1 from rfl,UM,Nl,e2,e3];simp only [AL,Ct];rw [JE (x:=first) (Gs _) rfl];simp only [AL,decide_true,Bu,A1,if_false];rw [AK,wX rfl];simp only [Bu,A1,if_false]
 have e5:inG none (ns.map λn:Nat=>some (n:Int))=false:=by
  cases hq:inG none (ns.map λn:Nat=>some (n:Int)) with
  | false=>rfl
  | true=>
   obtain ⟨n,_,e⟩:=A9.mp (PN.mp hq);cases e
 rw [e5];show ((KU (some (.rt (some (ns.map λn:Nat=>some (n:Int))):Fw _ Unit)))).bind UA=_;show UA (some (ns.map λn:Nat=>some (n:Int)))=_;show (Nc (ns.map λn:Nat=>some (n:Int))).map some=_;rw [e4];rfl
def Tz (p:Int) (ts:List (Int×Int)):Prop:=(∀t∈ts,0<=t.1/\t.1 < t.2/\t.2 < p)/\ts.Nodup
theorem O9 {x:Int×Int} (h:x.1 < x.2):nrm x=x:=by
 unfold nrm;rw [qY (by omega),qX (by omega)]
theorem Tz.nrm {p:Int} {ts:List (Int×Int)} (h:Tz p ts):ts.map M.nrm=ts:=by
 conv=>rhs;rw [<-Sg ts]
 exact B7 λt ht=>O9 (h.1 t ht).2.1
theorem Tz.fit {p:Nat} {ts:List (Int×Int)} (h:Tz p ts):Bg p ts:=by
 refine ⟨λt ht=>?_,by rw [h.nrm];exact h.2⟩;have:=h.1 t ht;unfold Fit;rw [O9 this.2.1];omega
theorem Tz.perm {p:Int} {ts us:List (Int×Int)} (h:Tz p ts) (hp:us.Perm ts):Tz p us:=⟨λt ht=>h.1 t (hp.mem_iff.mp ht),hp.nodup_iff.mpr h.2⟩
theorem S7 {p:Nat} {ps:List (Int×Int)} (h:Bg p ps):Tz p (Dl ps):=by
 have hp:=GZ ps;refine ⟨λt ht=>?_,hp.nodup_iff.mpr h.2⟩;obtain ⟨x,hx,rfl⟩:=QA ht;have:=h.1 x hx;unfold Fit at this
 have:(nrm x).1<=(nrm x).2:=by
  unfold nrm;dsimp only
  split <;> split <;> omega
 omega
theorem Nv {ps qs:List (Int×Int)} (h:(ps.map nrm).Perm (qs.map nrm)):Dl ps=Dl qs:=by
 unfold Dl Fy
 have:(ps.map λx=>MW (nrm x)).Perm (qs.map λx=>MW (nrm x)):=by
  have:=h.map MW;rwa [BE,BE] at this
 rw [N1 ((EQ _).trans (this.trans (EQ _).symm)) (Jd _) (Jd _)]
theorem WQ {p:Int} {ts:List (Int×Int)} (h:Tz p ts):Je ts=Dl ts:=by
 unfold Je Dl Fy;rw [show (ts.map λx=>MW (nrm x))=ts.map λx=>[x.1,x.2] from B7 λt ht=>by rw [O9 (h.1 t ht).2.1];rfl];rfl
theorem cg (ns:List Int) {k:Int} (hk:0<=k):Ok (D5 ns k) (λ_=>True):=by
 unfold D5 D3;simp only [AL]
 by_cases c:k < ns.length
 ·obtain ⟨x,h1,_⟩:=X0 hk c
  rw [wX c,qX rfl,h1];exact ⟨x,rfl,trivial⟩
 ·rw [wY c,qY AW]
  exact ⟨0,rfl,trivial⟩
theorem Wj (ns:List Int):Ok (Eb ns) (λp=>1<=p/\p<=60):=by
 obtain ⟨v,e,_⟩:=cg ns (k:=0) (Gs _);unfold Eb Ea;simp only [AL];rw [e];simp only [AL,Ct,few4];have h0:=C7 v (show (4:Int)≠0 by decide);have h1:=CK v (show (0:Int) < 4 by decide);obtain ⟨x,e1,e2⟩:=X0 (l:=[v / 4 % 7,v / 4 % 9,v / 4 % 20,v / 4 % 60]) (i:=v % 4) h0 (by simp;omega);rw [e1];refine ⟨1+x,rfl,?_⟩;have hx:=DS e2;have a1:=C7 (v / 4) (show (7:Int)≠0 by decide);have a2:=CK (v / 4) (show (0:Int) < 7 by decide);have a3:=C7 (v / 4) (show (9:Int)≠0 by decide);have a4:=CK (v / 4) (show (0:Int) < 9 by decide);have a5:=C7 (v / 4) (show (20:Int)≠0 by decide);have a6:=CK (v / 4) (show (0:Int) < 20 by decide);have a7:=C7 (v / 4) (show (60:Int)≠0 by decide);have a8:=CK (v / 4) (show (0:Int) < 60 by decide);simp only [Aw,HR,or_false] at hx
 rcases hx with rfl | rfl | rfl | rfl <;> omega
theorem ZJ {x y:Int×Int} (h:nrm x=nrm y):x=y∨x=(y.2,y.1):=by
 unfold nrm at h;have h1:=congrArg Prod.fst h;have h2:=congrArg Prod.snd h;dsimp only at h1 h2
 by_cases c:x.1=y.1/\x.2=y.2
 ·exact .inl (Ni c.1 c.2)
 ·refine .inr (Ni ?_ ?_) <;> dsimp only <;> split at h1 <;> split at h1 <;> split at h2 <;> split at h2 <;> omega
theorem cW {p:Int} {a b:Int} (h1:0<=a) (h2:a < p) (h3:0<=b) (h4:b < p) (h5:a≠b):Fit p (a,b):=by
 unfold Fit nrm;dsimp only
 refine ⟨?_,?_,?_⟩ <;> split <;> (try split) <;> omega
theorem ZB {p:Nat} (hp1:1<=p) (hp:p<=60) {ns:List Int} (hns:ns.length<=63):Ok (E6 ns p) (λps=>Bg p ps/\ps.length<=1000):=by
 have hpos:(0:Int) < p:=by omega
 unfold E6 E5;simp only [AL,few0,Ct];rw [Ym (by decide) (by decide)];simp only [AL];have hcut:=Xr ns (some 1) (some 63);refine OkF.out (OkF.seq (OkF.for (λ(pre:List Int) (s:List (Int×Int))=>Bg p s/\s.length<=2 * pre.length) ⟨⟨by simp,Zz⟩,by simp⟩ (λpre x s hx hpre hI=>?_)) λs hs=>OkF.rt ⟨hs.1,by omega⟩);have hl:=hpre.length_le;rw [At,Bb] at hl;rw [At,Bb]
 refine OkF.map (N:=λs:Int×List (Int×Int)=>Bg p s.2/\s.2.length<=2 * (pre.length+1)) ?_ λs hs=>hs
 refine (OkF.for (λ(p2:List Int) (s':Int×List (Int×Int))=>Bg p s'.2/\s'.2.length<=2 * pre.length+p2.length) ⟨hI.1,by simpa using hI.2⟩ (λp2 y s' hy hp2 hI2=>?_)).imp (λs hs=>⟨hs.1,by have:=hs.2;rw [QP] at this;have:(2:Int).toNat=2:=rfl;omega⟩) λ_ h=>h
 have hdv:∀c:Int,OO c p=some (c / p):=λc=>qX ⟨hpos,by omega⟩
 rw [TW hpos,hdv];simp only [AL,Ct];rw [TW hpos,hdv];simp only [AL,Ct];have a0:=C7 s'.1 (show (p:Int)≠0 by omega);have a1:=CK s'.1 hpos;have b0:=C7 (s'.1 / p) (show (p:Int)≠0 by omega);have b1:=CK (s'.1 / p) hpos;generalize s'.1 % (p:Int)=a at a0 a1;generalize s'.1 / p % (p:Int)=b at b0 b1;rw [At,Bb]
 refine OkF.map (N:=λs:List (Int×Int)=>Bg p s/\s.length<=2 * pre.length+(p2.length+1)) ?_ λs hs=>hs
 obtain ⟨i1,i2⟩:=hI2
 by_cases c1:a=b
 ·rw [wX c1]
  exact OkF.nx ⟨i1,by omega⟩
 ·rw [wY c1]
  simp only [No,if_true]
  cases c2:inG (a,b) s'.2 with
  | true=>exact OkF.nx ⟨i1,by omega⟩
  | false=>
   simp only [No,if_true]
   cases c3:inG (b,a) s'.2 with
   | true=>exact OkF.nx ⟨i1,by omega⟩
   | false=>
    simp only [No,AL,if_true];have hp2l:=hp2.length_le;rw [At,Bb,QP] at hp2l;have h2:(2:Int).toNat=2:=rfl;rw [Pl (by omega)];refine OkF.nx ⟨Bg.snoc.mpr ⟨i1,cW a0 a1 b0 b1 c1,λhm=>?_⟩,by rw [At,Bb];omega⟩;obtain ⟨z,hz,e⟩:=A9.mp hm
    rcases ZJ e with rfl | rfl
    ·have:=PN.mpr hz
     rw [c2] at this;cases this
    ·have:=PN.mpr hz
     rw [c3] at this;cases this
theorem XC (ps:List (Int×Int)):(Dl ps).length=ps.length:=by
 have:=(GZ ps).length_eq;rwa [AK] at this
end M
namespace M
open PySem L2 L4
open Srt (ltL)
theorem Qy {α:Type} {l:List α} {x:α}:atI (l++[x]) (-1)=some x:=by
 unfold atI ixN;simp;rw [qX (by omega),show (-1+((l.length:Int)+1)).toNat=l.length by omega];simp
def rowH (p:Nat):Str:=O3 "places" [p]
def KQ (t:Int×Int):Str:=O3 "tie" [t.1.toNat,t.2.toNat]
def Ge (p:Nat) (ts:List (Int×Int)):List Str:=rowH p :: ts.map KQ
def S8 (p:Nat) (ts:List (Int×Int)):Str:=By ⟨#[10]⟩ (Ge p ts)
theorem Z7 {c d:Nat} (hcd:c≠d):∀ {xs:List (List Nat)},(∀x∈xs,c∉x)->c∉jn d xs
 | [],_=>HR
 | [x],h=>h x Ae
 | x :: y :: r,h=>by
  show c∉x++d :: jn d (y :: r);intro hm
  rcases BP.mp hm with hm | hm
  ·exact h x Ae hm
  ·rcases Aw.mp hm with hm | hm
   ·exact hcd hm
   ·exact Z7 hcd (λz hz=>h z (AV _ hz)) hm
theorem TJ {first:Str} {ns:List Nat} (hf:10∉first.cps.toList) (h:∀n∈ns,n < 61):10∉(O3 first ns).cps.toList:=by
 unfold O3;rw [Jp]
 refine Z7 (by decide) λx hx=>?_
 obtain ⟨p,hp,rfl⟩:=A9.mp hx
 rcases Aw.mp hp with rfl | hp
 ·exact hf
 ·obtain ⟨n,hn,rfl⟩:=A9.mp hp
  exact Wy (h n hn) (by decide)
section
variable {p:Nat} {ts:List (Int×Int)}
theorem WH (hp:p<=60) (tz:Tz p ts) {t:Int×Int} (ht:t∈ts):∀n∈[t.1.toNat,t.2.toNat],n < 61:=λn hn=>by
 have:=tz.1 t ht;simp only [Aw,HR,or_false] at hn
 rcases hn with rfl | rfl <;> omega
theorem Rs (hp:p<=60) (tz:Tz p ts) {r:Str} (hr:r∈Ge p ts):r.length<=21/\10∉r.cps.toList:=by
 unfold Ge at hr
 rcases Aw.mp hr with rfl | hr
 ·have h:∀n∈[p],n < 61:=λn hn=>by rw [A2.mp hn];omega
  exact ⟨MV (by decide +kernel) (by simp) h,TJ (by decide +kernel) h⟩
 ·obtain ⟨t,ht,rfl⟩:=A9.mp hr
  have h:=WH hp tz ht;exact ⟨MV (by decide +kernel) (by simp) h,TJ (by decide +kernel) h⟩
theorem QN:(Ge p ts).length=ts.length+1:=by unfold Ge;simp
theorem Ny (hp:p<=60) (tz:Tz p ts) (hl:ts.length<=1000):Mu ("\n" : Str) (Ge p ts)=some (S8 p ts):=by
 rw [eM];refine joinOk_of (k:=21) (λr hr=>(Rs hp tz hr).1) ?_;rw [QN];show (ts.length+1) * 22<=_;omega
theorem Rf (hp:p<=60) (tz:Tz p ts) (hl:ts.length<=1000):Hy (S8 p ts) ("\n" : Str)=some (Ge p ts):=by
 rw [eM];refine Kn (by unfold Ge;simp) (λr hr=>(Rs hp tz hr).2) ?_
 have:=Mt ⟨#[10]⟩ 21 (Ge p ts) λr hr=>(Rs hp tz hr).1
 rw [QN] at this
 have h1:(ts.length+1) * (21+(⟨#[10]⟩:Str).length)<=100000:=by
  show (ts.length+1) * 22<=_;omega
 omega
theorem cJ (hp:p<=60):Bo (rowH p) ("places" : Str) 1=some (some [(p:Int)]):=OA (first:="places") (ns:=[p]) (by decide +kernel) (by decide +kernel) (by simp) λn hn=>by rw [A2.mp hn];omega
theorem dX (hp:p<=60) (tz:Tz p ts) {t:Int×Int} (ht:t∈ts):Bo (KQ t) ("tie" : Str) 2=some (some [t.1,t.2]):=by
 have:=OA (first:="tie") (ns:=[t.1.toNat,t.2.toNat]) (by decide +kernel) (by decide +kernel) (by simp) (WH hp tz ht);have h:=tz.1 t ht
 rw [show ([t.1.toNat,t.2.toNat].map λn:Nat=>(n:Int))=[t.1,t.2] by
  simp only [Ai,Hi]
  rw [FV h.1,FV (by omega)]] at this
 exact this
theorem N6:∀l:List (Int×Int),IB (l.map λt=>[t.1,t.2])=some l
 | []=>rfl
 | t :: l=>by
  show (IB (l.map λt=>[t.1,t.2])).map ((t.1,t.2) :: ·)=_;rw [N6 l];rfl
theorem Vy (hp1:1<=p) (hp:p<=60) (tz:Tz p ts) (hl:ts.length<=1000) (hup:ts.Pairwise λa b=>ltL [a.1,a.2] [b.1,b.2]=true):Jk (S8 p ts)=some (p,Dl ts):=by
 unfold Jk Ji;simp only [AL];rw [Rf hp tz hl];simp only [AL,Ct];rw [show atI (Ge p ts) 0=some (rowH p) from JE (Gs _) rfl];simp only [AL];rw [cJ hp];simp only [AL];rw [show atI [(p:Int)] 0=some (p:Int) from JE (Gs _) rfl];simp only [AL];rw [wX (by omega:(1:Int)<=p),qX rfl,wX (by omega:(p:Int)<=60)];simp only [Bu,A1,if_false,few2,cY,AL,Ct];rw [Pb _ (by decide),show (1:Int).toNat=1 from rfl,show (Ge p ts).drop 1=ts.map KQ from rfl]
 have hen:∀(i:Nat) (x:Int×Str),(HI (ts.map KQ))[i]?=some x->∃t,ts[i]?=some t/\x.2=KQ t:=λi x hx=>by
  unfold HI at hx;rw [Ao,Sh,Ao] at hx
  cases ht:ts[i]? with
  | none=>rw [ht] at hx;cases hx
  | some t=>rw [ht] at hx;cases hx;exact ⟨t,rfl,rfl⟩
 have hel:(HI (ts.map KQ)).length=ts.length:=by unfold HI;simp
 refine Ok.is (OkF.out (OkF.seq (OkF.for (λ(pre:List (Int×Str)) (s:List (List Int))=>s=[-1,-1] :: (ts.take pre.length).map λt=>[t.1,t.2]) (by simp) (λpre x s hx hpre hI=>?_)) λs hs=>?_))
 ·obtain ⟨r,hr⟩:=hpre
  have hi:(HI (ts.map KQ))[pre.length]?=some x:=by
   rw [<-hr];simp
  obtain ⟨t,ht,ex⟩:=hen _ x hi;have htm:=DS ht;have hz:=tz.1 t htm;rw [ex,dX hp tz htm];simp only [AL];rw [show atI [t.1,t.2] 0=some t.1 from JE (Gs _) rfl,show atI [t.1,t.2] 1=some t.2 from JE (by decide) rfl];simp only [AL];rw [wX hz.2.1,qX rfl,wX hz.2.2];simp only [Bu,A1,if_false,AL];have hlt:=(AJ.mp ht).1
  have hlast:∃y,atI s (-1)=some y/\ltL y [t.1,t.2]=true:=by
   subst hI
   cases hk:pre.length with
   | zero=>
    refine ⟨[-1,-1],?_,?_⟩
    ·rw [List.take_zero]
     exact Qy (l:=[])
    ·unfold ltL
     rw [qY (by omega)];exact wX (by omega)
   | succ k=>
    rw [hk] at hlt ht
    have hk':k < ts.length:=by omega
    refine ⟨[ts[k].1,ts[k].2],?_,?_⟩
    ·rw [DD,BD hk',CP,<-List.cons_append]
     exact Qy
    ·have:=Og.mp hup k (k+1) hk' hlt (by omega)
     rw [(AJ.mp ht).2] at this;exact this
  obtain ⟨y,ey,hy⟩:=hlast;rw [ey];simp only [AL];rw [Tb,hy];simp only [Bu,A1,if_false]
  have hsl:s.length<=1001:=by rw [hI];simp;omega
  rw [Pl (by omega)];refine OkF.nx ?_;rw [hI,At,Bb,DD,ht,CP];rfl
 ·rw [hel,HQ] at hs
  subst hs;rw [Pb _ (by decide),show (1:Int).toNat=1 from rfl,UM,Nl,N6 ts];simp only [AL];unfold RS;rw [qX ⟨by omega,by omega,tz.fit,by omega⟩,Bj];exact OkF.rt rfl
end
theorem WL {n:Int} (h:0<=n):(Fa (toString n))=tS n.toNat:=by
 unfold tS;rw [FV h]
theorem pl_s:("places " : Str)=("places" : Str)++⟨#[32]⟩:=by decide +kernel
theorem ti_s:("tie " : Str)=("tie" : Str)++⟨#[32]⟩:=by decide +kernel
theorem TK (p:Nat):rowH p=("places " : Str)++tS p:=by
 rw [pl_s];rfl
theorem TH (t:Int×Int):KQ t=("tie " : Str)++tS t.1.toNat++(" " : Str)++tS t.2.toNat:=by
 rw [ti_s,dk];show ("tie" : Str)++⟨#[32]⟩++(tS t.1.toNat++⟨#[32]⟩++tS t.2.toNat)=_;rw [Es,Es,Es,Es,Es]
theorem big:1000<=sizeLine:=by decide
section
variable {p:Nat} {ts:List (Int×Int)}
theorem SK {n:Int} (h:0<=n) (h1:n < 61):Na n=some (tS n.toNat):=by
 unfold Na;rw [qX,WL h];obtain ⟨m,rfl⟩:=Int.eq_ofNat_of_zero_le h
 have:m < 61:=by omega
 exact (show ∀m∈Be 61,((m:Nat):Int).natAbs.log2 < 1920 by decide +kernel) m (Fd.mpr this)
theorem Rh {n:Int} (h:0<=n) (h1:n < 61):MK n=some (tS n.toNat):=by
 unfold MK;rw [qX (by rw [qY (by omega)];omega),WL h]
theorem Jf (a b:Str):(a++b).length=a.length+b.length:=K5 a b
theorem en (hp:p<=60):(FF (some ("places " : Str)) (FF ((some (p:Int)).bind Na) Qn)) Er=some (rowH p):=by
 have e:=SK (n:=(p:Int)) (by omega) (by omega);have h1:=(HA (m:=p) (by omega)).2
 have h2:("places " : Str).length=7:=by decide +kernel
 have hb:=big;unfold FF Qn;simp only [AL];rw [YF,qX (by omega),e,AL,Bj,qX (by rw [Jf];omega),qX (by rw [Jf];omega),<-TK]
theorem tieJ (hp:p<=60) (tz:Tz p ts) {t:Int×Int} (ht:t∈ts):(FF (some ("tie " : Str)) (FF ((some t.1).bind Na) (FF (some (" " : Str)) (FF ((some t.2).bind Na) Qn)))) Er=some (KQ t):=by
 have hz:=tz.1 t ht;have e1:=SK (n:=t.1) (by omega) (by omega);have e2:=SK (n:=t.2) (by omega) (by omega);have h1:=(HA (m:=t.1.toNat) (by omega)).2;have h3:=(HA (m:=t.2.toNat) (by omega)).2
 have h2:("tie " : Str).length=4:=by decide +kernel
 have h4:(" " : Str).length=1:=by decide +kernel
 have hb:=big;unfold FF;simp only [AL];rw [YF,qX (by omega),e1,AL,qX (by rw [Jf];omega),qX (by rw [Jf,Jf];omega),e2,AL,qX (by rw [Jf,Jf,Jf];omega)];unfold Qn;rw [qX (by rw [Jf,Jf,Jf];omega),<-TH]
theorem RQ (hp:p<=60) (tz:Tz p ts) (hl:ts.length<=1000):FH (p,ts)=some (S8 p ts):=by
 unfold FH G7;simp only [AL,Ct];have e0:=en (p:=p) hp;simp only [AL] at e0;rw [e0];simp only [AL,cY,Ct]
 rw [IZ (l:=ts) (f:=KQ) (by omega) λt ht=>by
  have:=tieJ hp tz ht;simp only [AL] at this
  exact this]
 simp only [AL];rw [Zc (by simp;omega)];simp only [AL,Ct];rw [show [rowH p]++ts.map KQ=Ge p ts from rfl,Ny hp tz hl];rfl
theorem W3 (ps:List (Int×Int)) (hl:ps.length<=1000):FQ ps (λ_=>some true) (λx=>(Um [x.1,x.2]).bind λa=>(Uo [x.1,x.2]).bind λb=>some (a,b))=some (ps.map nrm):=by
 refine IZ (by omega) λx _=>?_
 have e1:Um [x.1,x.2]=some (nrm x).1:=by
  unfold Um Kw ltZ nrm;simp
 have e2:Uo [x.1,x.2]=some (nrm x).2:=by
  unfold Uo Kw gtZ nrm;simp
 rw [e1,e2];rfl
end
theorem WD {p:Nat} {ps:List (Int×Int)} (h:Bg p ps):Tz p (ps.map nrm):=(S7 h).perm (GZ ps).symm
theorem TD {p:Nat} {ps:List (Int×Int)} (h:Bg p ps):Je (ps.map nrm)=Dl ps:=by
 rw [WQ (WD h)];exact Nv (by rw [(WD h).nrm])
theorem dW {p:Nat} {ps:List (Int×Int)} (h:Bg p ps):(Dl ps).Pairwise λa b=>ltL [a.1,a.2] [b.1,b.2]=true:=by
 have h1:((Dl ps).map MW).Pairwise λa b=>ltL b a=false:=by
  rw [Nx];exact Jd _
 rw [DE] at h1;have h2:=(S7 h).2
 refine (h1.and h2).imp λ{a b} ⟨q1,q2⟩=>?_
 cases c:ltL [a.1,a.2] [b.1,b.2] with
 | true=>rfl
 | false=>
  have:=Srt.PF _ _ c q1;exact zX (Ni (Cr this).1 (Cr (Cr this).2).1) q2
theorem bsP {α β:Type} (x:α) (f:α->Option β):(some x).bind f=f x:=Hj rfl (Eq.refl _)
theorem bnP {ρ σ τ:Type} (s:σ) (q:σ->Option (Fw ρ τ)):CC (some (.nx s)) q=q s:=Hj rfl (Eq.refl _)
theorem R9 {p:Nat} (hp1:1<=p) (hp:p<=60) {ps:List (Int×Int)} (h:Bg p ps) (hl:ps.length<=1000):Fn p ps=some (Ge p (Dl ps)):=by
 have hb:=big;have s1:=Rh (n:=(p:Int)) (by omega) (by omega);have l1:=(HA (m:=p) (by omega)).2
 have l2:("places " : Str).length=7:=by decide +kernel
 unfold Fn Fk;simp only [bsP];rw [s1];simp only [bsP];rw [Bj,show HY ("places " : Str) (tS p)=some (rowH p) by unfold HY;rw [qX (by omega),TK]];simp only [bsP,cY,bnP];rw [W3 ps hl];simp only [bsP];rw [TD h];have tz:=S7 h
 have hlt:(Dl ps).length<=1000:=by rw [XC];exact hl
 refine Ok.is (OkF.out (OkF.seq (OkF.for (λ(pre:List (Int×Int)) (s:List Str)=>s=rowH p :: pre.map KQ) rfl (λpre t s ht hpre hI=>?_)) λs hs=>OkF.rt hs));have hz:=tz.1 t ht;have a1:=Rh (n:=t.1) (by omega) (by omega);have a2:=Rh (n:=t.2) (by omega) (by omega);have b1:=(HA (m:=t.1.toNat) (by omega)).2;have b2:=(HA (m:=t.2.toNat) (by omega)).2
 have b3:("tie " : Str).length=4:=by decide +kernel
 have b4:(" " : Str).length=1:=by decide +kernel
 rw [a1,a2];simp only [bsP];rw [show HY ("tie " : Str) (tS t.1.toNat)=some (("tie " : Str)++tS t.1.toNat) from qX (by omega)];simp only [bsP];rw [show HY (("tie " : Str)++tS t.1.toNat) (" " : Str)=some (("tie " : Str)++tS t.1.toNat++(" " : Str)) from qX (by rw [Jf];omega)];simp only [bsP];rw [show HY (("tie " : Str)++tS t.1.toNat++(" " : Str)) (tS t.2.toNat)=some (KQ t) by unfold HY;rw [qX (by rw [Jf,Jf];omega),TH]];simp only [bsP];have hp2:=hpre.length_le;rw [At] at hp2;rw [Pl (by rw [hI];simp;omega)];refine OkF.nx ?_;rw [hI,CP];rfl
theorem R8 {p:Nat} {ps:List (Int×Int)} (h:Bg p ps) (hl:ps.length<=1000):Fm ps=some (Dl ps):=by
 unfold Fm Fj;simp only [bsP];rw [W3 ps hl];simp only [bsP];rw [TD h];rfl
theorem ed {ns:List Int} (hns:ns.length<=63):Ws ns=some true:=by
 obtain ⟨pz,e1,hp1,hp⟩:=Wj ns
 obtain ⟨p,rfl⟩:∃p:Nat,pz=p:=⟨pz.toNat,by omega⟩
 have hp1:1<=p:=by omega
 have hp:p<=60:=by omega
 obtain ⟨ps,e2,hf,hl⟩:=ZB hp1 hp hns;have tz:=S7 hf
 have hlt:(Dl ps).length<=1000:=by rw [XC];exact hl
 have e3:=R9 hp1 hp hf hl;have e4:=Ny hp tz hlt;have e5:=RQ hp tz hlt;have e6:=Vy hp1 hp tz hlt (dW hf);have e7:=R8 hf hl;have e8:Dl (Dl ps)=Dl ps:=Nv (by rw [tz.nrm];exact GZ ps);rw [e8] at e6
 have hw:RS (p:Int) ps=some (p,Dl ps):=by
  unfold RS;rw [qX ⟨by omega,by omega,hf,by omega⟩,Bj]
 unfold Ws TN;simp only [bsP];rw [e1];simp only [bsP,bnP];rw [e2];simp only [bsP,bnP];rw [e3];simp only [bsP];rw [e4];simp only [bsP,bnP];rw [hw];simp only [bsP];rw [e5];simp only [bsP,bnP,decide_true,Bu,A1,if_false];rw [e6];simp only [bsP,bnP,decide_true,Bu,A1,if_false];rw [e7];simp only [bsP,bnP,decide_true,Bu,A1,if_false];rw [e5];simp only [bsP,decide_true];rfl
theorem good (W:Wd) (nd:W.excs.Nodup) (ns:List Int) (hns:ns.length<=63):∃S',Tr W [.fro (ns.map D.int)] []=.ok (.bl true) S':=by
 refine VF.law ?_;have:=dU W ns;rwa [ed hns] at this
end M
def PySem.W.Fast.tw11103085144839629751:Nat:=0
def PySem.W.Fast.tw15433176406815956694:Nat:=0
def PySem.W.Fast.tw6770981591239707049:Nat:=0
def PySem.W.Fast.tw9179301005613501637:Nat:=0
def PySem.W.Fast.tw10550528316438150258:Nat:=0
def PySem.W.Fast.tw15039980640196354793:Nat:=0
def PySem.W.Fast.tw4606865408397319427:Nat:=0
def PySem.W.Fast.tw12885618572683515124:Nat:=0
def PySem.W.Fast.tw11923921978242067518:Nat:=0
def PySem.W.Fast.tw13191032180830921522:Nat:=0
def PySem.W.Fast.tw7096456483765813213:Nat:=0
def PySem.W.Fast.tw3510304909079198924:Nat:=0
def PySem.W.Fast.tw10096529324179080296:Nat:=0
def PySem.W.Fast.tw13698959225794506012:Nat:=0
def PySem.W.Fast.tw9535364831697801529:Nat:=0
def PySem.W.Fast.tw3371477007803337380:Nat:=0
def PySem.W.Fast.tw10666047753490899198:Nat:=0
def PySem.W.Fast.tw17831013668796803975:Nat:=0
def PySem.W.Fast.tw13764282635787547744:Nat:=0
def PySem.W.Fast.tw17064456859411513690:Nat:=0
def PySem.W.Fast.tw17578545191776337928:Nat:=0
def PySem.W.Fast.tw9168824994807570434:Nat:=0
def PySem.W.Fast.tw15030217110908712467:Nat:=0
def PySem.W.Fast.tw13122381413470011130:Nat:=0
def PySem.W.Fast.tw1621801049560222817:Nat:=0
namespace M
open PySem PySem.Spec PyProof.Rows L2 PySem.W
theorem cj {l:OpenLaw} {w:As} {K:Frag} {h:BG} {mg:Str->Option AB} {fa:AE} (X:K.In h) (G:h.Ns Ah mg) (hfa:mg "law" = some (.ref fa))
  {f1 f2 f3 f4 f5 f6 f7 f8 f9 f10 f11 f12 f13 cBadPlaces cBadTie cWeb:AE} {tk_MOST_PLACES tk_FIGURES tk_MOST_FIGURES:Tok}
  {od1 an1 od2 an2 od3 an3 od4 an4 od5 an5 od6 an6 od7 an7 od8 an8 od9 an9 od10 an10 od11 an11 od12 an12 od13 an13:Option AE} {sl1 sl2 sl3 sl4 sl5 sl6 sl7 sl8 sl9 sl10 sl11 sl12 sl13:Array (Option AB)} {oc1 kV1 dc1 pm1 cd1 ct1 oc2 kV2 dc2 pm2 cd2 ct2 oc3 kV3 dc3 pm3 cd3 ct3 oc4 kV4 dc4 pm4 cd4 ct4 oc5 kV5 dc5 pm5 cd5 ct5 oc6 kV6 dc6 pm6 cd6 ct6 oc7 kV7 dc7 pm7 cd7 ct7 oc8 kV8 dc8 pm8 cd8 ct8 oc9 kV9 dc9 pm9 cd9 ct9 oc10 kV10 dc10 pm10 cd10 ct10 oc11 kV11 dc11 pm11 cd11 ct11 oc12 kV12 dc12 pm12 cd12 ct12 oc13 kV13 dc13 pm13 cd13 ct13:AB}
  (a_Web:nsIn K Ah "Web" = some (some (.ref cWeb)))
  (a_BadPlaces:nsIn K Ah "BadPlaces" = some (some (.ref cBadPlaces)))
  (a_BadTie:nsIn K Ah "BadTie" = some (some (.ref cBadTie)))
  (a1:nsIn K Ah "checked_ties" = some (some (.ref f1)))
  (l1:K.lookup f1=some ⟨oc1,od1,.func (fnOf "checked_ties" "checked_ties" (CN Ca) (B6 Ca) (A0 Ca) .none kV1 dc1 pm1 an1 cd1 ct1),sl1⟩)
  (k1c:codeIn K cd1 "checked_ties" = true)
  (k1:keepIn K (.ref f1)=true)
  (a2:nsIn K Ah "near_sets_of" = some (some (.ref f2)))
  (l2:K.lookup f2=some ⟨oc2,od2,.func (fnOf "near_sets_of" "near_sets_of" (CN CZ) (B6 CZ) (A0 CZ) .none kV2 dc2 pm2 an2 cd2 ct2),sl2⟩)
  (k2c:codeIn K cd2 "near_sets_of" = true)
  (k2:keepIn K (.ref f2)=true)
  (a3:findIn K (.ref cWeb) "__init__" = some (some (.ref f3)))
  (i3:isFn K (.ref f3)=true)
  (l3:K.lookup f3=some ⟨oc3,od3,.func (fnOf "__init__" "Web.__init__" (CN ES) (B6 ES) (A0 ES) .none kV3 dc3 pm3 an3 cd3 ct3),sl3⟩)
  (k3c:codeIn K cd3 "Web.__init__" = true)
  (k3:keepIn K (.ref f3)=true)
  (a4:nsIn K Ah "web_text" = some (some (.ref f4)))
  (l4:K.lookup f4=some ⟨oc4,od4,.func (fnOf "web_text" "web_text" (CN ER) (B6 ER) (A0 ER) .none kV4 dc4 pm4 an4 cd4 ct4),sl4⟩)
  (k4c:codeIn K cd4 "web_text" = true)
  (k4:keepIn K (.ref f4)=true)
  (a5:nsIn K Ah "number_in" = some (some (.ref f5)))
  (l5:K.lookup f5=some ⟨oc5,od5,.func (fnOf "number_in" "number_in" (CN Dp) (B6 Dp) (A0 Dp) .none kV5 dc5 pm5 an5 cd5 ct5),sl5⟩)
  (k5c:codeIn K cd5 "number_in" = true)
  (k5:keepIn K (.ref f5)=true)
  (a6:nsIn K Ah "numbers_behind" = some (some (.ref f6)))
  (l6:K.lookup f6=some ⟨oc6,od6,.func (fnOf "numbers_behind" "numbers_behind" (CN B9) (B6 B9) (A0 B9) .none kV6 dc6 pm6 an6 cd6 ct6),sl6⟩)
  (k6c:codeIn K cd6 "numbers_behind" = true)
  (k6:keepIn K (.ref f6)=true)
  (a7:nsIn K Ah "web_of" = some (some (.ref f7)))
  (l7:K.lookup f7=some ⟨oc7,od7,.func (fnOf "web_of" "web_of" (CN Gb) (B6 Gb) (A0 Gb) .none kV7 dc7 pm7 an7 cd7 ct7),sl7⟩)
  (k7c:codeIn K cd7 "web_of" = true)
  (k7:keepIn K (.ref f7)=true)
  (a8:nsIn K Ah "_law_cell_at" = some (some (.ref f8)))
  (l8:K.lookup f8=some ⟨oc8,od8,.func (fnOf "_law_cell_at" "_law_cell_at" (CN Cb) (B6 Cb) (A0 Cb) .none kV8 dc8 pm8 an8 cd8 ct8),sl8⟩)
  (k8c:codeIn K cd8 "_law_cell_at" = true)
  (k8:keepIn K (.ref f8)=true)
  (a9:nsIn K Ah "_law_places" = some (some (.ref f9)))
  (l9:K.lookup f9=some ⟨oc9,od9,.func (fnOf "_law_places" "_law_places" (CN Cw) (B6 Cw) (A0 Cw) .none kV9 dc9 pm9 an9 cd9 ct9),sl9⟩)
  (k9c:codeIn K cd9 "_law_places" = true)
  (k9:keepIn K (.ref f9)=true)
  (a10:nsIn K Ah "_law_pairs" = some (some (.ref f10)))
  (l10:K.lookup f10=some ⟨oc10,od10,.func (fnOf "_law_pairs" "_law_pairs" (CN DL) (B6 DL) (A0 DL) .none kV10 dc10 pm10 an10 cd10 ct10),sl10⟩)
  (k10c:codeIn K cd10 "_law_pairs" = true)
  (k10:keepIn K (.ref f10)=true)
  (a11:nsIn K Ah "_law_ties" = some (some (.ref f11)))
  (l11:K.lookup f11=some ⟨oc11,od11,.func (fnOf "_law_ties" "_law_ties" (CN Dq) (B6 Dq) (A0 Dq) .none kV11 dc11 pm11 an11 cd11 ct11),sl11⟩)
  (k11c:codeIn K cd11 "_law_ties" = true)
  (k11:keepIn K (.ref f11)=true)
  (a12:nsIn K Ah "_law_text" = some (some (.ref f12)))
  (l12:K.lookup f12=some ⟨oc12,od12,.func (fnOf "_law_text" "_law_text" (CN Dr) (B6 Dr) (A0 Dr) .none kV12 dc12 pm12 an12 cd12 ct12),sl12⟩)
  (k12c:codeIn K cd12 "_law_text" = true)
  (k12:keepIn K (.ref f12)=true)
  (a13:nsIn K Ah "law" = some (some (.ref f13)))
  (l13:K.lookup f13=some ⟨oc13,od13,.func (fnOf "law" "law" (CN N2) (B6 N2) (A0 N2) .none kV13 dc13 pm13 an13 cd13 ct13),sl13⟩)
  (k13c:codeIn K cd13 "law" = true)
  (k13:keepIn K (.ref f13)=true)
  (pg_Web:plainGet K cWeb Er=true)
  (hd_Web:hasDictIn K cWeb=true)
  (po_Web:plainOver K cWeb=true)
  (sa_Web:findIn K (.ref cWeb) "__setattr__" = some (some (.builtin "object.__setattr__")))
  (mk_Web:makesIn K cWeb=true)
  (kc_Web:keepIn K (.ref cWeb)=true)
  (n_Web_places:findIn K (.ref cWeb) "places" = some none)
  (n_Web_ties:findIn K (.ref cWeb) "ties" = some none)
  (n_Web_near_sets:findIn K (.ref cWeb) "near_sets" = some none)
  (sp:specialIn K (.builtin "object.__class__") "__get__" = some (some (.builtin "getset_descriptor.__get__")))
  (tk:takesIn K (.builtin "object.__class__")=some true)
  (xnd:([cBadPlaces,cBadTie]:List AE).Nodup)
  (wa_Web:findIn K (.ref cWeb) "__class__" = some (some (.builtin "object.__class__")))
  (wo_Web:mroIn K cWeb (.type "object")=some true)
  (wi_Web:kitOne K (.ref cWeb) (.ref cWeb)=some true)
  (xo_BadPlaces:mroIn K cBadPlaces (.type "object")=some true)
  (xb_BadPlaces:mroIn K cBadPlaces (.type "BaseException")=some true)
  (xo_BadTie:mroIn K cBadTie (.type "object")=some true)
  (xb_BadTie:mroIn K cBadTie (.type "BaseException")=some true)
  (xe_BadPlaces:excIn K cBadPlaces Qv "ValueError.__new__" = true)
  (xg_BadPlaces:findIn K (.ref cBadPlaces) "__getattribute__" = some (some (.builtin "BaseException.__getattribute__")))
  (xn_BadPlaces:findIn K (.ref cBadPlaces) "__getattr__" = some none)
  (xa_BadPlaces:findIn K (.ref cBadPlaces) "__class__" = some (some (.builtin "object.__class__")))
  (xe_BadTie:excIn K cBadTie Qv "ValueError.__new__" = true)
  (xg_BadTie:findIn K (.ref cBadTie) "__getattribute__" = some (some (.builtin "BaseException.__getattribute__")))
  (xn_BadTie:findIn K (.ref cBadTie) "__getattr__" = some none)
  (xa_BadTie:findIn K (.ref cBadTie) "__class__" = some (some (.builtin "object.__class__")))
  (z_all:nsIn K Ah "all" = some none)
  (z_enumerate:nsIn K Ah "enumerate" = some none)
  (z_int:nsIn K Ah "int" = some none)
  (z_isinstance:nsIn K Ah "isinstance" = some none)
  (z_len:nsIn K Ah "len" = some none)
  (z_max:nsIn K Ah "max" = some none)
  (z_min:nsIn K Ah "min" = some none)
  (z_range:nsIn K Ah "range" = some none)
  (z_sorted:nsIn K Ah "sorted" = some none)
  (z_str:nsIn K Ah "str" = some none)
  (z_tuple:nsIn K Ah "tuple" = some none)
  (g_MOST_PLACES:nsIn K Ah "MOST_PLACES" = some (some (.int 60 tk_MOST_PLACES)))
  (g_FIGURES:nsIn K Ah "FIGURES" = some (some (.str "0123456789" tk_FIGURES)))
  (g_MOST_FIGURES:nsIn K Ah "MOST_FIGURES" = some (some (.int 2 tk_MOST_FIGURES)))
  : ∃(W:Wd) (T:Txt K mg W),fa=T.d_law.f/\W.excs.Nodup/\∀(s:AD) (v:AB),RB s T.d_law.fd ⟨[v],[]⟩ [("script",v)]:=by
 have F1:=EV (st:=Ca) l1 k1c k1
 have b1:=F1.binds (ps:=["places", "ties"]) λ_ _ _ _ _ _ us hl=>by obtain ⟨a,b,rfl⟩:=Us hl;rfl
 have F2:=EV (st:=CZ) l2 k2c k2
 have b2:=F2.binds (ps:=["places", "ties"]) λ_ _ _ _ _ _ us hl=>by obtain ⟨a,b,rfl⟩:=Us hl;rfl
 have F3:=EV (st:=ES) l3 k3c k3
 have b3:=F3.binds (ps:=["self", "places", "ties"]) λ_ _ _ _ _ _ us hl=>by obtain ⟨a,b,c,rfl⟩:=eZ hl;rfl
 have F4:=EV (st:=ER) l4 k4c k4
 have b4:=F4.binds (ps:=["web"]) λ_ _ _ _ _ _ us hl=>by obtain ⟨a,rfl⟩:=R7 hl;rfl
 have F5:=EV (st:=Dp) l5 k5c k5
 have b5:=F5.binds (ps:=["word"]) λ_ _ _ _ _ _ us hl=>by obtain ⟨a,rfl⟩:=R7 hl;rfl
 have F6:=EV (st:=B9) l6 k6c k6
 have b6:=F6.binds (ps:=["row", "first", "many"]) λ_ _ _ _ _ _ us hl=>by obtain ⟨a,b,c,rfl⟩:=eZ hl;rfl
 have F7:=EV (st:=Gb) l7 k7c k7
 have b7:=F7.binds (ps:=["text"]) λ_ _ _ _ _ _ us hl=>by obtain ⟨a,rfl⟩:=R7 hl;rfl
 have F8:=EV (st:=Cb) l8 k8c k8
 have b8:=F8.binds (ps:=["script", "k"]) λ_ _ _ _ _ _ us hl=>by obtain ⟨a,b,rfl⟩:=Us hl;rfl
 have F9:=EV (st:=Cw) l9 k9c k9
 have b9:=F9.binds (ps:=["script"]) λ_ _ _ _ _ _ us hl=>by obtain ⟨a,rfl⟩:=R7 hl;rfl
 have F10:=EV (st:=DL) l10 k10c k10
 have b10:=F10.binds (ps:=["script", "places"]) λ_ _ _ _ _ _ us hl=>by obtain ⟨a,b,rfl⟩:=Us hl;rfl
 have F11:=EV (st:=Dq) l11 k11c k11
 have b11:=F11.binds (ps:=["pairs"]) λ_ _ _ _ _ _ us hl=>by obtain ⟨a,rfl⟩:=R7 hl;rfl
 have F12:=EV (st:=Dr) l12 k12c k12
 have b12:=F12.binds (ps:=["places", "pairs"]) λ_ _ _ _ _ _ us hl=>by obtain ⟨a,b,rfl⟩:=Us hl;rfl
 have F13:=EV (st:=N2) l13 k13c k13
 have b13:=F13.binds (ps:=["script"]) λ_ _ _ _ _ _ us hl=>by obtain ⟨a,rfl⟩:=R7 hl;rfl
 let W:Wd:=⟨cBadPlaces,cBadTie,cWeb⟩
 have xc_BadPlaces:(clsIn K cBadPlaces).isSome=true:=M8 xo_BadPlaces;have xc_BadTie:(clsIn K cBadTie).isSome=true:=M8 xo_BadTie;have X_BadPlaces:XIs K cBadPlaces:=⟨xc_BadPlaces,xg_BadPlaces,xn_BadPlaces,xa_BadPlaces,sp,tk,xo_BadPlaces,xb_BadPlaces⟩;have X_BadTie:XIs K cBadTie:=⟨xc_BadTie,xg_BadTie,xn_BadTie,xa_BadTie,sp,tk,xo_BadTie,xb_BadTie⟩
 let T:Txt K mg W:={
  d_checked_ties:=⟨f1,_,F1,b1,FY X G a1⟩
  d_near_sets_of:=⟨f2,_,F2,b2,FY X G a2⟩
  d_Web_init:=⟨f3,_,F3,b3⟩
  d_web_text:=⟨f4,_,F4,b4,FY X G a4⟩
  d_number_in:=⟨f5,_,F5,b5,FY X G a5⟩
  d_numbers_behind:=⟨f6,_,F6,b6,FY X G a6⟩
  d_web_of:=⟨f7,_,F7,b7,FY X G a7⟩
  d__law_cell_at:=⟨f8,_,F8,b8,FY X G a8⟩
  d__law_places:=⟨f9,_,F9,b9,FY X G a9⟩
  d__law_pairs:=⟨f10,_,F10,b10,FY X G a10⟩
  d__law_ties:=⟨f11,_,F11,b11,FY X G a11⟩
  d__law_text:=⟨f12,_,F12,b12,FY X G a12⟩
  d_law:=⟨f13,_,F13,b13,FY X G a13⟩
  c_Web:=⟨⟨pg_Web,hd_Web,po_Web,sa_Web⟩,⟨mk_Web,a3,i3,kc_Web⟩,FY X G a_Web⟩
  n_Web_places:=n_Web_places
  n_Web_ties:=n_Web_ties
  n_Web_near_sets:=n_Web_near_sets
  oi_Web:=⟨⟨pg_Web,hd_Web,po_Web,sa_Web⟩,wa_Web,sp,tk,wo_Web,wi_Web⟩
  x_BadPlaces:=⟨⟨xe_BadPlaces⟩,FY X G a_BadPlaces⟩
  x_BadTie:=⟨⟨xe_BadTie⟩,FY X G a_BadTie⟩
  nd:=xnd
  b_all:=DC X G z_all
  b_enumerate:=DC X G z_enumerate
  b_int:=DC X G z_int
  b_isinstance:=DC X G z_isinstance
  b_len:=DC X G z_len
  b_max:=DC X G z_max
  b_min:=DC X G z_min
  b_range:=DC X G z_range
  b_sorted:=DC X G z_sorted
  b_str:=DC X G z_str
  b_tuple:=DC X G z_tuple
  g_MOST_PLACES:=⟨tk_MOST_PLACES,FY X G g_MOST_PLACES⟩
  g_FIGURES:=⟨tk_FIGURES,FY X G g_FIGURES⟩
  g_MOST_FIGURES:=⟨tk_MOST_FIGURES,FY X G g_MOST_FIGURES⟩ }
 refine ⟨W,T,?_,xnd,λs v=>.of_eq rfl⟩;have e:=hfa.symm.trans (FY X G a13);cases e;rfl
theorem walk {l:OpenLaw} {q:Aa} {loose:List Str} {XP:(Str->Option AB)->BG->Prop} {YP:As->BG->Prop} {d:DefRec} {K:Params->Frag} (hn:l.most=some 63) (hdf:d.params.defaults=[])
  (hY:∀(w:As) (h:BG),YP w h->(K w.params).In h)
  (F:∀(w:As) (mg:Str->Option AB) (fa:AE) (h:BG),(K w.params).In h->h.Ns Ah mg->mg d.name=some (.ref fa) ->
   ∃(W:Wd) (T:Txt (K w.params) mg W),fa=T.d_law.f/\W.excs.Nodup/\∀(s:AD) (v:AB),RB s T.d_law.fd ⟨[v],[]⟩ [("script",v)])
  (good:∀(W:Wd),W.excs.Nodup->∀ns:List Int,ns.length<=63->∃S',Tr W [.fro (ns.map D.int)] []=.ok (.bl true) S') :
  WalkO q loose XP YP l.row.toRowW d [] (λf vs=>UJ f vs):=
 L2.YR (n:=63) (k:=5) (x:="script") (CX:=λw=>CXG l.prog w) (sp:=λw=>WN (K w.params)) hn (by decide) hdf ⟨rfl,by decide,by decide⟩ hY
  (λw mg fa h KX G hmg=>by
   obtain ⟨W,T,e,nd,hb⟩:=F w mg fa h KX G hmg;subst e
   exact ⟨T.d_law.fd,hb,λbase _ _=>XG (bp T) (good W nd)⟩)
  (λ_ _ a ns hl hO hS=>⟨a,ns,rfl,cU hO hS,hl,λ_=>rfl⟩) (λw H s e s' z=>cf z)
end M
open PySem PySem.W PyProof.Rows
set_option maxRecDepth 100000 in
set_option maxHeartbeats 0 in
theorem PySem.Challenge.cw_guardround_k56_webs_as_texts_holds : PySem.Challenge.rw_guardround_k56_webs_as_texts.Holds := by
 w_on;o_law;k_head;(case hw=>w_witness2)
 k_fill
 refine M.walk (l:=Ek) rfl rfl (λw h Y=>by first | exact kIn_of Y | exact km_in_of Y) ?F M.good
 case F=>
  intro w mg fa h KX G hmg;refine' M.cj (l:=Ek) (w:=w) KX G hmg ?a_Web ?a_BadPlaces ?a_BadTie ?a1 ?l1 ?k1c ?k1 ?a2 ?l2 ?k2c ?k2 ?a3 ?i3 ?l3 ?k3c ?k3 ?a4 ?l4 ?k4c ?k4 ?a5 ?l5 ?k5c ?k5 ?a6 ?l6 ?k6c ?k6 ?a7 ?l7 ?k7c ?k7 ?a8 ?l8 ?k8c ?k8 ?a9 ?l9 ?k9c ?k9 ?a10 ?l10 ?k10c ?k10 ?a11 ?l11 ?k11c ?k11 ?a12 ?l12 ?k12c ?k12 ?a13 ?l13 ?k13c ?k13 ?pg_Web ?hd_Web ?po_Web ?sa_Web ?mk_Web ?kc_Web ?n_Web_places ?n_Web_ties ?n_Web_near_sets ?sp ?tk ?xnd ?wa_Web ?wo_Web ?wi_Web ?xo_BadPlaces ?xb_BadPlaces ?xo_BadTie ?xb_BadTie ?xe_BadPlaces ?xg_BadPlaces ?xn_BadPlaces ?xa_BadPlaces ?xe_BadTie ?xg_BadTie ?xn_BadTie ?xa_BadTie ?z_all ?z_enumerate ?z_int ?z_isinstance ?z_len ?z_max ?z_min ?z_range ?z_sorted ?z_str ?z_tuple ?g_MOST_PLACES ?g_FIGURES ?g_MOST_FIGURES
  (case a_Web | a_BadPlaces | a_BadTie | a1 | l1 | k1c | k1 | a2 | l2 | k2c | k2 | a3 | i3 | l3 | k3c | k3 | a4 | l4 | k4c | k4 | a5 | l5 | k5c | k5 | a6 | l6 | k6c | k6 | a7 | l7 | k7c | k7 | a8 | l8 | k8c | k8 | a9 | l9 | k9c | k9 | a10 | l10 | k10c | k10 | a11 | l11 | k11c | k11 | a12 | l12 | k12c | k12 | a13 | l13 | k13c | k13 | pg_Web | hd_Web | po_Web | sa_Web | mk_Web | kc_Web | n_Web_places | n_Web_ties | n_Web_near_sets | sp | tk=>k_is)
  (case xnd=>decide)
  (case wa_Web | wo_Web=>k_is)
  (case wi_Web=>kit_is)
  (case xo_BadPlaces | xb_BadPlaces | xo_BadTie | xb_BadTie=>k_is)
  (case xe_BadPlaces=>k_exc)
  (case xg_BadPlaces | xn_BadPlaces | xa_BadPlaces=>k_is)
  (case xe_BadTie=>k_exc)
  (case xg_BadTie | xn_BadTie | xa_BadTie | z_all | z_enumerate | z_int | z_isinstance | z_len | z_max | z_min | z_range | z_sorted | z_str | z_tuple | g_MOST_PLACES | g_FIGURES | g_MOST_FIGURES=>k_is)
#print axioms PySem.Challenge.cw_guardround_k56_webs_as_texts_holds
