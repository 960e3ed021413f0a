import PyProof.Rows.All
import Wide.All
import OpenK.AllK
import Wide.FinOn
import Lean
import PyProof.EqAt
import PyProof.EqKinds
import PyProof.TupleCall
import PyProof.CodeObj
import PyProof.ExcBaseAll.ValueError
import PyProof.NsDelKeeps
import PyProof.NeKinds
import PyProof.Rows.SortShell
import PyProof.Rows.FStr
import PyProof.FString
import PyProof.ExcAttrAll.ValueError
import PyProof.ExcArgsOwn
import PyProof.Rows.SortRuns
import PyProof.TupleIter
import PyProof.Dict
import KE.KDictSum
import PyProof.Rows.SetFrom
import PyProof.SetRoads
import PyProof.Rows.Range3
import PyProof.WalksMore
import PyProof.Rows.SortRev
import PyProof.Rows.RuleB_bool
import PyProof.TupleOfSeq
import PyProof.EnumMake
import PyProof.SliceList
import PyProof.MinMaxWalk
import PyProof.Rows.EnumRows
import PyProof.WalkInts
import PyProof.Rows.SeqCalls
import KE.KRevIter
import PyProof.CollectIter
import PyProof.TupleOfGen
import PyProof.Rows.FactsT2
import PyProof.ListRange
import PyProof.Rows.CallKwBuiltin
import PyProof.ZipIter
import PyProof.Rows.ZipGen
import PyProof.Rows.RuleM_int
import PyProof.Rows.AssignMoreSeq
import KE.KIntText
import PyProof.Rows.StrKeys3
import PyProof.StrBlock
import PyProof.StrCalls2
import PyProof.StrWalks
import PyProof.Rows.RuleN_abs
import PyProof.CollectWalk
import PyProof.AttrMissHeap
import PyProof.FactsAll.zip_1
import KE.KDictOf
import KE.KLam
import KE.KSortKey
import KE.KNestM
import PySem.Challenge.RW_guardround_k45_whole_calls_from_a_set_ap
set_option Elab.async false
set_option linter.all false
set_option compiler.extract_closed false
set_option bootstrap.genMatcherCode false
set_option genSizeOf false
set_option maxRecDepth 100000
set_option maxHeartbeats 8000000
abbrev ZLi:=List Int
abbrev ZPi:=Int×Int
theorem qX{c:Prop}{h:Decidable c}(g:c){j:Sort u}{t e:j}:ite c t e=t:=if_pos g
theorem qY{c:Prop}{h:Decidable c}(g:Not c){j:Sort u}{t e:j}:ite c t e=e:=if_neg g
theorem wX{p:Prop}[i:Decidable p](h:p):decide p=true:=decide_eq_true h
theorem wY{p:Prop}[i:Decidable p](h:Not p):decide p=false:=decide_eq_false h
theorem zX{a b:Prop}(h:a)(n:Not a):b:=absurd h n
noncomputable section
open Array renaming forIn_toList->Rc,getD_eq_getD_getElem?->DJ,length_toList->Aw,mem_extract_iff_getElem->KN,mem_of_getElem?->B0,mem_toList_iff->A3,perm_iff_toList_perm->DT,toList->Xy,toList_append->As,toList_map->Gm,toList_modify->Qc,toList_push->GF,toList_reverse->DS,toList_setIfInBounds->L3
open Array.Perm renaming refl->JP
open Bool renaming and_eq_true->Di,false_eq_true->BR,false_ne_true->AZ,false_or->Xx,not_true->N2,true_and->Xw
open Eq renaming trans->CD
open False renaming elim->B3
open ForInStep renaming yield->El
open Int renaming emod_eq_of_lt->Va,emod_lt_of_pos->Be,emod_nonneg->Br,lt_of_le_of_lt->TH,toNat_natCast->DR,toNat_of_nonneg->Dk,zero_add->PZ
open List renaming all_eq_true->HF,all_map->Zq,any_cons->Ey,any_eq_false->Jp,any_eq_true->VZ,any_toArray->HE,append_assoc->A0,append_nil->Bz,drop_drop->MX,drop_eq_getElem_cons->GD,ext_getElem?->GR,extract->Jo,filterMap_cons->Ig,filterMap_cons_none->Dq,filterMap_cons_some->Dp,filter_eq_nil_iff->O6,filter_sublist->Ie,find?_cons->CH,forIn_cons->Vf,forIn_nil->MW,getD_eq_getElem?_getD->Fh,getElem?_append_left->AN,getElem?_append_right->Ae,getElem?_drop->Fg,getElem?_eq_getElem->A2,getElem?_eq_none->Ba,getElem?_eq_none_iff->Bi,getElem?_eq_some_iff->AD,getElem?_map->Ad,getElem?_range->Bk,getElem?_replicate->CG,getElem?_set->Ch,getElem?_set_ne->Ag,getElem?_set_self->Av,getElem?_take_of_lt->N1,length->GP,length_append->Ao,length_cons->Al,length_drop->HD,length_map->AI,length_nil->HW,length_pos_iff->Ra,length_replicate->Ht,length_reverse->RZ,length_set->Cb,length_singleton->DI,length_take->CP,lookup->E2,lookup_cons->BM,map->XV,mapM_toArray->TC,map_append->Ca,map_congr_left->FF,map_cons->Au,map_id->QZ,map_id'->Zp,map_map->B7,map_nil->Jn,map_reverse->VY,map_snd_zip->VX,map_take->Xu,mem_append->A1,mem_append_left->Cg,mem_append_right->Az,mem_cons->A7,mem_cons_of_mem->Aa,mem_cons_self->Am,mem_filter->BK,mem_filterMap->Ff,mem_iff_getElem->QY,mem_map->Cf,mem_map_of_mem->RY,mem_of_getElem?->Bd,mem_range->XU,mem_reverse->VW,mem_singleton->Ah,mergeSort_perm->RX,nodup_append->Jm,nodup_cons->D0,nodup_nil->MV,not_mem_nil->Es,of_mem_zip->Lp,pairwise_append->BP,pairwise_cons->Su,pairwise_map->EK,pairwise_mergeSort->OB,pairwise_reverse->Hs,perm_append_comm->PY,range->A8,range_succ->Ln,replicate->BH,reverse_cons->GN,singleton_append->Ek,size_toArray->AY,take_add_one->GM,take_append_drop->Ej,take_length->Er,take_of_length_le->C6,take_sublist->TB,zipIdx_nil->Ve
open List.Pairwise renaming nil->Z2
open List.Perm renaming append_left->Gk,append_right->L0,of_eq->Qa
open Nat renaming add_zero->Z1,le_of_eq->PV,le_of_lt->HV,le_of_not_lt->Ex,le_of_succ_le->J7,le_refl->AK,le_succ->RW,le_trans->Ai,lt_irrefl->Bx,lt_of_le_of_lt->BU,lt_of_lt_of_le->AQ,lt_succ_of_lt->J6,lt_succ_self->B5,lt_trans->Z0,min_le_right->Vd,ne_of_gt->HU,ne_of_lt->Ak,not_lt->Ew,sub_self->HS,zero_add->HR,zero_le->CA
open Nat.succ renaming inj->Ic
open Ne renaming symm->B2
open Option renaming bind_some->BG,getD_none->Ss,getD_some->Sr,isSome_map->JO,isSome_some->QX,map->Zn,map_some->S8
open Option.some renaming inj->CO,injEq->N0
open Or renaming inl->Lm,inr->Jl
open PyProof.Rows renaming AllBare->GU,IntsAre->C7,IsTup->Zr,Keyed->Ap,SortKind->JU,SortSt->An,Subscript_->PR,arrOf->AM,boot_any->bZ,boot_bool->bY,boot_int->bX,boot_isinstance->bW,boot_max->bV,boot_min->Kh,boot_range->Xs,boot_sorted->Jk,boot_sum->bU,boot_tuple->bT,bubble->Xr,callWith_builtin1->bS,callWith_type1->Cy,elem'_eq->Vc,entry_list_sort->bP,envOfC->Fs,failedOf->Fc,firstOfTuple'->RT,general'->PL,get?_update_seq->N9,listItems_at->Lx,listUpdate_at->HQ,ltAt'->Zj,mirror->Gi,mirror_perm->Nz,pairsOf->HM,pendingOf->AO,reverseSlice'->KM,reverseSlice'_eq->Hz,seqEpoch_at->Ny,seqObj->BN,slot_tuple_getitem->Do,sortedHeap->Xp,subscriptTail->KL,subscriptTail_builtinR->Sv,tuples'->Zh,wpS_bind->AT,wpS_forRange->CF,wpS_get->Eu,wpS_modify->CL,wpS_mono->EF,wpS_pure->AU
open PyProof.Rows.IsTup renaming new->TF
open PyProof.Rows.SortSt renaming mk'->Ea
open PySem renaming Addr->AL,Arguments->Jq,Around->A4,BindsTo->O8,DictEntry->Z3,FuncData->EJ,Heap->BY,IsPart->M5,Keyword->TD,Model->PX,NameKind->JW,Paired->Ev,PassesOwn->Zz,Program->Aq,Result->M2,Scope->Fd,Shared->AF,Stmt->DM,TriplesOk->Zw,Value->AC,Within->OA,World->A9,argBest->CU,assign->PP,assignEach->EN,atKey->PN,attributeBase->EI,backTo->D2,behindInMarks->Bh,binaryOp->Cq,bindArgs->JT,bindC->So,bindL->Sn,bootBuiltins->Dy,builtinsNs->IN,cLine->C9,call->RU,callerA->Lz,cellsFrom->BW,closureFor->PM,codeAny->Dx,codeAny_builtin->Ia,codeAny_mono->IM,compareOp->Bb,concat_meets->Sy,eval->Bt,foldedSetIterable->Dg,getItem->Jj,holding->Sx,isTrue->PK,letOwnedTupleGo->N8,mainGlobals->Ay,mem_of_lookup->Bj,model->AW,newFunctionEnv->PJ,noFill_tuple_add->M1,plainId_quiet->HP,preSum->Xq,pushCells->C8,pushCells_keeps->N7,pyIter->Sw,pyNext->Mz,rawInt->JS,relabel->GJ,seq_tuple_add->RS,sizeLine_eq->JR,sliceBounds->DH,slicePick->Sm,slot_list_getitem->Lw,standAt->Zi,starEach->AX,subscripted->Nx,swapsWith->DX,sysModules->Cw,truthy->Xo,tupleKind->Mx,tupleKind_room_in1->Gh,valueAt->Lv,wpAny->Ac,wpAny_Call_Name_kw->DK,wpAny_Name->Xn,wpAny_assign_Name->Zg,wpAny_attempt->KJ,wpAny_bind->AA,wpAny_call->PF,wpAny_callSpecial?_slot->Hy,wpAny_call_entry->FE,wpAny_comprehension_free->RQ,wpAny_dictEntries->Lu,wpAny_dictEpoch->N6,wpAny_eqBool_int->Zu,wpAny_execs_cons->Zt,wpAny_execs_nil->N5,wpAny_field->Vb,wpAny_fieldsOf->JQ,wpAny_getItem_list_slice->RP,wpAny_holding->DW,wpAny_isOneOf_keyiter->Ih,wpAny_isTrue_Compare1->VV,wpAny_letGo->Nv,wpAny_mono->CZ,wpAny_newList->KI,wpAny_newObj_type->Bq,wpAny_passesOwn->Fq,wpAny_pure->AH,wpAny_pyIter_list->Ls,wpAny_pyIter_tuple->Xm,wpAny_rule->PD,wpAny_truthy_bool->Bc,wpAny_tryCatch->PB,wpAny_typeNameOfWhole_keyiter->DG,wpAny_typeNameOf_keyiter->EG,wpAny_updateSeq->N4
open PySem.Around renaming frames_deeper->O9,under->N3,under_plainId->Et
open PySem.Builtin.Builtins renaming bindParams->XX
open PySem.Builtin.Dict renaming dictSlotNone->bd,showsAll->Ki
open PySem.Builtin.Dict_items renaming ownsTuple->HN
open PySem.Builtin.List renaming listExtendWith->bb,listItems->Fi
open PySem.Builtin.Range renaming rangeSize->DZ,small->Lr
open PySem.Builtin.Slice renaming sliceAdjust->Ez,sliceApplied->Il,sliceFields->Z7,slicePartIndex->Z6,slicePlaces->DB
open PySem.Builtin.Tuple renaming tupleExact->DO,tupleItemsOf->Z5
open PySem.Calls renaming Name_function_global->L1,callWith_builtin->OC
open PySem.Challenge renaming pw_guardround_k45_whole_calls_from_a_set_ap->Xt,rw_guardround_k45_whole_calls_from_a_set_ap->Dj
open PySem.Code renaming frames->Z4,isFrame->O7
open PySem.F renaming args_dict_keyiterator_next_1->IA,args_tuple_add_2->Ft,entry_dict_keyiterator_next->IG,entry_min_loop->Xv,entry_tuple_add->GK,plainAttrs_list->MU,plain_list_iadd->XW,plain_min_loop->Dl,slot_dict_iter->M4,slot_dict_keyiterator_next->Bo,slot_tuple_add->Gj
open PySem.Heap renaming SameBut->Fb,get?_none_of_le->Qb,get?_push_of_some->AE,get?_push_size->AR,get?_update_ne->Rb,get?_update_other->EM,get?_update_self->Pa,lt_size->AV,size_push->DY
open PySem.Heap.IsSliceOf renaming new->Lq
open PySem.Heap.SameBut renaming refl->ba,update->EO
open PySem.NameKind renaming cell->Bu,free->Dh
open PySem.Obj renaming data_mapFields->S9,mapFields->Zo,mapSeq->B4
open PySem.Paired renaming length->DA,snoc->O5
open PySem.SeqAt.RcAt renaming tuples->Zx
open PySem.Str renaming ofString->B8
open PySem.Value renaming bool->Ii,bytes->Zm,float->PQ,int->Db,isInt->Zl,isStrOf->XT,none->Dz,ref->Ax,str->Jz,type->Ei
open PySem.W renaming Frag->AB,callWith_K->PU,cellsFrom_some->M3,codeIn->Kg,emptyDict->Bv,findIn->Cj,fnOf->E5,handedIn->RV,hasDictIn->Ik,instObj->CV,kdu_collect->O4,keepIn->D3,kia_one->Bm,kitOne->DN,kitx_dict->QW,kitx_list->QV,kla_obj->Ly,lookIn->Kf,makesIn->Sq,methodObj->Ij,mg_none_of->DL,noTabs->Sz,nsIn->M0,plainGet->JV,plainOver->QU,tabObj->PH,takerIn->J5
open PySem.W.Looks renaming here->Zy
open PySem.W.WData renaming int->bQ
open PySem.W.WShape renaming has->Zk
open PySem.Walks renaming list->Zv
open PySem.Within renaming cons->bR
open Sum renaming inl->Ib,inr->J4
open True renaming intro->C5
open PySem PySem.Spec PyProof.Rows
namespace L2
abbrev Key:=Sum Int Str
def Mn:Key->AC->Bool
 | .inl k,v=>Zl k v
 | .inr x,v=>XT x v
def keyH(w:A9):Key->Int
 | .inl k=>hashInt k
 | .inr x=>hashStr w x
theorem CK:∀{k:Key} {v:AC},Mn k v=true->(∃i t,k=Ib i/\v=Db i t)∨(∃x t,k=J4 x/\v=Jz x t)
 | .inl i,v,h=>by
  obtain⟨t,e⟩:=AC.isInt_shape (k:=i) (v:=v) h;exact .inl ⟨i,t,rfl,e⟩
 | .inr x,v,h=>by
  obtain⟨t,e⟩:=AC.isStrOf_shape (x:=x) (v:=v) h;exact .inr ⟨x,t,rfl,e⟩
theorem SD(i:Int)(t:Tok):Mn (.inl i) (.int i t)=true:=by simp[Mn,Zl]
theorem SC(x:Str)(t:Tok):Mn (.inr x) (.str x t)=true:=by simp[Mn,XT]
theorem Y6(a b:Int):decide ((Ib a:Key)=Ib b)=(a==b):=by
 by_cases e:a=b
 ·subst e;simp
 ·have h:¬(Ib a:Key)=Ib b:=λq=>e (Ib.inj q)
  rw[wY h];exact(beq_eq_false_iff_ne.mpr e).symm
theorem Y3(a b:Str):decide ((J4 a:Key)=J4 b)=decide (a=b):=by
 by_cases e:a=b
 ·subst e;simp
 ·have h:¬(J4 a:Key)=J4 b:=λq=>e (J4.inj q)
  rw[wY h,wY e]
theorem Y5(a:Int)(b:Str):decide ((Ib a:Key)=J4 b)=false:=wY (λq=>nomatch q)
theorem Y4(a:Str)(b:Int):decide ((J4 a:Key)=Ib b)=false:=wY (λq=>nomatch q)
def C1(prog:Aq)(w:A9):PySem.KeyKind prog w Key where
 is:=Mn
 hash:=keyH w
 inj:=λv a b m hb=>by
  rcases CK m with⟨i,t,rfl,rfl⟩ | ⟨x,t,rfl,rfl⟩
  ·rcases CK hb with⟨j,u,rfl,e⟩ | ⟨y,u,rfl,e⟩
   ·injection e with g _;rw[g]
   ·exact nomatch e
  ·rcases CK hb with⟨j,u,rfl,e⟩ | ⟨y,u,rfl,e⟩
   ·exact nomatch e
   ·injection e with g _;rw[g]
 byValue:=λk v h=>by
  rcases CK h with⟨i,t,rfl,rfl⟩ | ⟨x,t,rfl,rfl⟩ <;> rfl
 pyHash:=λl h=>by
  rcases CK l with⟨i,t,rfl,rfl⟩ | ⟨x,t,rfl,rfl⟩
  ·exact wpAny_pyHash_int h
  ·exact wpAny_pyHash_str h
 eqBool:=λo l h=>by
  rcases CK o with⟨i,t,rfl,rfl⟩ | ⟨x,t,rfl,rfl⟩
  ·rcases CK l with⟨j,u,rfl,rfl⟩ | ⟨y,u,rfl,rfl⟩
   ·rw[Y6]at h;exact Zu h
   ·rw[Y5]at h;exact SeqAt.EqAt.int_str i t y u _ _ _ _ h
  ·rcases CK l with⟨j,u,rfl,rfl⟩ | ⟨y,u,rfl,rfl⟩
   ·rw[Y4]at h;exact SeqAt.EqAt.str_int x t j u _ _ _ _ h
   ·rw[Y3]at h;exact wpAny_eqBool_str h
 «strs»:=λk x t v h=>by
  rcases CK h with⟨i,u,rfl,e⟩ | ⟨y,u,rfl,e⟩
  ·exact nomatch e
  ·injection e with g _
   subst g
   cases v <;> rfl
theorem Od(prog:Aq)(w:A9)(i:Int)(t:Tok):(C1 prog w).is (.inl i) (.int i t)=true:=SD i t
theorem Oc(prog:Aq)(w:A9)(x:Str)(t:Tok):(C1 prog w).is (.inr x) (.str x t)=true:=SC x t
inductive V where
 | non | bl (b:Bool) | int (i:Int) | str (x:Str) | byt (b:Array UInt8) | flt (b:UInt64) | ref (a:AL) | ty (n:String)
 deriving DecidableEq
def RelV:V->AC->Prop
 | .non,u=>u=Dz
 | .bl b,u=>u=Ii b
 | .int i,u=>∃t,u=Db i t
 | .str x,u=>∃t,u=Jz x t
 | .byt b,u=>∃t,u=Zm b t
 | .flt b,u=>∃t,u=PQ b t
 | .ref a,u=>u=Ax a
 | .ty n,u=>u=Ei n
abbrev BD:List V->List AC->Prop:=Ev RelV
theorem BD.length(r:BD xs us):xs.length=us.length:=DA r
theorem BD.get:∀{xs:List V} {us:List AC} {i:Nat} {x:V},BD xs us->xs[i]?=some x->∃u,us[i]?=some u/\RelV x u
 | _,_,_,_,.nil,e=>by simp at e
 | _,_,0,_,.cons r _,e=>by simp at e;subst e;exact⟨_,rfl,r⟩
 | _,_,i+1,x,.cons _ t,e=>by
  obtain⟨u,g,j⟩:=BD.get (i:=i) (x:=x) t (by simpa using e);exact⟨u,by simpa using g,j⟩
theorem BD.append:∀{xs g:List V} {us j:List AC},BD xs us->BD g j->BD (xs++g) (us++j)
 | _,_,_,_,.nil,s=>s
 | _,_,_,_,.cons r t,s=>.cons r (BD.append t s)
theorem BD.take:∀{xs:List V} {us:List AC} (n:Nat),BD xs us->BD (xs.take n) (us.take n)
 | _,_,0,_=>.nil
 | _,_,_+1,.nil=>.nil
 | _,_,n+1,.cons r t=>.cons r (BD.take n t)
theorem BD.drop:∀{xs:List V} {us:List AC} (n:Nat),BD xs us->BD (xs.drop n) (us.drop n)
 | _,_,0,r=>r
 | _,_,_+1,.nil=>.nil
 | _,_,n+1,.cons _ t=>BD.drop n t
def Ji:Option V->Option AC->Prop
 | some v,some u=>RelV v u
 | none,none=>True
 | _,_=>False
def KV{g:Type}:List (g×V)->List (g×AC)->Prop:=Ev λ(p:g×V) (q:g×AC)=>p.1=q.1/\RelV p.2 q.2
def kV:Key->V
 | .inl i=>.int i
 | .inr x=>.str x
inductive HO where
 | lst (xs:List V)
 | tup (xs:List V)
 | dK (b0:List (Key×V)) | dT (b0:List (List Key×V))
 | set (S:Int->Bool) (n:Nat)
 | ins (C dx:AL) (fs:List (Str×V))
 | own (x:AL)
 | xd (fs:List (Str×V))
 | met (f x:AL)
 | rng (lo hi:Int)
 | frz (o:Obj) (u:HO)
 | tbl (ps:Array AC)
 | ext (φ:BY->Prop)
abbrev Hp:=AL->Option HO
def upd(H:Hp)(a:AL)(o:HO):Hp:=λb=>if b=a then some o else H b
theorem BE:upd H a o a=some o:=by unfold upd;rw[qX rfl]
theorem BC(h:b≠a):upd H a o b=H b:=by unfold upd;rw[qY h]
theorem am{H:Hp}{a b:AL}{o u:HO}(h:H a=some o)(h':H b=some u)(d:o≠u):a≠b:=by
 intro e;subst e;rw[h]at h';exact d (CO h')
theorem CC{H:Hp}{a b:AL}{o:HO}(h:H a=some o)(h':H b=none):a≠b:=by
 intro e;subst e;rw[h]at h';cases h'
section
variable(P:Aq)(w:A9)
def CT(H:Hp)(h:BY)(a:AL):HO->Prop
 | .lst g=>g.length<=sizeLine/\∃(l:List AC) (n:Nat),BD g l/\h.get? a=some { cls:=.type "list",data:=.seq l.toArray n }
 | .tup g=>(g.length<=sizeLine/\∃o,h.get? a=some o/\o.dict=none)/\∃l:List AC,BD g l/\Zr h a l.toArray
 | .dK m=>m.length<=sizeLine/\(a==Cw)=false/\∃vs,KV m vs/\h.DictOf (C1 P w) a vs
 | .dT m=>m.length<=sizeLine/\(a==Cw)=false/\∃g:List (List Key×AL×AC),
   Ev (λ(p:List Key×V) (q:List Key×AL×AC)=>p.1=q.1/\H q.2.1=some (.tup (p.1.map kV))/\RelV p.2 q.2.2) m g /\
   ∃o B I,h.get? a=some o/\o.ExactDict/\o.data=.dict B I/\B.toList=g.map (entryOfKey (Mx (C1 P w)))/\(g.map (·.1)).Nodup
 | .set S n=>h.SetOf (intKind P w) a S n
 | .ins C s fs=>H s=some (.own a)/\fs.length<=1000/\s≠a/\h.get? a=some (CV C s) /\
   ∃j,h.Ns1 s j/\(∀f,Ji (fs.lookup f) (j f))/\OA j (fs.map (·.1))
 | .own _=>∃o,h.get? a=some o
 | .xd fs=>∃j,h.Ns1 a j/\∀f,Ji (fs.lookup f) (j f)
 | .rng lo J=>∃t u v,h.get? a=some { cls:=.type "range",data:=.fields #[.int lo t,.int J u,.int 1 v] }
 | .frz o u=>h.get? a=some o/\CT H h a u
 | .tbl L=>h.get? a=some { cls:=.none,data:=.fields L }
 | .met f x=>h.get? a=some (Ij (.ref f) (.ref x))
 | .ext A=>A h/\(∃o,h.get? a=some o)/\∀E G:BY,A E->(∀o,E.get? a=some o->G.get? a=some o)->A G
def HOk(H:Hp)(h:BY):Prop:=∀a o,H a=some o->CT P w H h a o
end
section
variable{P:Aq}{w:A9}{H H':Hp}{h h':BY}{a:AL}{o:HO}
theorem CT.lt(x:CT P w H h a o):a < h.objs.size:=by
 cases o with
 | lst g=>obtain⟨_,_,_,_,e⟩:=x;exact AV e
 | tup g=>obtain⟨_,_,_,p⟩:=x;exact p.lt
 | dK j=>obtain⟨_,_,_,_,o,_,_,e,_⟩:=x;exact AV e
 | dT j=>obtain⟨_,_,_,_,o,_,_,e,_⟩:=x;exact AV e
 | set S n=>obtain⟨o,_,_,_,e,_⟩:=x;exact AV e
 | ins C l fs=>obtain⟨_,_,_,e,_⟩:=x;exact AV e
 | own y=>obtain⟨_,e⟩:=x;exact AV e
 | xd fs=>obtain⟨_,⟨_,_,_,e,_⟩,_⟩:=x;exact AV e
 | rng lo m=>obtain⟨_,_,_,e⟩:=x;exact AV e
 | frz s u=>obtain⟨e,_⟩:=x;exact AV e
 | tbl A=>exact AV (show h.get? a=some _ from x)
 | met f y=>exact AV (show h.get? a=some _ from x)
 | ext B=>obtain⟨_,⟨_,e⟩,_⟩:=x;exact AV e
theorem Ev.mapP{l m:Type}{F G:l->m->Prop}:∀{g:List l} {j:List m},Ev F g j->(∀a b,F a b->G a b)->Ev G g j
 | _,_,.nil,_=>.nil
 | _,_,.cons r t,f=>.cons (f _ _ r) (Ev.mapP t f)
theorem CT.stay(x:CT P w H h a o)(k:∀b u,(b=a∨H b=some (.own a))->h.get? b=some u->h'.get? b=some u)
  (ho:∀b,H b=some (.own a)->H' b=some (.own a)) (G:∀b xs,H b=some (.tup xs)->H' b=some (.tup xs)):CT P w H' h' a o:=by
 induction o with
 | lst xs=>obtain⟨z,m,n,r,e⟩:=x;exact⟨z,m,n,r,k _ _ (.inl rfl) e⟩
 | tup xs=>obtain⟨⟨z,I,s,J⟩,m,r,g,e,c⟩:=x;exact⟨⟨z,I,k _ _ (.inl rfl) s,J⟩,m,r,g,k _ _ (.inl rfl) e,c⟩
 | dK L=>obtain⟨z,y,vs,r,g,j,l,e,c⟩:=x;exact⟨z,y,vs,r,g,j,l,k _ _ (.inl rfl) e,c⟩
 | dT L=>
  obtain⟨z,y,xs,r,g,j,l,e,c⟩:=x;exact⟨z,y,xs,Ev.mapP r λp q z=>⟨z.1,G _ _ z.2.1,z.2.2⟩,g,j,l,k _ _ (.inl rfl) e,c⟩
 | set S n=>obtain⟨g,j,l,t,e,c⟩:=x;exact⟨g,j,l,t,k _ _ (.inl rfl) e,c⟩
 | ins C Q fs=>
  obtain⟨d,z,N,e,A,⟨B,j,l,s,c⟩,r⟩:=x;exact⟨ho _ d,z,N,k _ _ (.inl rfl) e,A,⟨B,j,l,k _ _ (.inr d) s,c⟩,r⟩
 | own y=>obtain⟨g,e⟩:=x;exact⟨g,k _ _ (.inl rfl) e⟩
 | xd fs=>obtain⟨A,⟨B,j,l,e,c⟩,r⟩:=x;exact⟨A,⟨B,j,l,k _ _ (.inl rfl) e,c⟩,r⟩
 | rng lo R=>obtain⟨t,u,v,e⟩:=x;exact⟨t,u,v,k _ _ (.inl rfl) e⟩
 | frz g u O=>obtain⟨e,q⟩:=x;exact⟨k _ _ (.inl rfl) e,O q⟩
 | tbl E=>
  have e:h.get? a=some { cls:=.none,data:=.fields E }:=x;show h'.get? a=some { cls:=.none,data:=.fields E };exact k a _ (.inl rfl) e
 | met f y=>
  have e:h.get? a=some (Ij (.ref f) (.ref y)):=x;show h'.get? a=some (Ij (.ref f) (.ref y));exact k a _ (.inl rfl) e
 | ext T=>obtain⟨p,⟨o,e⟩,st⟩:=x;exact⟨st _ _ p λo q=>k _ _ (.inl rfl) q,⟨o,k _ _ (.inl rfl) e⟩,st⟩
theorem HOk.lt(x:HOk P w H h)(e:H a=some o):a < h.objs.size:=(x a o e).lt
theorem HOk.fresh(x:HOk P w H h)(e:h.objs.size<=a):H a=none:=by
 cases q:H a with
 | none=>rfl
 | some u=>exact zX (AQ (x.lt q) e) (Bx _)
theorem HOk.kept(x:HOk P w H h)(k:∀b u,h.get? b=some u->h'.get? b=some u):HOk P w H h':=λa o e=>
 (x a o e).stay (λb u _ q=>k b u q) (λ_ q=>q) λ_ _ q=>q
theorem HOk.laid(x:HOk P w H h)(k:∀b u,h.get? b=some u->h'.get? b=some u)(j:h.objs.size<=a)(new:CT P w (upd H a o) h' a o):HOk P w (upd H a o) h':=λb u e=>by
 have g:=x.fresh j
 by_cases hb:b=a
 ·subst hb;rw[BE]at e;cases e;exact new
 ·rw[BC hb]at e
  exact(x b u e).stay (λc v _ q=>k c v q) (λc q=>by rw[BC (CC q g)];exact q) λc l q=>by rw[BC (CC q g)];exact q
end
def Rd(H:Hp)(a:AL)(u:HO):Prop:=H a=some u∨∃o,H a=some (.frz o u)
theorem Rd.ok(r:Rd H a u)(x:HOk P w H h):CT P w H h a u:=by
 rcases r with r | ⟨o,r⟩
 ·exact x a u r
 ·obtain⟨_,q⟩:=x a _ r
  exact q
def Mut:Option HO->Prop
 | some (.lst _)=>True
 | some (.dK _)=>True
 | some (.dT _)=>True
 | some (.set _ _)=>True
 | some (.ins _ _ _)=>True
 | some (.ext _)=>True
 | _=>False
section
variable{P:Aq}{w:A9}{H:Hp}{h h':BY}{x e:AL}
theorem HOk.write(ok:HOk P w H h)(j:Mut (H x))(o:e=x∨H e=some (.own x))(k:∀b u,b≠e->h.get? b=some u->h'.get? b=some u)(C:∃u,h'.get? e=some u)
  (new:CT P w (upd H x s) h' x s):HOk P w (upd H x s) h':=λb u q=>by
 have A:∀c y,H c=some (.own y)->c≠x:=λc y r z=>by subst z;rw[r]at j;exact j
 have E:∀c l,H c=some (.tup l)->c≠x:=λc l r z=>by subst z;rw[r]at j;exact j
 by_cases hb:b=x
 ·subst hb;rw[BE]at q;cases q;exact new
 ·rw[BC hb]at q
  by_cases g:b=e
  ·have B:H b=some (.own x):=by
    rcases o with z | z
    ·exact zX (g.trans z) hb
    ·rw[g];exact z
   rw[q]at B;cases B;obtain⟨v,G⟩:=C;exact⟨v,by rw[g];exact G⟩
  ·refine(ok b u q).stay (λc v m r=>k c v ?_ r) (λc r=>by rw[BC (A c b r)];exact r) λc l r=>by rw[BC (E c l r)];exact r
   rcases m with rfl | m
   ·exact g
   ·rintro rfl
    rcases o with z | z
    ·exact A c b m z
    ·rw[m]at z;cases z;exact hb rfl
end
structure Un(fs ex:List AL)(H H':Hp)(h h':BY):Prop where
 keep:∀b o,h.get? b=some o->H b=none->b∉fs->b∉ex->h'.get? b=some o
 slot:∀b o,h.get? b=some o->H b=none->b∈fs->b∉ex->∃sl,h'.get? b=some { o with slots:=sl }
 free:∀b o,h.get? b=some o->H b=none->b∉ex->H' b=none
 there:∀b o,h.get? b=some o->b∉ex->∃o',h'.get? b=some o'
 tups:∀b xs,H b=some (.tup xs)->H' b=some (.tup xs)
 frzs:∀b o u,H b=some (.frz o u)->H' b=some (.frz o u)
 tbls:∀b ps,H b=some (.tbl ps)->∃more,H' b=some (.tbl (ps++more))
section
variable{fs ex:List AL}{H H1:Hp}{h h1 h':BY}{a x e:AL}{o:HO}
theorem Un.any(u:Un fs ex H H1 h h1)(q:h.get? b=some ob)(n:H b=none)(g:b∉ex):∃sl,h1.get? b=some { ob with slots:=sl }:=by
 by_cases hb:b∈fs
 ·exact u.slot b ob q n hb g
 ·exact⟨ob.slots,u.keep b ob q n hb g⟩
theorem Un.kept(k:∀b u,h.get? b=some u->h'.get? b=some u):Un fs ex H H h h':=
 ⟨λb g q _ _ _=>k b g q,λb g q _ _ _=>⟨g.slots,k b g q⟩,λ_ _ _ n _=>n,λb g q _=>⟨g,k b g q⟩,λ_ _ q=>q,λ_ _ _ q=>q,λ_ j q=>⟨#[],by rw[q];simp⟩⟩
theorem Un.refl:Un fs ex H H h h:=Un.kept λ_ _ q=>q
theorem Un.laid(k:∀b u,h.get? b=some u->h'.get? b=some u)(j:h.objs.size<=a)(g:H a=none):Un fs ex H (upd H a o) h h' where
 keep:=λb u q _ _ _=>k b u q
 slot:=λb u q _ _ _=>⟨u.slots,k b u q⟩
 free:=λb u q n _=>by rw[BC (Ak (AQ (AV q) j))];exact n
 there:=λb u q _=>⟨u,k b u q⟩
 tups:=λb l q=>by rw[BC (CC q g)];exact q
 frzs:=λb u l q=>by rw[BC (CC q g)];exact q
 tbls:=λb m q=>⟨#[],by rw[BC (CC q g),q];simp⟩
theorem Un.write(j:Mut (H x))(s:e=x∨H e=some (.own x))(k:∀b u,b≠e->h.get? b=some u->h'.get? b=some u)(A:∃u,h'.get? e=some u):Un fs ex H (upd H x o) h h':=by
 have m:∀b,H b=none->b≠x:=λb n z=>by subst z;rw[n]at j;exact j
 have hb:∀b,H b=none->b≠e:=λb n z=>by
  subst z
  rcases s with r | r
  ·exact m b n r
  ·rw[n]at r;cases r
 have l:∀b u,H b=some u->¬Mut (some u)->b≠x:=λb u q B z=>by subst z;rw[q]at j;exact B j
 refine⟨λb u q n _ _=>k b u (hb b n) q,λb u q n _ _=>⟨u.slots,k b u (hb b n) q⟩,λb u q n _=>by rw[BC (m b n)];exact n,λb u q _=>?_,
  λb C q=>by rw[BC (l b _ q λz=>z)];exact q,λb u C q=>by rw[BC (l b _ q λz=>z)];exact q,λb E q=>⟨#[],by rw[BC (l b _ q λz=>z),q];simp⟩⟩
 by_cases g:b=e
 ·subst g;exact A
 ·exact⟨u,k b u g q⟩
end
def trk(h:BY)(H:Hp):List AL:=(A8 h.objs.size).filter λa=>(H a).isSome
def LW(h:BY)(H:Hp):BY:=PySem.W.hideAll h (trk h H)
theorem SJ(h:BY)(H:Hp):(LW h H).objs.size=h.objs.size:=PySem.W.hideAll_size _ _
theorem Uk(e:h.get? b=some o)(n:H b=none):(LW h H).get? b=some o:=
 PySem.W.hideAll_get _ e λg=>by
  have q:(H b).isSome=true:=(BK.mp g).2;rw[n]at q;simp at q
theorem Wb(e:(LW h H).get? b=some o):h.get? b=some o/\H b=none:=by
 have g:h.get? b=some o:=PySem.W.of_hideAll (trk h H) e;refine⟨g,?_⟩
 cases q:H b with
 | none=>rfl
 | some x=>
  have j:b∈trk h H:=BK.mpr ⟨XU.mpr (AV g),by simp[q]⟩;have z:(LW h H).get? b=none:=PySem.W.hideAll_none (trk h H) j;rw[z]at e;cases e
def Ke(g h:BY)(L:AL):List (AL×Obj):=(A8 h.objs.size).filterMap λa=>if a=L∨(g.get? a).isSome=true then none else(h.get? a).map λo=>(a,o)
theorem Of(l:a≠L)(m:g.get? a=none)(j:h.get? a=some o):(a,o)∈Ke g h L:=
 Ff.mpr ⟨a,XU.mpr (AV j),by simp[l,m,j]⟩
theorem LH(l:p∈Ke g h L):p.1≠L/\g.get? p.1=none/\h.get? p.1=some p.2:=by
 obtain⟨b,_,e⟩:=Ff.mp l;split at e
 ·cases e
 ·rename_i j
  cases q:h.get? b with
  | none=>rw[q]at e;simp at e
  | some u=>
   rw[q]at e;simp only[S8,N0]at e;subst e;refine⟨λz=>j (.inl z),?_,q⟩;show g.get? b=none
   cases r:g.get? b with
   | none=>rfl
   | some v=>exact(j (.inr (by simp[r]))).elim
theorem UI:News g L h (Ke g h L):=λp j=>let ⟨a,b,c⟩:=LH j;⟨c,a,b⟩
structure Mod(K:AB)(mg:Str->Option AC)(base:BY):Prop where
 kin:K.In base
 glob:base.Ns Ay mg
 blt:∃mb,base.Ns IN mb/\∀x:Str,x≠"__name__"->mb x=Dy x
 nolimit:base.NoLimit
structure Cx where
 prog:Aq
 w:A9
 K:AB
 mg:Str->Option AC
 base:BY
 A:A4
 N:List Str
 s₀:AF
 H₀:Hp
 env:Env
 outer:List Env
 stack:List Env
 ex:List AL
 fn:Str->Bool
 calm:Bool
 pn:List (AL×Obj)
 xe:AC->AF->Prop
def frs(l:List Env):List AL:=l.filterMap (·.frame)
abbrev Cx.fs(X:Cx):List AL:=frs X.outer
def Vis(g:Fd)(x:Str):Prop:=g.names.lookup x=some .local∨g.names.lookup x=some .cell∨g.names.lookup x=some .free
def Loc(g:Fd)(x:Str):Prop:=g.names.lookup x=some .local∨g.names.lookup x=some .cell
def Look(env:Env)(h:BY)(m:Str->Option AC)(x:Str)(u:AC):Prop:=
 (env.kindOf x=some .local/\m x=some u)∨((env.kindOf x=some .cell∨env.kindOf x=some .free)/\∃c,env.cells.lookup x=some c/\h.IsCell c (some u))
structure Cx.Ok(X:Cx):Prop where
 mod:Mod X.K X.mg X.base
 kind:X.env.scope.kind=.function
 glob:X.env.globals=Ay
 blt:X.env.builtins=IN
 above:X.s₀.heap.objs.size<=X.env.locals
 inj:∀x y c,X.env.cells.lookup x=some c->X.env.cells.lookup y=some c->x=y
 has:∀x,(X.env.kindOf x=some .cell∨X.env.kindOf x=some .free)->∃c,X.env.cells.lookup x=some c
 cab:∀x c,X.fn x=true->X.env.cells.lookup x=some c->X.s₀.heap.objs.size<=c
 hd:X.calm=true->X.A.handled=none
 frames:X.A.frames=some X.stack
 stk:X.stack=X.outer∨(X.stack=X.env :: X.outer/\X.env.frame=some X.env.locals)
 exf:∀b∈X.ex,b≠X.env.locals/\∀x c,X.env.cells.lookup x=some c->c≠b
 bs:∀b o,X.base.get? b=some o->X.s₀.heap.get? b=some o/\X.H₀ b=none
 bsz:X.base.objs.size<=X.s₀.heap.objs.size
 noex:∀b o,X.base.get? b=some o->b∉X.ex
 exfs:∀b∈X.ex,b∉X.fs
 funs:X.s₀.heap.FunFrames X.base X.outer
 frf:∀b∈X.fs,X.H₀ b=none
structure Inv(X:Cx)(ζ:List (AL×Obj))(σ:List (Option V))(H:Hp)(s:AF):Prop where
 ok:X.Ok
 os:s.os=X.s₀.os
 bare:GU s.gens
 base:Un X.fs X.ex X.H₀ H X.s₀.heap s.heap
 loc:∃m,s.heap.Ns X.env.locals m/\∀(i:Nat) (x:Str) (v:V),X.N[i]?=some x->σ[i]?=some (some v)->Vis X.env.scope x->∃u,RelV v u/\Look X.env s.heap m x u
 cell:∀x c,X.env.cells.lookup x=some c->∃v,s.heap.IsCell c v
 free:H X.env.locals=none
 freeC:∀x c,X.env.cells.lookup x=some c->H c=none
 pin:∀p∈X.pn++ζ,s.heap.get? p.1=some p.2/\H p.1=none/\p.1≠X.env.locals/\p.1∉X.fs/\∀v,p.2.data≠.cell v
 hok:HOk X.prog X.w H s.heap
 len:σ.length=X.N.length
section
variable{X:Cx}{ζ:List (AL×Obj)}{σ:List (Option V)}{H H':Hp}{s:AF}{h':BY}
theorem Cx.Ok.nofr(ok:X.Ok)(e:X.base.get? b=some o):b∉X.fs:=λhb=>by
 have:=(ok.funs.mem hb).1;rw[e]at this;cases this
theorem Inv.bs(I:Inv X ζ σ H s):∀b o,X.base.get? b=some o->s.heap.get? b=some o/\H b=none:=λb o e=>
 ⟨I.base.keep b o (I.ok.bs b o e).1 (I.ok.bs b o e).2 (I.ok.nofr e) (I.ok.noex b o e),I.base.free b o (I.ok.bs b o e).1 (I.ok.bs b o e).2 (I.ok.noex b o e)⟩
theorem Inv.bk(I:Inv X ζ σ H s):∀b o,X.base.get? b=some o->s.heap.get? b=some o:=λb o e=>(I.bs b o e).1
theorem Inv.mod(I:Inv X ζ σ H s):Mod X.K X.mg X.base:=I.ok.mod
theorem Inv.kIn(I:Inv X ζ σ H s):X.K.In s.heap:=I.ok.mod.kin.keeps I.bk
theorem Inv.fr(I:Inv X ζ σ H s):∃m,Fr X.base X.env.locals s.heap m:=
 let ⟨m,g,_⟩:=I.loc
 ⟨m,g,I.bk,Ai I.ok.bsz I.ok.above⟩
theorem Inv.lt(I:Inv X ζ σ H s):X.env.locals < s.heap.objs.size:=let ⟨_,g,_⟩:=I.loc;g.lt
theorem Inv.sz(I:Inv X ζ σ H s):X.s₀.heap.objs.size<=s.heap.objs.size:=Ai I.ok.above (HV I.lt)
theorem Inv.nofs(I:Inv X ζ σ H s)(h:s.heap.objs.size<=a):a∉X.fs:=λhb=>by
 obtain⟨_,o,g,_⟩:=I.ok.funs.mem hb;exact zX (AQ (AV g) (Ai I.sz h)) (Bx _)
theorem Inv.cne(I:Inv X ζ σ H s):∀x c,X.env.cells.lookup x=some c->c≠X.env.locals:=λx c e z=>by
 obtain⟨v,o,g,hd⟩:=I.cell x c e;obtain⟨m,⟨A,B,C,j,l,_⟩,_⟩:=I.loc;rw[z,j]at g;cases g;rw[l]at hd;cases hd
theorem Inv.funs(I:Inv X ζ σ H s):s.heap.FunFrames X.base X.outer:=by
 have all:∀(l:List Env),(∀b∈frs l,b∈X.fs)->X.s₀.heap.FunFrames X.base l->s.heap.FunFrames X.base l:=by
  intro l
  induction l with
  | nil=>intro _ _;trivial
  | cons A r B=>
   intro m C;obtain⟨E,⟨L,o,g,G,J,hd⟩,N⟩:=C;have j:L∈X.fs:=m L (by unfold frs;rw[Ig,g];exact Am)
   obtain⟨sl,e⟩:=I.base.slot L o J (I.ok.frf L j) j λz=>I.ok.exfs L z j
   exact⟨E,⟨L,_,g,G,e,hd⟩,B (λb hb=>m b (by unfold frs;rw[Ig,g];exact Aa _ hb)) N⟩
 exact all X.outer (λ_ hb=>hb) I.ok.funs
theorem Inv.stack(I:Inv X ζ σ H s):s.heap.FunFrames X.base X.stack:=by
 rcases I.ok.stk with e | ⟨e,g⟩
 ·rw[e];exact I.funs
 ·rw[e]
  obtain⟨m,j,_⟩:=I.loc;refine .cons (by rw[I.ok.kind];decide) g j ?_ I.funs;exact Qb (Ai I.ok.bsz I.ok.above)
theorem Inv.stkSub(I:Inv X ζ σ H s):∀b∈frs X.stack,b∈X.env.locals :: X.fs:=λb hb=>by
 rcases I.ok.stk with e | ⟨e,g⟩
 ·rw[e]at hb;exact Aa _ hb
 ·rw[e]at hb
  unfold frs at hb;rw[Ig,g]at hb;exact hb
theorem Inv.stkFree(I:Inv X ζ σ H s):∀b∈frs X.stack,H b=none:=λb hb=>by
 rcases A7.mp (I.stkSub b hb)with e | hb
 ·rw[e];exact I.free
 ·obtain⟨_,o,g,_⟩:=I.ok.funs.mem hb
  exact I.base.free b o g (I.ok.frf b hb) λz=>I.ok.exfs b z hb
theorem Inv.step{g':Array GenState}{t':Nat}{d':Drawn}{ch:List AL}(I:Inv X ζ σ H s)
  (E:∀b∈ch,(b∈X.ex∨X.s₀.heap.objs.size<=b)/\b≠X.env.locals/\(∀x c,X.env.cells.lookup x=some c->c≠b)/\∀p∈X.pn++ζ,p.1≠b)
  (keep:∀b o,b≠X.env.locals->b∉X.fs->b∉ch->s.heap.get? b=some o->H b=none->h'.get? b=some o)
  (B:∀b o,b≠X.env.locals->b∈X.fs->b∉ch->s.heap.get? b=some o->H b=none->∃sl,h'.get? b=some { o with slots:=sl }) (free:∀b o,b∉ch->s.heap.get? b=some o->H b=none->H' b=none)
  (there:∀b o,b∉ch->s.heap.get? b=some o->∃G,h'.get? b=some G)
  (J:∀b xs,H b=some (.tup xs)->H' b=some (.tup xs)) (L:∀b o u,H b=some (.frz o u)->H' b=some (.frz o u)) (N:∀b ps,H b=some (.tbl ps)->∃more,H' b=some (.tbl (ps++more)))
  (ns:∀m,s.heap.Ns X.env.locals m->h'.Ns X.env.locals m) (R:HOk X.prog X.w H' h') (hg:GU g') :
  Inv X ζ σ H' { s with heap:=h',gens:=g',drawn:=d',toks:=t' }:=by
 have S:∀b o,X.s₀.heap.get? b=some o->b≠X.env.locals:=λb o e=>Ak (AQ (AV e) I.ok.above)
 have Q:∀b o,X.s₀.heap.get? b=some o->b∉X.ex->b∉ch:=λb o e g hb=>by
  rcases(E b hb).1 with z | z
  ·exact g z
  ·exact zX (AQ (AV e) z) (Bx _)
 have j:∀x c,X.env.cells.lookup x=some c->∀v,s.heap.IsCell c v->h'.IsCell c v:=by
  rintro x c e v ⟨o,C,hd⟩
  have O:c∉ch:=λz=>(E c z).2.2.1 x c e rfl
  by_cases T:c∈X.fs
  ·obtain⟨sl,q⟩:=B c o (I.cne x c e) T O C (I.freeC x c e)
   exact⟨_,q,hd⟩
  ·exact⟨o,keep c o (I.cne x c e) T O C (I.freeC x c e),hd⟩
 refine⟨I.ok,I.os,hg,⟨λb o e n hb g=>?_,λb o e n hb g=>?_,λb o e n g=>?_,λb o e g=>?_,λb xs e=>J b xs (I.base.tups b xs e),λb o xs e=>L b o xs (I.base.frzs b o xs e),λb ps e=>?_⟩,?_,λx c e=>?_,?_,λx c e=>?_,λp U=>?_,R,I.len⟩
 ·exact keep b o (S b o e) hb (Q b o e g) (I.base.keep b o e n hb g) (I.base.free b o e n g)
 ·obtain⟨sl,A⟩:=I.base.slot b o e n hb g
  obtain⟨j8,P⟩:=B b _ (S b o e) hb (Q b o e g) A (I.base.free b o e n g);exact⟨j8,P⟩
 ·obtain⟨G,A⟩:=I.base.there b o e g
  exact free b G (Q b o e g) A (I.base.free b o e n g)
 ·obtain⟨G,A⟩:=I.base.there b o e g
  exact there b G (Q b o e g) A
 ·obtain⟨m1,A⟩:=I.base.tbls b ps e
  obtain⟨m2,P⟩:=N b _ A;exact⟨m1++m2,by rw[P,Array.append_assoc]⟩
 ·obtain⟨m,hn,hl⟩:=I.loc
  refine⟨m,ns m hn,λi x v A P e3=>?_⟩;obtain⟨u,r,l⟩:=hl i x v A P e3;refine⟨u,r,?_⟩
  rcases l with l | ⟨k,c,e,z⟩
  ·exact .inl l
  ·exact .inr ⟨k,c,e,j x c e _ z⟩
 ·obtain⟨v,z⟩:=I.cell x c e
  exact⟨v,j x c e v z⟩
 ·obtain⟨m,⟨o,_,_,C,_⟩,_⟩:=I.loc
  exact free _ o (λz=>(E _ z).2.1 rfl) C I.free
 ·obtain⟨v,o,C,hd⟩:=I.cell x c e
  exact free c o (λz=>(E c z).2.2.1 x c e rfl) C (I.freeC x c e)
 ·obtain⟨e,n,Y,Z,d⟩:=I.pin p U
  have O:p.1∉ch:=λz=>(E p.1 z).2.2.2 p U rfl
  exact⟨keep p.1 p.2 Y Z O e n,free p.1 p.2 O e n,Y,Z,d⟩
theorem Inv.un{t':Nat}(I:Inv X ζ σ H s)(u:Un X.fs [] H H' s.heap h')(g:HOk X.prog X.w H' h'):Inv X ζ σ H' { s with heap:=h',toks:=t' }:=by
 obtain⟨m,⟨o,J,L,j,r⟩,_⟩:=id I.loc;obtain⟨sl,A⟩:=u.any j I.free (by simp)
 exact I.step (g':=s.gens) (d':=s.drawn) (ch:=[]) (λ_ z=>nomatch z) (λb o _ hb _ e n=>u.keep b o e n hb (by simp)) (λb o _ hb _ e n=>u.slot b o e n hb (by simp)) (λb o _ e n=>u.free b o e n (by simp)) (λb o _ e=>u.there b o e (by simp)) u.tups u.frzs u.tbls (λN B=>by
  obtain⟨O,C,E,l,G⟩:=B;rw[j]at l;cases l
  exact⟨_,C,E,A,G⟩) g I.bare
theorem Inv.call{g':Array GenState}{t':Nat}{d':Drawn}{ch:List AL}(I:Inv X ζ σ H s)(u:Un (frs X.stack) ch H H' s.heap h')(j:HOk X.prog X.w H' h')(E:GU g')
  (A:∀b∈ch,(b∈X.ex∨X.s₀.heap.objs.size<=b)/\b≠X.env.locals/\(∀x c,X.env.cells.lookup x=some c->c≠b)/\∀p∈X.pn++ζ,p.1≠b) :
  Inv X ζ σ H' { s with heap:=h',gens:=g',drawn:=d',toks:=t' }:=by
 obtain⟨m,⟨o,O,P,B,r⟩,_⟩:=id I.loc
 obtain⟨sl,l⟩:=u.any B I.free λz=>(A _ z).2.1 rfl
 exact I.step (ch:=ch) A (λb o l hb g e n=>u.keep b o e n (λz=>(A7.mp (I.stkSub b z)).elim l hb) g) (λb o _ _ g e n=>u.any e n g) (λb o g e n=>u.free b o e n g) (λb o g e=>u.there b o e g) u.tups u.frzs u.tbls (λQ G=>by
  obtain⟨R,J,L,C,N⟩:=G;rw[B]at C;cases C
  exact⟨_,J,L,l,N⟩) j E
theorem Inv.turned{t':Nat}{it:AL}(I:Inv X ζ σ H s)(k:∀b o,b≠it->s.heap.get? b=some o->h'.get? b=some o)(A:H it=none)(j:it≠X.env.locals)
  (B:it∈X.ex∨X.s₀.heap.objs.size<=it) (C:∀x c,X.env.cells.lookup x=some c->c≠it) (E:∀p∈X.pn++ζ,p.1≠it):Inv X ζ σ H { s with heap:=h',toks:=t' }:=by
 have l:∀b u,H b=some u->b≠it:=λb u e z=>by rw[z,A]at e;cases e
 refine I.step (g':=s.gens) (d':=s.drawn) (ch:=[it]) (λb hb=>?_) (λb o _ _ g e _=>k b o (λz=>g (by simp[z])) e) (λb o _ _ g e _=>⟨o.slots,k b o (λz=>g (by simp[z])) e⟩) (λ_ _ _ _ n=>n)
  (λb o g e=>⟨o,k b o (λz=>g (by simp[z])) e⟩) (λ_ _ e=>e) (λ_ _ _ e=>e) (λb O e=>⟨#[],by rw[e];simp⟩) (λm G=>?_) (λb u e=>?_) I.bare
 ·have e:b=it:=by simpa using hb
  subst e;exact⟨B,j,C,E⟩
 ·obtain⟨o,J,L,N,r⟩:=G
  exact⟨o,J,L,k _ o (B2 j) N,r⟩
 ·refine(I.hok b u e).stay (λc v g q=>k c v ?_ q) (λ_ q=>q) λ_ _ q=>q
  rcases g with z | z
  ·rw[z];exact l b u e
  ·exact l c _ z
theorem Inv.tok(I:Inv X ζ σ H s)(t:Nat):Inv X ζ σ H { s with toks:=t }:=I.un (h':=s.heap) (t':=t) Un.refl I.hok
theorem Inv.kept(I:Inv X ζ σ H s)(k:∀b u,s.heap.get? b=some u->h'.get? b=some u):Inv X ζ σ H { s with heap:=h',toks:=t' }:=I.un (Un.kept k) (I.hok.kept k)
theorem Inv.laid(I:Inv X ζ σ H s)(k:∀b u,s.heap.get? b=some u->h'.get? b=some u)(g:s.heap.objs.size<=a)(new:CT X.prog X.w (upd H a o) h' a o) :
  Inv X ζ σ (upd H a o) { s with heap:=h',toks:=t' }:=I.un (Un.laid k g (I.hok.fresh g)) (I.hok.laid k g new)
theorem Inv.write(I:Inv X ζ σ H s)(g:Mut (H x))(j:e=x∨H e=some (.own x))(k:∀b u,b≠e->s.heap.get? b=some u->h'.get? b=some u)(l:∃u,h'.get? e=some u)
  (new:CT X.prog X.w (upd H x o) h' x o):Inv X ζ σ (upd H x o) { s with heap:=h',toks:=t' }:=I.un (Un.write g j k l) (I.hok.write g j k l new)
theorem Inv.pins_of(I:Inv X ζ σ H s)(h:∀p∈pins',s.heap.get? p.1=some p.2/\H p.1=none/\p.1≠X.env.locals/\p.1∉X.fs/\∀v,p.2.data≠.cell v):Inv X pins' σ H s:=
 ⟨I.ok,I.os,I.bare,I.base,I.loc,I.cell,I.free,I.freeC,λp g=>(A1.mp g).elim (λz=>I.pin p (Cg _ z)) (h p),I.hok,I.len⟩
theorem Oa{N:List Str}(g:N.Nodup){i j:Nat}{x:Str}(a:N[i]?=some x)(b:N[j]?=some x):i=j:=by
 obtain⟨o,l⟩:=AD.mp a;obtain⟨A,m⟩:=AD.mp b;exact(List.getElem_inj g).mp (l.trans m.symm)
theorem Ma{M:PX}{A:A4}{E:AC->AF->Prop}{i:Nat}{x:Str}{v:V}{u:AC}{Q:Unit->AF->Prop}(I:Inv X ζ σ H s)(hN:X.N.Nodup)(hi:X.N[i]?=some x)(G:Loc X.env.scope x)(r:RelV v u)
  (h:∀s',Inv X ζ (σ.set i (some v)) H s'->(∃a,Fb a s.heap s'.heap/\(a=X.env.locals∨X.env.cells.lookup x=some a))->Q () s') (hf:X.fn x=true∨X.env.scope.names.lookup x=some .local:=by first | exact .inl rfl | exact .inr rfl | assumption):Ac M A (storeName X.env x u) Q E s:=by
 obtain⟨m,U,hl⟩:=id I.loc
 have gq:(X.env.scope.kind==.class||(X.env.scope.kind==.module&&X.env.locals != X.env.globals))=false:=by rw[I.ok.kind];rfl
 have il:i < σ.length:=by rw[I.len];exact(AD.mp hi).1
 have cne:=I.cne
 have l:∀{a:AL} {h':BY},(∃o,s.heap.get? a=some o/\H a=none)->Fb a s.heap h'->HOk X.prog X.w H h':=λ{a h'} ha g b ob e=>by
  obtain⟨_,_,dR⟩:=ha
  refine(I.hok b ob e).stay (λc R C q=>(g.2 c ?_).trans q) (λ_ q=>q) λ_ _ q=>q
  rintro rfl
  rcases C with rfl | C
  ·rw[dR]at e;cases e
  ·rw[dR]at C;cases C
 rcases G with L | L
 ·refine wpAny_storeName_local L U (λh' dg g=>?_) gq
  obtain⟨oL,_,_,j9,_⟩:=id U;refine h _ ⟨I.ok,I.os,I.bare,⟨λb o e n hb G=>?_,λb o e n hb G=>?_,I.base.free,λb o e G=>?_,I.base.tups,I.base.frzs,I.base.tbls⟩,⟨_,dg,λj y Y B J Z=>?_⟩,λy c e=>?_,I.free,I.freeC,λp hp=>?_,l ⟨oL,j9,I.free⟩ g,by simpa using I.len⟩ ⟨_,g,.inl rfl⟩
  ·exact(g.2 b (Ak (AQ (AV e) I.ok.above))).trans (I.base.keep b o e n hb G)
  ·obtain⟨sl,B⟩:=I.base.slot b o e n hb G
   exact⟨sl,(g.2 b (Ak (AQ (AV e) I.ok.above))).trans B⟩
  ·obtain⟨o',B⟩:=I.base.there b o e G
   exact⟨o',(g.2 b (Ak (AQ (AV e) I.ok.above))).trans B⟩
  ·by_cases O:j=i
   ·subst O
    rw[hi]at B;cases B;rw[Av il]at J;cases J;exact⟨u,r,.inl ⟨L,by simp⟩⟩
   ·rw[Ag (B2 O)]at J
    obtain⟨u',r',q⟩:=hl j y Y B J Z;refine⟨u',r',?_⟩
    rcases q with⟨k,e⟩ | ⟨k,c,e,z⟩
    ·refine .inl ⟨k,?_⟩
     have:y≠x:=λe=>O (Oa hN B (e▸hi))
     simp[this,e]
    ·exact .inr ⟨k,c,e,z.sameBut g (cne y c e)⟩
  ·obtain⟨R,z⟩:=I.cell y c e
   exact⟨R,z.sameBut g (cne y c e)⟩
  ·obtain⟨e,n,S,nf,d⟩:=I.pin p hp
   exact⟨(g.2 p.1 S).trans e,n,S,nf,d⟩
 ·have eV:X.fn x=true:=by
   rcases hf with z | z
   ·exact z
   ·rw[z]at L;cases L
  obtain⟨c,C⟩:=I.ok.has x (.inl L);obtain⟨R,z⟩:=I.cell x c C;refine wpAny_storeName_cell I.ok.kind L C z (λh' dS g=>?_);obtain⟨oc,fU,gr⟩:=id z;refine h { s with heap:=h' } ⟨I.ok,I.os,I.bare,⟨λb o e n hb G=>?_,λb o e n hb G=>?_,I.base.free,λb o e G=>?_,I.base.tups,I.base.frzs,I.base.tbls⟩,⟨m,U.sameBut g (B2 (cne x c C)),λj y Y B J Z=>?_⟩,λy T e=>?_,I.free,I.freeC,λp hp=>?_,l ⟨oc,fU,I.freeC x c C⟩ g,by simpa using I.len⟩ ⟨c,g,.inr C⟩
  ·exact(g.2 b (Ak (AQ (AV e) (I.ok.cab x c eV C)))).trans (I.base.keep b o e n hb G)
  ·obtain⟨sl,B⟩:=I.base.slot b o e n hb G
   exact⟨sl,(g.2 b (Ak (AQ (AV e) (I.ok.cab x c eV C)))).trans B⟩
  ·obtain⟨o',B⟩:=I.base.there b o e G
   exact⟨o',(g.2 b (Ak (AQ (AV e) (I.ok.cab x c eV C)))).trans B⟩
  ·by_cases O:j=i
   ·subst O
    rw[hi]at B;cases B;rw[Av il]at J;cases J;exact⟨u,r,.inr ⟨.inl L,c,C,dS⟩⟩
   ·rw[Ag (B2 O)]at J
    obtain⟨u',r',q⟩:=hl j y Y B J Z;refine⟨u',r',?_⟩
    rcases q with q | ⟨k,T,e,z'⟩
    ·exact .inl q
    ·refine .inr ⟨k,T,e,z'.sameBut g ?_⟩
     rintro rfl;exact O (Oa hN B (I.ok.inj _ _ _ e C▸hi))
  ·by_cases P:T=c
   ·subst P;exact⟨_,dS⟩
   ·obtain⟨w2,z2⟩:=I.cell y T e
    exact⟨w2,z2.sameBut g P⟩
  ·obtain⟨e,n,S,nf,d⟩:=I.pin p hp
   refine⟨(g.2 p.1 ?_).trans e,n,S,nf,d⟩;intro q;rw[q,fU]at e;have q':oc=p.2:=CO e;exact d R (by rw[<-q'];exact gr)
theorem OM(I:Inv X ζ σ H s)(g:X.N.Nodup)(hi:X.N[i]?=some x)(j:Loc X.env.scope x)(r:RelV v u)
  (h:∀s',Inv X ζ (σ.set i (some v)) H s'->Q () s') (l:X.fn x=true∨X.env.scope.names.lookup x=some .local:=by first | exact .inl rfl | exact .inr rfl | assumption):Ac M A (storeName X.env x u) Q E s:=
 Ma I g hi j r (λs' m _=>h s' m) l
theorem Inv.call'(I:Inv X ζ σ H s)(ho:s'.os=s.os)(u:Un (frs X.stack) ch H H' s.heap s'.heap)(g:HOk X.prog X.w H' s'.heap)(j:GU s'.gens)
  (l:∀b∈ch,(b∈X.ex∨X.s₀.heap.objs.size<=b)/\b≠X.env.locals/\(∀x c,X.env.cells.lookup x=some c->c≠b)/\∀p∈X.pn++ζ,p.1≠b):Inv X ζ σ H' s':=by
 obtain⟨h',g',d',t',m⟩:=s';have e:m=s.os:=ho;subst e;exact I.call (g':=g') (t':=t') (d':=d') u g j l
end
abbrev XK:=AC->Option AL->Hp->Prop
abbrev St:=List (Option V)
abbrev VK:=V->Hp->Prop
abbrev TE:=St->Hp->VK->Prop
abbrev TT:=St->Hp->(Bool->Hp->Prop)->Prop
abbrev TA:=St->Hp->(List V->Hp->Prop)->Prop
structure Si where
 nx:St->Hp->Prop
 rt:VK
 bk:St->Hp->Prop:=λ_ _=>False
 ct:St->Hp->Prop:=λ_ _=>False
abbrev TS:=Si->St->Hp->Prop
def EP(X:Cx)(j:List (AL×Obj))(l:St)(Q:VK)(u:AC)(s':AF):Prop:=∃v g,Inv X j l g s'/\RelV v u/\Q v g
def TP(X:Cx)(j:List (AL×Obj))(l:St)(Q:Bool->Hp->Prop)(b:Bool)(s':AF):Prop:=∃g,Inv X j l g s'/\Q b g
def AP(X:Cx)(j:List (AL×Obj))(l:St)(Q:List V->Hp->Prop)(us:List AC)(s':AF):Prop:=∃vs g,Inv X j l g s'/\BD vs us/\Q vs g
def SP(X:Cx)(l:List (AL×Obj))(D:Si)(f:Flow)(s':AF):Prop:=
 match f with
 | .next=>∃g j,Inv X l g j s'/\D.nx g j
 | .brk=>∃g j,Inv X l g j s'/\D.bk g j
 | .cont=>∃g j,Inv X l g j s'/\D.ct g j
 | .ret u=>∃v g j,Inv X l g j s'/\RelV v u/\D.rt v j
def PE(X:Cx)(e:Expr)(t:TE):Prop:=
 ∀(j:List (AL×Obj)) (s:AF) (g:St) (H:Hp) (Q:VK),Inv X j g H s->t g H Q->Ac (AW X.prog X.w) X.A (Bt e X.env) (EP X j g Q) X.xe s
def PT(X:Cx)(e:Expr)(t:TT):Prop:=
 ∀(j:List (AL×Obj)) (s:AF) (g:St) (H:Hp) (Q:Bool->Hp->Prop),Inv X j g H s->t g H Q->Ac (AW X.prog X.w) X.A (PK e X.env (Bt e X.env)) (TP X j g Q) X.xe s
def PW(X:Cx)(e:Expr)(t:TT):Prop:=
 ∀(g:Sem AC) (l:List (AL×Obj)) (s:AF) (j:St) (H:Hp) (Q:Bool->Hp->Prop),Inv X l j H s->t j H Q->Ac (AW X.prog X.w) X.A (PK e X.env g) (TP X l j Q) X.xe s
theorem PW.pt(h:PW X e t):PT X e t:=h _
def PA(X:Cx)(es:List Expr)(t:TA):Prop:=
 ∀(g:Pos) (l:List (AL×Obj)) (s:AF) (j:St) (H:Hp) (Q:List V->Hp->Prop),Inv X l j H s->t j H Q->Ac (AW X.prog X.w) X.A (spliced (D2 g (AX es X.env))) (AP X l j Q) X.xe s
def PS(X:Cx)(st:DM)(t:TS):Prop:=
 ∀(g:List (AL×Obj)) (s:AF) (j:St) (H:Hp) (D:Si),Inv X g j H s->t D j H->Ac (AW X.prog X.w) X.A (exec st X.env) (SP X g D) X.xe s
def PSs(X:Cx)(st:List DM)(t:TS):Prop:=
 ∀(g:List (AL×Obj)) (s:AF) (j:St) (H:Hp) (D:Si),Inv X g j H s->t D j H->Ac (AW X.prog X.w) X.A (execs st X.env) (SP X g D) X.xe s
theorem thn{g:Type}{t:Sem g}{Q j:g->AF->Prop}{M:PX}{A:A4}{E:AC->AF->Prop}{s:AF}(h:Ac M A t Q E s)(l:∀a s,Q a s->j a s):Ac M A t j E s:=CZ h l λ_ _ x=>x
section
variable{X:Cx}
def YD(i:Nat):TE:=λg H Q=>∃v,g[i]?=some (some v)/\Q v H
def tC(v:V):TE:=λ_ H Q=>Q v H
theorem Yb(A:X.N[i]?=some x)(B:Vis X.env.scope x)(hd:(x==("__debug__" : Str))=false:=by decide) (C:(x==("__classdict__" : Str))=false:=by decide):PE X (.Name x pos) (YD i):=by
 intro E s G H Q I h;obtain⟨v,e,h⟩:=h;obtain⟨m,J,L⟩:=I.loc;obtain⟨u,r,l⟩:=L i x v A e B;have fin:EP X E G Q u s:=⟨v,H,I,r,h⟩
 rcases l with⟨g,O⟩ | ⟨g,c,j,o⟩
 ·exact Xn (wpAny_loadName_local I.ok.kind g J O fin) hd
 ·rcases g with g | g
  ·exact Xn (wpAny_loadName_cell I.ok.kind g j o fin) hd
  ·exact Xn (wpAny_loadName_free I.ok.kind g j o fin C) hd
theorem Yg{i j pos}:PE X (.Constant (.int i) j pos) (tC (.int i)):=λ_ _ _ H _ I h=>wpAny_Constant_int ⟨.int i,H,I.tok _,⟨_,rfl⟩,h⟩
theorem aY{b j pos}:PE X (.Constant (.bool b) j pos) (tC (.bl b)):=λ_ _ _ H _ I h=>Constant_bool ⟨.bl b,H,I,rfl,h⟩
theorem T7{j pos}:PE X (.Constant .none j pos) (tC .non):=λ_ _ _ H _ I h=>Constant_none ⟨.non,H,I,rfl,h⟩
def Gl(X:Cx)(x:Str):Prop:=X.env.kindOf x=some .globalImplicit
theorem NZ(I:Inv X l m H s)(g:Gl X x)(j:X.mg x=some u)(h:Q u s)
  (hd:(x==("__debug__" : Str))=false:=by decide):Ac (AW X.prog X.w) X.A (Bt (.Name x pos) X.env) Q E s:=
 L1 I.ok.kind g (Calls.loadGlobal_global (by rw[I.ok.glob];exact I.mod.glob.keeps I.bk) j h) hd
theorem Hi(I:Inv X C G H s)(g:Gl X x)(j:X.mg x=none)(l:Dy x=some u)(h:Q u s)
  (m:x≠"__name__":=by decide) (hd:(x==("__debug__" : Str))=false:=by decide):Ac (AW X.prog X.w) X.A (Bt (.Name x pos) X.env) Q E s:=by
 obtain⟨J,o,B⟩:=I.mod.blt;exact L1 I.ok.kind g (Calls.loadGlobal_builtin (by rw[I.ok.glob];exact I.mod.glob.keeps I.bk) j (by rw[I.ok.blt];exact o.keeps I.bk) ((B x m).trans l) h) hd
theorem WR(g:Gl X x)(j:X.mg x=some u)(r:RelV v u)(hd:(x==("__debug__" : Str))=false:=by decide):PE X (.Name x pos) (tC v):=
 λ_ _ _ H _ I h=>NZ I g j ⟨v,H,I,r,h⟩ hd
theorem Qt(g:Gl X x)(j:X.mg x=none)(l:Dy x=some u)(r:RelV v u)(m:x≠"__name__":=by decide) (hd:(x==("__debug__" : Str))=false:=by decide):PE X (.Name x pos) (tC v):=
 λ_ _ _ H _ I h=>Hi I g j l ⟨v,H,I,r,h⟩ m hd
variable{a b:Expr}{ta tb:TE}{pos:Pos}
def PC(X:Cx)(o:CmpOp)(a b:Expr)(t:TE):Prop:=
 ∀(m:List (AL×Obj)) (s:AF) (l:St) (H:Hp) (Q:VK),Inv X m l H s->t l H Q ->
  Ac (AW X.prog X.w) X.A (Bt a X.env) (λv g=>Ac (AW X.prog X.w) X.A (Bt b X.env) (λu j=>Ac (AW X.prog X.w) X.A (Bb o v u) (EP X m l Q) X.xe j) X.xe g) X.xe s
def tB(t:TE):TT:=λg H Q=>t g H λx j=>∃c,x=.bl c/\Q c j
theorem Yi(h:PC X g a b t)(j:Bh g b=false:=by first | exact nobehind _ (by decide) (by decide) | rfl):PE X (.Compare a [g] [b] pos) t:=λl s m H Q I hw=>wpAny_Compare1 (h l s m H Q I hw) j
theorem Tw(h:PC X j a b t)(g:Bh j b=false:=by first | exact nobehind _ (by decide) (by decide) | rfl):PT X (.Compare a [j] [b] pos) (tB t):=by
 intro l s m H Q I hw;refine VV (thn (h l s m H _ I hw) λv G g=>thn g λu J o=>thn o λc L ⟨x,A,B,C,E⟩=>?_) g;obtain⟨d,rfl,q⟩:=E;cases C;exact Bc ⟨A,B,q⟩
theorem YU(h:PE X e t)(j:∀g,PK e X.env g=(do let v <-g;Zi e.pos;Sx [v] (Xo v)):=by intro _;rfl):PT X e (tB t):=by
 intro l s m H Q I hw;refine isTrue_plain (thn (h l s m H _ I hw) λv E ⟨x,o,A,B,C⟩=>?_) (j _);obtain⟨d,rfl,q⟩:=C;cases B;exact Bc ⟨o,A,q⟩
variable{tA ip:TT}{rest:List Expr}
def tOr(t u:TT):TT:=λg H Q=>t g H λc j=>if c=true then Q true j else u g j Q
def tNot(t:TT):TT:=λg H Q=>t g H λc j=>Q (!c) j
theorem YT(g:PT X a tA):PW X (.BoolOp .Or [a] pos) tA:=by
 intro m j s l H Q I h;refine isTrue_or (thn (g j s l H Q I h) λc o e=>?_)
 cases c with
 | false=>exact isTrue_or_nil e
 | true=>exact e
theorem aS(A:PT X a tA)(hb:PW X (.BoolOp .Or (b :: rest) pos) ip):PW X (.BoolOp .Or (a :: b :: rest) pos) (tOr tA ip):=by
 intro B g s j H Q I h;refine isTrue_or (thn (A g s j H _ I h) λc C ⟨l,m,o⟩=>?_)
 cases c with
 | true=>exact⟨l,m,o⟩
 | false=>exact hb B g C j l Q m o
theorem YV(g:PT X a tA):PT X (.UnaryOp .Not a pos) (tNot tA):=by
 intro j s l H Q I h;exact isTrue_not (g j s l H (λc m=>Q (!c) m) I h)
def aJ(ta tb:TE):TE:=λg H Q=>ta g H λx j=>∃c,x=.bl c/\if c=true then tb g j Q else Q (.bl false) j
def aB(ta:TE):TE:=λg H Q=>ta g H λx j=>∃c,x=.bl c/\Q (.bl (!c)) j
theorem Yd{g}{t}(h:PE X a t):PE X (.BoolOp g [a] pos) t:=λj s l H Q I hw=>BoolOp_one (h j s l H Q I hw)
theorem Yk(A:PE X a ta)(hb:PE X (.BoolOp .And (b :: rest) pos) tb):PE X (.BoolOp .And (a :: b :: rest) pos) (aJ ta tb):=by
 intro j s l H Q I h;refine BoolOp_and (thn (A j s l H _ I h) λv B ⟨x,m,o,C,g⟩=>?_);obtain⟨c,rfl,g⟩:=g;cases C;refine Bc ?_
 cases c with
 | true=>exact hb j B l m Q o g
 | false=>exact⟨.bl false,m,o,rfl,g⟩
theorem Ye(j:PE X a ta):PE X (.UnaryOp .Not a pos) (aB ta):=by
 intro l s m H Q I h;refine UnaryOp_ (thn (j l s m H _ I h) λv C ⟨x,o,A,B,g⟩=>?_);obtain⟨c,rfl,g⟩:=g;cases B;exact not_of (Bc ⟨.bl (!c),o,A,rfl,g⟩)
end
def SqL(K:AB)(H:Hp)(a:AL)(xs:List V):Prop:=
 Rd H a (.lst xs) ∨
  ∃(o:Obj) (g:Array AC) (n:Nat),K.lookup a=some o/\o.cls=.type "list"/\o.dict=none/\o.data=.seq g n/\g.size<=sizeLine/\BD xs g.toList
def SqT(K:AB)(H:Hp)(a:AL)(xs:List V):Prop:=
 Rd H a (.tup xs) ∨
  ∃(o:Obj) (g:Array AC) (n:Nat),K.lookup a=some o/\o.cls=.type "tuple"/\o.data=.seq g n/\g.size<=sizeLine/\BD xs g.toList
noncomputable def absV:AC->Option V
 | .none=>some .non
 | .bool b=>some (.bl b)
 | .int i _=>some (.int i)
 | .str x _=>some (.str x)
 | .bytes b _=>some (.byt b)
 | .float b _=>some (.flt b)
 | .ref a=>some (.ref a)
 | .type n=>some (.ty n)
 | _=>none
theorem RelV.abs(r:RelV x u):absV u=some x:=by
 cases x with
 | non=>cases r;rfl
 | bl _=>cases r;rfl
 | int _=>obtain⟨t,rfl⟩:=r;rfl
 | str _=>obtain⟨t,rfl⟩:=r;rfl
 | byt _=>obtain⟨t,rfl⟩:=r;rfl
 | flt _=>obtain⟨t,rfl⟩:=r;rfl
 | ref _=>cases r;rfl
 | ty _=>cases r;rfl
theorem RelV.inj(r:RelV x u)(q:RelV y u):x=y:=CO (r.abs.symm.trans q.abs)
theorem BD.inj:∀{xs g:List V} {us:List AC},BD xs us->BD g us->xs=g
 | _,_,_,.nil,.nil=>rfl
 | _,_,_,.cons r t,.cons j l=>by rw[r.inj j,BD.inj t l]
section
variable{X:Cx}{ζ:List (AL×Obj)}{σ:St}{H:Hp}{s:AF}{a:AL}{xs ys:List V}
theorem Inv.list(I:Inv X ζ σ H s)(h:SqL X.K H a xs):∃g:List AC,BD xs g/\PlainL s.heap a g.toArray/\xs.length<=sizeLine:=by
 rcases h with h | ⟨o,g,n,j,l,hd,m,A,r⟩
 ·obtain⟨z,g,n,r,e⟩:=h.ok I.hok
  exact⟨g,r,⟨_,n,e,rfl,rfl,rfl⟩,z⟩
 ·refine⟨g.toList,r,⟨o,n,I.kIn a o j,l,hd,by simpa using m⟩,?_⟩
  have e:=r.length;simp only[Aw]at e
  lia
theorem Inv.tuple(I:Inv X ζ σ H s)(h:SqT X.K H a xs):∃g:List AC,BD xs g/\Zr s.heap a g.toArray/\xs.length<=sizeLine:=by
 rcases h with h | ⟨o,g,n,j,l,m,A,r⟩
 ·obtain⟨z,g,r,p⟩:=h.ok I.hok
  exact⟨g,r,p,z.1⟩
 ·refine⟨g.toList,r,⟨o,I.kIn a o j,l,n,by simpa using m⟩,?_⟩
  have e:=r.length;simp only[Aw]at e
  lia
theorem Inv.list_inj(I:Inv X ζ σ H s)(h:SqL X.K H a xs)(h':SqL X.K H a ys):xs=ys:=by
 obtain⟨l,r,⟨o,n,e,_,_,d⟩,_⟩:=I.list h;obtain⟨its',m,⟨A,B,g,_,_,j⟩,_⟩:=I.list h';rw[e]at g;cases g;rw[d]at j
 injection j with d1 _
 have:l=its':=by simpa using congrArg Xy d1
 subst this;exact r.inj m
theorem Inv.tuple_inj(I:Inv X ζ σ H s)(h:SqT X.K H a xs)(h':SqT X.K H a ys):xs=ys:=by
 obtain⟨l,r,⟨o,e,_,n,d⟩,_⟩:=I.tuple h;obtain⟨its',m,⟨A,g,_,B,j⟩,_⟩:=I.tuple h';rw[e]at g;cases g;rw[d]at j
 injection j with d1 _
 have:l=its':=by simpa using congrArg Xy d1
 subst this;exact r.inj m
end
section
variable{X:Cx}{st:DM}{rest:List DM}{t u:TS}{e:Expr}{te:TE}{pos:Pos}
def aC:TS:=λD g H=>D.nx g H
def tSeq(t u:TS):TS:=λD g H=>t { D with nx:=u D } g H
theorem WE:PSs X [] aC:=λ_ _ g H _ I h=>N5 ⟨g,H,I,h⟩
theorem OW(l:PS X st t)(m:PSs X rest u):PSs X (st :: rest) (tSeq t u):=by
 intro j s o H D I h;refine Zt (thn (l j s o H { D with nx:=u D } I h) λf A q=>?_)
 cases f with
 | next=>
  obtain⟨g,B,C,q⟩:=q;exact m j A g B D C q
 | ret v=>exact q
 | brk=>exact q
 | cont=>exact q
theorem Qs(g:PS X st t):PSs X [st] t:=by
 intro j s l H D I h;refine Zt (thn (g j s l H D I h) λf m q=>?_)
 cases f with
 | next=>exact N5 q
 | ret v=>exact q
 | brk=>exact q
 | cont=>exact q
theorem Inv.quiet(I:Inv X g j H s):interactive X.env=false:=by simp[interactive,I.ok.kind]
def aE(te:TE):TS:=λD g H=>te g H λ_ j=>D.nx g j
theorem WF(j:PE X e te)(l:DX e none pos.line X.env=pure false:=by rfl):PS X (.Expr e pos) (aE te):=by
 intro m s g H D I h;exact wpAny_Expr_any (thn (j m s g H _ I h) λv C ⟨x,o,A,E,B⟩=>⟨g,o,A,B⟩) I.quiet l
def tRet(te:TE):TS:=λD g H=>te g H D.rt
theorem YW(j:PE X e te):PS X (.Return (some e) pos) (tRet te):=by
 intro l s g H D I h;exact wpAny_Return_some (thn (j l s g H _ I h) λv C ⟨x,m,o,A,B⟩=>⟨x,g,m,o,A,B⟩)
def tIfS(c:TT)(t u:TS):TS:=λD g H=>c g H λb j=>if b=true then t D g j else u D g j
theorem aT(B:PT X c tc)(C:PSs X a t)(hb:PSs X b u):PS X (.If c a b pos) (tIfS tc t u):=by
 intro g s j H D I h;refine wpAny_If (thn (B g s j H _ I h) λd l ⟨m,o,A⟩=>?_)
 cases d with
 | true=>exact C g l j m D o A
 | false=>exact hb g l j m D o A
def YG:TS:=λ_ _ _=>False
theorem T0:PS X st YG:=λ_ _ _ _ _ _ h=>h.elim
end
abbrev TG:=V->St->Hp->(St->Hp->Prop)->Prop
abbrev TGs:=List V->St->Hp->(St->Hp->Prop)->Prop
def PG(X:Cx)(o:Expr)(t:TG):Prop:=
 ∀(j:List (AL×Obj)) (s:AF) (l:St) (H:Hp) (v:V) (u:AC) (Q:St->Hp->Prop),Inv X j l H s->RelV v u->t v l H Q ->
  Ac (AW X.prog X.w) X.A (PP o X.env u) (λ_ B=>∃g m,Inv X j g m B/\Q g m) X.xe s
def PGs(X:Cx)(ts:List Expr)(t:TGs):Prop:=
 ∀(j:List (AL×Obj)) (s:AF) (l:St) (H:Hp) (vs:List V) (m:List AC) (Q:St->Hp->Prop),Inv X j l H s->BD vs m->t vs l H Q ->
  Ac (AW X.prog X.w) X.A (assignInOrder ((EN ts X.env).map (·.2)) m) (λ_ B=>∃g o,Inv X j g o B/\Q g o) X.xe s
section
variable{X:Cx}{pos:Pos}
def Q8(i:Nat):TG:=λv g H Q=>Q (g.set i (some v)) H
theorem WN(g:X.N.Nodup)(hi:X.N[i]?=some x)(j:Loc X.env.scope x)(l:X.fn x=true∨X.env.scope.names.lookup x=some .local:=by first | exact .inl rfl | exact .inr rfl | assumption):PG X (.Name x pos) (Q8 i):=by
 intro o s A H v u Q I r h;exact Zg (OM I g hi j r (λB m=>⟨_,H,m,h⟩) l)
def gNil:TGs:=λvs g H Q=>vs=[]/\Q g H
def bG(t:TG)(u:TGs):TGs:=λvs j H Q=>∃v r,vs=v :: r/\t v j H λg l=>u r g l Q
theorem WM:PGs X [] gNil:=by
 intro j s g H vs l Q I r h;obtain⟨e,h⟩:=h;subst e;cases r;exact assignInOrder_nil ⟨g,H,I,h⟩
theorem T5(l:PG X e t)(m:PGs X es u)
  (o:(EN (e :: es) X.env).map (·.2)=PP e X.env :: (EN es X.env).map (·.2):=by rfl):PGs X (e :: es) (bG t u):=by
 intro j s A H vs N Q I r h;obtain⟨v,O,B,h⟩:=h;subst B
 cases r with
 | cons r C=>
  rw[o];refine assignInOrder_cons (thn (l j s A H _ _ _ I r h) λ_ E ⟨g,G,J,L⟩=>?_);exact m j E g G _ _ Q J C L
def gTup(K:AB)(n:Nat)(t:TGs):TG:=λv j H Q=>∃a g,v=.ref a/\SqT K H a g/\g.length=n/\t g j H Q
theorem Ya(m:X.calm=true)(h:PGs X es t)
  (A:(EN es X.env).length=n:=by rfl) (B:(EN es X.env).findIdx? (·.1)=none:=by rfl):PG X (.Tuple es k pos) (gTup X.K n t):=by
 intro g s j H v u Q I r hw;obtain⟨a,C,E,G,J,hw⟩:=hw;subst E;cases r;obtain⟨R,l,L,S⟩:=I.tuple G
 refine assign_Tuple_tuple (I.ok.hd m) L (by simp[A,<-J,l.length]) B λN O=>?_
 have P:Inv X g j H { s with heap:=N }:=I.kept (t':=s.toks) λb o e=>O b o (Ak (AV e)) e
 exact h g _ j H C _ Q P (by simpa using l) hw
def aI(te:TE)(g:TG):TS:=λD j H=>te j H λx l=>g x j l D.nx
theorem Tz(j:X.N.Nodup)(hi:X.N[i]?=some x)(l:Loc X.env.scope x)(m:PE X e te)(o:DX e (some (.Name x g)) pos.line X.env=pure false:=by rfl)(A:X.fn x=true∨X.env.scope.names.lookup x=some .local:=by first | exact .inl rfl | exact .inr rfl | assumption) :
  PS X (.Assign [.Name x g] e pos) (aI te (Q8 i)):=by
 intro B s C H D I h;refine wpAny_Assign_Name (thn (m B s C H _ I h) λv P ⟨y,E,G,J,L⟩=>?_) o;exact OM G j hi l J (λQ O=>⟨_,E,O,L⟩) A
end
structure It where
 go:Nat->Hp->Prop
 yld:Nat->Hp->V->Hp->Prop
 stop:Nat->Hp->Prop
def Lk(X:Cx)(g:List (AL×Obj))(H:Hp)(b:AL):Prop:=
 H b=none/\b≠X.env.locals/\b∉X.fs/\(b∈X.ex∨X.s₀.heap.objs.size<=b)/\(∀x c,X.env.cells.lookup x=some c->c≠b)/\∀p∈X.pn++g,p.1≠b
theorem Inv.fpOk(I:Inv X g m H s)(hb:s.heap.objs.size<=b)(j:H' b=none):Lk X g H' b:=by
 refine⟨j,HU (AQ I.lt hb),I.nofs hb,.inr (Ai I.sz hb),λx c e z=>?_,λp l z=>?_⟩
 ·obtain⟨v,q⟩:=I.cell x c e
  exact zX (AQ q.lt (by rw[z];exact hb)) (Bx _)
 ·exact zX (AQ (AV (I.pin p l).1) (by rw[z];exact hb)) (Bx _)
structure Sg(P:Aq)(w:A9)(K:AB)(tg:Expr)(J:It)(fp:List AL)(it:AL)(tn:Nat->BY->Prop):Prop where
 mem:it∈fp
 obj:∀i h,tn i h->∀b∈fp,∃o,h.get? b=some o/\∀v,o.data≠.cell v
 keep:∀i h h',tn i h->(∀b∈fp,∀o,h.get? b=some o->h'.get? b=some o)->tn i h'
 item:∀(X:Cx),X.prog=P->X.w=w->X.K=K->X.calm=true->∀(i:Nat) (ζ:List (AL×Obj)) (s:AF) (σ:St) (H:Hp) (E:AC->AF->Prop),Inv X ζ σ H s->(∀b∈fp,Lk X ζ H b)->tn i s.heap->J.go i H ->
  Ac (AW P w) X.A (Mz (.ref it)) (λr s1=>∃u,r=some u /\
   Ac (AW P w) X.A (N8 tg (.ref it) u) (λ_ s2=>∃x H',Inv X ζ σ H' s2/\RelV x u/\J.yld i H x H'/\tn (i+1) s2.heap/\∀b∈fp,H' b=none) E s1) E s
 done:∀(X:Cx),X.prog=P->X.w=w->X.K=K->X.calm=true->∀(i:Nat) (ζ:List (AL×Obj)) (s:AF) (σ:St) (H:Hp) (E:AC->AF->Prop),Inv X ζ σ H s->(∀b∈fp,Lk X ζ H b)->tn i s.heap->J.stop i H ->
  Ac (AW P w) X.A (Mz (.ref it)) (λr s1=>r=none/\Inv X ζ σ H s1) E s
 self:∀(A:A4) (i:Nat) (s:AF) (Q:AC->AF->Prop) (E:AC->AF->Prop),tn i s.heap->Q (.ref it) s->Ac (AW P w) A (Sw (.ref it)) Q E s
abbrev TI:=St->Hp->(It->Hp->Prop)->Prop
def PIE(X:Cx)(l:List (AL×Obj))(A:St)(B:Expr)(R:It->Hp->Prop)(g:AC)(m:AF):Prop:=
 ∃(it:AL) (o:List AL) (s:Nat->BY->Prop) (J:It) (j:Hp),g=.ref it/\Inv X l A j m/\Sg X.prog X.w X.K B J o it s/\s 0 m.heap/\(∀b∈o,Lk X l j b)/\R J j
def PI(X:Cx)(l iter:Expr)(m:TI):Prop:=
 ∀(j:List (AL×Obj)) (s:AF) (g:St) (H:Hp) (R:It->Hp->Prop),Inv X j g H s->m g H R ->
  Ac (AW X.prog X.w) X.A (Bt iter X.env) (λv o=>Ac (AW X.prog X.w) X.A (Sw v) (PIE X j g l R) X.xe o) X.xe s
theorem Us(ho:s.heap.get? it=some o)(j:o.cls=.type n)(hd:o.data=.fields vs)
  (l:["enumerate", "zip", "dict_itemiterator", "dict_reverseitemiterator", "odict_iterator", "itertools.zip_longest", "itertools.pairwise"].contains n=false) (g:Q () s):Ac M A (N8 m (.ref it) u) Q E s:=by
 unfold N8
 cases m <;> first
  | exact AH g
  | (cases u <;> first
    | exact AH g
    | (refine AA (wpAny_load ho ?_)
       rw[j,hd];show Ac M A (if (["enumerate", "zip", "dict_itemiterator", "dict_reverseitemiterator", "odict_iterator", "itertools.zip_longest", "itertools.pairwise"].contains n&&vs[0]?==some (JS _))=true then _ else _) Q E s;rw[qY (by intro h;rw[l,Bool.false_and]at h;cases h)]
       exact AH g))
def Itl(K:AB)(a:AL):It:=
 ⟨λi H=>∃g x,SqL K H a g/\g[i]?=some x,λi H x j=>j=H/\∀g,SqL K H a g->g[i]?=some x,λi H=>∃g,SqL K H a g/\g.length<=i⟩
def Itt(K:AB)(a:AL):It:=
 ⟨λi H=>∃g x,SqT K H a g/\g[i]?=some x,λi H x j=>j=H/\∀g,SqT K H a g->g[i]?=some x,λi H=>∃g,SqT K H a g/\g.length<=i⟩
def Itr(lo:Int)(n:Nat):It:=⟨λi _=>i < n,λi H x g=>g=H/\x=.int (lo+i),λi _=>n<=i⟩
theorem Ri{P}{w}{K}{Y}(a it:AL):Sg P w K Y (Itl K a) [it] it (λi h=>h.IsListIter it a i) where
 mem:=by simp
 obj:=λi h st b hb=>by
  have e:b=it:=by simpa using hb
  subst e;obtain⟨o,e,c,d⟩:=st;exact⟨o,e,λv z=>by rw[d]at z;cases z⟩
 keep:=λi h j st k=>st.at λo e=>k it (by simp) o e
 item:=by
  intro X A hw B S i T s U H E I l st C;subst A hw B;obtain⟨Z,x,m,G⟩:=C;obtain⟨b9,J,p,hz⟩:=I.list m;obtain⟨u,hu,ru⟩:=J.get G;obtain⟨L,N,f2,O,Q,R⟩:=l it (by simp)
  refine wpAny_pyNext_list_item st p.isList (x:=u) (by simpa using hu) λj g sb=>?_
  have I1:Inv X T U H { s with heap:=j }:=I.turned (t':=s.toks) (λb o hb e=>(sb.2 b hb).trans e) L N O Q R;obtain⟨o,e,c,d⟩:=id g;exact⟨u,rfl,Us (s:={ s with heap:=j }) e c d (by decide) ⟨x,H,I1,ru,⟨rfl,λys hy=>by rw[I.list_inj hy m];exact G⟩,g,λb hb=>(l b hb).1⟩⟩
 done:=by
  intro X A hw B S i T s U H E I l st C;subst A hw B;obtain⟨Z,m,G⟩:=C;obtain⟨b9,J,p,hz⟩:=I.list m;obtain⟨L,N,f2,O,Q,R⟩:=l it (by simp);have hl:=J.length
  exact wpAny_pyNext_list_end (I.ok.hd S) st p.isList (by simp;lia) λj eb=>⟨rfl,I.turned (t':=s.toks) (λb o hb e=>eb b o hb e) L N O Q R⟩
 self:=λ_ _ _ _ _ st h=>wpAny_pyIter_listiter st h
theorem Pn{P}{w}{K}{Z}(a it:AL):Sg P w K Z (Itt K a) [it] it (λi h=>h.IsTupleIter it a i) where
 mem:=by simp
 obj:=λi h st b hb=>by
  have e:b=it:=by simpa using hb
  subst e;obtain⟨o,e,c,d⟩:=st;exact⟨o,e,λv z=>by rw[d]at z;cases z⟩
 keep:=λi h j st k=>st.at λo e=>k it (by simp) o e
 item:=by
  intro X A hw B T i U s Y H E I l st C;subst A hw B;obtain⟨xs,x,m,G⟩:=C;obtain⟨J,L,p,hz⟩:=I.tuple m;obtain⟨u,hu,ru⟩:=L.get G;obtain⟨N,O,f2,Q,R,S⟩:=l it (by simp)
  refine wpAny_pyNext_tuple_item st (show s.heap.IsTuple a J.toArray from p) (x:=u) (by simpa using hu) λj g sb=>?_
  have I1:Inv X U Y H { s with heap:=j }:=I.turned (t':=s.toks) (λb o hb e=>(sb.2 b hb).trans e) N O Q R S;obtain⟨o,e,c,d⟩:=id g;exact⟨u,rfl,Us (s:={ s with heap:=j }) e c d (by decide) ⟨x,H,I1,ru,⟨rfl,λys hy=>by rw[I.tuple_inj hy m];exact G⟩,g,λb hb=>(l b hb).1⟩⟩
 done:=by
  intro X A hw B T i U s Y H E I l st C;subst A hw B;obtain⟨xs,m,G⟩:=C;obtain⟨J,L,p,hz⟩:=I.tuple m;obtain⟨N,O,f2,Q,R,S⟩:=l it (by simp);have hl:=L.length
  exact wpAny_pyNext_tuple_end (I.ok.hd T) st (show s.heap.IsTuple a J.toArray from p) (by simp;lia) λj eb=>⟨rfl,I.turned (t':=s.toks) (λb o hb e=>eb b o hb e) N O Q R S⟩
 self:=λ_ _ _ _ _ st h=>wpAny_pyIter_tupleiter st h
theorem Po{P}{w}{K}{T}(it:AL)(lo:Int)(n:Nat):Sg P w K T (Itr lo n) [it] it (λi h=>IsRangeIter h it (lo+(i:Nat) * 1) ((n:Int) - (i:Nat)) 1) where
 mem:=by simp
 obj:=λi h st b hb=>by
  have e:b=it:=by simpa using hb
  subst e
  exact⟨_,st,λv z=>by
   have U:Data.fields _=Data.cell v:=z
   cases U⟩
 keep:=λi h j st k=>k it (by simp) _ st
 item:=by
  intro X m hw A B i Q s R H E I l st C;subst m hw A;obtain⟨G,J,Y,L,N,O⟩:=l it (by simp);have W:=Walks.range (prog:=X.prog) (w:=X.w) (I.ok.hd B) it lo 1 n
  refine W.item i s _ _ C st λv j S Z g kk=>?_
  obtain⟨t,rfl⟩:=Z;have I1:Inv X Q R H { s with heap:=j,toks:=S }:=I.turned (λb o hb e=>kk b o (by simpa using hb) e) G J L N O;refine⟨_,rfl,Us (s:={ s with heap:=j,toks:=S }) (n:="range_iterator") g rfl rfl (by decide) ⟨.int (lo+i),H,I1,⟨t,?_⟩,⟨rfl,rfl⟩,g,λb hb=>(l b hb).1⟩⟩;rw[Int.mul_one]
 done:=by
  intro X m hw A B i Q s R H E I l st C;subst m hw A;obtain⟨G,J,Y,L,N,O⟩:=l it (by simp)
  exact wpAny_pyNext_range_end (I.ok.hd B) st (by have:n<=i:=C;lia) λj eb=>⟨rfl,I.turned (t':=s.toks) (λb o hb e=>eb b o hb e) G J L N O⟩
 self:=λ_ _ _ _ _ st h=>wpAny_pyIter_rangeiter st h
section
variable{X:Cx}
def bC(K:AB)(j:TE):TI:=λl H R=>j l H λx g=>∃a,x=.ref a/\(∃m,SqL K g a m)/\R (Itl K a) g
def iTup(K:AB)(j:TE):TI:=λl H R=>j l H λx g=>∃a,x=.ref a/\(∃m,SqT K g a m)/\R (Itt K a) g
theorem WL{l}{m}(A:PE X l m):PI X N l (bC X.K m):=by
 intro B s C H R I h
 refine thn (A B s C H _ I h) λv g ⟨x,E,j,G,J⟩=>?_
 obtain⟨a,e,⟨O,L⟩,q⟩:=J;subst e;cases G;obtain⟨P,Q,p,S⟩:=j.list L;refine Ls p.isList ?_;refine⟨g.heap.objs.size,[g.heap.objs.size],_,_,E,rfl,j.kept (t':=g.toks) λb o e=>AE _ e,Ri a _,⟨_,AR _ rfl,rfl,rfl⟩,λb hb=>?_,q⟩
 have e:b=g.heap.objs.size:=by simpa using hb
 subst e;exact j.fpOk (AK _) (j.hok.fresh (AK _))
theorem YZ{l}{m}(A:PE X l m):PI X O l (iTup X.K m):=by
 intro B s C H R I h
 refine thn (A B s C H _ I h) λv g ⟨x,E,j,G,J⟩=>?_
 obtain⟨a,e,⟨P,L⟩,q⟩:=J;subst e;cases G;obtain⟨N,Q,p,S⟩:=j.tuple L;refine Xm (show g.heap.IsTuple a N.toArray from p) ?_;refine⟨g.heap.objs.size,[g.heap.objs.size],_,_,E,rfl,j.kept (t':=g.toks) λb o e=>AE _ e,Pn a _,⟨_,AR _ rfl,rfl,rfl⟩,λb hb=>?_,q⟩
 have e:b=g.heap.objs.size:=by simpa using hb
 subst e;exact j.fpOk (AK _) (j.hok.fresh (AK _))
theorem OV{g}{j}{H}{s}{R}{E}{lo hi}{t u v}{tk}(I:Inv X g j H s)(m:-(2 ^ 62)<=lo)(B:lo < 2 ^ 62)(C:-(2 ^ 62)<=hi)(G:hi < 2 ^ 62)
  (q:R (Itr lo (hi - lo).toNat) H):Ac (AW X.prog X.w) X.A (Sw (.ref s.heap.objs.size)) (PIE X g j N R) E { s with heap:=s.heap.push { cls:=.type "range",data:=.fields #[.int lo t,.int hi u,.int 1 v] },toks:=tk }:=by
 refine wpAny_pyIter_range (IsRange.new ..) (small_one m B C G) ?_
 have l:Inv X g j H { s with heap:=s.heap.push { cls:=.type "range",data:=.fields #[.int lo t,.int hi u,.int 1 v] },toks:=tk }:=I.kept λb o e=>AE _ e
 refine⟨(s.heap.push { cls:=.type "range",data:=.fields #[.int lo t,.int hi u,.int 1 v] }).objs.size,[(s.heap.push { cls:=.type "range",data:=.fields #[.int lo t,.int hi u,.int 1 v] }).objs.size],_,_,H,rfl,
  l.kept (t':=tk) λb o e=>AE _ e,Po _ lo (hi - lo).toNat,?_,λb hb=>?_,q⟩
 ·have J:lo+((0:Nat):Int) * 1=lo:=by simp
  have L:(((hi - lo).toNat:Nat):Int) - ((0:Nat):Int)=DZ lo hi 1:=by rw[rangeSize_one];split <;> lia
  show IsRangeIter _ _ (lo+((0:Nat):Int) * 1) ((((hi - lo).toNat:Nat):Int) - ((0:Nat):Int)) 1;rw[J,L];exact AR _ rfl
 ·have e:b=(s.heap.push { cls:=.type "range",data:=.fields #[.int lo t,.int hi u,.int 1 v] }).objs.size:=by simpa using hb
  subst e;exact l.fpOk (AK _) (l.hok.fresh (AK _))
def bA(g:TA):TI:=λl H R=>g l H λvs m=>∃j:Int,vs=[.int j]/\-(2 ^ 62)<=j/\j < 2 ^ 62/\R (Itr 0 j.toNat) m
def a9(g:TA):TI:=λl H R=>g l H λvs m=>∃i j:Int,vs=[.int i,.int j]/\(-(2 ^ 62)<=i/\i < 2 ^ 62/\-(2 ^ 62)<=j/\j < 2 ^ 62)/\R (Itr i (j - i).toNat) m
theorem Rz{a}{l}{p pos}(m:Gl X "range") (o:X.mg "range" = none) (A:PA X [a] l) (B:AX [a] X.env=[(false,Bt a X.env)]:=by rfl):PI X O (.Call (.Name "range" p) [a] [] pos) (bA l):=by
 intro C s E H R I h;refine Call_ (Hi I m o Xs (Cy (thn (A pos C s E H _ I h) λP Q ⟨vs,S,G,J,g⟩=>?_) B rfl));obtain⟨j,e,g,L,q⟩:=g;subst e
 cases J with
 | cons r N=>
  cases N;obtain⟨t,rfl⟩:=r;exact call_range_1 (OV G (by lia) (by lia) g L (by simpa using q))
theorem Ry(o:Gl X "range") (A:X.mg "range" = none) (B:PA X [a,b] C) (E:AX [a,b] X.env=[(false,Bt a X.env),(false,Bt b X.env)]:=by rfl) (m:AX [b] X.env=[(false,Bt b X.env)]:=by rfl) :
  PI X T (.Call (.Name "range" p) [a,b] [] pos) (a9 C):=by
 intro G s J H R I h;refine Call_ (Hi I o A Xs (Cy (thn (B pos G s J H _ I h) λU Y ⟨vs,Z,L,N,g⟩=>?_) (by rw[E,m]) (by rw[m];rfl)));obtain⟨i,j,e,⟨g,O,P,Q⟩,q⟩:=g;subst e
 cases N with
 | cons r l=>
  cases l with
  | cons S l=>
   cases l;obtain⟨t,rfl⟩:=r;obtain⟨t',rfl⟩:=S;exact call_range_2 (OV L g O P Q q)
def tFor(B:TI)(g:TG)(tb:TS):TS:=λD j H=>B j H λJ C=>∃W:Nat->Nat->St->Hp->Prop,(∃m,W 0 m j C)/\∀i m j H,W i m j H ->
 (J.stop i H/\D.nx j H)∨(J.go i H/\∃N:St->Hp->Prop,(∀l o,N l o->∃A,A < m/\W (i+1) A l o)/\∀x o,J.yld i H x o->g x j o λs E=>tb { D with nx:=N,ct:=N,bk:=D.nx } s E)
def LB(fp:List AL)(h:BY):List (AL×Obj):=fp.filterMap λb=>(h.get? b).map λo=>(b,o)
theorem G2(hb:b∈fp)(e:h.get? b=some o):(b,o)∈LB fp h:=Ff.mpr ⟨b,hb,by rw[e];rfl⟩
theorem R6(g:p∈LB fp h):p.1∈fp/\h.get? p.1=some p.2:=by
 obtain⟨b,hb,e⟩:=Ff.mp g
 cases q:h.get? b with
 | none=>rw[q]at e;cases e
 | some o=>
  rw[q]at e;have j:(b,o)=p:=CO e;subst j;exact⟨hb,q⟩
theorem Inv.pinned(I:Inv X g l H s)(m:∀b∈fp,Lk X g H b)(ho:∀b∈fp,∃o,s.heap.get? b=some o/\∀v,o.data≠.cell v):Inv X (g++LB fp s.heap) l H s:=
 I.pins_of λp A=>(A1.mp A).elim (λz=>I.pin p (Az _ z)) λz=>by
  obtain⟨hb,e⟩:=R6 z;obtain⟨B,C,E,_⟩:=m p.1 hb;obtain⟨o,j,d⟩:=ho p.1 hb;rw[e]at j;cases j;exact⟨e,B,C,E,d⟩
theorem Inv.unpinned(I:Inv X (g++m) j H s):Inv X g j H s:=I.pins_of λp l=>I.pin p (Az _ (Cg _ l))
theorem YX(O:Zz (AW X.prog X.w) X.A X.env X.xe)(hc:X.calm=true)(hi:PI X tg iter wi)(hg:PG X tg g)(hb:PSs X body tb)
  (hs:∀x,Dg iter X.env x=pure x:=by intro _;rfl):PS X (.For tg iter body [] pos) (tFor wi g tb):=by
 intro L s σ H D I h;refine wpAny_For (thn (hi L s σ H _ I h) λv s1 h1=>thn h1 λitv s2 h2=>?_) hs;obtain⟨it,P,tn,J,H2,e,I2,T,bf,f2,W,⟨m0,w0⟩,Q⟩:=h2;subst e
 have Z:∀{H':Hp},(∀b∈P,H' b=none)->∀b∈P,Lk X L H' b:=λhn b hb=>⟨hn b hb,(f2 b hb).2⟩
 refine codeAny_forLoop_any (λn s'=>∃i l H',Inv X L l H' s'/\tn i s'.heap/\(∀b∈P,H' b=none)/\W i n l H') ?_ m0 ⟨0,σ,H2,I2,bf,λb hb=>(f2 b hb).1,w0⟩;rintro n s3 ⟨i,B,Y,I3,cL,R,w3⟩
 rcases Q i n B Y w3 with⟨S,qn⟩ | ⟨go,N,hN,step⟩
 ·refine Fq O (thn (T.done X rfl rfl rfl hc i L s3 B Y X.xe I3 (Z R) cL S) λr s4 ⟨hr,I4⟩=>?_)
  subst hr;exact N5 ⟨B,Y,I4,qn⟩
 ·refine Fq O (thn (T.item X rfl rfl rfl hc i L s3 B Y X.xe I3 (Z R) cL go) λr s4 ⟨u,hr,h4⟩=>?_)
  subst hr;refine Fq O (thn h4 λ_ s5 ⟨x,H5,I5,r5,y5,dB,fr5⟩=>?_);have gs:=I5.pinned (Z fr5) (T.obj _ _ dB);refine Fq O (thn (hg _ s5 B H5 x u _ gs r5 (step x H5 y5)) λ_ s6 ⟨σ6,H6,I6,q6⟩=>?_);refine Fq O (thn (hb _ s6 σ6 H6 _ I6 q6) λf s7 G=>?_)
  have again:∀{j:St} {C:Hp},Inv X (L++LB P s5.heap) j C s7->N j C->∃m,m < n/\∃i l H',Inv X L l H' s7/\tn i s7.heap/\(∀b∈P,H' b=none)/\W i m l H':=λ{j C} E U=>by
   obtain⟨m',hm,w7⟩:=hN j C U;refine⟨m',hm,i+1,j,C,E.unpinned,T.keep _ _ _ dB λb hb o e=>(E.pin (b,o) (Az _ (Az _ (G2 hb e)))).1,λb hb=>?_,w7⟩;obtain⟨o,e,d⟩:=T.obj _ _ dB b hb;exact(E.pin (b,o) (Az _ (Az _ (G2 hb e)))).2.1
  cases f with
  | next=>obtain⟨j,C,E,U⟩:=G;exact again E U
  | cont=>obtain⟨j,C,E,U⟩:=G;exact again E U
  | brk=>obtain⟨j,C,E,G⟩:=G;exact⟨j,C,E.unpinned,G⟩
  | ret v=>obtain⟨x7,j,C,E,r7,G⟩:=G;exact⟨x7,j,C,E.unpinned,r7,G⟩
end
abbrev R2:=V->V->Hp->VK->Prop
def OpR(X:Cx)(f:AC->AC->Sem AC)(r:R2):Prop:=
 ∀(g:List (AL×Obj)) (s:AF) (j:St) (H:Hp) (x y:V) (v u:AC) (Q:VK),Inv X g j H s->RelV x v->RelV y u->r x y H Q ->
  Ac (AW X.prog X.w) X.A (f v u) (EP X g j Q) X.xe s
def HH(X:Cx)(f:AC)(r:List V->Hp->VK->Prop):Prop:=
 ∀(g:List (AL×Obj)) (s:AF) (j:St) (H:Hp) (l:List V) (m:List AC) (Q:VK),Inv X g j H s->BD l m->r l H Q ->
  Ac (AW X.prog X.w) X.A (call f m) (EP X g j Q) X.xe s
def TruR(X:Cx)(r:V->Hp->(Bool->Hp->Prop)->Prop):Prop:=
 ∀(g:List (AL×Obj)) (s:AF) (j:St) (H:Hp) (x:V) (v:AC) (Q:Bool->Hp->Prop),Inv X g j H s->RelV x v->r x H Q ->
  Ac (AW X.prog X.w) X.A (Xo v) (TP X g j Q) X.xe s
def tOp(r:R2)(j tb:TE):TE:=λg H Q=>j g H λx l=>tb g l λy m=>r x y m Q
def rI(C:Int->Int->Prop)(g:Int->Int->V):R2:=λx y H Q=>∃i j,x=.int i/\y=.int j/\C i j/\Q (g i j) H
def rI0(g:Int->Int->V):R2:=λx y H Q=>∃i j,x=.int i/\y=.int j/\Q (g i j) H
section
variable{X:Cx}{a b:Expr}{ta tb:TE}{pos:Pos}
theorem ZY(E:PE X a ta)(hb:PE X b tb){o:List (AL×Obj)}{s:AF}{g:St}{H:Hp}{R:V->V->Hp->Prop}(I:Inv X o g H s)
  (h:ta g H λx C=>tb g C λy j=>R x y j) {Q:AC->AF->Prop} {f:AC->AC->Sem AC}
  (G:∀v u B x y j,Inv X o g j B->RelV x v->RelV y u->R x y j->Ac (AW X.prog X.w) X.A (f v u) Q X.xe B) :
  Ac (AW X.prog X.w) X.A (Bt a X.env) (λv l=>Ac (AW X.prog X.w) X.A (Bt b X.env) (λu m=>Ac (AW X.prog X.w) X.A (f v u) Q X.xe m) X.xe l) X.xe s:=by
 refine thn (E o s g H _ I h) λv J ⟨x,C,L,N,O⟩=>?_
 refine thn (hb o J g C _ L O) λu B ⟨y,j,P,S,T⟩=>?_
 exact G v u B x y j P N S T
theorem aV{g:Operator}{r:R2}(ho:OpR X (Cq g) r)(j:PE X a ta)(hb:PE X b tb):PE X (.BinOp a g b pos) (tOp r ta tb):=by
 intro l s m H Q I h;exact wpAny_BinOp (ZY j hb I h λv u o x y A B C E q=>ho l o m A x y v u Q B C E q)
theorem opI{f:AC->AC->Sem AC}{C:Int->Int->Prop}{g:Int->Int->Int}
  (rule:∀(i j:Int) (t u:Tok) (s:AF) (Q:AC->AF->Prop) (E:AC->AF->Prop),C i j->Q (.int (g i j) s.toks) { s with toks:=s.toks+1 }->Ac (AW X.prog X.w) X.A (f (.int i t) (.int j u)) Q E s) :
  OpR X f (rI C λi j=>.int (g i j)):=by
 intro G s J H x y v u Q I l m h;obtain⟨i,j,rfl,rfl,o,q⟩:=h;obtain⟨t,rfl⟩:=l;obtain⟨B,rfl⟩:=m;exact rule i j t B s _ _ o ⟨.int (g i j),H,I.tok _,⟨_,rfl⟩,q⟩
theorem ae{f:AC->AC->Sem AC}{g:Int->Int->Int}
  (rule:∀(i j:Int) (t u:Tok) (s:AF) (Q:AC->AF->Prop) (E:AC->AF->Prop),Q (.int (g i j) s.toks) { s with toks:=s.toks+1 }->Ac (AW X.prog X.w) X.A (f (.int i t) (.int j u)) Q E s) :
  OpR X f (rI0 λi j=>.int (g i j)):=by
 intro B s C H x y v u Q I l m h;obtain⟨i,j,rfl,rfl,q⟩:=h;obtain⟨t,rfl⟩:=l;obtain⟨o,rfl⟩:=m;exact rule i j t o s _ _ ⟨.int (g i j),H,I.tok _,⟨_,rfl⟩,q⟩
theorem Ys{f:AC->AC->Sem AC}{g:Int->Int->Bool}
  (rule:∀(i j:Int) (t u:Tok) (s:AF) (Q:AC->AF->Prop) (E:AC->AF->Prop),Q (.bool (g i j)) s->Ac (AW X.prog X.w) X.A (f (.int i t) (.int j u)) Q E s) :
  OpR X f (rI0 λi j=>.bl (g i j)):=by
 intro B s C H x y v u Q I l m h;obtain⟨i,j,rfl,rfl,q⟩:=h;obtain⟨t,rfl⟩:=l;obtain⟨o,rfl⟩:=m;exact rule i j t o s _ _ ⟨.bl (g i j),H,I,rfl,q⟩
def XS(i j:Int):Prop:=0 < j/\j < 1073741824
def Sj(i j:Int):Prop:=(-(2 ^ 64) < i/\i < 2 ^ 64)∨(-(2 ^ 64) < j/\j < 2 ^ 64)
theorem Sj.ok(h:Sj i j):IntMulOk i j:=by
 rcases h with⟨g,l⟩ | ⟨g,l⟩
 ·exact .of_left (intBits_le_64 g l)
 ·exact .of_right (intBits_le_64 g l)
theorem Yr:OpR X (Cq .Add) (rI0 λi j=>.int (i+j)):=ae λ_ _ _ _ _ _ _ q=>add_int q
theorem Yn:OpR X (Cq .Sub) (rI0 λi j=>.int (i - j)):=ae λ_ _ _ _ _ _ _ q=>sub_int q
theorem Yo:OpR X (Cq .Mult) (rI Sj λi j=>.int (i * j)):=opI λ_ _ _ _ _ _ _ g q=>mul_int q g.ok
theorem WY:OpR X (Cq .FloorDiv) (rI XS λi j=>.int (i / j)):=opI λi j _ _ _ _ _ g q=>by
 have l:(0:Int) < j:=g.1;have m:j < 1073741824:=g.2;exact floordiv_int (by lia) (by rw[Int.fdiv_eq_ediv_of_nonneg i (by lia)];exact q) (.inl (PyProof.noPylong_small (by omega)))
theorem Yp:OpR X (Cq .Mod) (rI (λ_ j=>0 < j) λi j=>.int (i % j)):=opI λi j _ _ _ _ _ g q=>by
 have l:(0:Int) < j:=g;exact mod_int' (by lia) (by rw[Int.fmod_eq_emod_of_nonneg i (by lia)];exact q)
end
section
variable{X:Cx}{a b c:Expr}{ta tb tc:TE}{pos:Pos}
theorem ZR(I:Inv X g j H s)(q:Q (.bl k) H)(e:k=l):EP X g j Q (.bool l) s:=by
 subst e;exact⟨.bl k,H,I,rfl,q⟩
theorem aZ:OpR X (Bb .Lt) (rI0 λi j=>.bl (decide (i < j))):=Ys λ_ _ _ _ _ _ _ q=>lt_int q
theorem aa:OpR X (Bb .LtE) (rI0 λi j=>.bl (decide (i<=j))):=Ys λ_ _ _ _ _ _ _ q=>le_int q
theorem ab:OpR X (Bb .GtE) (rI0 λi j=>.bl (decide (j<=i))):=Ys λ_ _ _ _ _ _ _ q=>ge_int q
theorem WX:OpR X (Bb .IsNot) (λx y H Q=>y=.non/\Q (.bl (!decide (x=.non))) H):=by
 intro l s m H x y v u Q I g j h;obtain⟨rfl,q⟩:=h;cases j;refine isnot_none_gen (ZR I q ?_)
 cases x <;> first
  | (cases g;rfl)
  | (obtain⟨t,rfl⟩:=g;rfl)
theorem OpR.or(h:OpR X f r)(h':OpR X f o):OpR X f (λx y H Q=>r x y H Q∨o x y H Q):=by
 intro g s j H x y v u Q I l m q
 rcases q with q | q
 ·exact h g s j H x y v u Q I l m q
 ·exact h' g s j H x y v u Q I l m q
theorem Dm(b:Expr)(h:g≠.In:=by decide)(j:g≠.NotIn:=by decide):Bh g b=false:=by
 have l:(g==CmpOp.In)=false:=by cases g <;> first | rfl | exact zX rfl h
 have m:(g==CmpOp.NotIn)=false:=by cases g <;> first | rfl | exact zX rfl j
 cases b <;> simp[Bh,l,m]
theorem WU{g:CmpOp}{r:R2}(ho:OpR X (Bb g) r)(j:PE X a ta)(hb:PE X b tb)(l:Bh g b=false):PE X (.Compare a [g] [b] pos) (tOp r ta tb):=by
 intro m s o H Q I h;exact wpAny_Compare1 (ZY j hb I h λv u A x y B C E G q=>ho m A o B x y v u Q C E G q) l
def Xa(t:TE):TT:=λg H Q=>t g H λx j=>∃k,x=.bl k/\Q k j
theorem WD(ho:OpR X (Bb l) r)(m:PE X a ta)(hb:PE X b tb)(o:Bh l b=false):PT X (.Compare a [l] [b] pos) (Xa (tOp r ta tb)):=by
 intro g s j H Q I h
 refine VV (thn (m g s j H _ I h) λv A ⟨x,B,C,E,G⟩=>thn (hb g A j B _ C G) λu J ⟨y,L,N,O,P⟩=>
  thn (ho g J j L x y v u _ N E O P) λc Y ⟨z,R,S,T,k,e,U⟩=>?_) o
 subst e;cases T;exact Bc ⟨R,S,U⟩
def Tf(r l:R2)(ta tb tc:TE):TE:=λg H Q=>ta g H λx m=>tb g m λy o=>r x y o λz j=>∃k,z=.bl k /\
 (if k=true then tc g j λs A=>l y s A Q else Q (.bl false) j)
theorem Tx(ho:OpR X (Bb m) r)(E:OpR X (Bb g) G)(J:PE X a ta)(hb:PE X b tb)(L:PE X c tc)
  (N:lastMarks [m,g] [b,c]=false:=by with_unfolding_all rfl):PT X (.Compare a [m,g] [b,c] pos) (Xa (Tf r G ta tb tc)):=by
 intro j s l H Q I h
 refine isTrue_chain (thn (J j s l H _ I h) λv O ⟨x,P,R,S,T⟩=>test_link (thn (hb j O l P _ R T) λu U ⟨y,Y,Z,o,q2⟩=>
  thn (ho j U l Y x y v u _ Z S o q2) λd s3 ⟨z,A,B,r3,k,e,C⟩=>?_)) N
 subst e;cases r3;refine Bc ?_
 cases k with
 | false=>
  obtain⟨k',e',q'⟩:=C;cases e';exact ite_ff ⟨A,B,q'⟩
 | true=>
  refine ite_tt (test_last (thn (L j s3 l A _ B C) λw' s4 ⟨z',H4,I4,r4,q4⟩=>thn (E j s4 l H4 y z' u w' _ I4 o r4 q4) λd' s5 ⟨z2,H5,I5,r5,k2,e2,q5⟩=>?_));subst e2;cases r5;exact Bc ⟨H5,I5,q5⟩
def Zc(K:AB)(x:V)(H:Hp)(k:Bool):Prop:=
 match x with
 | .non=>k=false
 | .bl b=>k=b
 | .int i=>k=(i != 0)
 | .str y=>y.length<=sizeLine/\k=((y.length:Int) != 0)
 | .byt y=>y.size<=sizeLine/\k=((y.size:Int) != 0)
 | .ref p=>(∃g,SqL K H p g/\k = !g.isEmpty)∨(∃g,SqT K H p g/\k = !g.isEmpty)∨∃j,H p=some (.dK j)/\k = !j.isEmpty
 | _=>False
theorem P9{g:Type}{j:List (g×V)}{vs:List (g×AC)}(r:KV j vs):(!vs.isEmpty) = !j.isEmpty:=by
 cases r <;> rfl
theorem LS(r:BD xs g):(!g.toArray.isEmpty) = !xs.isEmpty:=by
 cases r <;> simp
theorem NY:(sizeLine:Nat) < 2 ^ 63:=by rw[JR];decide
theorem YC:TruR X (λx H Q=>∃k,Zc X.K x H k/\Q k H):=by
 intro N s O H x v Q I o h;obtain⟨k,e,q⟩:=h;have R:=NY;have S:sizeLine=16777216:=JR
 cases x with
 | non=>
  cases o;have g:k=false:=e;subst g;exact truthy_none ⟨H,I,q⟩
 | bl b=>
  cases o;have g:k=b:=e;subst g;exact Bc ⟨H,I,q⟩
 | int i=>
  obtain⟨t,rfl⟩:=o;have g:k=(i != 0):=e;subst g;exact PySem.P.truthy_int ⟨H,I,q⟩
 | str y=>
  obtain⟨t,rfl⟩:=o;obtain⟨G,g⟩:y.length<=sizeLine/\k=((y.length:Int) != 0):=e;subst g;exact PySem.P.truthy_str (by lia) ⟨H,I.tok _,q⟩
 | byt y=>
  obtain⟨t,rfl⟩:=o;obtain⟨G,g⟩:y.size<=sizeLine/\k=((y.size:Int) != 0):=e;subst g;exact PySem.W.truthy_bytes (by lia) ⟨H,I.tok _,q⟩
 | ref p=>
  cases o
  have g:(∃l,SqL X.K H p l/\k = !l.isEmpty)∨(∃l,SqT X.K H p l/\k = !l.isEmpty)∨∃A,H p=some (.dK A)/\k = !A.isEmpty:=e
  rcases g with⟨l,B,g⟩ | ⟨l,B,g⟩ | ⟨A,B,g⟩
  ·subst g
   obtain⟨J,r,C,E⟩:=I.list B;have j:=r.length;exact wpAny_truthy_list C.isList (by simp only[AY];lia) ⟨H,I.tok _,by rw[LS r];exact q⟩
  ·subst g
   obtain⟨J,r,C,E⟩:=I.tuple B;have j:=r.length;exact truthy_tuple C (by simp only[AY];lia) ⟨H,I.tok _,by rw[LS r];exact q⟩
  ·subst g
   obtain⟨E,L,vs,r,m⟩:A.length<=sizeLine/\(p==Cw)=false/\∃vs,KV A vs/\s.heap.DictOf (C1 X.prog X.w) p vs:=I.hok p _ B
   have j:A.length=vs.length:=DA r;exact wpAny_truthy_dict L m (by lia) ⟨H,I.tok _,by rw[P9 r];exact q⟩
 | _=>exact(show False from e).elim
theorem Tv(m:PE X a ta)(o:∀g,PK a X.env g=(do let v <-g;Zi a.pos;Sx [v] (Xo v))) :
  PT X a (λj H Q=>ta j H λx H'=>∃k,Zc X.K x H' k/\Q k H'):=by
 intro l s j H Q I h;exact isTrue_plain (thn (m l s j H _ I h) λv A ⟨x,B,C,E,G⟩=>YC l A j B x v Q C E G) (o _)
theorem vals1(r:BD [x] us):∃u,us=[u]/\RelV x u:=by
 cases r with
 | cons g j=>cases j;exact⟨_,rfl,g⟩
theorem vals2(r:BD [x,y] us):∃u w',us=[u,w']/\RelV x u/\RelV y w':=by
 cases r with
 | cons g j=>
  cases j with
  | cons l m=>cases m;exact⟨_,_,rfl,g,l⟩
theorem Sd(l:X.calm=true):HH X (.builtin "max") (λxs H Q=>∃i j,xs=[.int i,.int j]/\Q (.int (if j > i then j else i)) H):=by
 intro m s o H xs A Q I r h;obtain⟨i,j,rfl,q⟩:=h;obtain⟨u,B,rfl,⟨t,rfl⟩,⟨C,rfl⟩⟩:=vals2 r
 refine max_two_ints (I.ok.hd l) λE G k=>⟨_,H,I.kept k,?_,q⟩
 by_cases g:j > i
 ·rw[qX g,qX g];exact⟨_,rfl⟩
 ·rw[qY g,qY g];exact⟨_,rfl⟩
theorem Sb(l:X.calm=true):HH X (.builtin "min") (λxs H Q=>∃i j,xs=[.int i,.int j]/\Q (.int (if j < i then j else i)) H):=by
 intro m s o H xs A Q I r h;obtain⟨i,j,rfl,q⟩:=h;obtain⟨u,B,rfl,⟨t,rfl⟩,⟨C,rfl⟩⟩:=vals2 r
 refine min_two_ints (I.ok.hd l) λE G k=>⟨_,H,I.kept k,?_,q⟩
 by_cases g:j < i
 ·rw[qX g,qX g];exact⟨_,rfl⟩
 ·rw[qY g,qY g];exact⟨_,rfl⟩
end
structure Sh(h:BY)(x dx C:AL)(mA:Str->Option AC):Prop where
 obj:h.get? x=some (CV C dx)
 ns:h.Ns1 dx mA
 ne:dx≠x
theorem SA{h:BY}{g:AL}{j:Str->Option AC}(n:h.Ns1 g j):∃l,h.get? g=some l/\∀name,Kf name l=some (j name):=by
 obtain⟨o,m,H,s,hd,A,_,B⟩:=n;refine⟨o,s,λname=>?_⟩;have e:=B name;unfold nsFind findBy at e;rw[<-Array.find?_toList]at e;unfold Kf;rw[hd];dsimp only;split
 ·rename_i y q
  rw[q]at e;exact congrArg some e
 ·rename_i q
  rw[q]at e
  have a:m.toList.any (·.refKey)=false:=by
   rw[Jp];intro y C;obtain⟨z,t,E⟩:=A y (A3.mp C);simp[Z3.refKey,E]
  have G:¬m.toList.any (·.refKey)=true:=by rw[a];exact AZ
  rw[qY G];exact congrArg some e
theorem Sh.look{h}{x j C}{l}(I:Sh h x j C l):∃g,PySem.W.InstAt h x (CV C j) C (some g)/\∀name,Kf name g=some (l name):=
 let ⟨g,m,o⟩:=SA I.ns
 ⟨g,⟨I.obj,rfl,rfl,m⟩,o⟩
section
variable{prog:Aq}{w:A9}{A:A4}{E:AC->AF->Prop}{s:AF}{K:AB}{x dx C f:AL}{mA:Str->Option AC}{name:Str}{v:AC}
theorem Wu(X:K.In s.heap)(I:Sh s.heap x dx C mA)(g:JV K C name=true)(j:Ik K C=true)
  (l:Cj K (.ref C) name=some none) (m:mA name=some v) (o:RV v=true) (h:Q v { s with toks:=s.toks+1 }) :
  Ac (AW prog w) A (getAttr (.ref x) name expr) Q E s:=by
 obtain⟨G,J,B⟩:=I.look;exact PySem.W.get_value X J (PySem.W.plainGet_of g).1 (PySem.W.findObj_own j l rfl (by rw[B,m])) o h
theorem V7(X:K.In s.heap)(I:Sh s.heap x dx C mA)
  (l:Cj K (.ref C) "__setattr__" = some (some (.builtin "object.__setattr__"))) (m:QU K C=true) (o:J5 K C name=some none) (B:Ik K C=true)
  (hw:OA mA ns) (hsz:ns.length<=sizeLine)
  (h:∀h',Sh h' x dx C (λy=>if y=name then some v else mA y)->Fb dx s.heap h'->Q () { s with heap:=h',toks:=s.toks+2 }) :
  Ac (AW prog w) A (setAttr (.ref x) name v) Q E s:=by
 obtain⟨R,J,S⟩:=I.look;refine PySem.W.set_plain X J l (PySem.W.osa_open (s:={ s with toks:=s.toks+1 }) (r:=none) X J m o λb=>?_);obtain⟨T,G,H⟩:=PySem.W.any_some B;have L:s.heap.get? x=some ⟨.ref C,some dx,.plain,#[]⟩:=I.obj;refine AA (AH (AA (AA (wpAny_loadPart L (AA (Zy (s:={ s with toks:=s.toks+1 }) (PySem.W.looks_clsIn X G) ?_))))));rw[H];refine AH (a:=some dx) (AA (AH (AA ?_)))
 refine wpAny_nsSet1 (s:={ s with toks:=s.toks+1 }) I.ns λh' g j=>?_
 obtain⟨U,Y,Z,N,O,P⟩:=g.count (bR name v hw);refine AA (wpAny_lookBehind N (by rw[O];exact pastItsLine_dict (Ai P (by rw[Al];lia))) ?_);exact AH (h _ ⟨(j.2 _ (B2 I.ne)).trans I.obj,g,I.ne⟩ j)
theorem UP(X:K.In s.heap)(l:Sq K C=true)
  (hi:Cj K (.ref C) "__init__" = some (some (.ref f))) (m:PySem.W.typeIn K (.ref f)=some (.type "function"))
  (h:Dx (AW prog w) (A.under (.builtin "type.__call__" ⟨.ref C :: vs,j⟩)) (.call (.ref f) ⟨.ref (s.heap.objs.size+1) :: vs,j⟩) (PySem.W.InitBack (s.heap.objs.size+1) R)
   { s with heap:=(s.heap.push Bv).push (CV C s.heap.objs.size) }) :
  Dx (AW prog w) A (.call (.ref C) ⟨vs,j⟩) R s:=by
 obtain⟨o,g,d,t,os⟩:=s;exact PySem.W.make_core (PySem.W.makes_of X l) (PySem.W.looks_findIn X hi) (λself=>PySem.W.bind_fn X self m) (.inl rfl) h
end
def putF(f:Str)(v:V):List (Str×V)->List (Str×V)
 | []=>[(f,v)]
 | (g,x) :: r=>if g=f then(g,v) :: r else(g,x) :: putF f v r
theorem Jt(f g:Str)(v:V):∀fs:List (Str×V),(putF f v fs).lookup g=if g=f then some v else fs.lookup g
 | []=>by
  show E2 g [(f,v)]=_
  by_cases h:g=f
  ·have hb:(g==f)=true:=beq_iff_eq.mpr h
   simp only[E2,hb,qX h]
  ·have hb:(g==f)=false:=beq_eq_false_iff_ne.mpr h
   simp only[E2,hb,qY h]
 | (k,x) :: r=>by
  have l:=Jt f g v r;rw[show putF f v ((k,x) :: r)=(if k=f then(k,v) :: r else(k,x) :: putF f v r)from rfl]
  by_cases j:k=f
  ·rw[qX j]
   by_cases h:g=k
   ·have hb:(g==k)=true:=beq_iff_eq.mpr h
    simp only[E2,hb,qX (h.trans j)]
   ·have hb:(g==k)=false:=beq_eq_false_iff_ne.mpr h
    simp only[E2,hb,qY (λe:g=f=>h (e.trans j.symm))]
  ·rw[qY j]
   by_cases h:g=k
   ·have hb:(g==k)=true:=beq_iff_eq.mpr h
    simp only[E2,hb,qY (λe:g=f=>j (h.symm.trans e))]
   ·have hb:(g==k)=false:=beq_eq_false_iff_ne.mpr h
    simp only[E2,hb];exact l
theorem Jf(f:Str)(v:V):∀fs:List (Str×V),f∈(putF f v fs).map (·.1)/\∀g,g∈fs.map (·.1)->g∈(putF f v fs).map (·.1)
 | []=>⟨by simp[putF],λg h=>by simp at h⟩
 | (k,x) :: r=>by
  obtain⟨l,m⟩:=Jf f v r;rw[show putF f v ((k,x) :: r)=(if k=f then(k,v) :: r else(k,x) :: putF f v r)from rfl]
  by_cases j:k=f
  ·rw[qX j]
   subst j;exact⟨by simp,λg h=>by simpa using h⟩
  ·rw[qY j]
   refine⟨?_,λg h=>?_⟩
   ·rw[Au]
    exact Aa _ l
   ·rw[Au]at h ⊢
    rcases A7.mp h with e | e
    ·exact A7.mpr (.inl e)
    ·exact Aa _ (m g e)
theorem Jv(f:Str)(v:V):∀fs:List (Str×V),(putF f v fs).length<=fs.length+1
 | []=>by simp[putF]
 | (k,x) :: r=>by
  have j:=Jv f v r;rw[show putF f v ((k,x) :: r)=(if k=f then(k,v) :: r else(k,x) :: putF f v r)from rfl]
  by_cases g:k=f
  ·rw[qX g,Al,Al];lia
  ·rw[qY g,Al,Al];lia
theorem Ji.some_of(r:Ji (some v) o):∃u,o=some u/\RelV v u:=by
 cases o with
 | none=>exact(show False from r).elim
 | some u=>exact⟨u,rfl,r⟩
theorem SK(r:RelV v u):RV u=true:=by
 cases v with
 | non=>cases(show u=Dz from r);rfl
 | bl b=>cases(show u=Ii b from r);rfl
 | int i=>obtain⟨t,e⟩:=(show ∃t,u=Db i t from r);cases e;rfl
 | str x=>obtain⟨t,e⟩:=(show ∃t,u=Jz x t from r);cases e;rfl
 | byt b=>obtain⟨t,e⟩:=(show ∃t,u=Zm b t from r);cases e;rfl
 | flt b=>obtain⟨t,e⟩:=(show ∃t,u=PQ b t from r);cases e;rfl
 | ref a=>cases(show u=Ax a from r);rfl
 | ty n=>cases(show u=Ei n from r);rfl
section
variable{P:Aq}{w:A9}{H:Hp}{h:BY}{a C dx:AL}{fs:List (Str×V)}
theorem Nb(j:HOk P w H h)(e:H a=some (.ins C dx fs)):∃g,Sh h a dx C g/\(∀f,Ji (fs.lookup f) (g f))/\OA g (fs.map (·.1))/\fs.length<=1000/\H dx=some (.own a):=by
 obtain⟨d,z,l,m,g,n,r,q⟩:=(show CT P w H h a (.ins C dx fs)from j a _ e);exact⟨g,⟨m,n,l⟩,r,q,z,d⟩
end
structure Cls(K:AB)(C:AL):Prop where
 pg:JV K C Str.empty=true
 hd:Ik K C=true
 po:QU K C=true
 sa:Cj K (.ref C) "__setattr__" = some (some (.builtin "object.__setattr__"))
theorem Cls.get{K}{C}(c:Cls K C)(f:Str):JV K C f=true:=c.pg
def Fa(K:AB)(C:AL)(f:Str):Prop:=Cj K (.ref C) f=some none
theorem Fa.taker{K}{C}{f}(n:Fa K C f):J5 K C f=some none:=by
 unfold J5;rw[show Cj K (.ref C) f=some none from n];rfl
section
variable{X:Cx}{ζ:List (AL×Obj)}{σ:St}{H:Hp}{s:AF}{a C dx:AL}{fs:List (Str×V)}{f:Str}{v:V}{A:A4}{E:AC->AF->Prop}
theorem QE(I:Inv X ζ σ H s)(e:H a=some (.ins C dx fs))(c:Cls X.K C)(n:Fa X.K C f)(l:fs.lookup f=some v)
  (h:∀u s',Inv X ζ σ H s'->RelV v u->Q u s'):Ac (AW X.prog X.w) A (getAttr (.ref a) f b) Q E s:=by
 obtain⟨j,O,r,_,_,_⟩:=Nb I.hok e;obtain⟨u,m,g⟩:=Ji.some_of (v:=v) (o:=j f) (by rw[<-l];exact r f);exact Wu I.kIn O (c.get f) c.hd n m (SK g) (h u _ (I.tok _) g)
theorem Pu(I:Inv X ζ σ H s)(e:H a=some (.ins C dx fs))(c:Cls X.K C)(n:Fa X.K C f)(S:fs.length < 1000)(G:RelV y u)
  (h:∀s',Inv X ζ σ (upd H a (.ins C dx (putF f y fs))) s'->Q () s'):Ac (AW X.prog X.w) A (setAttr (.ref a) f u) Q E s:=by
 obtain⟨l,O,r,m,_,B⟩:=Nb I.hok e
 have J:(fs.map (·.1)).length<=sizeLine:=by rw[AI,JR];lia
 refine V7 I.kIn O c.sa c.po n.taker c.hd m J λL j N=>h _ ?_
 have hd:∃o,L.get? dx=some o:=let ⟨o,_,_,P,_⟩:=j.ns;⟨o,P⟩
 refine I.write (x:=a) (e:=dx) (by rw[e];exact C5) (.inr B) (λb q hb z=>(N.2 b hb).trans z) hd ?_;refine⟨by rw[BC O.ne];exact B,?_,O.ne,j.obj,_,j.ns,λg=>?_,λg R=>?_⟩
 ·have:=Jv f y fs;lia
 ·show Ji ((putF f y fs).lookup g) (if g=f then some u else l g)
  rw[Jt]
  by_cases q:g=f
  ·rw[qX q,qX q];exact G
  ·rw[qY q,qY q];exact r g
 ·by_cases q:g=f
  ·rw[q];exact(Jf f y fs).1
  ·refine(Jf f y fs).2 g (m g λz=>R ?_)
   show(if g=f then some u else l g)=none;rw[qY q];exact z
theorem Inv.made(I:Inv X ζ σ H s):Inv X ζ σ (upd (upd H s.heap.objs.size (.own (s.heap.objs.size+1))) (s.heap.objs.size+1) (.ins C s.heap.objs.size []))
  { s with heap:=(s.heap.push Bv).push (CV C s.heap.objs.size) }:=by
 have g:(s.heap.push Bv).get? s.heap.objs.size=some Bv:=AR s.heap rfl
 have l:((s.heap.push Bv).push (CV C s.heap.objs.size)).get? (s.heap.objs.size+1)=some (CV C s.heap.objs.size):=by
  have:=AR (s.heap.push Bv) (o:=CV C s.heap.objs.size) rfl;rwa [DY]at this
 have m:(s.heap.push Bv).Ns s.heap.objs.size (λ_=>none):=⟨Bv,#[],_,g,rfl,(λe B=>zX B (by simp)),λ_=>rfl⟩;have G:=I.laid (a:=s.heap.objs.size) (o:=.own (s.heap.objs.size+1)) (h':=s.heap.push Bv) (t':=s.toks) (λb u q=>AE _ q) (AK _) ⟨_,g⟩;refine G.laid (a:=s.heap.objs.size+1) (o:=.ins C s.heap.objs.size []) (t':=s.toks) (λb u q=>AE _ q) (PV (DY _ _)) ?_;have j:s.heap.objs.size≠s.heap.objs.size+1:=Ak (B5 _);refine⟨by rw[BC j,BE],CA _,j,l,λ_=>none,(BY.Ns1.of_empty m).at λo q=>AE _ q,λ_=>C5,λy J=>zX rfl J⟩
theorem XE(hb:EI e f env (Bt e env)=Bt e env)
  (h:Ac (AW prog w) A (Bt e env) (λo g=>Ac (AW prog w) A (getAttr o f true) Q E g) E s):Ac (AW prog w) A (Bt (.Attribute e f pos) env) Q E s:=
 Attribute_any_ h (by rw[arm_eval_Attribute,hb])
end
def tFld(K:AB)(j:TE)(f:Str):TE:=λl H Q=>j l H λx g=>∃a C m fs v,x=.ref a/\g a=some (.ins C m fs)/\Cls K C/\Fa K C f/\fs.lookup f=some v/\Q v g
def sFld(K:AB)(m o:TE)(f:Str):TS:=λD g H=>o g H λy s=>m g s λx j=>∃a C l fs,x=.ref a/\j a=some (.ins C l fs)/\Cls K C/\Fa K C f/\fs.length < 1000 /\
 D.nx g (upd j a (.ins C l (putF f y fs)))
section
variable{X:Cx}{o e value:Expr}{f:Str}{pos pos':Pos}{ta tv:TE}
theorem Yh(g:PE X e ta)(hb:EI e f X.env (Bt e X.env)=Bt e X.env):PE X (.Attribute e f pos) (tFld X.K ta f):=by
 intro j s m H Q I h;refine XE hb (thn (g j s m H _ I h) λu N ⟨x,A,B,E,a,C,O,fs,v,ex,G,c,n,l,q⟩=>?_);subst ex;obtain rfl:u=Ax a:=E
 exact QE B G c n l λP R J L=>⟨v,A,J,L,q⟩
theorem YY(m:PE X o ta)(A:PE X value tv)(B:DX value (some (.Attribute o f pos')) pos.line X.env=pure false):PS X (.Assign [.Attribute o f pos'] value pos) (sFld X.K ta tv f):=by
 intro j s g H D I h;refine plainObj_wpAny_Assign_Attribute (thn (A j s g H _ I h) λu E ⟨y,G,J,L,q⟩=>thn (m j E g G _ J q) λN T ⟨x,U,O,P,a,C,Y,fs,ex,Q,c,n,l,R⟩=>?_) B;subst ex;obtain rfl:N=Ax a:=P
 exact Pu O Q c n l L λZ S=>⟨g,_,S,R⟩
end
section
variable{X:Cx}{ζ:List (AL×Obj)}{σ:St}{H:Hp}{s:AF}{A:A4}{E:AC->AF->Prop}{Q:AC->AF->Prop}{c:AC}{b:Bool}
inductive JL(K:AB)(H:Hp):V->AC->Prop where
 | non:JL K H .non (.type "NoneType")
 | bl (x:Bool):JL K H (.bl x) (.type "bool")
 | int (i:Int):JL K H (.int i) (.type "int")
 | str (x:Str):JL K H (.str x) (.type "str")
 | flt (x:UInt64):JL K H (.flt x) (.type "float")
 | lst {a:AL} {xs:List V} (e:H a=some (.lst xs)):JL K H (.ref a) (.type "list")
 | frz {a:AL} {o:Obj} {xs:List V} (e:H a=some (.frz o (.lst xs))):JL K H (.ref a) (.type "list")
 | tup {a:AL} {xs:List V} (e:H a=some (.tup xs)):JL K H (.ref a) (.type "tuple")
 | dK {a:AL} {b0:List (Key×V)} (e:H a=some (.dK b0)):JL K H (.ref a) (.type "dict")
 | dT {a:AL} {b0:List (List Key×V)} (e:H a=some (.dT b0)):JL K H (.ref a) (.type "dict")
 | ins {a C dx:AL} {fs:List (Str×V)} (e:H a=some (.ins C dx fs)) (cl:Cls K C) (ha:Cj K (.ref C) "__class__" = some (some (.builtin "object.__class__")))
   (hn:PySem.W.specialIn K (.builtin "object.__class__") "__get__" = some (some (.builtin "getset_descriptor.__get__"))) (iq:PySem.W.takesIn K (.builtin "object.__class__")=some true)
   (hm:PySem.W.mroIn K C (.type "object")=some true):JL K H (.ref a) (.ref C)
theorem SF(I:Inv X ζ σ H s)(g:RelV x u)(ty:JL X.K H x t)(e:DN X.K t c=some b)(h:∀tk,Q (.bool b) { s with toks:=tk }) :
  Ac (AW X.prog X.w) A (call (.builtin "isinstance") [u,c]) Q E s:=by
 cases ty with
 | non=>cases(show u=Dz from g);exact Bm PySem.W.kitx_none I.kIn C5 e (λz=>nomatch z) h
 | bl y=>cases(show u=Ii y from g);exact Bm PySem.W.kitx_bool I.kIn C5 e (λz=>nomatch z) h
 | int i=>obtain⟨t,q⟩:=(show ∃t,u=Db i t from g);cases q;exact Bm PySem.W.kitx_int I.kIn C5 e (λz=>nomatch z) h
 | str y=>obtain⟨t,q⟩:=(show ∃t,u=Jz y t from g);cases q;exact Bm PySem.W.kitx_str I.kIn C5 e (λz=>nomatch z) h
 | flt y=>obtain⟨t,q⟩:=(show ∃t,u=PQ y t from g);cases q;exact Bm PySem.W.kitx_float I.kIn C5 e (λz=>nomatch z) h
 | @lst a m j=>
  cases(show u=Ax a from g);obtain⟨_,_,n,_,l⟩:=(show CT X.prog X.w H s.heap a (.lst m)from I.hok a _ j);exact Bm QV I.kIn ⟨_,l,rfl⟩ e (λz=>nomatch z) h
 | @frz a N m j=>
  cases(show u=Ax a from g);obtain⟨_,_,_,n,_,l⟩:=(show CT X.prog X.w H s.heap a (.frz N (.lst m))from I.hok a _ j);exact Bm QV I.kIn ⟨_,l,rfl⟩ e (λz=>nomatch z) h
 | @tup a m j=>
  cases(show u=Ax a from g);obtain⟨_,_,_,p⟩:=(show CT X.prog X.w H s.heap a (.tup m)from I.hok a _ j);obtain⟨o,l,B,_⟩:=p;exact Bm PySem.W.kitx_tuple I.kIn ⟨o,l,B⟩ e (λz=>nomatch z) h
 | @dK a G j=>
  cases(show u=Ax a from g);obtain⟨_,_,vs,_,p⟩:=(show CT X.prog X.w H s.heap a (.dK G)from I.hok a _ j);obtain⟨o,P,R,l,B,_⟩:=p;exact Bm QW I.kIn ⟨o,l,B.1⟩ e (λz=>nomatch z) h
 | @dT a G j=>
  cases(show u=Ax a from g);obtain⟨_,_,m,_,o,P,R,l,B,_⟩:=(show CT X.prog X.w H s.heap a (.dT G)from I.hok a _ j);exact Bm QW I.kIn ⟨o,l,B.1⟩ e (λz=>nomatch z) h
 | @ins a C Z fs j L S T U Y=>
  cases(show u=Ax a from g);obtain⟨mA,O,_⟩:=Nb I.hok j;obtain⟨od,J,_⟩:=O.look;exact Bm (PySem.W.kitx_own (L.get _) L.hd S T U Y) I.kIn J e (λz=>nomatch z) h
end
structure De(k:Nat)(A:A4):Prop where
 hd:A.handled=none
 dp:A.depth+3 * k+5 < recursionLimit
 un:A.units+16 * k+200 < C9
theorem De.mono(r:De k A)(h:j<=k):De j A:=⟨r.hd,by have:=r.dp;lia,by have:=r.un;lia⟩
theorem De.deeper(r:De (k+1) A)(env:Env):De k (A.deeper env):=
 ⟨r.hd,by have:=r.dp;show A.depth+1+3 * k+5 < _;lia,by have:=r.un;show A.units+3+16 * k+200 < _;lia⟩
theorem De.in1(r:De (k+1) A):De k A.in1:=
 ⟨r.hd,by have:=r.dp;show A.depth+3 * k+5 < _;lia,by have:=r.un;show A.units+1+16 * k+200 < _;lia⟩
theorem P5{A:A4}{C:AL}{us:List AC}{g:List (Str×AC)}:(A.under (.builtin "type.__call__" ⟨.ref C :: us,g⟩)).depth=A.depth+1:=by
 first | rfl | simp[N3,Code.weight,Code.isCreation,Code.isGuard,Code.isCaller,Z4,O7,guardIds]
theorem P4{A:A4}{C:AL}{us:List AC}{g:List (Str×AC)}:(A.under (.builtin "type.__call__" ⟨.ref C :: us,g⟩)).units=A.units+1:=by
 first | rfl | simp[N3,Code.cUnits,Z4,O7]
theorem De.make{k}{A}(r:De (k+1) A)(C:AL)(us:List AC)(g:List (Str×AC)):De k (A.under (.builtin "type.__call__" ⟨.ref C :: us,g⟩)):=
 ⟨r.hd,by have:=r.dp;rw[P5];lia,by have:=r.un;rw[P4];lia⟩
theorem De.depth(r:De k A):A.depth < recursionLimit:=by have:=r.dp;lia
theorem De.units(r:De k A):A.units+64 < C9:=by have:=r.un;lia
def YF:TA:=λ_ H Q=>Q [] H
def Td(j:TE)(l:TA):TA:=λg H Q=>j g H λx m=>l g m λo s=>Q (x :: o) s
section
variable{X:Cx}{e:Expr}{es:List Expr}{te:TE}{t:TA}{pos:Pos}
theorem Gy:PA X [] YF:=λ_ _ _ _ H Q I h=>Calls.spliced_nil ⟨[],H,I,.nil,h⟩
theorem Ec(l:PE X e te)(m:PA X es t)(o:AX (e :: es) X.env=(false,Bt e X.env) :: AX es X.env:=by rfl):PA X (e :: es) (Td te t):=by
 intro pos g s j H Q I h;rw[o];show Ac _ _ (spliced ((false,Bt e X.env) :: D2 pos (AX es X.env))) _ _ s;refine Calls.spliced_cons (thn (l g s j H _ I h) λu A ⟨x,B,C,E,G⟩=>?_)
 exact thn (m pos g A j B _ C G) λR S ⟨J,L,N,O,P⟩=>⟨x :: J,L,N,.cons E O,P⟩
def tTup(t:TA):TE:=λl H Q=>t l H λg j=>g.length<=sizeLine/\∀p,j p=none->Q (.ref p) (upd j p (.tup g))
def tLst(t:TA):TE:=λl H Q=>t l H λg j=>g.length<=sizeLine/\∀p,j p=none->Q (.ref p) (upd j p (.lst g))
theorem Yc{m}(h:PA X es t):PE X (.Tuple es m pos) (tTup t):=by
 intro o s A H Q I B;refine wpAny_Tuple_spliced (thn (h pos o s A H _ I B) λC g ⟨E,j,l,r,z,q⟩=>⟨by rw[<-r.length];exact z,?_⟩);have G:j g.heap.objs.size=none:=l.hok.fresh (AK _);refine⟨.ref g.heap.objs.size,upd j g.heap.objs.size (.tup E),l.laid (t':=g.toks) (λb u e=>AE _ e) (AK _) ?_,rfl,q _ G⟩;exact⟨⟨z,⟨_,AR _ rfl,rfl⟩⟩,C,r,⟨_,AR _ rfl,rfl,_,rfl⟩⟩
theorem Yf(h:PA X es t):PE X (.List es pos) (tLst t):=by
 intro m s o H Q I A;refine wpAny_List_spliced (thn (h pos m s o H _ I A) λB g ⟨C,j,l,r,z,q⟩=>⟨by rw[<-r.length];exact z,?_⟩);have E:j g.heap.objs.size=none:=l.hok.fresh (AK _);refine⟨.ref g.heap.objs.size,upd j g.heap.objs.size (.lst C),l.laid (t':=g.toks) (λb u e=>AE _ e) (AK _) ?_,rfl,q _ E⟩;exact⟨z,B,0,r,AR _ rfl⟩
end
abbrev Sp:=List V->Hp->VK->XK->Prop
abbrev CXT:=List Env->Hp->AF->XK->AC->AF->Prop
structure Ll(P:Aq)(w:A9)(K:AB)(mg:Str->Option AC)(base:BY)(A:A4)(outer:List Env)(s:AF)(H:Hp):Prop where
 frames:A.frames=some outer
 mod:Mod K mg base
 bs:∀b o,base.get? b=some o->s.heap.get? b=some o/\H b=none
 bsz:base.objs.size<=s.heap.objs.size
 funs:s.heap.FunFrames base outer
 frf:∀b∈frs outer,H b=none
 hok:HOk P w H s.heap
 bare:GU s.gens
def CE(g:List Env)(P:Aq)(w:A9)(H:Hp)(s:AF)(Q:VK)(u:AC)(s':AF):Prop:=
 ∃v j,s'.os=s.os/\GU s'.gens/\Un (frs g) [] H j s.heap s'.heap/\HOk P w j s'.heap/\RelV v u/\Q v j
def CR(j:CXT)(g:List Env)(P:Aq)(w:A9)(H:Hp)(s:AF)(Q:VK)(E:XK)(r:M2)(s':AF):Prop:=
 match r with
 | .ok (.ret u)=>CE g P w H s Q u s'
 | .ok _=>False
 | .error e=>j g H s E e s'
structure EZ(P:Aq)(w:A9)(K:AB)(mg:Str->Option AC)(base:BY)(CX:CXT)(k:Nat)(f:AL)(fd:EJ)(ps:List Str)(sp:Sp):Prop where
 len:∀vs H Q E,sp vs H Q E->vs.length=ps.length
 run:∀(A:A4) (outer:List Env) (s:AF) (H:Hp) (args:Args) (us:List AC) (vs:List V) (Q:VK) (E:XK),De k A->Ll P w K mg base A outer s H->O8 s fd args (ps.zip us)->BD vs us->sp vs H Q E ->
  Dx (AW P w) A (.call (.ref f) args) (CR CX outer P w H s Q E) s
theorem Ll.make{P}{w}{K}{j}{base}{A}{g}{s}{H}(e:Ll P w K j base A g s H)(C:AL)(us:List AC)(l:List (Str×AC)) :
  Ll P w K j base (A.under (.builtin "type.__call__" ⟨.ref C :: us,l⟩)) g s H:=⟨by first | exact e.frames | (simpa[N3,Code.envs,O7,pushEnvs]using e.frames),e.mod,e.bs,e.bsz,e.funs,e.frf,e.hok,e.bare⟩
theorem Ll.in1{P}{w}{K}{j}{base}{A}{g}{s}{H}(e:Ll P w K j base A g s H) :
  Ll P w K j base A.in1 g s H:=⟨e.frames,e.mod,e.bs,e.bsz,e.funs,e.frf,e.hok,e.bare⟩
section
variable{X:Cx}{ζ:List (AL×Obj)}{σ:St}{H:Hp}{s s':AF}
theorem Inv.env0(I:Inv X ζ σ H s):Ll X.prog X.w X.K X.mg X.base X.A X.stack s H:=
 ⟨I.ok.frames,I.ok.mod,I.bs,Ai I.ok.bsz I.sz,I.stack,I.stkFree,I.hok,I.bare⟩
theorem Inv.after(I:Inv X ζ σ H s)(h:CE X.stack X.prog X.w H s Q u s'):EP X ζ σ Q u s':=by
 obtain⟨v,m,os,j,un,l,r,q⟩:=h;obtain⟨o,g,d,t,A⟩:=s';obtain rfl:A=s.os:=os;exact⟨v,m,I.call (h':=o) (g':=g) (d':=d) (t':=t) (ch:=[]) un l j (λb z=>zX z (by simp)),r,q⟩
end
def aH(j:Sp)(l:List V)(E:St->XK)(t:TA):TE:=λg H Q=>t g H λvs m=>j (vs++l) m Q (E g)
def aD(C:AL)(m:Sp)(o:List V)(E:St->XK)(t:TA):TE:=λl H Q=>t l H λvs j=>∀x g,j x=none->j g=none->g≠x ->
 m (.ref x :: (vs++o)) (upd (upd j g (.own x)) x (.ins C g [])) (λv s=>v=.non/\Q (.ref x) s) (E l)
def Binds(K:AB)(fd:EJ)(ps:List Str)(ds:List AC):Prop:=
 ∀(s:AF) (g:List AC),K.In s.heap->(g++ds).length=ps.length->O8 s fd ⟨g,[]⟩ (ps.zip (g++ds))
theorem Binds.all{K}{fd}{ps}(h:∀us:List AC,us.length=ps.length->JT fd ⟨us,[]⟩=pure (ps.zip us)):Binds K fd ps []:=λs us _ g=>by
 rw[Bz]at g ⊢;exact .of_eq (h us g)
def IX(l:CXT)(X:Cx)(E:St->XK):Prop:=∀(m:List (AL×Obj)) (g:St) (H:Hp) (s:AF) (e:AC) (j:AF),Inv X m g H s->l X.stack H s (E g) e j->X.xe e j
section
variable{X:Cx}{k:Nat}{f C:AL}{fd:EJ}{ps:List Str}{sp:Sp}{E:St->XK}{x:Str}{p pos:Pos}{e:Expr}{es:List Expr}{t:TA}
theorem YO(F:EZ X.prog X.w X.K X.mg X.base B k f fd ps sp)(G:De k X.A)(hb:Binds X.K fd ps ds)(hd:BD l ds)(J:IX B X E)
  (I:Inv X m j H s) (r:BD vs us) (h:sp (vs++l) H Q (E j)):Ac (AW X.prog X.w) X.A (call (.ref f) us) (EP X m j Q) X.xe s:=by
 have o:BD (vs++l) (us++ds):=r.append hd
 have L:(us++ds).length=ps.length:=by rw[<-o.length];exact F.len _ _ _ _ h
 refine PF (IM (F.run X.A X.stack s H ⟨us,[]⟩ (us++ds) (vs++l) Q (E j) G I.env0 (hb s us I.kIn L) o h) λr N g=>?_)
 cases r with
 | error e=>exact J m j H s e N I g
 | ok O=>
  cases O with
  | ret u=>exact I.after g
  | next=>exact B3 g
  | brk=>exact B3 g
  | cont=>exact B3 g
theorem WV(F:EZ X.prog X.w X.K X.mg X.base j k f fd ps sp)(l:De k X.A)(m:Gl X x)(o:X.mg x=some (.ref f))(B:D3 X.K (.ref f)=true)(hb:Binds X.K fd ps ds)(hd:BD G ds)(J:IX j X E)
  (L:PA X (e :: es) t) (N:(x==("__debug__" : Str))=false:=by decide) (O:AX (e :: es) X.env=(false,Bt e X.env) :: AX es X.env:=by rfl) (P:(D2 pos (AX es X.env)).any (·.1)=false:=by rfl) :
  PE X (.Call (.Name x p) (e :: es) [] pos) (aH sp G E t):=by
 intro R s S H Q I h;refine DK (NZ I m o ?_ N);refine PU (h₀:=X.base) I.ok.mod.kin B (thn (L pos R s S H _ I h) λT U ⟨vs,Y,g,r,q⟩=>⟨g.kIn,?_⟩) O P;exact YO F l hb hd J g r q
structure Mk(K:AB)(C f:AL):Prop where
 makes:Sq K C=true
 init:Cj K (.ref C) "__init__" = some (some (.ref f))
 fn:PySem.W.isFn K (.ref f)=true
 kp:D3 K (.ref C)=true
theorem To(M:Mk X.K C f)(F:EZ X.prog X.w X.K X.mg X.base L k f fd ps sp)(N:De (k+1) X.A)(hb:Binds X.K fd ps ds)(hd:BD o ds)
  (O:IX L X E) (I:Inv X B j H s) (r:BD vs us)
  (h:∀x l,H x=none->H l=none->l≠x->sp (.ref x :: (vs++o)) (upd (upd H l (.own x)) x (.ins C l [])) (λv P=>v=.non/\Q (.ref x) P) (E j)) :
  Ac (AW X.prog X.w) X.A (call (.ref C) us) (EP X B j Q) X.xe s:=by
 have G:=h (s.heap.objs.size+1) s.heap.objs.size (I.hok.fresh (RW _)) (I.hok.fresh (AK _)) (Ak (B5 _));have m:=Inv.made (C:=C) I;have J:BD (V.ref (s.heap.objs.size+1) :: (vs++o)) (Ax (s.heap.objs.size+1) :: (us++ds)):=.cons rfl (r.append hd)
 have R:(Ax (s.heap.objs.size+1) :: us++ds).length=ps.length:=by
  have e:=J.length;rw[F.len _ _ _ _ G]at e;exact e.symm
 refine PF (UP (f:=f) I.kIn M.makes M.init (beq_iff_eq.mp M.fn) (IM (F.run _ X.stack _ _ ⟨Ax (s.heap.objs.size+1) :: us,[]⟩ (Ax (s.heap.objs.size+1) :: (us++ds)) _ _ (E j) (N.make C us [])
  (m.env0.make C us []) (hb _ (Ax (s.heap.objs.size+1) :: us) m.kIn R) J G) λr S g=>?_))
 cases r with
 | error e=>exact O B j _ _ e S m g
 | ok T=>
  cases T with
  | ret u=>
   obtain⟨v,U,Y,Z,ev,q3⟩:=m.after g;subst ev;exact⟨Z,⟨V.ref (s.heap.objs.size+1),U,Y,rfl,q3⟩⟩
  | next=>exact B3 g
  | brk=>exact B3 g
  | cont=>exact B3 g
theorem WQ(M:Mk X.K C f)(F:EZ X.prog X.w X.K X.mg X.base j k f fd ps sp)(l:De (k+1) X.A)(m:Gl X x)(o:X.mg x=some (.ref C))(hb:Binds X.K fd ps ds)(hd:BD B ds)(G:IX j X E)
  (J:PA X (e :: es) t) (L:(x==("__debug__" : Str))=false:=by decide) (N:AX (e :: es) X.env=(false,Bt e X.env) :: AX es X.env:=by rfl) (O:(D2 pos (AX es X.env)).any (·.1)=false:=by rfl) :
  PE X (.Call (.Name x p) (e :: es) [] pos) (aD C sp B E t):=by
 intro P s R H Q I h;refine DK (NZ I m o ?_ L);refine PU (h₀:=X.base) I.ok.mod.kin M.kp (thn (J pos P s R H _ I h) λS T ⟨vs,U,g,r,q⟩=>⟨g.kIn,?_⟩) N O;exact To M F l hb hd G g r q
end
structure B9(N P:List Str)(sc:Fd):Prop where
 kind:sc.kind=.function
 co:sc.isCoroutine=false
 gen:sc.isGenerator=false
 nd:N.Nodup
 pre:N.take P.length=P
 par:∀x∈P,sc.names.lookup x=some .local∨sc.names.lookup x=some .cell
 nofree:∀y∈sc.names,y.2≠.free
theorem Mq{kindOf}{x}:∀{binds:List (Str×AC)} {m:Str->Option AC},(∀v,(x,v)∉binds)->Sn kindOf binds m x=m x
 | [],_,_=>rfl
 | (n,v) :: r,m,h=>by
  unfold Sn;rw[Mq λw hw=>h w (Aa _ hw)];split
  ·have:x≠n:=by rintro rfl;exact h v Am
   simp[this]
  ·rfl
theorem Ms{kindOf}{x}:∀{binds:List (Str×AC)} {m:Str->Option AC},(∀v,(x,v)∉binds)->So kindOf binds m x=m x
 | [],_,_=>rfl
 | (n,v) :: r,m,h=>by
  unfold So;rw[Ms λw hw=>h w (Aa _ hw)];split
  ·rfl
  ·have:x≠n:=by rintro rfl;exact h v Am
   simp[this]
theorem Mr{kindOf}{x}{v}:∀{P:List Str} {vs:List AC} {i:Nat} {m:Str->Option AC},P.Nodup->P[i]?=some x->vs[i]?=some v->kindOf x=some .local ->
  Sn kindOf (P.zip vs) m x=some v
 | [],_,_,_,_,h,_,_=>by simp at h
 | _ :: _,[],_,_,_,_,h,_=>by simp at h
 | p :: P,w :: vs,0,m,l,g,j,o=>by
  simp at g j;subst g;subst j;show Sn kindOf ((p,w) :: P.zip vs) m p=_;unfold Sn;rw[Mq λv s=>(D0.mp l).1 (Lp s).1,qX o];simp
 | p :: P,w :: vs,i+1,m,l,g,j,o=>by
  show Sn kindOf ((p,w) :: P.zip vs) m x=_;unfold Sn;exact Mr (i:=i) (D0.mp l).2 (by simpa using g) (by simpa using j) o
theorem Mt{kindOf}{x}{v}:∀{P:List Str} {vs:List AC} {i:Nat} {m:Str->Option AC},P.Nodup->P[i]?=some x->vs[i]?=some v->kindOf x≠some .local ->
  So kindOf (P.zip vs) m x=some v
 | [],_,_,_,_,h,_,_=>by simp at h
 | _ :: _,[],_,_,_,_,h,_=>by simp at h
 | p :: P,w :: vs,0,m,l,g,j,o=>by
  simp at g j;subst g;subst j;show So kindOf ((p,w) :: P.zip vs) m p=_;unfold So;rw[Ms λv s=>(D0.mp l).1 (Lp s).1,qY o];simp
 | p :: P,w :: vs,i+1,m,l,g,j,o=>by
  show So kindOf ((p,w) :: P.zip vs) m x=_;unfold So;exact Mt (i:=i) (D0.mp l).2 (by simpa using g) (by simpa using j) o
def start(N:List Str)(vs:List V):St:=vs.map some++BH (N.length - vs.length) none
def Ov(m:CXT)(P:Aq)(w:A9)(K:AB)(mg:Str->Option AC)(base:BY)(N:List Str)(g:Str)(scope:Fd)(f:AL)(j:AC)(A:A4)(outer:List Env)(s:AF)(H:Hp)(E:XK):Cx where
 prog:=P
 w:=w
 K:=K
 mg:=mg
 base:=base
 A:=A.deeper (Fs g scope s.heap.objs.size f j)
 N:=N
 s₀:=s
 H₀:=H
 env:=Fs g scope s.heap.objs.size f j
 outer:=outer
 stack:=Fs g scope s.heap.objs.size f j :: outer
 ex:=[]
 calm:=true
 fn:=λ_=>true
 pn:=[]
 xe:=λe o=>Ac (AW P w) (A.deeper (Fs g scope s.heap.objs.size f j)) (leaving (Fs g scope s.heap.objs.size f j) e) (λ_ l=>m outer H s E e l) (λB l=>m outer H s E B l) o
theorem O0{g:Fd}{n:Nat}{x:Str}(h:g.names.lookup x=some .cell):∃c,(BW n g.names []).lookup x=some c:=by
 have q:=M3 g.names n [] (.inl h);exact Option.isSome_iff_exists.mp q
theorem SG{O:CXT}{P:Aq}{w:A9}{K:AB}{J:Str->Option AC}{base:BY}{N ps:List Str}{j:Str}{scope:Fd}{f:AL}{C:AC}{A:A4}{g:List Env}{s s1:AF}{H:Hp}{E:XK}{us:List AC}{vs:List V}
  (S:B9 N ps scope) (hd:A.handled=none) (m:Ll P w K J base A g s H) (Y:vs.length=ps.length) (r:BD vs us)
  (x:InCallC s s.heap.objs.size (Sn (Fs j scope s.heap.objs.size f C).kindOf (ps.zip us) λ_=>none) (BW (s.heap.objs.size+1) scope.names []) (So (Fs j scope s.heap.objs.size f C).kindOf (ps.zip us) λ_=>none) s1) :
  Inv (Ov O P w K J base N j scope f C A g s H E) [] (start N vs) H s1:=by
 have Z:ps.length<=N.length:=by have:=congrArg GP S.pre;rw[CP]at this;lia
 obtain⟨G,tk,rfl,Q⟩:=x.done
 have L:∀b:AL,b∉(Ov O P w K J base N j scope f C A g s H E).ex:=λb z=>zX (show b∈([]:List AL)from z) (by simp)
 refine⟨⟨m.mod,S.kind,rfl,rfl,AK _,λy z c G l=>?_,λy o=>?_,λy c _ h=>?_,λ_=>hd,O9 m.frames,.inr ⟨rfl,rfl⟩,λb z=>zX z (L b),m.bs,m.bsz,λb _ _=>L b,λb z=>zX z (L b),m.funs,m.frf⟩,
  rfl,m.bare,Un.kept Q,⟨_,x.toInCall.ns,λi y v G l h3=>?_⟩,λy c h=>⟨_,x.cell y c h⟩,m.hok.fresh (AK _),λy c h=>?_,λp B=>zX (show p∈([]:List (AL×Obj))from B) (by simp),m.hok.kept Q,?_⟩
 ·exact name_of_addr x.apart (Bj G) (Bj l)
 ·have o:scope.names.lookup y=some .cell∨scope.names.lookup y=some .free:=o
  rcases o with o | o
  ·exact O0 o
  ·exact zX rfl (S.nofree _ (Bj o))
 ·exact HV (x.above y c (Bj h))
 ·have I:i < vs.length:=by
   unfold start at l
   by_cases I:i < vs.length
   ·exact I
   ·rw[Ae (by simpa using I)]at l
    rw[CG]at l
    split at l <;> cases l
  have U:vs[i]?=some v:=by
   unfold start at l;rw[AN (by simpa using I),Ad]at l
   cases e:vs[i]? with
   | none=>rw[e]at l;cases l
   | some a=>rw[e]at l;cases l;rfl
  obtain⟨u,R,X⟩:=r.get U
  have B:ps[i]?=some y:=by
   rw[<-S.pre,N1 (by lia)];exact G
  have T:ps.Nodup:=by rw[<-S.pre];exact S.nd.sublist (TB _ _)
  refine⟨u,X,?_⟩
  rcases S.par y (Bd B)with k | k
  ·exact .inl ⟨k,Mr T B R k⟩
  ·obtain⟨c,e⟩:=O0 (n:=s.heap.objs.size+1) k
   refine .inr ⟨.inl k,c,e,?_⟩;have q:=x.cell y c e;rw[Mt T B R (by show scope.names.lookup y≠_;rw[k];decide)]at q;exact q
 ·exact m.hok.fresh (HV (x.above y c (Bj h)))
 ·unfold start
  show _=N.length;rw[Ao,AI,Ht]
  lia
theorem Xi{O}{P}{w}{K}{R}{base}{k}{f}{name j}{l}{body}{scope}{Y kV G Z B ct oc}{an od}
  {di} {N ps} {sp} (lk:K.lookup f=some ⟨oc,od,.func (E5 name j l body scope Y kV G Z an B ct),di⟩) (cp:Kg K B j=true) (S:B9 N ps scope)
  (len:∀vs H Q E,sp vs H Q E->vs.length=ps.length)
  (bu:∀(A:A4) (g:List Env) (s:AF) (H:Hp) (vs:List V) (Q:VK) (E:XK),De k (A.deeper (Fs j scope s.heap.objs.size f B))->sp vs H Q E ->
   ∃t,PSs (Ov O P w K R base N j scope f B A g s H E) body t/\t { nx:=λ_ H'=>Q .non H',rt:=Q } (start N vs) H) :
  EZ P w K R base O (k+1) f (E5 name j l body scope Y kV G Z an B ct) ps sp:=by
 refine⟨len,λA g s H args us vs Q E T L hb r iw=>?_⟩;have hl:=len _ _ _ _ iw
 have KX:K.In s.heap:=L.mod.kin.keeps λb o e=>(L.bs b o e).1
 have U:s.heap.NoLimit:=L.mod.nolimit.keeps λb o e=>(L.bs b o e).1
 have eX:∀y∈ps.zip us,scope.names.lookup y.1=some .local∨(scope.names.lookup y.1=some .cell/\((BW (s.heap.objs.size+1) scope.names []).lookup y.1).isSome=true):=by
  rintro ⟨n,v⟩ hy
  rcases S.par n (Lp hy).1 with q | q
  ·exact .inl q
  ·exact .inr ⟨q,M3 _ _ _ (.inl q)⟩
 refine codeAny_call_function T.depth (KX _ _ lk) rfl S.co S.gen rfl (PySem.W.codeRec_of KX cp) (hb _ _ _ _ ?_)
 refine wpAny_newFunctionEnv_cells S.kind eX λenv he s1 x=>?_
 subst he;refine⟨U.keeps x.toInCall.keep,codeAny_func ?_⟩;obtain⟨t,ht,hq⟩:=bu A g s H vs Q E (T.deeper _) iw;have I:Inv (Ov O P w K R base N j scope f B A g s H E) [] (start N vs) H s1:=SG S T.hd L hl r x
 refine CZ (ht [] s1 (start N vs) H _ I hq) (λfl s' C=>?_) λe s' C=>C
 have fin:∀{m:St} {H':Hp} {v:V} {u:AC},Inv (Ov O P w K R base N j scope f B A g s H E) [] m H' s'->RelV v u->Q v H'->CE g P w H s Q u s':=
  λ{m H' v u} J X q=>⟨v,H',J.os,J.bare,J.base,J.hok,X,q⟩
 cases fl with
 | ret u=>
  obtain⟨v,m,H',J,X,q⟩:=C;exact fin J X q
 | next=>
  obtain⟨m,H',J,q⟩:=C;exact fin (v:=V.non) (u:=Dz) J rfl q
 | brk=>
  obtain⟨_,_,_,q⟩:=C;exact B3 q
 | cont=>
  obtain⟨_,_,_,q⟩:=C;exact B3 q
section
variable{X:Cx}{x:Str}{p pos:Pos}{e:Expr}{es:List Expr}{t:TA}{id T:String}{r:List V->Hp->VK->Prop}
def tCB(r:List V->Hp->VK->Prop)(t:TA):TE:=λg H Q=>t g H λvs j=>r vs j Q
theorem Hf(l:HH X (.builtin id) r)(m:Gl X x)(o:X.mg x=none)(A:Dy x=some (.builtin id))(B:PA X (e :: es) t)(C:x≠"__name__":=by decide) (E:(x==("__debug__" : Str))=false:=by decide)
  (G:AX (e :: es) X.env=(false,Bt e X.env) :: AX es X.env:=by rfl) (J:(D2 pos (AX es X.env)).any (·.1)=false:=by rfl):PE X (.Call (.Name x p) (e :: es) [] pos) (tCB r t):=by
 intro g s j H Q I h;refine DK (Hi I m o A ?_ C E);exact bS (thn (B pos g s j H _ I h) λL N ⟨vs,O,P,R,S⟩=>l g N j O vs L Q P R S) G J
theorem R1(l:HH X (.type T) r)(m:Gl X x)(o:X.mg x=none)(A:Dy x=some (.type T))(B:PA X (e :: es) t)(C:x≠"__name__":=by decide) (E:(x==("__debug__" : Str))=false:=by decide)
  (G:AX (e :: es) X.env=(false,Bt e X.env) :: AX es X.env:=by rfl) (J:(D2 pos (AX es X.env)).any (·.1)=false:=by rfl):PE X (.Call (.Name x p) (e :: es) [] pos) (tCB r t):=by
 intro g s j H Q I h;refine DK (Hi I m o A ?_ C E);exact Cy (thn (B pos g s j H _ I h) λL N ⟨vs,O,P,R,S⟩=>l g N j O vs L Q P R S) G J
end
end L2
namespace HT
section
variable{prog:Aq}{w:A9}{A:A4}{E:AC->AF->Prop}{s:AF}
theorem XB(L:Zr s.heap t vs.toArray)(hb:Zr s.heap b g.toArray)(B:vs≠[])
  (N:g=[]->Q (.ref t) s) (O:g≠[]->Q (.ref s.heap.objs.size) { s with heap:=s.heap.push { cls:=.type "tuple",data:=.seq (vs++g).toArray } })
  (hsz:vs.length+g.length<=sizeLine):Ac (AW prog w) A (Cq .Add (.ref t) (.ref b)) Q E s:=by
 obtain⟨⟨cls,C,data,sl⟩,o,G,n,hd⟩:=id L;obtain⟨⟨H,l,data2,m⟩,j,I,J,hd2⟩:=id hb;simp only at G hd I hd2;subst G hd I hd2
 have e:vs.toArray++g.toArray=(vs++g).toArray:=by simp
 by_cases hw:g=[]
 ·exact Sy ⟨_,o,rfl⟩ ⟨_,j,rfl⟩ M1 RS Gj GK (Ft _ _)
   (tuple_addW1 t b vs.toArray g.toArray n J C l sl m (by simpa using B) (by simp[hw])) ⟨o,j,N hw⟩
 ·refine Sy ⟨_,o,rfl⟩ ⟨_,j,rfl⟩ M1 RS Gj GK (Ft _ _)
   (tuple_addW2 t b vs.toArray g.toArray n J C l sl m (by simpa using B) (by simpa using hw) (by rw[AY,AY];exact hsz)) ⟨o,j,?_⟩
  rw[e];exact O hw
noncomputable def sIx(n d:Nat):Option Int->Nat
 | none=>d
 | some v=>if v < 0 then(v+(n:Int)).toNat else min v.toNat n
theorem Tn(n d:Nat):sIx n d none=d:=rfl
theorem V8(n d k:Nat):sIx n d (some (k:Int))=min k n:=by
 show(if (k:Int) < 0 then((k:Int)+(n:Int)).toNat else min (k:Int).toNat n)=min k n;rw[qY (by lia),DR]
theorem YM(n d:Nat)(hd:d<=n)(o:Option Int):sIx n d o<=n:=by
 cases o with
 | none=>exact hd
 | some v=>
  show(if v < 0 then(v+(n:Int)).toNat else min v.toNat n)<=n
  by_cases g:v < 0
  ·rw[qX g];lia
  ·rw[qY g];exact Vd _ _
theorem RH(v:Int)(n d:Nat):(if v < 0 then max (v+(n:Int)) 0 else min v (n:Int))=((sIx n d (some v):Nat):Int):=by
 show(if v < 0 then max (v+(n:Int)) 0 else min v (n:Int))=(((if v < 0 then(v+(n:Int)).toNat else min v.toNat n):Nat):Int)
 by_cases g:v < 0
 ·simp only[qX g];lia
 ·simp only[qY g];lia
theorem QQ(lo hi:Option Int)(n:Nat):Ez lo hi 1 (n:Int)=(((sIx n 0 lo:Nat):Int),((sIx n n hi:Nat):Int)):=by
 have g:¬((1:Int) < 0):=by lia
 unfold Ez;simp only[g,if_false];refine Prod.ext ?_ ?_
 ·cases lo with
  | none=>rfl
  | some v=>exact RH v n 0
 ·cases hi with
  | none=>rfl
  | some v=>exact RH v n n
theorem Px(i j:Nat):DB (i:Int) (j:Int) 1=j - i:=by
 unfold DB
 have g:(1:Int) > 0:=by lia
 simp only[g,if_true,Int.ediv_one]
 split <;> lia
theorem Kx(p:M5 v o)(h:Q o s):Ac (AW prog w) A (Z6 v) Q E s:=by
 cases p with
 | none=>exact slicePart_none h
 | int i t=>exact slicePart_int h
theorem Jb{sl:AL}{g j:AC}{lo hi:Option Int}{n:Nat}{Q:Int×Int×Nat->AF->Prop}(o:s.heap.IsSliceOf sl g j .none)(B:M5 g lo)(C:M5 j hi)
  (h:Q (((sIx n 0 lo:Nat):Int),1,sIx n n hi - sIx n 0 lo) s):Ac (AW prog w) A (Il (.ref sl) (pure (n:Int))) Q E s:=by
 obtain⟨os,l,G,m⟩:=id o;unfold Il Z7;refine AA (AA (Vb l m (x:=g) rfl (AA (Vb l m (x:=j) rfl (AA (Vb l m (x:=.none) rfl (AH ?_)))))));refine AA (slicePart_none ?_);show Ac _ _ (if ((1:Int)==0)=true then _ else _) _ _ s;rw[qY (by decide)];refine AA (Kx B (AA (Kx C (AA (AH ?_)))));show Ac _ _ (match Ez lo hi 1 (n:Int)with | (lo,hi)=>pure (lo,(1:Int),DB lo hi 1)) _ _ s;rw[QQ lo hi n];show Ac _ _ (pure (((sIx n 0 lo:Nat):Int),(1:Int),DB ((sIx n 0 lo:Nat):Int) ((sIx n n hi:Nat):Int) 1)) _ _ s;rw[Px];exact AH h
theorem T4(xs:Array AC)(i k:Nat):((A8 k).filterMap λ(m:Nat)=>xs[((i:Int)+(m:Int) * 1).toNat]?).toArray=((xs.toList.drop i).take k).toArray:=by
 have e:(λ(m:Nat)=>xs[((i:Int)+(m:Int) * 1).toNat]?)=λm=>xs[i+m]?:=by
  funext m
  have:((i:Int)+(m:Int) * 1).toNat=i+m:=by lia
  rw[this]
 rw[e];have:=pick_run xs i k;rw[List.filterMap_map]at this
 have g:((λx=>xs[x]?)∘λx=>i+x)=λm=>xs[i+m]?:=rfl
 rw[g]at this;rw[this]
theorem JD{t sl}{g}{o B}{lo hi}{Q}(j:Zr s.heap t g)(C:s.heap.IsSliceOf sl o B .none)(G:M5 o lo)(H:M5 B hi)
  (hw:¬(sIx g.size 0 lo=0/\sIx g.size g.size hi=g.size))
  (h:Q (.ref s.heap.objs.size) { s with heap:=s.heap.push { cls:=.type "tuple",data:=.seq ((g.toList.drop (sIx g.size 0 lo)).take (sIx g.size g.size hi - sIx g.size 0 lo)).toArray } })
  (hsz:g.size<=sizeLine):Ac (AW prog w) A (Jj (.ref t) (.ref sl)) Q E s:=by
 have l:sizeOk (.seq ((g.toList.drop (sIx g.size 0 lo)).take (sIx g.size g.size hi - sIx g.size 0 lo)).toArray):=by
  show((g.toList.drop (sIx g.size 0 lo)).take (sIx g.size g.size hi - sIx g.size 0 lo)).toArray.size<=sizeLine;rw[AY,CP,HD,Aw];omega
 have O:sIx g.size g.size hi<=g.size:=YM _ _ (AK _) hi;obtain⟨os,I,J,P⟩:=id C;have L:s.TypeIs (.ref sl) "slice":=⟨os,I,J⟩;unfold Jj
 try with_reducible refine DW ?_
 first | refine AA (AH ?_) | skip
 refine AA (wpAny_sequenceKey j.typeIs (by decide) ?_)
 refine AA (Hy (name:=B8 "__getitem__") j.typeIs Do
  (FE Do j.typeIs entry_tuple_getitem ?_ (args_tuple_getitem _ _)))
 show Ac _ _ (Z5 (.ref t) >>= _) _ _ s;refine AA (tupleItemsOf_ j ?_);refine AA (wpAny_typeOf L ?_);rw[qX (by decide)];refine AA (Jb C G H ?_)
 have N:¬((((sIx g.size 0 lo:Nat):Int)==0&&(1:Int)==1&&(sIx g.size g.size hi - sIx g.size 0 lo)==g.size)=true):=by
  intro q;rw[Di,Di]at q;have R:((sIx g.size 0 lo:Nat):Int)=0:=eq_of_beq q.1.1;have S:sIx g.size g.size hi - sIx g.size 0 lo=g.size:=eq_of_beq q.2;exact hw ⟨by lia,by omega⟩
 show Ac _ _ (if (((sIx g.size 0 lo:Nat):Int)==0&&(1:Int)==1&&(sIx g.size g.size hi - sIx g.size 0 lo)==g.size)=true then _ else _) _ _ s;rw[qY N,T4]
 first
  | exact AA (m:=DO _) (Bq (AH ⟨_,rfl,AH h⟩) l)
  | exact AA (m:=DO _) (Bq (AA (AH (AH ⟨_,rfl,AH h⟩))) l)
  | exact AA (AA (m:=DO _) (Bq (AH (AH ⟨_,rfl,AH h⟩)) l))
  | exact AA (AA (m:=DO _) (Bq (AH ⟨_,rfl,AH h⟩) l))
end
end HT
namespace L2
section
abbrev TO:=St->Hp->(Option Int->Hp->Prop)->Prop
def PO(X:Cx)(e:Option Expr)(t:TO):Prop:=
 ∀(j:List (AL×Obj)) (s:AF) (g:St) (H:Hp) (Q:Option Int->Hp->Prop),Inv X j g H s->t g H Q ->
  Ac (AW X.prog X.w) X.A (evalPart e X.env) (λu m=>∃o l,Inv X j g l m/\M5 u o/\Q o l) X.xe s
def V2:TO:=λ_ H Q=>Q none H
def aA(t:TE):TO:=λg H Q=>t g H λx j=>∃i,x=.int i/\Q (some i) j
theorem intsAre_of:∀{us:List AC},BD (ns.map V.int) us->C7 us ns:=by
 induction ns with
 | nil=>intro us r;rw[Jn]at r;cases r;exact .nil
 | cons n ns g=>
  intro us r;rw[Au]at r
  cases r with
  | cons j l=>
   obtain⟨t,e⟩:=j;subst e;exact .cons n t (g l)
section
variable{κ:Type}[DecidableEq κ]
def Gp(g:List (κ×V))(k:κ):Option V:=(g.find? λj=>decide (j.1=k)).map (·.2)
noncomputable def HI(j:List (κ×V))(k:κ)(v:V):List (κ×V):=
 if (j.any λg=>decide (g.1=k))=true then j.map (λg=>if g.1=k then(g.1,v)else g)else j++[(k,v)]
theorem Kq{p:κ×V}{r:List (κ×V)}{k:κ}(e:p.1=k):Gp (p :: r) k=some p.2:=by simp[Gp,CH,e]
theorem Kr{p:κ×V}{r:List (κ×V)}{k:κ}(e:¬p.1=k):Gp (p :: r) k=Gp r k:=by simp[Gp,CH,e]
theorem OI(k:κ):∀g:List (κ×V),(g.any λj=>decide (j.1=k))=(Gp g k).isSome
 | []=>rfl
 | p :: r=>by
  rw[Ey]
  by_cases e:p.1=k
  ·simp only[Kq e,wX e,Bool.true_or,QX]
  ·rw[Kr e,wY e,Xx];exact OI k r
theorem Ju(g:List (κ×V))(k:κ)(v:V):(HI g k v).length<=g.length+1:=by
 unfold HI;split
 ·rw[AI];lia
 ·rw[Ao,Al,HW];lia
theorem Ji.isSome_eq(r:Ji o u):o.isSome=u.isSome:=by
 cases o with
 | none=>cases u with
  | none=>rfl
  | some _=>exact(show False from r).elim
 | some _=>cases u with
  | none=>exact(show False from r).elim
  | some _=>rfl
theorem KV.val{l:List (κ×V)}{vs:List (κ×AC)}(r:KV l vs)(k:κ):Ji (Gp l k) (Lv vs k):=by
 unfold KV at r
 induction r with
 | nil=>exact C5
 | @cons p q A g h t o=>
  obtain⟨m,s⟩:=h
  by_cases e:p.1=k
  ·have j:q.1=k:=m.symm.trans e
   have b:Lv (q :: g) k=some q.2:=by simp[Lv,CH,j]
   rw[Kq e,b];exact s
  ·have j:¬q.1=k:=λz=>e (m.trans z)
   have b:Lv (q :: g) k=Lv g k:=by simp[Lv,CH,j]
   rw[Kr e,b];exact o
theorem KV.any(r:KV j vs)(k:κ):(j.any λg=>decide (g.1=k))=vs.any λg=>decide (g.1=k):=by
 unfold KV at r
 induction r with
 | nil=>rfl
 | cons h t l=>rw[Ey,Ey,l,h.1]
theorem KV.repl(r:KV l vs)(k:κ)(m:RelV y u) :
  KV (l.map λg=>if g.1=k then(g.1,y)else g) (vs.map λg=>if g.1=k then(g.1,u)else g):=by
 unfold KV at r ⊢
 induction r with
 | nil=>exact .nil
 | @cons p q A B h t o=>
  rw[Au,Au];refine .cons ?_ o;obtain⟨j,s⟩:=h
  by_cases e:p.1=k
  ·rw[qX e,qX (j.symm.trans e)];exact⟨j,m⟩
  ·rw[qY e,qY (λz=>e (j.trans z))];exact⟨j,s⟩
theorem KV.put(r:KV j vs)(k:κ)(g:RelV y u):KV (HI j k y) (stored vs k u):=by
 unfold HI stored;rw[r.any k]
 by_cases e:(vs.any λl=>decide (l.1=k))=true
 ·rw[qX e,qX e];exact r.repl k g
 ·rw[qY e,qY e];exact O5 r ⟨rfl,g⟩
theorem KV.length(r:KV g vs):g.length=vs.length:=DA r
end
theorem On(r:RelV (kV k) u):(C1 P w).is k u=true:=by
 cases k with
 | inl i=>obtain⟨t,e⟩:=(show ∃t,u=Db i t from r);subst e;exact Od P w i t
 | inr x=>obtain⟨t,e⟩:=(show ∃t,u=Jz x t from r);subst e;exact Oc P w x t
theorem Mo:∀{g:List Key} {us:List AC},BD (g.map kV) us->ItemsAre (C1 P w) g us
 | [],_,r=>by rw[Jn]at r;cases r;exact .nil
 | k :: g,_,r=>by
  rw[Au]at r
  cases r with
  | cons h t=>exact .cons (On h) (Mo t)
abbrev KT(H:Hp):List (List Key×V)->List (List Key×AL×AC)->Prop:=Ev λp q=>p.1=q.1/\H q.2.1=some (.tup (p.1.map kV))/\RelV p.2 q.2.2
theorem KT.val{H:Hp}{l:List (List Key×V)}{xs:List (List Key×AL×AC)}(r:KT H l xs)(k:List Key):Ji (Gp l k) ((PN xs k).map (·.2)):=by
 induction r with
 | nil=>exact C5
 | @cons p q A g h t o=>
  obtain⟨m,_,s⟩:=h
  by_cases e:p.1=k
  ·have j:q.1=k:=m.symm.trans e
   have b:PN (q :: g) k=some q.2:=by simp[PN,CH,j]
   rw[Kq e,b];exact s
  ·have j:¬q.1=k:=λz=>e (m.trans z)
   have b:PN (q :: g) k=PN g k:=by simp[PN,CH,j]
   rw[Kr e,b];exact o
theorem KT.repl(r:KT H m xs)(k:List Key)(o:RelV y u) :
  KT H (m.map λj=>if j.1=k then(j.1,y)else j) (xs.map (putAt k u)):=by
 induction r with
 | nil=>exact .nil
 | @cons p q B C h t s=>
  rw[Au,Au];refine .cons ?_ s;obtain⟨g,l,A⟩:=h;unfold putAt
  by_cases e:p.1=k
  ·rw[qX e,qX (g.symm.trans e)];exact⟨g,l,o⟩
  ·rw[qY e,qY (λz=>e (g.trans z))];exact⟨g,l,A⟩
theorem KT.put(r:KT H g xs)(k:List Key)(hb:H b=some (.tup (k.map kV)))(j:RelV y u) :
  KT H (HI g k y) (storedH xs k b u):=by
 have e:(g.any λl=>decide (l.1=k))=(PN xs k).isSome:=by
  rw[OI,(r.val k).isSome_eq,JO]
 unfold HI storedH;rw[e]
 by_cases q:(PN xs k).isSome=true
 ·rw[qX q,qX q];exact r.repl k j
 ·rw[qY q,qY q];exact O5 r ⟨rfl,hb,j⟩
theorem KT.keeps(r:KT H j xs)(l:∀b g,H b=some (.tup g)->H' b=some (.tup g)):KT H' j xs:=
 Ev.mapP r λ_ _ z=>⟨z.1,l _ _ z.2.1,z.2.2⟩
variable{X:Cx}{e:Expr}{lo hi:Option Expr}{pos p2:Pos}
theorem WK:PO X none V2:=by
 intro g s j H Q I h;rw[evalPart_none];exact AH ⟨none,H,I,.none,h⟩
theorem WJ(h:PE X e te):PO X (some e) (aA te):=by
 intro g s j H Q I hw;rw[evalPart_some]
 refine thn (h g s j H _ I hw) λu B ⟨x,l,m,o,A⟩=>?_
 obtain⟨i,rfl,q⟩:=A;obtain⟨t,rfl⟩:=o;exact⟨some i,l,m,.int i t,q⟩
def SlR(X:Cx)(r:V->Option Int->Option Int->Hp->VK->Prop):Prop:=
 ∀(g:List (AL×Obj)) (s:AF) (j:St) (H:Hp) (x:V) (v l m:AC) (lo hi:Option Int) (sl:AL) (Q:VK),Inv X g j H s->RelV x v->s.heap.IsSliceOf sl l m .none->M5 l lo->M5 m hi->r x lo hi H Q ->
  ∃T id,typeLookup (.type T) "__getitem__" = pure (some (.builtin id))/\s.TypeIs v T/\Ac (AW X.prog X.w) X.A (Jj v (.ref sl)) (EP X g j Q) X.xe s
theorem SlR.or(h:SlR X r)(h':SlR X E):SlR X (λx lo hi H Q=>r x lo hi H Q∨E x lo hi H Q):=by
 intro g s j H x v l m lo hi sl Q I o A B C q
 rcases q with q | q
 ·exact h g s j H x v l m lo hi sl Q I o A B C q
 ·exact h' g s j H x v l m lo hi sl Q I o A B C q
def tSl(r:V->Option Int->Option Int->Hp->VK->Prop)(te:TE)(j th:TO):TE:=λg H Q=>te g H λx m=>j g m λl o=>th g o λu s=>r x l u s Q
theorem T6(E:SlR X r)(G:PE X e te)(J:PO X lo L)(N:PO X hi th):PE X (.Subscript e (.Slice lo hi none p2) pos) (tSl r te L th):=by
 intro j s m H Q I h;refine PR (thn (G j s m H _ I h) λv O ⟨x,P,R,S,U⟩=>?_);refine wpAny_Slice (thn (J j O m P _ R U) λo Y ⟨l,Z,I2,pl,q2⟩=>thn (N j Y m Z _ I2 q2) λB g ⟨u,C,I3,pu,q3⟩=>?_);rw[evalPart_none];refine AH ?_
 have I4:Inv X j m C { g with heap:=g.heap.push { cls:=.type "slice",data:=.fields #[o,B,.none] } }:=I3.kept (t':=g.toks) λb ob q=>AE _ q
 obtain⟨T,id,hT,ht,hg⟩:=E j { g with heap:=g.heap.push { cls:=.type "slice",data:=.fields #[o,B,.none] } } m C x v o B l u g.heap.objs.size Q I4 S (Lq ..) pl pu q3;show Ac (AW X.prog X.w) X.A (KL e (.Slice lo hi none p2) v (.ref g.heap.objs.size)) (EP X j m Q) X.xe { g with heap:=g.heap.push { cls:=.type "slice",data:=.fields #[o,B,.none] } };exact tail_any (ops:=[.ref g.heap.objs.size,v]) ht hT hg (by with_unfolding_all rfl)
def La(xs:List V)(lo hi:Option Int):List V:=(xs.drop (HT.sIx xs.length 0 lo)).take (HT.sIx xs.length xs.length hi - HT.sIx xs.length 0 lo)
theorem Jw(xs:List V)(lo hi:Option Int):(La xs lo hi).length<=xs.length:=by
 unfold La;rw[CP,HD]
 lia
def rSlT(K:AB):V->Option Int->Option Int->Hp->VK->Prop:=λx lo hi H Q=>∃a g,x=.ref a/\SqT K H a g /\
 ¬(HT.sIx g.length 0 lo=0/\HT.sIx g.length g.length hi=g.length)/\∀p,H p=none->Q (.ref p) (upd H p (.tup (La g lo hi)))
theorem YJ:SlR X (rSlT X.K):=by
 intro L s N H x v O P lo hi sl Q I A B C E h;obtain⟨a,j,rfl,G,hw,q⟩:=h;cases A;obtain⟨J,r,l,m⟩:=I.tuple G
 have g:J.toArray.size=j.length:=by rw[AY];exact r.length.symm
 refine⟨"tuple",_,Do.lookup,l.typeIs,?_⟩;refine HT.JD l B C E (by rw[g];exact hw) ?_ (by rw[g];exact m);rw[g];refine⟨.ref s.heap.objs.size,_,I.laid (t':=s.toks) (o:=.tup (La j lo hi)) (λb R q=>AE _ q) (AK _) ?_,rfl,q _ (I.hok.fresh (AK _))⟩;exact⟨⟨Ai (Jw j lo hi) m,⟨_,AR _ rfl,rfl⟩⟩,_,(r.drop (HT.sIx j.length 0 lo)).take (HT.sIx j.length j.length hi - HT.sIx j.length 0 lo),TF _ _⟩
def aQ(K:AB):R2:=λx y H Q=>∃a b j g,x=.ref a/\y=.ref b/\SqT K H a j/\SqT K H b g/\j≠[]/\j.length+g.length<=sizeLine /\
 (g=[]->Q (.ref a) H)/\(g≠[]->∀p,H p=none->Q (.ref p) (upd H p (.tup (j++g))))
theorem BD.nil_iff(r:BD xs us):us=[]↔xs=[]:=by
 cases r with
 | nil=>simp
 | cons _ _=>simp
theorem WZ:OpR X (Cq .Add) (aQ X.K):=by
 intro O s P H x y v u Q I m A h;obtain⟨a,b,B,C,rfl,rfl,E,hb,G,l,J,L⟩:=h;cases m;cases A;obtain⟨R,j,N,_⟩:=I.tuple E;obtain⟨S,g,p2,_⟩:=I.tuple hb;refine HT.XB N p2 (λz=>G (j.nil_iff.mp z)) (λz=>⟨.ref a,H,I,rfl,J (g.nil_iff.mp z)⟩) (λz=>?_) (by rw[<-j.length,<-g.length];exact l);refine⟨.ref s.heap.objs.size,_,I.laid (t':=s.toks) (o:=.tup (B++C)) (λb T q=>AE _ q) (AK _) ?_,rfl,L (λw=>z (g.nil_iff.mpr w)) _ (I.hok.fresh (AK _))⟩;exact⟨⟨by rw[Ao];exact l,⟨_,AR _ rfl,rfl⟩⟩,_,j.append g,TF _ _⟩
end
section
def ixN(n:Nat)(i:Int):Option Nat:=if 0<=i then(if i < n then some i.toNat else none)else if -(n:Int)<=i then some (i+n).toNat else none
def atI{α:Type}(xs:List α)(i:Int):Option α:=(ixN xs.length i).bind λj=>xs[j]?
theorem Wn(h:ixN n i=some j):seqIndex? i n=some j/\j < n/\-(n:Int)<=i/\i < n:=by
 unfold ixN at h
 by_cases l:0<=i
 ·rw[qX l]at h
  by_cases g:i < n
  ·rw[qX g]at h
   have e:i.toNat=j:=CO h;exact⟨by rw[seqIndex_of l g,e],by lia,by lia,g⟩
  ·rw[qY g]at h;cases h
 ·rw[qY l]at h
  by_cases g:-(n:Int)<=i
  ·rw[qX g]at h
   have e:(i+n).toNat=j:=CO h;exact⟨by rw[seqIndex_neg (by lia) g,e],by lia,g,by lia⟩
  ·rw[qY g]at h;cases h
theorem RN{g:Type}{xs:List g}{i:Int}{v:g}(h:atI xs i=some v):∃j,seqIndex? i xs.length=some j/\xs[j]?=some v/\j < xs.length/\-(xs.length:Int)<=i/\i < xs.length:=by
 unfold atI at h
 cases e:ixN xs.length i with
 | none=>rw[e]at h;cases h
 | some j=>
  rw[e]at h;obtain⟨l,m,o,s⟩:=Wn e;exact⟨j,l,h,m,o,s⟩
def Nu(b:Expr):Prop:=∀o i,Nx b false o i=operate [o,i] (Jj o i)
def IxR(X:Cx)(r:R2):Prop:=
 ∀(value g:Expr) (j:List (AL×Obj)) (s:AF) (l:St) (H:Hp) (x y:V) (v u:AC) (Q:VK),Inv X j l H s->RelV x v->RelV y u->r x y H Q ->
  Nx g false v u=operate [v,u] (Jj v u)->Ac (AW X.prog X.w) X.A (KL value g v u) (EP X j l Q) X.xe s
def MtR(X:Cx)(id:String)(r:V->List V->Hp->VK->Prop):Prop:=
 ∀(g:List (AL×Obj)) (s:AF) (j:St) (H:Hp) (x:V) (l:List V) (v:AC) (m:List AC) (Q:VK),Inv X g j H s->RelV x v->BD l m->r x l H Q ->
  Ac (AW X.prog X.w) X.A (call (.builtin id) (v :: m)) (EP X g j Q) X.xe s
section
variable{P:Aq}{w:A9}{H:Hp}{h:BY}{a:AL}
theorem Xb(ok:HOk P w H h)(e:Rd H a u):CT P w H h a u:=e.ok ok
theorem Ot(ok:HOk P w H h)(e:Rd H a (.dK g)):g.length<=sizeLine/\(a==Cw)=false/\∃vs,KV g vs/\h.DictOf (C1 P w) a vs:=
 show CT P w H h a (.dK g)from Xb ok e
theorem bK(ok:HOk P w H h)(e:H a=some (.dK g)):g.length<=sizeLine/\(a==Cw)=false/\∃vs,KV g vs/\h.DictOf (C1 P w) a vs:=Ot ok (.inl e)
theorem LR(ok:HOk P w H h)(e:H a=some (.tup (g.map kV))):(Mx (C1 P w)).is h g a:=by
 obtain⟨_,j,r,o,l,m,n,s⟩:=(show CT P w H h a (.tup (g.map kV))from ok a _ e);exact⟨o,j.toArray,n,l,m,s,by simpa using Mo r⟩
theorem Os(ok:HOk P w H h)(e:Rd H a (.dT j)):j.length<=sizeLine/\(a==Cw)=false /\
  ∃xs,KT H j xs/\h.DictOfH (Mx (C1 P w)) a xs:=by
 obtain⟨z,y,xs,r,o,A,B,C,E,G,I,J⟩:=(show CT P w H h a (.dT j)from Xb ok e);refine⟨z,y,xs,r,o,A,B,C,E,G,I,λx g=>?_,J⟩
 have all:∀{l:List (List Key×V)} {m:List (List Key×AL×AC)},KT H l m->∀x∈m,(Mx (C1 P w)).is h x.1 x.2.1:=by
  intro l m q
  induction q with
  | nil=>intro x g;exact nomatch g
  | @cons p q N O s t L=>
   intro x g
   rcases A7.mp g with e | g
   ·subst e
    exact LR ok (by rw[<-s.1];exact s.2.1)
   ·exact L x g
 exact all r x g
theorem bJ(ok:HOk P w H h)(e:H a=some (.dT g)):g.length<=sizeLine/\(a==Cw)=false /\
  ∃xs,KT H g xs/\h.DictOfH (Mx (C1 P w)) a xs:=Os ok (.inl e)
end
def JN(H:Hp)(a:AL)(y:V)(r:Option V):Prop:=
 (∃g k,Rd H a (.dK g)/\y=kV k/\r=Gp g k)∨∃g k b,Rd H a (.dT g)/\y=.ref b/\H b=some (.tup (k.map kV))/\r=Gp g k
def O3(H:Hp)(a:AL)(y v:V)(H':Hp):Prop:=
 (∃g k,H a=some (.dK g)/\y=kV k/\g.length < sizeLine/\H'=upd H a (.dK (HI g k v))) ∨
 ∃g k b,H a=some (.dT g)/\y=.ref b/\H b=some (.tup (k.map kV))/\g.length < sizeLine/\H'=upd H a (.dT (HI g k v))
theorem JN.k{H}{a}{g}{k}(e:H a=some (.dK g)):JN H a (kV k) (Gp g k):=.inl ⟨g,k,.inl e,rfl,rfl⟩
theorem JN.t{H}{a b}{g}{k}(e:H a=some (.dT g))(j:H b=some (.tup (k.map kV))):JN H a (.ref b) (Gp g k):=.inr ⟨g,k,b,.inl e,rfl,j,rfl⟩
theorem O3.k{H}{a}{g}{k}{v}(e:H a=some (.dK g))(j:g.length < sizeLine):O3 H a (kV k) v (upd H a (.dK (HI g k v))):=.inl ⟨g,k,e,rfl,j,rfl⟩
theorem O3.t{H}{a b}{g}{k}{v}(e:H a=some (.dT g))(j:H b=some (.tup (k.map kV)))(l:g.length < sizeLine) :
  O3 H a (.ref b) v (upd H a (.dT (HI g k v))):=.inr ⟨g,k,b,e,rfl,j,l,rfl⟩
variable{X:Cx}{a b:Expr}{ta tb:TE}{pos:Pos}
theorem IxR.or(h:IxR X r)(h':IxR X B):IxR X (λx y H Q=>r x y H Q∨B x y H Q):=by
 intro value g j s l H x y v u Q I m o q A
 rcases q with q | q
 ·exact h value g j s l H x y v u Q I m o q A
 ·exact h' value g j s l H x y v u Q I m o q A
theorem aW(g:IxR X r)(j:PE X a ta)(hb:PE X b tb)(l:Nu b):PE X (.Subscript a b pos) (tOp r ta tb):=by
 intro m s o H Q I h;exact PR (ZY j hb I h λv u A x y B C E G q=>g a b m A o B x y v u Q C E G q (l _ _))
def rIxL(K:AB):R2:=λx y H Q=>∃p g i v,x=.ref p/\y=.int i/\SqL K H p g/\atI g i=some v/\Q v H
def rIxT(K:AB):R2:=λx y H Q=>∃p g i v,x=.ref p/\y=.int i/\SqT K H p g/\atI g i=some v/\Q v H
theorem ix_list:IxR X (rIxL X.K):=by
 intro value l A s B H x y v u Q I J L h C;obtain⟨p,xs,i,z,rfl,rfl,N,O,q⟩:=h;cases J;obtain⟨t,rfl⟩:=L;obtain⟨P,r,m,hz⟩:=I.list N;obtain⟨j,g,R,h3,S,T⟩:=RN O;obtain⟨w,E,U⟩:=r.get R;have Y:=r.length;have hn:=NY;have fin:EP X A B Q w s:=⟨z,H,I,U,q⟩
 by_cases G:0<=i
 ·have o:i.toNat=j:=by
   rw[seqIndex_of G T]at g;exact CO g
  exact item_listR m.isList G (by lia) (by rw[o];simpa using E) fin C
 ·have o:(i+(P.toArray.size:Int)).toNat=j:=by
   rw[seqIndex_neg (by lia) S]at g;rw[AY,<-Y];exact CO g
  exact Sv (x:=w) m.isList.typeIs Lw.lookup
   (wpAny_getItem_list_neg (Q:=λr Z=>r=w/\EP X A B Q r Z) m.isList (by lia) (by rw[AY] <;> lia) (by lia) (by rw[o];simpa using E) ⟨rfl,fin⟩) C
theorem Y7:IxR X (rIxT X.K):=by
 intro value g l s m H x y v u Q I A B h C;obtain⟨p,S,i,z,rfl,rfl,E,G,q⟩:=h;cases A;obtain⟨t,rfl⟩:=B;obtain⟨T,r,o,U⟩:=I.tuple E;obtain⟨j,J,L,Y,Z,h5⟩:=RN G;obtain⟨w,N,O⟩:=r.get L;have P:=r.length;have hn:=NY;have fin:EP X l m Q w s:=⟨z,H,I,O,q⟩
 exact Sv (x:=w) o.typeIs slot_tuple_getitem.lookup
  (getItem_tuple (j:=j) (Q:=λr R=>r=w/\EP X l m Q r R) o (by lia) (by lia) (by rw[AY,<-P];exact J) (by simpa using N) ⟨rfl,fin⟩) C
theorem NF(lo hi:Option Int)(n:Nat):(DH lo hi none n).1=((HT.sIx n 0 lo:Nat):Int)/\(DH lo hi none n).2.1=((HT.sIx n n hi:Nat):Int)/\(DH lo hi none n).2.2=1:=by
 refine⟨?_,?_,rfl⟩
 ·cases lo with
  | none=>simp[DH,HT.sIx]
  | some i=>
   simp only[DH,HT.sIx,Ss,show(1:Int) > 0 by decide,if_true]
   by_cases h:i < 0
   ·simp only[h,if_true] <;> lia
   ·simp only[h,if_false] <;> lia
 ·cases hi with
  | none=>simp[DH,HT.sIx]
  | some i=>
   simp only[DH,HT.sIx,Ss,show(1:Int) > 0 by decide,if_true]
   by_cases h:i < 0
   ·simp only[h,if_true] <;> lia
   ·simp only[h,if_false] <;> lia
theorem L6(g:List AC)(lo hi:Option Int):Sm g.toArray lo hi none=((g.drop (HT.sIx g.length 0 lo)).take (HT.sIx g.length g.length hi - HT.sIx g.length 0 lo)).toArray:=by
 obtain⟨j,l,m⟩:=NF lo hi g.toArray.size;unfold Sm;rw[j,l,m]
 simp only[sliceRange_one,pick_run,AY] <;> rfl
def aO(K:AB):V->Option Int->Option Int->Hp->VK->Prop:=λx lo j H Q=>∃a g,x=.ref a/\SqL K H a g/\∀p,H p=none->Q (.ref p) (upd H p (.lst (La g lo j)))
theorem V6:SlR X (aO X.K):=by
 intro L s N H x v O P lo l sl Q I A B C E h;obtain⟨a,g,rfl,G,q⟩:=h;cases A;obtain⟨R,r,m,J⟩:=I.list G;have j:=r.length;refine⟨"list",_,Lw.lookup,m.isList.typeIs,?_⟩;refine RP m.isList B C E .none (by simp) ?_ (by rw[AY] <;> lia);rw[L6,<-j];refine⟨.ref s.heap.objs.size,_,I.laid (t':=s.toks) (o:=.lst (La g lo l)) (λb S q=>AE _ q) (AK _) ?_,rfl,q _ (I.hok.fresh (AK _))⟩;exact⟨Ai (Jw g lo l) J,_,0,(r.drop (HT.sIx g.length 0 lo)).take (HT.sIx g.length g.length l - HT.sIx g.length 0 lo),AR _ rfl⟩
theorem Np:HH X (.builtin "len") (λxs H Q=>∃p j,xs=[.ref p]/\(SqL X.K H p j∨SqT X.K H p j)/\Q (.int j.length) H):=by
 intro E s G H xs J Q I r h;obtain⟨p,j,rfl,l,q⟩:=h;obtain⟨u,rfl,A⟩:=vals1 r;cases A;have L:=NY
 rcases l with l | l
 ·obtain⟨B,m,o,C⟩:=I.list l
  have g:=m.length;exact Calls.call_len_list o.isList (by simp only[AY] <;> lia) ⟨.int j.length,H,I.tok _,⟨s.toks+1,by rw[AY,g]⟩,q⟩
 ·obtain⟨B,m,o,C⟩:=I.tuple l
  have g:=m.length;exact len_tuple o (by simp only[AY] <;> lia) ⟨.int j.length,H,I.tok _,⟨s.toks+1,by rw[AY,g]⟩,q⟩
theorem MN:HH X (.type "tuple") (λxs H Q=>∃p g,xs=[.ref p]/\((SqL X.K H p g/\∀l,H l=none->Q (.ref l) (upd H l (.tup g)))∨(SqT X.K H p g/\Q (.ref p) H))):=by
 intro E s G H xs R Q I r h;obtain⟨p,g,rfl,h⟩:=h;obtain⟨u,rfl,O⟩:=vals1 r;cases O
 rcases h with⟨m,q⟩ | ⟨m,q⟩
 ·obtain⟨A,B,C,J⟩:=I.list m
  have L:=B.length;refine call_tuple_list C.isList (λj kp=>?_) (by simp only[AY] <;> lia);have N:Inv X E G H { s with heap:=j }:=I.kept (t':=s.toks) kp
  have P:Inv X E G (upd H j.objs.size (.tup g)) { s with heap:=j.push { cls:=.type "tuple",data:=.seq A.toArray } }:=
   N.laid (t':=s.toks) (λb o e=>AE _ e) (AK _) (show CT X.prog X.w _ _ _ (.tup g)from⟨⟨J,⟨_,AR _ rfl,rfl⟩⟩,A,B,TF _ _⟩)
  exact⟨.ref j.objs.size,_,P,rfl,q _ (N.hok.fresh (AK _))⟩
 ·obtain⟨A,B,C,J⟩:=I.tuple m
  exact call_tuple_same C ⟨.ref p,H,I,rfl,q⟩
def tyV(K:AB)(T:String)(x:V)(H:Hp):Prop:=match x with
 | .str _=>T = "str"
 | .int _=>T = "int"
 | .ref p=>(T = "list"/\∃j,SqL K H p j)∨(T = "tuple"/\∃o,K.lookup p=some o/\o.cls=.type "tuple"/\o.dict=none) ∨
   (T = "dict"/\((∃g,H p=some (.dK g))∨∃g,H p=some (.dT g)))∨(T = "set"/\∃S n,H p=some (.set S n))
 | _=>False
theorem TZ(I:Inv X C E H s)(r:RelV x v)(ty:tyV X.K T x H) :
  s.TypeIs v T/\∀a,v=.ref a->∃ob,s.heap.get? a=some ob/\ob.dict=none:=by
 cases x with
 | str z=>
  obtain⟨t,rfl⟩:=r;cases(show T = "str" from ty);exact⟨typeIs_str s z t,λ_ e=>nomatch e⟩
 | int i=>
  obtain⟨t,rfl⟩:=r;cases(show T = "int" from ty);exact⟨typeIs_int s i t,λ_ e=>nomatch e⟩
 | ref p=>
  cases r
  rcases ty with⟨rfl,G,m⟩ | ⟨rfl,o,g,A,hd⟩ | ⟨rfl,g⟩ | ⟨rfl,S,n,g⟩
  ·obtain⟨J,_,l,_⟩:=I.list m
   refine⟨l.isList.typeIs,λa e=>?_⟩;cases e;obtain⟨o,n,e,c,hd,_⟩:=l;exact⟨o,e,hd⟩
  ·refine⟨⟨o,I.kIn p o g,A⟩,λa e=>?_⟩
   cases e;exact⟨o,I.kIn _ o g,hd⟩
  ·have z:∃o,s.heap.get? p=some o/\o.ExactDict:=by
    rcases g with⟨B,g⟩ | ⟨B,g⟩
    ·obtain⟨_,_,_,_,o,_,_,e,ex,_⟩:=I.hok p _ g
     exact⟨o,e,ex⟩
    ·obtain⟨_,_,_,_,o,_,_,e,ex,_⟩:=I.hok p _ g
     exact⟨o,e,ex⟩
   obtain⟨o,e,ex⟩:=z;refine⟨⟨o,e,ex.1⟩,λa j=>?_⟩;cases j;exact⟨o,e,ex.2.1⟩
  ·obtain⟨o,_,_,_,e,ex,_⟩:=I.hok p _ g
   refine⟨⟨o,e,ex.1⟩,λa j=>?_⟩;cases j;exact⟨o,e,ex.2.1⟩
 | _=>exact B3 ty
def tBM0(K:AB)(T:String)(r:V->List V->Hp->VK->Prop)(to:TE):TE:=λj H Q=>to j H λx g=>tyV K T x g/\r x [] g Q
def tBM(K:AB)(T:String)(r:V->List V->Hp->VK->Prop)(to:TE)(t:TA):TE:=λg H Q=>to g H λx j=>tyV K T x j/\t g j λl m=>r x l m Q
variable{o e:Expr}{es:List Expr}{to:TE}{t:TA}{name:Str}{apos cb:Pos}{T id:String}{r:V->List V->Hp->VK->Prop}
theorem Yj(B:PlainAttrs T)(g:Slot T name id)(C:typeOf (.builtin id)=pure (.type "method_descriptor")) (E:MtR X id r) (ho:PE X o to)
  (G:EI o name X.env (Bt o X.env)=Bt o X.env:=by rfl) (J:(apos.endLine==cb.line)=true:=by rfl):PE X (.Call (.Attribute o name apos) [] [] cb) (tBM0 X.K T r to):=by
 intro j s l H Q I h;refine wpAny_Call_method0_late G J (thn (ho j s l H _ I h) λv L ⟨x,N,m,A,ty,O⟩=>?_);obtain⟨P,R⟩:=TZ m A ty;exact⟨T,id,B,g,C,P,R,OC rfl (PySem.evalArgs_none (E j L l N x [] v [] Q m A .nil O))⟩
theorem aX(C:PlainAttrs T)(g:Slot T name id)(E:typeOf (.builtin id)=pure (.type "method_descriptor")) (G:MtR X id r) (ho:PE X o to) (J:PA X (e :: es) t)
  (L:EI o name X.env (Bt o X.env)=Bt o X.env:=by rfl)
  (N:((D2 cb (AX (e :: es) X.env)).all (λx=>!x.1)&&(backToKw cb (keywordEach [] X.env)).all (λx=>x.1.isSome)
    &&decide ((e :: es).length+([]:List TD).length+(if ([]:List TD).isEmpty then 0 else 1) < 30))=true:=by rfl)
  (O:(apos.endLine==cb.line)=true:=by rfl) (P:AX (e :: es) X.env=(false,Bt e X.env) :: AX es X.env:=by rfl) (R:(D2 cb (AX es X.env)).any (·.1)=false:=by rfl) :
  PE X (.Call (.Attribute o name apos) (e :: es) [] cb) (tBM X.K T r to t):=by
 intro j s l H Q I h;refine wpAny_Call_method_late L N O rfl (thn (ho j s l H _ I h) λv S ⟨x,U,m,A,ty,Y⟩=>?_);obtain⟨Z,h2⟩:=TZ m A ty;refine⟨T,id,C,g,E,Z,h2,?_⟩;have B:=J cb j S l U _ m Y;rw[P]at B ⊢;refine OC (by show(false||(D2 cb (AX es X.env)).any (·.1))=false;rw[R] <;> rfl) (Calls.evalArgs_plain ?_)
 exact thn B λus s2 ⟨vs,H2,I2,r2,q2⟩=>G j s2 l H2 x vs v us Q I2 A r2 q2
end
section
def MtM(X:Cx)(id:String)(r:V->List V->Hp->VK->Prop):Prop:=
 ∀(g:List (AL×Obj)) (s:AF) (j:St) (H:Hp) (x:V) (l:List V) (v:AC) (m:List AC) (Q:VK),Inv X g j H s->RelV x v->BD l m->r x l H Q ->
  Ac (AW X.prog X.w) X.A (call (.builtin id) (v :: m)) (EP X g j Q) X.xe s
theorem BD.one:∀{x:V} {us:List AC},BD [x] us->∃u,us=[u]/\RelV x u
 | _,_,.cons r .nil=>⟨_,rfl,r⟩
theorem BD.zero:∀{us:List AC},BD [] us->us=[]
 | _,.nil=>rfl
theorem BD.reverse(h:BD xs us):BD xs.reverse us.reverse:=by
 induction h with
 | nil=>exact .nil
 | cons r t g=>rw[GN,GN];exact BD.append g (.cons r .nil)
section
variable{X:Cx}{ζ:List (AL×Obj)}{σ:St}{H:Hp}{s:AF}{a:AL}{y v:V}{u r:AC}{o:Option V}{A:A4}{E:AC->AF->Prop}
theorem Inv.big(I:Inv X ζ σ H s):Cw < s.heap.objs.size:=by
 have h:Ay < s.heap.objs.size:=(I.mod.glob.keeps I.bk).lt;exact Z0 (by decide) h
theorem SU(J:A.units+1 < C9)(I:Inv X ζ σ H s)(g:JN H a y (some v))(G:RelV y u)(h:∀j s',Inv X ζ σ H s'->RelV v j->Q j s') :
  Ac (AW X.prog X.w) A (Jj (.ref a) u) Q E s:=by
 rcases g with⟨L,k,e,m,l⟩ | ⟨L,k,b,e,m,N,l⟩
 ·subst m
  obtain⟨z,hd,vs,rel,B⟩:=Ot I.hok e;obtain⟨j,hw,C⟩:=Ji.some_of (v:=v) (o:=Lv vs k) (by rw[l];exact rel.val k);exact wpAny_getItem_of (On G) B.mapOf hw (h j _ (I.tok _) C)
 ·subst m
  cases(show u=Ax b from G);obtain⟨z,hd,O,rel,B⟩:=Os I.hok e;obtain⟨j,hw,C⟩:=Ji.some_of (v:=v) (o:=(PN O k).map (·.2)) (by rw[l];exact rel.val k);obtain⟨p,P,R⟩:=Option.map_eq_some_iff.mp hw;refine wpAny_getItem_heap (Gh J) (LR I.hok N) B P ?_;rw[R];exact h j _ (I.tok _) C
theorem d_in(C:A.units+1 < C9)(I:Inv X ζ σ H s)(g:JN H a y o)(B:RelV y u)(h:∀s',Inv X ζ σ H s'->Q (.bool o.isSome) s') :
  Ac (AW X.prog X.w) A (Bb .In u (.ref a)) Q E s:=by
 rcases g with⟨G,k,e,j,l⟩ | ⟨G,k,b,e,j,J,l⟩
 ·subst j
  obtain⟨z,hd,vs,rel,m⟩:=Ot I.hok e;refine wpAny_in_of (On B) hd m.mapOf ?_;rw[<-(rel.val k).isSome_eq,<-l];exact h _ (I.tok _)
 ·subst j
  cases(show u=Ax b from B);obtain⟨z,hd,L,rel,m⟩:=Os I.hok e;refine wpAny_in_heap (Gh C) (LR I.hok J) hd m ?_;have q:=(rel.val k).isSome_eq;rw[JO]at q;rw[<-q,<-l];exact h _ (I.tok _)
theorem W7(C:A.units+1 < C9)(I:Inv X ζ σ H s)(g:JN H a y o)(B:RelV y u)(h:∀s',Inv X ζ σ H s'->Q (.bool (!o.isSome)) s') :
  Ac (AW X.prog X.w) A (Bb .NotIn u (.ref a)) Q E s:=by
 rcases g with⟨G,k,e,j,l⟩ | ⟨G,k,b,e,j,J,l⟩
 ·subst j
  obtain⟨z,hd,vs,rel,m⟩:=Ot I.hok e;refine wpAny_notIn_of (On B) hd m.mapOf ?_;rw[<-(rel.val k).isSome_eq,<-l];exact h _ (I.tok _)
 ·subst j
  cases(show u=Ax b from B);obtain⟨z,hd,L,rel,m⟩:=Os I.hok e;refine wpAny_notIn_heap (Gh C) (LR I.hok J) hd m ?_;have q:=(rel.val k).isSome_eq;rw[JO]at q;rw[<-q,<-l];exact h _ (I.tok _)
theorem RF(I:Inv X ζ σ H s)(g:Mut (H a))(j:Fb a s.heap h')(l:∃q,h'.get? a=some q)(new:CT X.prog X.w (upd H a ob) h' a ob) :
  Inv X ζ σ (upd H a ob) { s with heap:=h',toks:=t' }:=
 I.write (x:=a) (e:=a) g (.inl rfl) (λb q hb z=>(j.2 b hb).trans z) l new
theorem ZV(z:g.length<=sizeLine)(hd:(a==Cw)=false)(rel:KV g vs)(j:h'.DictOf (C1 P w) a vs) :
  CT P w H' h' a (.dK g):=⟨z,hd,vs,rel,j⟩
theorem SS(Y:A.units+1 < C9)(I:Inv X ζ σ H s)(g:O3 H a y v H')(P:RelV y u)(R:RelV v r)(h:∀s',Inv X ζ σ H' s'->Q () s') :
  Ac (AW X.prog X.w) A (setItem (.ref a) u r) Q E s:=by
 rcases g with⟨j,k,e,C,l,G⟩ | ⟨j,k,b,e,C,S,l,G⟩
 ·subst C G
  obtain⟨z,hd,vs,rel,J⟩:=bK I.hok e
  have L:vs.length<=sizeLine:=by rw[<-rel.length];exact z
  have N:(HI j k v).length<=sizeLine:=by have:=Ju j k v;lia
  refine wpAny_setItem_pairs (hsz:=L) (On P) J λT m O=>h _ ?_
  have Z:∃q,T.get? a=some q:=let ⟨q,_,_,B,_⟩:=m;⟨q,B⟩
  exact RF I (by rw[e];exact C5) O Z (ZV N hd (rel.put k R) m)
 ·subst C G
  cases(show u=Ax b from P);obtain⟨z,hd,xs,rel,J⟩:=bJ I.hok e
  have L:xs.length<=sizeLine:=by rw[<-DA rel];exact z
  have N:(HI j k v).length<=sizeLine:=by have:=Ju j k v;lia
  refine wpAny_setItem_heap (hsz:=L) (Gh Y) (LR I.hok S) J λT m O=>h _ ?_
  obtain⟨q,es,ep,B,h2,h3,h4,_,h5⟩:=m;refine RF I (by rw[e];exact C5) O ⟨q,B⟩ ⟨N,hd,_,(rel.put k S R).keeps λc ys U=>?_,q,es,ep,B,h2,h3,h4,h5⟩;rw[BC (am U e (λz=>nomatch z))];exact U
variable{X:Cx}{ζ:List (AL×Obj)}{σ:St}{H:Hp}{s:AF}{l:AL}{xs ys:List V}
theorem Inv.lset{g its':List AC}{n:Nat}{f:Array AC->Array AC}{t':Nat}(I:Inv X ζ σ H s)(j:H l=some (.lst xs))
  (e:s.heap.get? l=some { cls:=.type "list",data:=.seq g.toArray n }) (m:f g.toArray=its'.toArray) (B:BD ys its') (C:ys.length<=sizeLine) :
  Inv X ζ σ (upd H l (.lst ys)) { s with heap:=s.heap.update l (B4 f),toks:=t' }:=by
 have q:=PySem.IsL.update e f;rw[m]at q;refine I.write (x:=l) (e:=l) (by rw[j];exact trivial) (.inl rfl) (λJ u hb G=>(EM s.heap (B4 f) (B2 hb)).trans G) ⟨_,q⟩ ?_;exact⟨C,its',_,B,q⟩
theorem Inv.lnew(I:Inv X ζ σ H s)(j:BD ys g)(m:ys.length<=sizeLine) :
  Inv X ζ σ (upd H s.heap.objs.size (.lst ys)) { s with heap:=s.heap.push { cls:=.type "list",data:=.seq g.toArray },toks:=t' }:=
 I.laid (λ_ _ q=>AE _ q) (AK _) ⟨m,g,0,j,AR _ rfl⟩
theorem Inv.fresh(I:Inv X ζ σ H s):H s.heap.objs.size=none:=I.hok.fresh (AK _)
theorem Inv.lstM(I:Inv X ζ σ H s)(j:H l=some (.lst xs)):xs.length<=sizeLine/\∃(g:List AC) (n:Nat),BD xs g/\xs.length=g.length/\s.heap.get? l=some { cls:=.type "list",data:=.seq g.toArray n }:=by
 obtain⟨z,g,n,r,e⟩:=I.hok l _ j;exact⟨z,g,n,r,r.length,e⟩
end
def Ze(i:Expr):Prop:=∀g j,Nx i false g j=operate [g,j] (Jj g j)
theorem V4{prog}{w}{A}{E}{s}{env}{value g}{pos}{T id}{Q}
  (H:typeLookup (.type T) "__getitem__" = pure (some (.builtin id))) (I:Ze g)
  (h:Ac (AW prog w) A (Bt value env) (λo l=>Ac (AW prog w) A (Bt g env) (λi s₂=>s₂.TypeIs o T/\Ac (AW prog w) A (Jj o i) Q E s₂) E l) E s) :
  Ac (AW prog w) A (Bt (.Subscript value g pos) env) Q E s:=by
 refine PR (CZ h (λo l B=>CZ B (λi s₂ j=>?_) λ_ _ x=>x) λ_ _ x=>x);obtain⟨G,j⟩:=j;unfold KL;refine AA ?_;rw[getitemInPython_of_ne G.not_modules];refine AA (wpAny_specialOf G H ?_)
 have fin:Ac (AW prog w) A (Nx g false o i) (λr m=>Ac (AW prog w) A (letTemporaryGo value o r >>= λ_=>pure r) Q E m) E s₂:=by
  rw[I o i];exact wpAny_operating (CZ j (λr m C=>AA (wpAny_letTemporaryGo (AH C))) λ_ _ x=>x)
 first
  | exact AH (AA fin)
  | exact AA (AH (AA fin))
  | exact AA fin
theorem Ou(I:Inv X m A H s)(g:JN H a y o):s.TypeIs (.ref a) "dict":=by
 rcases g with⟨l,k,e,_,_⟩ | ⟨l,k,b,e,_,_,_⟩
 ·obtain⟨_,_,vs,_,j⟩:=Ot I.hok e
  exact j.typeIs
 ·obtain⟨_,_,B,_,j⟩:=Os I.hok e
  exact j.typeIs
def aG(l ty:TE):TE:=λg H Q=>l g H λx m=>ty g m λy j=>∃a v,x=.ref a/\JN j a y (some v)/\Q v j
def aF(ty l:TE):TE:=λg H Q=>ty g H λy m=>l g m λx j=>∃a o,x=.ref a/\JN j a y o/\Q (.bl o.isSome) j
def Qm(ty l:TE):TE:=λg H Q=>ty g H λy m=>l g m λx j=>∃a o,x=.ref a/\JN j a y o/\Q (.bl (!o.isSome)) j
def aL(l ty m:TE):TS:=λD g H=>m g H λv o=>l g o λx s=>ty g s λy A=>∃a j,x=.ref a/\O3 A a y v j/\D.nx g j
variable{X:Cx}
def WB:V->List V->Hp->VK->Prop:=λx vs H Q=>∃l g y,x=.ref l/\vs=[y]/\H l=some (.lst g)/\g.length < sizeLine/\Q .non (upd H l (.lst (g++[y])))
theorem Mh:MtM X "list.append" WB:=by
 intro B s C H x vs v E Q I m o h;obtain⟨l,G,y,rfl,rfl,g,J,q⟩:=h;cases m;obtain⟨u,rfl,A⟩:=o.one;obtain⟨z,j,n,r,L,e⟩:=I.lstM g;refine call_meets F.slot_list_append ⟨_,e,rfl⟩ F.entry_list_append (F.args_list_append_2 _ _) (PySem.list_append l j.toArray n u (by rw[AY];lia)) ⟨e,?_⟩;refine⟨.non,_,I.lset (its':=j++[u]) g e (by simp) (r.append (.cons A .nil)) ?_,rfl,q⟩;rw[Ao,DI]
 lia
def Tt:V->List V->Hp->VK->Prop:=λx vs H Q=>∃l g,x=.ref l/\vs=[]/\H l=some (.lst g)/\Q .non (upd H l (.lst g.reverse))
theorem P3:MtM X "list.reverse" Tt:=by
 intro B s C H x vs v E Q I m o h;obtain⟨l,G,rfl,rfl,g,q⟩:=h;cases m;have A:=o.zero;subst A;obtain⟨z,j,n,r,J,e⟩:=I.lstM g;refine call_meets F.slot_list_reverse ⟨_,e,rfl⟩ F.entry_list_reverse (F.args_list_reverse_1 _) (AutoSeq1.list_reverse_list_0 l j.toArray n (by rw[AY];lia)) ⟨e,?_⟩;refine⟨.non,_,I.lset (its':=j.reverse) g e (by simp) r.reverse ?_,rfl,q⟩;rw[RZ];omega
def rCat:R2:=λx y H Q=>∃l b g j,x=.ref l/\y=.ref b/\H l=some (.lst g)/\H b=some (.lst j)/\g.length+j.length<=sizeLine/\∀p,H p=none->Q (.ref p) (upd H p (.lst (g++j)))
theorem Yq:OpR X (Cq .Add) rCat:=by
 intro J s L H x y v u Q I m o h;obtain⟨l,b,N,O,rfl,rfl,A,B,R,q⟩:=h;cases m;cases o;obtain⟨z,g,n,r,S,e⟩:=I.lstM A;obtain⟨T,j,U,C,Y,E⟩:=I.lstM B;refine PySem.P.add_list e E ?_ (by rw[AY,AY];lia)
 have G:g.toArray++j.toArray=(g++j).toArray:=by simp
 rw[G];exact⟨.ref _,_,I.lnew (t':=s.toks) (r.append C) (by rw[Ao];omega),rfl,q _ I.fresh⟩
section
variable{X:Cx}{o i value:Expr}{pos pos':Pos}{td ty tv:TE}
theorem WS(B:X.A.units+1 < C9)(ho:PE X o td)(hi:PE X i ty)(C:Ze i):PE X (.Subscript o i pos) (aG td ty):=by
 intro j s l H Q I h;refine V4 PySem.F.slot_dict_getitem.lookup C (thn (ho j s l H _ I h) λu E ⟨x,G,J,L,N⟩=>thn (hi j E l G _ J N) λU Y ⟨y,O,m,P,a,v,ex,g,R⟩=>?_);subst ex;obtain rfl:u=Ax a:=L;exact⟨Ou m g,SU B m g P λZ s3 S T=>⟨v,O,S,T,R⟩⟩
theorem T9(m:X.A.units+1 < C9)(hi:PE X i ty)(ho:PE X o td):PC X .In i o (aF ty td):=by
 intro j s l H Q I h
 refine thn (hi j s l H _ I h) λT B ⟨y,C,E,G,J⟩=>thn (ho j B l C _ E J) λu U ⟨x,L,N,O,a,P,ex,g,R⟩=>?_
 subst ex;obtain rfl:u=Ax a:=O
 exact d_in m N g G λY S=>⟨.bl P.isSome,L,S,rfl,R⟩
theorem R3(m:X.A.units+1 < C9)(hi:PE X i ty)(ho:PE X o td):PC X .NotIn i o (Qm ty td):=by
 intro j s l H Q I h
 refine thn (hi j s l H _ I h) λT B ⟨y,C,E,G,J⟩=>thn (ho j B l C _ E J) λu U ⟨x,L,N,O,a,P,ex,g,R⟩=>?_
 subst ex;obtain rfl:u=Ax a:=O
 exact W7 m N g G λY S=>⟨.bl (!P.isSome),L,S,rfl,R⟩
theorem WG(m:X.A.units+1 < C9)(ho:PE X o td)(hi:PE X i ty)(B:PE X value tv)(C:DX value (some (.Subscript o i pos')) pos.line X.env=pure false) :
  PS X (.Assign [.Subscript o i pos'] value pos) (aL td ty tv):=by
 intro l s j H D I h;refine wpAny_Assign_Subscript (thn (B l s j H _ I h) λr E ⟨v,G,J,L,N⟩=>thn (ho l E j G _ J N) λu O ⟨x,P,Q,R,S⟩=>thn (hi l O j P _ Q S) λiv s3 ⟨y,H3,T,U,a,Y,ex,g,Z⟩=>?_) C;subst ex;obtain rfl:u=Ax a:=R
 exact SS m T g U L λs4 I4=>⟨j,Y,I4,Z⟩
end
theorem U4(h:BY)(hb:Cw < h.objs.size):CT P w H (h.push { cls:=.type "dict",data:=.dict #[] }) h.objs.size (.dT []):=
 ⟨CA _,beq_eq_false_iff_ne.mpr (B2 (Ak hb)),[],.nil,_,#[],0,AR _ rfl,⟨rfl,rfl,rfl⟩,rfl,rfl,MV⟩
def YH:TE:=λ_ H Q=>∀p,H p=none->Q (.ref p) (upd H p (.dT []))
variable{s:AF}
section
variable{X:Cx}{pos:Pos}
theorem T8:PE X (.Dict [] [] pos) YH:=λg s j H Q I h=>
 wpAny_Dict_empty ⟨.ref s.heap.objs.size,_,I.laid (a:=s.heap.objs.size) (o:=.dT []) (t':=s.toks) (λ_ _ q=>AE _ q) (AK _) (U4 s.heap I.big),rfl,h _ (I.hok.fresh (AK _))⟩
end
end
end L2
namespace Att
open PySem.W PySem.Calls
theorem KH:∀(ns:ZLi) (vs:List AC),WellAll P h vs (ns.map bQ)->C7 vs ns:=by
 intro ns
 induction ns with
 | nil=>
  intro vs w;rw[Jn]at w;cases w;exact .nil
 | cons n ns g=>
  intro vs w;rw[Au]at w
  cases w with
  | cons a b=>
   cases a;exact .cons _ _ (g _ b)
theorem Rs{l:OpenLaw}{n:Nat}(B:l.most=some n){P:Params}{h:BY}{args:List WData}{g:List AC}
  (s:l.row.toRowW.claim.pre args=true) (C:WellAll P h g args) :
  ∃a vs ns,g=[Ax a]/\args=[WData.list (ns.map bQ)]/\h.get? a=some { cls:=.type "list",data:=.seq vs.toArray }/\C7 vs ns/\ns.length<=n:=by
 have E:WShape.hasAll [] args [.list .int]=true:=(pre_splitW s).1;have A:l.pre.holds [] { args:=args }=true:=(pre_splitW s).2;obtain⟨d,r,rfl,G,H⟩:=hasAllW_cons E;obtain rfl:=hasAllW_nil H;obtain⟨R,rfl,I⟩:=hasW_list G;obtain⟨ns,rfl⟩:=items_int I
 have j:ns.length<=n:=by
  unfold OpenLaw.pre at A
  have m:(WTm.not (.lt (.lit (.int (n:Int))) (.len (.arg 0)))).holds [] { args:=[.list (ns.map .int)] }=true:=by
   have m:=(holds_andW A).1;rw[B]at m;exact m
  have o:=condW_of m (w_not (w_lt w_lit (w_len_list (w_arg rfl))));rw[AI]at o
  refine Ex λq=>?_
  have J:(n:Int) < ((ns.length:Nat):Int):=by omega
  first
   | (rw[wX J]at o;exact zX o (by decide))
   | (simp at o;omega)
 cases C with
 | cons L N=>
  cases N
  cases L with
  | list O Q=>exact⟨_,_,ns,rfl,rfl,O,KH ns _ Q,j⟩
theorem Rv(l:OpenLaw)(args:List WData):l.row.toRowW.claim.post args (.bool true) args=true:=
 postW_of (r:=l.row.toRowW) (X:=(true==true))
  (show Zk [] (.bool true) .bool=true by first | rfl | decide | simp[Zk,WShape.arms,WShape.armsAll])
  (show(WTm.eq .res (.lit (.bool true))).value [] { args:=args,res:=some (.bool true),after:=args }=some (.bool (true==true))from w_eq_bool (w_res rfl) w_lit) rfl
theorem O1{l:OpenLaw}{n:Nat}{q:Aq}{j:List Str}{L:(Str->Option AC)->BY->Prop}{N:A9->BY->Prop}{d:DefRec}
  (R:l.most=some n) (S:d.params.defaults=[])
  (call:∀(w:A9) (m g:AF) (E I:Str->Option AC) (B:AL) (o:Obj) (J H s:AC) (a:AL) (vs:List AC) (ns:ZLi),
   Ground q j [] L w m E I g.heap->N w g.heap ->
   g.heap.get? B=some o->o.data=.func (docDef d.name d.params d.body d.scope J H s)->g.heap.CodeRec H d.name->E d.name=some (.ref B) ->
   g.heap.get? a=some { cls:=.type "list",data:=.seq vs.toArray }->C7 vs ns->ns.length<=n->g.gens = #[] ->
   Dx (AW l.prog w) Lz (.call (.ref B) ⟨[.ref a],[]⟩) (λr s'=>r=.ok (.ret (.bool true))/\OldK g.heap s'.heap/\s'.os=g.os/\GU s'.gens) g) :
  WalkO q j L N l.row.toRowW d [] (λf vs=>RU f vs):=by
 intro w m g E I G Y B o J H s T kV U hd X O Z hg P Q as du jh lN gz dE;obtain rfl:T=.none:=Dflts.none O S;obtain rfl:kV=.none:=Dflts.noKw O;obtain⟨a,vs,ns,rfl,rfl,eh,A,C⟩:=Rs R du gz;refine enter_call (IM (call w m g E I B o J H s a vs ns G Y U (fd_plain hd) X Z eh A C hg) λr s' hq=>?_);obtain⟨rfl,h2,h3,h4⟩:=hq;exact⟨.inl ⟨.bool true,.bool true,[],rfl,λ_=>rfl,.bool true,Rv l _,λ_=>⟨Z2,λ_ hm=>(nomatch hm)⟩⟩,h2,h3,h4⟩
end Att
namespace L2
theorem MZ:∀{vs:List AC} {ns:ZLi},C7 vs ns->BD (ns.map V.int) vs
 | _,_,.nil=>.nil
 | _,_,.cons n t h=>.cons ⟨t,rfl⟩ (MZ h)
def Wq(s:DM)(j:Nat):DM:=match s with
 | .ClassDef _ _ _ body _ _ _ _ _ _ _=>body.getD j (.Pass ⟨0,0,0,0⟩)
 | _=>.Pass ⟨0,0,0,0⟩
def G9(s:DM):Jq:=match s with
 | .FunctionDef _ a _ _ _ _ _ _ _ _=>a
 | _=>{ posonlyargs:=[],args:=[],vararg:=none,kwonlyargs:=[],kw_defaults:=[],kwarg:=none,defaults:=[] }
def Ef(s:DM):List DM:=match s with
 | .FunctionDef _ _ b _ _ _ _ _ _ _=>b
 | _=>[]
def A6(s:DM):Fd:=match s with
 | .FunctionDef _ _ _ _ _ _ g _ _ _=>g
 | _=>{ kind:=.function,names:=[],isGenerator:=false,isCoroutine:=false }
structure Fun(K:AB)(x qual:Str)(st:DM)(f:AL)(fd:EJ):Prop where
 ex:∃(oc:AC) (od:Option AL) (kV doc pm:AC) (an:Option AL) (br ct:AC) (di:Array (Option AC)),
  fd=E5 x qual (G9 st) (Ef st) (A6 st) .none kV doc pm an br ct/\K.lookup f=some ⟨oc,od,.func fd,di⟩/\Kg K br qual=true
 kp:D3 K (.ref f)=true
section
variable{K:AB}
theorem Fun.binds{x g}{st}{f}{fd}{ps}(F:Fun K x g st f fd)
  (h:∀(kV j l:AC) (m:Option AL) (o ct:AC) (us:List AC),us.length=ps.length->JT (E5 x g (G9 st) (Ef st) (A6 st) .none kV j l m o ct) ⟨us,[]⟩=pure (ps.zip us)):Binds K fd ps []:=by
 obtain⟨s,A,kV,j,l,m,o,ct,B,rfl,C,E⟩:=F.ex;exact .all (h kV j l m o ct)
theorem Uz{x g}{st}{f}{A}{B o}{C}{kV j s m ct}(l:K.lookup f=some ⟨A,B,.func (E5 x g (G9 st) (Ef st) (A6 st) .none kV j s o m ct),C⟩)
  (c:Kg K m g=true) (k:D3 K (.ref f)=true):Fun K x g st f (E5 x g (G9 st) (Ef st) (A6 st) .none kV j s o m ct):=⟨⟨A,B,kV,j,s,o,m,ct,C,rfl,l,c⟩,k⟩
end
section
variable{X:Cx}
theorem pv(i:Nat)(g:X.N[i]?=some x:=by rfl)(j:Vis X.env.scope x:=by first | exact Lm rfl | exact Jl (Lm rfl) | exact Jl (Jl rfl))(hd:(x==("__debug__" : Str))=false:=by decide)
  (l:(x==("__classdict__" : Str))=false:=by decide):PE X (.Name x pos) (YD i):=Yb g j hd l
end
def IZ(H:Hp)(p:AL)(pos:Pos)(g:Str):Prop:=∃j,H p=some (.tbl j)/\Zw j.toList /\
 (codeAmong pos j.toList=none∨∃c o vs t,codeAmong pos j.toList=some (.ref c)/\H c=some (.frz o (.own 0))/\o.data=.fields vs/\vs[1]?=some (.str g t))
theorem IZ.move{H H':Hp}{p:AL}{pos:Pos}{qual:Str}(h:IZ H p pos qual)(e:H' p=H p)(f:∀b o u,H b=some (.frz o u)->H' b=some (.frz o u)):IZ H' p pos qual:=by
 obtain⟨g,j,l,m⟩:=h;refine⟨g,e.trans j,l,m.imp id ?_⟩;rintro⟨c,o,vs,t,s,A,B⟩;exact⟨c,o,vs,t,s,f _ _ _ A,B⟩
inductive D where
 | non | bl (b:Bool) | int (i:Int) | str (x:Str) | tup (ds:List D) | fro (ds:List D) | ref (n:Nat) | exc (C:AL)
def MR(K:AB)(H:Hp)(a:AL)(vs:List V):Prop:=
 (∃o,H a=some (.frz o (.lst vs))) ∨
  ∃(o:Obj) (g:Array AC) (n:Nat),K.lookup a=some o/\o.cls=.type "list"/\o.dict=none/\o.data=.seq g n/\g.size<=sizeLine/\BD vs g.toList
theorem MR.sq{K}{H}{a}{vs}(h:MR K H a vs):SqL K H a vs:=by
 rcases h with h | h
 ·exact .inl (.inr h)
 ·exact .inr h
def ExcO(o:Obj)(C:AL):Prop:=o.cls=.ref C/\o.dict=none/\∃vs,o.data=.fields vs
mutual
inductive BI(K:AB)(ρ:List AL)(H:Hp):D->V->Prop where
 | non:BI K ρ H .non .non
 | bl (b:Bool):BI K ρ H (.bl b) (.bl b)
 | int (i:Int):BI K ρ H (.int i) (.int i)
 | str (x:Str):BI K ρ H (.str x) (.str x)
 | tup {ds:List D} {a:AL} {vs:List V}:H a=some (.tup vs)->Ab K ρ H ds vs->BI K ρ H (.tup ds) (.ref a)
 | fro {ds:List D} {a:AL} {vs:List V}:MR K H a vs->Ab K ρ H ds vs->BI K ρ H (.fro ds) (.ref a)
 | ref {n:Nat} {a:AL}:ρ[n]?=some a->BI K ρ H (.ref n) (.ref a)
 | exc {C a:AL} {o:Obj} {u:HO}:H a=some (.frz o u)->ExcO o C->BI K ρ H (.exc C) (.ref a)
inductive Ab(K:AB)(ρ:List AL)(H:Hp):List D->List V->Prop where
 | nil:Ab K ρ H [] []
 | cons {d:D} {v:V} {ds:List D} {vs:List V}:BI K ρ H d v->Ab K ρ H ds vs->Ab K ρ H (d :: ds) (v :: vs)
end
structure Le(K:AB)(ρ:List AL)(H:Hp)(ρ':List AL)(H':Hp):Prop where
 pre:∀(n:Nat) a,ρ[n]?=some a->ρ'[n]?=some a
 tup:∀a xs,H a=some (.tup xs)->H' a=some (.tup xs)
 frz:∀a o u,H a=some (.frz o u)->H' a=some (.frz o u)
 oth:∀a o,H a=some o->(∀n:Nat,ρ[n]?≠some a)->H' a=some o/\∀n:Nat,ρ'[n]?≠some a
theorem MR.mono{K}{H H'}{a}{xs}(l:∀a o u,H a=some (.frz o u)->H' a=some (.frz o u))(h:MR K H a xs):MR K H' a xs:=by
 rcases h with⟨o,h⟩ | h
 ·exact .inl ⟨o,l _ _ _ h⟩
 ·exact .inr h
section
variable{K:AB}{ρ ρ' ρ'':List AL}{H H' dv:Hp}
theorem Le.fro(l:Le K ρ H ρ' H'):∀a xs,MR K H a xs->MR K H' a xs:=λ_ _ h=>h.mono l.frz
theorem Le.refl:Le K ρ H ρ H:=⟨λ_ _ h=>h,λ_ _ h=>h,λ_ _ _ h=>h,λ_ _ h n=>⟨h,n⟩⟩
theorem Le.trans(a:Le K ρ H ρ' H')(b:Le K ρ' H' ρ'' dv):Le K ρ H ρ'' dv:=
 ⟨λn x h=>b.pre n x (a.pre n x h),λx g h=>b.tup x g (a.tup x g h),λx o u h=>b.frz x o u (a.frz x o u h),λx o h n=>b.oth x o (a.oth x o h n).1 (a.oth x o h n).2⟩
mutual
theorem BI.mono(l:Le K ρ H ρ' H'):∀{d:D} {v:V},BI K ρ H d v->BI K ρ' H' d v
 | _,_,.non=>.non
 | _,_,.bl b=>.bl b
 | _,_,.int i=>.int i
 | _,_,.str x=>.str x
 | _,_,.tup h r=>.tup (l.tup _ _ h) (Ab.mono l r)
 | _,_,.fro h r=>.fro (l.fro _ _ h) (Ab.mono l r)
 | _,_,.ref h=>.ref (l.pre _ _ h)
 | _,_,.exc h e=>.exc (l.frz _ _ _ h) e
theorem Ab.mono(l:Le K ρ H ρ' H'):∀{ds:List D} {vs:List V},Ab K ρ H ds vs->Ab K ρ' H' ds vs
 | _,_,.nil=>.nil
 | _,_,.cons r t=>.cons (BI.mono l r) (Ab.mono l t)
end
mutual
theorem BI.more(l:∀(n:Nat) a,ρ[n]?=some a->ρ'[n]?=some a):∀{d:D} {v:V},BI K ρ H d v->BI K ρ' H d v
 | _,_,.non=>.non
 | _,_,.bl b=>.bl b
 | _,_,.int i=>.int i
 | _,_,.str x=>.str x
 | _,_,.tup h r=>.tup h (Ab.more l r)
 | _,_,.fro h r=>.fro h (Ab.more l r)
 | _,_,.ref h=>.ref (l _ _ h)
 | _,_,.exc h e=>.exc h e
theorem Ab.more(l:∀(n:Nat) a,ρ[n]?=some a->ρ'[n]?=some a):∀{ds:List D} {vs:List V},Ab K ρ H ds vs->Ab K ρ' H ds vs
 | _,_,.nil=>.nil
 | _,_,.cons r t=>.cons (BI.more l r) (Ab.more l t)
end
mutual
theorem BI.keep(j:∀a xs,H a=some (.tup xs)->H' a=some (.tup xs))(g:∀a o u,H a=some (.frz o u)->H' a=some (.frz o u)):∀{d:D} {v:V},BI K ρ H d v->BI K ρ H' d v
 | _,_,.non=>.non
 | _,_,.bl b=>.bl b
 | _,_,.int i=>.int i
 | _,_,.str x=>.str x
 | _,_,.tup h r=>.tup (j _ _ h) (Ab.keep j g r)
 | _,_,.fro h r=>.fro (h.mono g) (Ab.keep j g r)
 | _,_,.ref h=>.ref h
 | _,_,.exc h e=>.exc (g _ _ _ h) e
theorem Ab.keep(g:∀a xs,H a=some (.tup xs)->H' a=some (.tup xs))(j:∀a o u,H a=some (.frz o u)->H' a=some (.frz o u)):∀{ds:List D} {vs:List V},Ab K ρ H ds vs->Ab K ρ H' ds vs
 | _,_,.nil=>.nil
 | _,_,.cons r t=>.cons (BI.keep g j r) (Ab.keep g j t)
end
theorem Ab.length:∀{ds:List D} {vs:List V},Ab K ρ H ds vs->ds.length=vs.length
 | _,_,.nil=>rfl
 | _,_,.cons _ t=>by rw[Al,Al,Ab.length t]
theorem Ab.get:∀{ds:List D} {vs:List V} {i:Nat} {d:D},Ab K ρ H ds vs->ds[i]?=some d->∃v,vs[i]?=some v/\BI K ρ H d v
 | _,_,_,_,.nil,e=>by simp at e
 | _,_,0,_,.cons r _,e=>by simp at e;subst e;exact⟨_,rfl,r⟩
 | _,_,i+1,d,.cons _ t,e=>by
  obtain⟨v,g,j⟩:=Ab.get (i:=i) (d:=d) t (by simpa using e);exact⟨v,by simpa using g,j⟩
theorem Ab.get':∀{ds:List D} {vs:List V} {i:Nat} {v:V},Ab K ρ H ds vs->vs[i]?=some v->∃d,ds[i]?=some d/\BI K ρ H d v
 | _,_,_,_,.nil,e=>by simp at e
 | _,_,0,_,.cons r _,e=>by simp at e;subst e;exact⟨_,rfl,r⟩
 | _,_,i+1,d,.cons _ t,e=>by
  obtain⟨v,g,j⟩:=Ab.get' (i:=i) (v:=d) t (by simpa using e);exact⟨v,by simpa using g,j⟩
theorem Ab.append:∀{ds es:List D} {vs us:List V},Ab K ρ H ds vs->Ab K ρ H es us->Ab K ρ H (ds++es) (vs++us)
 | _,_,_,_,.nil,s=>s
 | _,_,_,_,.cons r t,s=>.cons r (Ab.append t s)
theorem Ab.take:∀{ds:List D} {vs:List V} (n:Nat),Ab K ρ H ds vs->Ab K ρ H (ds.take n) (vs.take n)
 | _,_,0,_=>.nil
 | _,_,_+1,.nil=>.nil
 | _,_,n+1,.cons r t=>.cons r (Ab.take n t)
theorem Ab.drop:∀{ds:List D} {vs:List V} (n:Nat),Ab K ρ H ds vs->Ab K ρ H (ds.drop n) (vs.drop n)
 | _,_,0,r=>r
 | _,_,_+1,.nil=>.nil
 | _,_,n+1,.cons _ t=>Ab.drop n t
theorem Ab.reverse(h:Ab K ρ H ds vs):Ab K ρ H ds.reverse vs.reverse:=by
 induction ds generalizing vs with
 | nil=>cases h;exact .nil
 | cons d ds g=>
  cases h with
  | cons r t=>rw[GN,GN];exact(g t).append (.cons r .nil)
theorem Ab.of_ints:∀(ns:ZLi),Ab K ρ H (ns.map D.int) (ns.map V.int)
 | []=>.nil
 | n :: ns=>.cons (.int n) (Ab.of_ints ns)
theorem Ab.ints:∀{ns:ZLi} {vs:List V},Ab K ρ H (ns.map D.int) vs->vs=ns.map V.int
 | [],_,.nil=>rfl
 | n :: ns,_,.cons r t=>by
  cases r;rw[Ab.ints (ns:=ns) t];rfl
end
inductive Ob where
 | lst (ds:List D)
 | dK (b0:List (Key×D))
 | dT (b0:List (List Key×D))
 | ins (C:AL) (fs:List (Str×D))
 | fK (b0:List (Key×D))
 | fT (b0:List (List Key×D))
 | mem (L:Key->Int)
 | cod (tb:AL) (pos:Pos) (qual:Str)
abbrev Sto:=List Ob
def memU:List Key:=(A8 1000).map λ(i:Nat)=>Ib (i:Int)
abbrev KVR{g:Type}(K:AB)(ρ:List AL)(H:Hp):List (g×D)->List (g×V)->Prop:=Ev λ(p:g×D) (q:g×V)=>p.1=q.1/\BI K ρ H p.2 q.2
def Cv(K:AB)(ρ:List AL)(H:Hp)(a:AL):Ob->Prop
 | .lst A=>∃vs,H a=some (.lst vs)/\Ab K ρ H A vs
 | .dK j=>∃g,H a=some (.dK g)/\KVR K ρ H j g
 | .dT j=>∃g,H a=some (.dT g)/\KVR K ρ H j g
 | .ins C fs=>∃B s,H a=some (.ins C B s)/\KVR K ρ H fs s
 | .fK j=>∃m g,H a=some (.frz m (.dK g))/\KVR K ρ H j g
 | .fT j=>∃m g,H a=some (.frz m (.dT g))/\KVR K ρ H j g
 | .mem L=>∃g,H a=some (.dK g)/\(g.map (·.1)).Nodup/\∀x∈g,x.1∈memU/\x.2=V.int (L x.1)
 | .cod E o l=>a=E/\IZ H a o l
structure BQ(K:AB)(ρ:List AL)(S:Sto)(H:Hp):Prop where
 len:ρ.length=S.length
 nd:∀(i j:Nat) a,ρ[i]?=some a->ρ[j]?=some a->i=j
 ob:∀(n:Nat) o a,S[n]?=some o->ρ[n]?=some a->Cv K ρ H a o
section
variable{K:AB}{ρ ρ':List AL}{H H':Hp}{S:Sto}{a p:AL}{o:Ob}{n:Nat}{ho:HO}
theorem KVR.mono{g:Type}(l:Le K ρ H ρ' H'){x:List (g×D)}{y:List (g×V)}(h:KVR K ρ H x y):KVR K ρ' H' x y:=Ev.mapP h λ_ _ z=>⟨z.1,z.2.mono l⟩
theorem Cv.has(h:Cv K ρ H a o):H a≠none:=by
 cases o with
 | lst g=>obtain⟨_,e,_⟩:=h;rw[e];exact λz=>nomatch z
 | dK g=>obtain⟨_,e,_⟩:=h;rw[e];exact λz=>nomatch z
 | dT g=>obtain⟨_,e,_⟩:=h;rw[e];exact λz=>nomatch z
 | ins C fs=>obtain⟨_,_,e,_⟩:=h;rw[e];exact λz=>nomatch z
 | fK g=>obtain⟨_,_,e,_⟩:=h;rw[e];exact λz=>nomatch z
 | fT g=>obtain⟨_,_,e,_⟩:=h;rw[e];exact λz=>nomatch z
 | mem L=>obtain⟨_,e,_⟩:=h;rw[e];exact λz=>nomatch z
 | cod _ _ _=>obtain⟨_,_,e,_⟩:=h;rw[e];exact λz=>nomatch z
theorem Cv.mono(l:Le K ρ H ρ' H')(e:H' a=H a)(h:Cv K ρ H a o):Cv K ρ' H' a o:=by
 cases o with
 | lst s=>obtain⟨vs,g,j⟩:=h;exact⟨vs,e.trans g,j.mono l⟩
 | dK s=>obtain⟨vs,g,j⟩:=h;exact⟨vs,e.trans g,j.mono l⟩
 | dT s=>obtain⟨vs,g,j⟩:=h;exact⟨vs,e.trans g,j.mono l⟩
 | ins C fs=>obtain⟨m,vs,g,j⟩:=h;exact⟨m,vs,e.trans g,j.mono l⟩
 | fK s=>obtain⟨m,vs,g,j⟩:=h;exact⟨m,vs,e.trans g,j.mono l⟩
 | fT s=>obtain⟨m,vs,g,j⟩:=h;exact⟨m,vs,e.trans g,j.mono l⟩
 | mem L=>obtain⟨vs,g,j⟩:=h;exact⟨vs,e.trans g,j⟩
 | cod _ _ _=>exact⟨h.1,h.2.move e l.frz⟩
theorem Cv.keep(m:∀a xs,H a=some (.tup xs)->H' a=some (.tup xs))(l:∀a o u,H a=some (.frz o u)->H' a=some (.frz o u))(e:H' a=H a)(h:Cv K ρ H a o):Cv K ρ H' a o:=by
 cases o with
 | lst A=>obtain⟨vs,g,j⟩:=h;exact⟨vs,e.trans g,j.keep m l⟩
 | dK A=>obtain⟨vs,g,j⟩:=h;exact⟨vs,e.trans g,Ev.mapP j λ_ _ z=>⟨z.1,z.2.keep m l⟩⟩
 | dT A=>obtain⟨vs,g,j⟩:=h;exact⟨vs,e.trans g,Ev.mapP j λ_ _ z=>⟨z.1,z.2.keep m l⟩⟩
 | ins C fs=>obtain⟨s,vs,g,j⟩:=h;exact⟨s,vs,e.trans g,Ev.mapP j λ_ _ z=>⟨z.1,z.2.keep m l⟩⟩
 | fK A=>obtain⟨s,vs,g,j⟩:=h;exact⟨s,vs,e.trans g,Ev.mapP j λ_ _ z=>⟨z.1,z.2.keep m l⟩⟩
 | fT A=>obtain⟨s,vs,g,j⟩:=h;exact⟨s,vs,e.trans g,Ev.mapP j λ_ _ z=>⟨z.1,z.2.keep m l⟩⟩
 | mem L=>obtain⟨vs,g,j⟩:=h;exact⟨vs,e.trans g,j⟩
 | cod _ _ _=>exact⟨h.1,h.2.move e l⟩
theorem Cv.mono'(l:∀(n:Nat) a,ρ[n]?=some a->ρ'[n]?=some a)(h:Cv K ρ H a o):Cv K ρ' H a o:=by
 cases o with
 | lst s=>obtain⟨vs,g,j⟩:=h;exact⟨vs,g,j.more l⟩
 | dK s=>obtain⟨vs,g,j⟩:=h;exact⟨vs,g,Ev.mapP j λ_ _ z=>⟨z.1,z.2.more l⟩⟩
 | dT s=>obtain⟨vs,g,j⟩:=h;exact⟨vs,g,Ev.mapP j λ_ _ z=>⟨z.1,z.2.more l⟩⟩
 | ins C fs=>obtain⟨m,vs,g,j⟩:=h;exact⟨m,vs,g,Ev.mapP j λ_ _ z=>⟨z.1,z.2.more l⟩⟩
 | fK s=>obtain⟨m,vs,g,j⟩:=h;exact⟨m,vs,g,Ev.mapP j λ_ _ z=>⟨z.1,z.2.more l⟩⟩
 | fT s=>obtain⟨m,vs,g,j⟩:=h;exact⟨m,vs,g,Ev.mapP j λ_ _ z=>⟨z.1,z.2.more l⟩⟩
 | mem L=>exact h
 | cod _ _ _=>exact h
theorem D8(j:H p=none∨Mut (H p)):(∀a xs,H a=some (.tup xs)->upd H p ho a=some (.tup xs))/\∀a o u,H a=some (.frz o u)->upd H p ho a=some (.frz o u):=by
 have g:∀a u,H a=some u->¬Mut (some u)->a≠p:=λa u e l z=>by
  subst z
  rcases j with h | h
  ·rw[e]at h;cases h
  ·rw[e]at h;exact l h
 refine⟨λa xs e=>?_,λa o u e=>?_⟩
 ·rw[BC (g a _ e λz=>z)];exact e
 ·rw[BC (g a _ e λz=>z)];exact e
theorem Le.fresh(g:H p=none):Le K ρ H ρ (upd H p ho):=
 ⟨λ_ _ h=>h,(D8 (.inl g)).1,(D8 (.inl g)).2,λa o e n=>⟨by rw[BC (CC e g)];exact e,n⟩⟩
theorem Le.write(j:ρ[n]?=some p)(g:Mut (H p)):Le K ρ H ρ (upd H p ho):=
 ⟨λ_ _ h=>h,(D8 (.inr g)).1,(D8 (.inr g)).2,λa o e h=>⟨by rw[BC λz=>h n (by rw[z];exact j)];exact e,h⟩⟩
theorem FS{g:Type}{l:List g}{x:g}{m:Nat}{a:g}(e:(l++[x])[m]?=some a):(l[m]?=some a/\m < l.length)∨(m=l.length/\a=x):=by
 by_cases j:m < l.length
 ·rw[AN j]at e;exact .inl ⟨e,j⟩
 ·rw[Ae (by lia)]at e
  have:m - l.length=0:=by
   have:=(AD.mp e).1;simp at this;omega
  rw[this]at e;exact .inr ⟨by lia,by simpa using e.symm⟩
theorem Le.alloc(g:H p=none):Le K ρ H (ρ++[p]) (upd H p ho):=by
 refine⟨λn a h=>by rw[AN (AD.mp h).1];exact h,(D8 (.inl g)).1,(D8 (.inl g)).2,λa o e h=>⟨by rw[BC (CC e g)];exact e,λn q=>?_⟩⟩
 rcases FS q with⟨q,_⟩ | ⟨_,q⟩
 ·exact h n q
 ·exact CC e g q
theorem BQ.there(h:BQ K ρ S H){m:Nat}(e:ρ[m]?=some a):∃o,S[m]?=some o/\Cv K ρ H a o:=by
 have g:m < S.length:=by rw[<-h.len];exact(AD.mp e).1
 exact⟨S[m],by simp[g],h.ob m _ a (by simp[g]) e⟩
theorem BQ.notIn(h:BQ K ρ S H)(g:H p=none){m:Nat}(e:ρ[m]?=some p):False:=by
 obtain⟨o,_,r⟩:=h.there e;exact r.has g
theorem BQ.alloc(h:BQ K ρ S H)(A:H p=none)(E:Cv K (ρ++[p]) (upd H p ho) p o):BQ K (ρ++[p]) (S++[o]) (upd H p ho)/\Le K ρ H (ρ++[p]) (upd H p ho)/\(ρ++[p])[S.length]?=some p:=by
 have le:Le K ρ H (ρ++[p]) (upd H p ho):=Le.alloc A
 have at':∀(m:Nat) a,(ρ++[p])[m]?=some a->(ρ[m]?=some a/\m < ρ.length)∨(m=ρ.length/\a=p):=λm a e=>FS e
 refine⟨⟨by simp[h.len],λi j a G I=>?_,λm J a s L=>?_⟩,le,by rw[<-h.len];simp⟩
 ·rcases at' i a G with⟨B,_⟩ | ⟨B,N⟩ <;> rcases at' j a I with⟨g,_⟩ | ⟨g,C⟩
  ·exact h.nd i j a B g
  ·rw[C]at B;exact(h.notIn A B).elim
  ·rw[N]at g;exact(h.notIn A g).elim
  ·lia
 ·rcases at' m a L with⟨l,O⟩ | ⟨rfl,rfl⟩
  ·rw[AN (by rw[<-h.len];exact O)]at s
   refine(h.ob m J a s l).mono le (BC λz=>?_);rw[z]at l;exact h.notIn A l
  ·rw[h.len]at s
   simp at s;subst s;exact E
theorem BQ.write(h:BQ K ρ S H)(j:ρ[n]?=some a)(l:Cv K ρ (upd H a ho) a o)(le:Le K ρ H ρ (upd H a ho)):BQ K ρ (S.set n o) (upd H a ho)/\Le K ρ H ρ (upd H a ho):=by
 refine⟨⟨by simp[h.len],h.nd,λm s b g hb=>?_⟩,le⟩
 by_cases e:m=n
 ·subst e
  rw[j]at hb;cases hb;rw[Av (by rw[<-h.len];exact(AD.mp j).1)]at g;cases g;exact l
 ·rw[Ag (B2 e)]at g
  refine(h.ob m s b g hb).mono le (BC λz=>?_);subst z;exact e (h.nd m n b hb j)
theorem Le.back{m:Sto}(l:Le K ρ H ρ' H')(s:BQ K ρ S H)(s':BQ K ρ' m H')(j:H' p=none):H p=none:=by
 cases q:H p with
 | none=>rfl
 | some o=>
  by_cases g:∃n:Nat,ρ[n]?=some p
  ·obtain⟨n,g⟩:=g
   exact(s'.notIn j (l.pre n p g)).elim
  ·have:=(l.oth p o q λn h=>g ⟨n,h⟩).1
   rw[j]at this;cases this
theorem BQ.adopt(h:BQ K ρ S H)(C:∀m:Nat,ρ[m]?≠some p)(E:Cv K (ρ++[p]) H p o):BQ K (ρ++[p]) (S++[o]) H/\(ρ++[p])[S.length]?=some p:=by
 have le:∀a ob,Cv K ρ H a ob->Cv K (ρ++[p]) H a ob:=λa ob r=>by
  have G:∀(n:Nat) a,ρ[n]?=some a->(ρ++[p])[n]?=some a:=λn a h=>by rw[AN (AD.mp h).1];exact h
  exact r.mono' G
 refine⟨⟨by simp[h.len],λi j a I J=>?_,λm ob a l A=>?_⟩,by rw[<-h.len];simp⟩
 ·rcases FS I with⟨s,_⟩ | ⟨s,L⟩ <;> rcases FS J with⟨g,_⟩ | ⟨g,B⟩
  ·exact h.nd i j a s g
  ·rw[B]at s;exact(C i s).elim
  ·rw[L]at g;exact(C j g).elim
  ·lia
 ·rcases FS A with⟨A,N⟩ | ⟨rfl,rfl⟩
  ·rw[AN (by rw[<-h.len];exact N)]at l
   exact le a ob (h.ob m ob a l A)
  ·rw[h.len]at l
   simp at l;subst l;exact E
end
inductive Res(α:Type) where
 | ok (a:α) (S:Sto) | err (c:AL) (S:Sto) | bad
noncomputable def Res.bind{g β:Type}(r:Res g)(f:g->Sto->Res β):Res β:=match r with
 | .ok a S=>f a S
 | .err c S=>.err c S
 | .bad=>.bad
abbrev Lo:=List (Option D)
abbrev ME:=Lo->Sto->Res D
abbrev MT:=Lo->Sto->Res Bool
abbrev ML:=Lo->Sto->Res (List D)
inductive Fl where
 | nx (e:Lo) | rt (d:D) | bk (e:Lo) | ct (e:Lo) | ex (c:AL) (e:Lo)
abbrev MS:=Lo->Sto->Res Fl
abbrev MG:=D->Lo->Sto->Res Lo
abbrev MP:=Sto->Option (List D)
abbrev MI:=Lo->Sto->Res MP
structure DF(K:AB)(ρ:List AL)(H:Hp)(e:Lo)(σ:St):Prop where
 len:e.length=σ.length
 at':∀(i:Nat) d,e[i]?=some (some d)->∃v,σ[i]?=some (some v)/\BI K ρ H d v
section
variable{K:AB}{ρ ρ':List AL}{H H':Hp}{e:Lo}{σ:St}
theorem DF.mono(l:Le K ρ H ρ' H')(h:DF K ρ H e σ):DF K ρ' H' e σ:=⟨h.len,λi d q=>by
 obtain⟨v,g,j⟩:=h.at' i d q
 exact⟨v,g,j.mono l⟩⟩
theorem DF.set(h:DF K ρ H e σ)(r:BI K ρ H d v)(i:Nat):DF K ρ H (e.set i (some d)) (σ.set i (some v)):=by
 refine⟨by simp[h.len],λj m q=>?_⟩
 by_cases g:i=j
 ·subst g
  have l:i < e.length:=by
   have:=(AD.mp q).1;simpa using this
  rw[Av l]at q;cases q;exact⟨v,by rw[Av (by rw[<-h.len];exact l)],r⟩
 ·rw[Ag g]at q ⊢
  exact h.at' j m q
end
abbrev EW:=AL->St->Hp->Prop
abbrev EH:=AL->Hp->Prop
abbrev noE:EW:=λ_ _ _=>False
abbrev noH:EH:=λ_ _=>False
def Bg{l:Type}(K:AB)(E:EH)(ρ:List AL)(H:Hp)(r:Res l)(k:l->Sto->Prop):Prop:=match r with
 | .ok a S=>k a S
 | .err c S=>∀g j,Le K ρ H g j->BQ K g S j->E c j
 | .bad=>False
section
variable{K:AB}{E:EH}{ρ ρ1:List AL}{H H1:Hp}
theorem Bg.seq(h:Bg K E ρ H (r.bind F) k)(f:∀a S,Bg K E ρ H (F a S) k->k' a S):Bg K E ρ H r k':=by
 cases r with
 | ok a S=>exact f a S h
 | err c S=>exact h
 | bad=>exact h
theorem Bg.later(h:Bg K E ρ H r k)(l:Le K ρ H ρ1 H1):Bg K E ρ1 H1 r k:=by
 cases r with
 | ok a S=>exact h
 | err c S=>exact λg j m=>h g j (l.trans m)
 | bad=>exact h
theorem Bg.imp(h:Bg K E ρ H r k)(f:∀a S,k a S->k' a S):Bg K E ρ H r k':=by
 cases r with
 | ok a S=>exact f a S h
 | err c S=>exact h
 | bad=>exact h
theorem Bg.go(h:Bg K E ρ H r k)(l:Le K ρ H ρ1 H1)(f:∀a S,k a S->k' a S):Bg K E ρ1 H1 r k':=(h.later l).imp f
end
def okR{g:Type}:Res g->Res g
 | .ok a S=>.ok a S
 | _=>.bad
theorem Bg.okR{g:Type}{K:AB}{E:EH}{ρ:List AL}{H:Hp}{r:Res g}{k:g->Sto->Prop}(h:Bg K E ρ H (L2.okR r) k):∃a S,r=.ok a S/\k a S:=by
 cases r with
 | ok a S=>exact⟨a,S,rfl,h⟩
 | err c S=>exact h.elim
 | bad=>exact h.elim
section
variable(K:AB)(E:EW)
def gE(m:ME):TE:=λo H Q=>∃j e S,DF K j H e o/\BQ K j S H/\Bg K (λc=>E c o) j H (m e S) λd s=>∀g l x,Le K j H g l->BQ K g s l->BI K g l d x->Q x l
def gT(m:MT):TT:=λo H Q=>∃j e S,DF K j H e o/\BQ K j S H/\Bg K (λc=>E c o) j H (m e S) λb s=>∀g l,Le K j H g l->BQ K g s l->Q b l
def gA(m:ML):TA:=λo H Q=>∃j e S,DF K j H e o/\BQ K j S H/\Bg K (λc=>E c o) j H (m e S) λA B=>∀g l s,Le K j H g l->BQ K g B l->Ab K g l A s->Q s l
def gL(m:ML):TE:=λo H Q=>∃l e S,DF K l H e o/\BQ K l S H/\Bg K (λc=>E c o) l H (m e S) λA B=>∀g j p s,Le K l H g j->BQ K g B j->Ab K g j A s->j p=some (.lst s)->(∀n:Nat,g[n]?≠some p)->H p=none->Q (.ref p) j
def gQ(m:ML):TE:=λs H Q=>∃l e S,DF K l H e s/\BQ K l S H/\Bg K (λc=>E c s) l H (m e S) λA B=>∀g j p o,Le K l H g j->BQ K g B j->Ab K g j A o->(SqL K j p o∨SqT K j p o)->Q (.ref p) j
def Nh(K:AB)(E:EW)(ρ:List AL)(H:Hp)(o:Sto)(D:Si):Fl->Prop
 | .ex c m=>∀g j l,Le K ρ H g j->BQ K g o j->DF K g j m l->E c l j
 | .nx m=>∀g j l,Le K ρ H g j->BQ K g o j->DF K g j m l->D.nx l j
 | .bk m=>∀g j l,Le K ρ H g j->BQ K g o j->DF K g j m l->D.bk l j
 | .ct m=>∀g j l,Le K ρ H g j->BQ K g o j->DF K g j m l->D.ct l j
 | .rt d=>∀g j x,Le K ρ H g j->BQ K g o j->BI K g j d x->D.rt x j
def gS(m:MS):TS:=λD j H=>∃g e S,DF K g H e j/\BQ K g S H/\Bg K noH g H (m e S) λl o=>Nh K E g H o D l
def gG(m:MG):TG:=λv s H Q=>∃j e S d,BI K j H d v/\DF K j H e s/\BQ K j S H/\Bg K noH j H (m d e S) λA B=>∀g o l,Le K j H g o->BQ K g B o->DF K g o A l->Q l o
def Nr(l:List AL)(s:Hp)(J:It)(v:MP):Prop:=∀m H S o (i:Nat),Le K l s m H->BQ K m S H->v S=some o ->
 (o[i]?=none->J.stop i H)/\∀d,o[i]?=some d->J.go i H/\∀x j,J.yld i H x j->∃g,Le K m H g j/\BQ K g S j/\BI K g j d x
def gI(m:MI):TI:=λo H R=>∃j e S,DF K j H e o/\BQ K j S H/\Bg K (λc=>E c o) j H (m e S) λv s=>∀g l J,Le K j H g l->BQ K g s l->Nr K g l J v->R J l
end
abbrev GE(X:Cx)(E:EW)(e:Expr)(m:ME):Prop:=PE X e (gE X.K E m)
abbrev GT(X:Cx)(E:EW)(e:Expr)(m:MT):Prop:=PT X e (gT X.K E m)
abbrev GA(X:Cx)(E:EW)(es:List Expr)(m:ML):Prop:=PA X es (gA X.K E m)
abbrev GL(X:Cx)(E:EW)(e:Expr)(m:ML):Prop:=PE X e (gL X.K E m)
abbrev GQ(X:Cx)(E:EW)(e:Expr)(m:ML):Prop:=PE X e (gQ X.K E m)
abbrev GS(X:Cx)(E:EW)(s:DM)(m:MS):Prop:=PS X s (gS X.K E m)
abbrev GSs(X:Cx)(E:EW)(s:List DM)(m:MS):Prop:=PSs X s (gS X.K E m)
abbrev GG(X:Cx)(t:Expr)(m:MG):Prop:=PG X t (gG X.K m)
abbrev GI(X:Cx)(E:EW)(g t:Expr)(m:MI):Prop:=PI X g t (gI X.K E m)
theorem PE.imp(h:PE X e t)(i:∀g H Q,t' g H Q->t g H Q):PE X e t':=λj s g H Q I q=>h j s g H Q I (i g H Q q)
theorem PT.imp(h:PT X e t)(i:∀g H Q,t' g H Q->t g H Q):PT X e t':=λj s g H Q I q=>h j s g H Q I (i g H Q q)
theorem PW.imp(h:PW X e t)(i:∀g H Q,t' g H Q->t g H Q):PW X e t':=λj l s g H Q I q=>h j l s g H Q I (i g H Q q)
theorem PA.imp(h:PA X e t)(i:∀g H Q,t' g H Q->t g H Q):PA X e t':=λj l s g H Q I q=>h j l s g H Q I (i g H Q q)
theorem PS.imp(h:PS X e t)(i:∀D g H,t' D g H->t D g H):PS X e t':=λj s g H D I q=>h j s g H D I (i D g H q)
theorem PSs.imp(h:PSs X e t)(i:∀D g H,t' D g H->t D g H):PSs X e t':=λj s g H D I q=>h j s g H D I (i D g H q)
theorem PG.imp(h:PG X e t)(i:∀v g H Q,t' v g H Q->t v g H Q):PG X e t':=λj s g H v u Q I r q=>h j s g H v u Q I r (i v g H Q q)
theorem PI.imp(h:PI X j e t)(i:∀g H R,t' g H R->t g H R):PI X j e t':=λl s g H R I q=>h l s g H R I (i g H R q)
theorem OpR.imp(h:OpR X f r)(i:∀x y H Q,r' x y H Q->r x y H Q):OpR X f r':=λg s j H x y v u Q I l m q=>h g s j H x y v u Q I l m (i x y H Q q)
theorem IxR.imp(h:IxR X r)(i:∀x y H Q,r' x y H Q->r x y H Q):IxR X r':=λg sl j s l H x y v u Q I m o q=>h g sl j s l H x y v u Q I m o (i x y H Q q)
def AG(i:Nat):ME:=λe S=>match e[i]? with
 | some (some d)=>.ok d S
 | _=>.bad
def mC(d:D):ME:=λ_ S=>.ok d S
section
variable{X:Cx}{E:EW}{e a b:Expr}{pos:Pos}{ma mb:ME}
theorem AJ(h:PE X e (YD i)):GE X E e (AG i):=h.imp<|by
 rintro B H Q ⟨j,l,S,m,o,g⟩
 unfold AG at g;split at g
 ·rename_i C hd
  obtain⟨v,s,A⟩:=m.at' i _ hd;exact⟨v,s,g j H v .refl o A⟩
 ·exact g.elim
theorem W1(h:PE X e (tC v))(hd:∀ρ H,BI X.K ρ H d v):GE X E e (mC d):=h.imp<|by
 rintro m H Q ⟨ρ,l,S,o,g,j⟩
 exact j ρ H v .refl g (hd _ _)
theorem ge_int{i j pos}:GE X E (.Constant (.int i) j pos) (mC (.int i)):=W1 Yg λ_ _=>.int i
theorem JE{b j pos}:GE X E (.Constant (.bool b) j pos) (mC (.bl b)):=W1 aY λ_ _=>.bl b
theorem Uu{j pos}:GE X E (.Constant .none j pos) (mC .non):=W1 T7 λ_ _=>.non
theorem Uw(g:Gl X x)(j:X.mg x=some (.int i tk))(hd:(x==("__debug__" : Str))=false:=by decide):GE X E (.Name x pos) (mC (.int i)):=
 W1 (WR (v:=.int i) g j ⟨tk,rfl⟩ hd) λ_ _=>.int i
def m2(f:D->D->Sto->Res D)(ma mb:ME):ME:=λe S=>(ma e S).bind λx g=>(mb e g).bind λy j=>okR (f x y j)
def rD(K:AB)(f:D->D->Sto->Res D):R2:=λu v H Q=>∃j S x y d m,BQ K j S H/\BI K j H x u/\BI K j H y v/\f x y S=.ok d m /\
 ∀g l z,Le K j H g l->BQ K g m l->BI K g l d z->Q z l
theorem IP{K:AB}{f:D->D->Sto->Res D}{A:St}{H:Hp}{Q:VK}(h:gE K E (m2 f ma mb) A H Q):tOp (rD K f) (gE K E ma) (gE K E mb) A H Q:=by
 obtain⟨G,l,S,B,I,g⟩:=h;refine⟨G,l,S,B,I,g.seq λx J g j H1 u m L N=>⟨j,l,J,B.mono m,L,(g.later m).seq λy O g o H2 v C P R=>?_⟩⟩;obtain⟨d,T,e,k⟩:=g.okR;exact⟨o,O,x,y,d,T,P,N.mono C,R,e,λs U z Y Z r'=>k s U z (m.trans (C.trans Y)) Z r'⟩
theorem BO(ho:OpR X (Cq g) (rD X.K f))(j:GE X E a ma)(hb:GE X E b mb):GE X E (.BinOp a g b pos) (m2 f ma mb):=(aV ho j hb).imp λ_ _ _ h=>IP h
theorem ZL(ho:OpR X (Bb g) (rD X.K f))(j:GE X E a ma)(hb:GE X E b mb)(l:Bh g b=false):GE X E (.Compare a [g] [b] pos) (m2 f ma mb):=(WU ho j hb l).imp λ_ _ _ h=>IP h
theorem bD(ho:IxR X (rD X.K f))(g:GE X E a ma)(hb:GE X E b mb)(j:Nu b:=by intro _ _;rfl):GE X E (.Subscript a b pos) (m2 f ma mb):=(aW ho g hb j).imp λ_ _ _ h=>IP h
def mB(m:ME):MT:=λe S=>(m e S).bind λd g=>match d with
 | .bl b=>.ok b g
 | _=>.bad
noncomputable def Qx(d:D)(S:Sto):Option Bool:=match d with
 | .non=>some false
 | .bl b=>some b
 | .int i=>some (i != 0)
 | .tup g=>some (!g.isEmpty)
 | .fro g=>some (!g.isEmpty)
 | .ref n=>match S[n]? with
  | some (.lst g)=>some (!g.isEmpty)
  | some (.dK j)=>some (!j.isEmpty)
  | _=>none
 | _=>none
def R9(m:ME):MT:=λe S=>(m e S).bind λd g=>match Qx d g with
 | some b=>.ok b g
 | none=>.bad
theorem Ab.empty{K}{ρ}{H}{ds}{vs}(h:Ab K ρ H ds vs):ds.isEmpty=vs.isEmpty:=by cases h <;> rfl
theorem KVR.empty{g:Type}{K:AB}{ρ:List AL}{H:Hp}{x:List (g×D)}{y:List (g×V)}(h:KVR K ρ H x y):x.isEmpty=y.isEmpty:=by cases h <;> rfl
theorem V1{K:AB}{ρ:List AL}{H:Hp}{S:Sto}{d:D}{x:V}{b:Bool}(s:BQ K ρ S H)(r:BI K ρ H d x)(h:Qx d S=some b):Zc K x H b:=by
 cases r with
 | non=>cases h;rfl
 | bl c=>cases h;rfl
 | int i=>cases h;rfl
 | str x=>cases h
 | tup g j=>cases h;rw[j.empty];exact .inr (.inl ⟨_,.inl (.inl g),rfl⟩)
 | fro g j=>cases h;rw[j.empty];exact .inl ⟨_,g.sq,rfl⟩
 | exc _ _=>cases h
 | @ref n a A=>
  obtain⟨o,B,m⟩:=s.there A;unfold Qx at h;simp only[B]at h
  cases o with
  | lst I=>cases h;obtain⟨vs,e,l⟩:=m;rw[l.empty];exact .inl ⟨_,.inl (.inl e),rfl⟩
  | dK G=>cases h;obtain⟨vs,e,l⟩:=m;rw[KVR.empty l];exact .inr (.inr ⟨_,e,rfl⟩)
  | dT G=>cases h
  | ins C fs=>cases h
  | fK _=>cases h
  | fT _=>cases h
  | mem _=>cases h
  | cod _ _ _=>cases h
theorem ZA(h:GE X E e ma)(o:∀g,PK e X.env g=(do let v <-g;Zi e.pos;Sx [v] (Xo v)):=by intro _;rfl):GT X E e (mB ma):=(YU h o).imp<|by
 rintro L H Q ⟨s,l,S,A,B,j⟩
 refine⟨s,l,S,A,B,j.seq λd N j m C x G I J=>?_⟩
 cases d <;> first | exact j.elim | skip
 cases J;exact⟨_,rfl,j m C G I⟩
theorem Op(h:GE X E e ma)(s:∀g,PK e X.env g=(do let v <-g;Zi e.pos;Sx [v] (Xo v)):=by intro _;rfl):GT X E e (R9 ma):=(Tv h s).imp<|by
 rintro N H Q ⟨A,l,S,B,C,j⟩
 refine⟨A,l,S,B,C,j.seq λd G j m I x J o L=>?_⟩
 cases hb:Qx d G with
 | none=>rw[hb]at j;exact j.elim
 | some c=>
  rw[hb]at j;exact⟨c,V1 o L hb,j m I J o⟩
theorem DQ{j}{f}(ho:OpR X (Bb j) (rD X.K f))(o:GE X E a ma)(hb:GE X E b mb)(g:Bh j b=false):GT X E (.Compare a [j] [b] pos) (mB (m2 f ma mb)):=(WD ho o hb g).imp<|by
 rintro N H Q ⟨s,l,S,A,B,g⟩
 refine IP (Q:=λx C=>∃k,x=.bl k/\Q k C) ⟨s,l,S,A,B,g.seq λd O g m G x I J L=>?_⟩
 cases d <;> first | exact g.elim | skip
 cases L;exact⟨_,rfl,g m G I J⟩
def MJ(m:MT):MT:=λe S=>(m e S).bind λb g=>.ok (!b) g
def mOr(ma mb:MT):MT:=λe S=>(ma e S).bind λb g=>if b=true then .ok true g else mb e g
variable{ta tb:MT}{rest:List Expr}
theorem Nc(h:GT X E a ta):GT X E (.UnaryOp .Not a pos) (MJ ta):=(YV h).imp<|by
 rintro G H Q ⟨m,l,S,o,s,g⟩
 exact⟨m,l,S,o,s,g.seq λd I g j A B C=>g j A B C⟩
theorem YE{K}{s}{H}{Q}(h:gT K E (mOr ta tb) s H Q):tOr (gT K E ta) (gT K E tb) s H Q:=by
 obtain⟨C,l,S,A,G,g⟩:=h;refine⟨C,l,S,A,G,g.seq λc I g j J m B=>?_⟩
 cases c with
 | false=>rw[qY AZ]at g ⊢;exact⟨j,l,I,A.mono m,B,g.go m λ_ _ k o L N O=>k o L (m.trans N) O⟩
 | true=>rw[qX rfl]at g ⊢;exact g j J m B
abbrev GW(X:Cx)(E:EW)(e:Expr)(m:MT):Prop:=PW X e (gT X.K E m)
theorem QB(g:GT X E a ta):GW X E (.BoolOp .Or [a] pos) ta:=YT g
theorem Um(g:GT X E a ta)(hb:GW X E (.BoolOp .Or (b :: rest) pos) tb):GW X E (.BoolOp .Or (a :: b :: rest) pos) (mOr ta tb):=(aS g hb).imp λ_ _ _ h=>YE h
theorem Y9(h:GW X E e t):GT X E e t:=PW.pt h
def Oh(ma mb:ME):ME:=λe S=>(ma e S).bind λd g=>match d with
 | .bl true=>mb e g
 | .bl false=>.ok (.bl false) g
 | _=>.bad
def Qy(ma:ME):ME:=λe S=>(ma e S).bind λd g=>match d with
 | .bl c=>.ok (.bl (!c)) g
 | _=>.bad
theorem ZH{g}(h:GE X E a ma):GE X E (.BoolOp g [a] pos) ma:=Yd h
theorem ZN(B:GE X E a ma)(hb:GE X E (.BoolOp .And (b :: rest) pos) mb):GE X E (.BoolOp .And (a :: b :: rest) pos) (Oh ma mb):=(Yk B hb).imp<|by
 rintro T H Q ⟨C,l,S,s,G,g⟩
 refine⟨C,l,S,s,G,g.seq λc I g j J x m A L=>?_⟩
 cases c with
 | bl c=>
  cases L;refine⟨c,rfl,?_⟩
  cases c with
  | true=>rw[qX rfl];exact⟨j,l,I,s.mono m,A,g.go m λ_ _ k o N z O P R=>k o N z (m.trans O) P R⟩
  | false=>rw[qY AZ];exact g j J _ m A (.bl false)
 | _=>exact g.elim
theorem ZI(m:GE X E a ma):GE X E (.UnaryOp .Not a pos) (Qy ma):=(Ye m).imp<|by
 rintro J H Q ⟨o,l,S,s,A,g⟩
 refine⟨o,l,S,s,A,g.seq λc L g j B x C G I=>?_⟩
 cases c with
 | bl c=>cases I;exact⟨c,rfl,g j B _ C G (.bl _)⟩
 | _=>exact g.elim
def m3(f g:D->D->Sto->Res D)(ma mb mc:ME):ME:=λe S=>(ma e S).bind λx l=>(mb e l).bind λy m=>(okR (f x y m)).bind λz j=>match z with
 | .bl true=>(mc e j).bind λw o=>okR (g y w o)
 | .bl false=>.ok (.bl false) j
 | _=>.bad
def BA:ML:=λ_ S=>.ok [] S
def AS(m:ME)(r:ML):ML:=λe S=>(m e S).bind λd g=>(r e g).bind λj l=>.ok (d :: j) l
variable{es:List Expr}{ml:ML}
theorem BJ:GA X E [] BA:=Gy.imp<|by
 rintro o H Q ⟨g,l,S,s,j,m⟩
 exact m g H [] .refl j .nil
theorem Aj(C:GE X E e ma)(G:GA X E es ml)(j:AX (e :: es) X.env=(false,Bt e X.env) :: AX es X.env:=by rfl):GA X E (e :: es) (AS ma ml):=(Ec C G j).imp<|by
 rintro U H Q ⟨I,l,S,A,j,g⟩
 exact⟨I,l,S,A,j,g.seq λd J g m Y x o L N=>⟨m,l,J,A.mono o,L,(g.later o).seq λZ S2 g s O P B R T=>g s O (x :: P) (o.trans B) R (.cons (N.mono B) T)⟩⟩
def IC(m:ML):ME:=λe S=>(m e S).bind λg j=>if g.length<=sizeLine then .ok (.tup g) j else .bad
theorem Gq{K}{ρ}{H}{S}{p}{ho}(g:BQ K ρ S H)(j:H p=none):BQ K ρ S (upd H p ho)/\Le K ρ H ρ (upd H p ho):=by
 have le:Le K ρ H ρ (upd H p ho):=Le.fresh j;refine⟨⟨g.len,g.nd,λn o a m l=>(g.ob n o a m l).mono le (BC λz=>?_)⟩,le⟩;subst z;exact g.notIn j l
theorem Ng{s}(h:GA X E es ml):GE X E (.Tuple es s pos) (IC ml):=(Yc h).imp<|by
 rintro P H Q ⟨A,l,S,B,C,g⟩
 refine⟨A,l,S,B,C,g.seq λR T g j U G I J m=>?_⟩;split at g
 ·rename_i L
  refine⟨by rw[<-m.length];exact L,λp N=>?_⟩;obtain⟨O,o⟩:=Gq (ho:=.tup G) J N;exact g j _ _ (I.trans o) O (.tup BE (m.mono o))
 ·exact g.elim
def C3(m:ML):ML:=λe S=>(m e S).bind λg j=>if g.length<=sizeLine then .ok g j else .bad
theorem G5(h:GA X E es ml):GL X E (.List es pos) (C3 ml):=(Yf h).imp<|by
 rintro O H Q ⟨I,l,S,J,s,g⟩
 refine⟨I,l,S,J,s,g.seq λP R g j T A B m C=>?_⟩;split at g
 ·rename_i L
  refine⟨by rw[<-C.length];exact L,λp o=>?_⟩;obtain⟨N,G⟩:=Gq (ho:=.lst A) m o;exact g j _ p A (B.trans G) N (C.mono G) BE (λn q=>m.notIn o q) (B.back s m o)
 ·exact g.elim
def D7(m:ML):ME:=λe S=>(m e S).bind λj g=>.ok (.ref g.length) (g++[.lst j])
theorem D9(h:GL X E e ml):GE X E e (D7 ml):=PE.imp h<|by
 rintro U H Q ⟨B,l,S,C,G,m⟩
 refine⟨B,l,S,C,G,m.seq λI Y m g Z p J j L N O P R=>?_⟩
 have A:∀(n:Nat) a,g[n]?=some a->(g++[p])[n]?=some a:=λn a h=>by rw[AN (AD.mp h).1];exact h
 obtain⟨T,s⟩:=L.adopt (o:=.lst I) P ⟨J,O,N.more A⟩;refine m _ _ _ ⟨λn a h=>A n a (j.pre n a h),j.tup,j.frz,λa o e h=>⟨(j.oth a o e h).1,λn q=>?_⟩⟩ T (.ref s)
 rcases FS q with⟨q,_⟩ | ⟨_,q⟩
 ·exact(j.oth a o e h).2 n q
 ·exact CC e R q
noncomputable def Fx(d:D)(S:Sto):Option (List D):=match d with
 | .tup g=>some g
 | .fro g=>some g
 | .ref n=>match S[n]? with
  | some (.lst g)=>some g
  | _=>none
 | _=>none
def Og(m:ME):ML:=λe S=>(m e S).bind λd g=>match Fx d g with
 | some j=>.ok j g
 | none=>.bad
theorem KS{K}{ρ}{H}{S}{d}{x}{ds}(l:BQ K ρ S H)(r:BI K ρ H d x)(h:Fx d S=some ds):∃p xs,x=.ref p/\Ab K ρ H ds xs/\(SqL K H p xs∨SqT K H p xs):=by
 cases r with
 | tup g j=>cases h;exact⟨_,_,rfl,j,.inr (.inl (.inl g))⟩
 | fro g j=>cases h;exact⟨_,_,rfl,j,.inl g.sq⟩
 | @ref n a m=>
  obtain⟨o,s,A⟩:=l.there m;unfold Fx at h;simp only[s]at h
  cases o with
  | lst es=>cases h;obtain⟨vs,e,B⟩:=A;exact⟨_,_,rfl,B,.inl (.inl (.inl e))⟩
  | _=>cases h
 | _=>cases h
theorem Xh(h:GE X E e ma):GQ X E e (Og ma):=PE.imp h<|by
 rintro O H Q ⟨s,l,S,A,B,g⟩
 refine⟨s,l,S,A,B,g.seq λx C g j G v I o J=>?_⟩
 cases m:Fx x C with
 | none=>rw[m]at g;exact g.elim
 | some P=>
  rw[m]at g;obtain⟨p,L,rfl,N,sq⟩:=KS o J m;exact g j G p L I o N sq
end
noncomputable def Res.lift{g:Type}(r:Res g)(e:Lo)(f:g->Sto->Res Fl):Res Fl:=match r with
 | .ok a S=>f a S
 | .err c S=>.ok (.ex c e) S
 | .bad=>.bad
theorem Bg.lift{m:Type}{K:AB}{E:EW}{ρ g:List AL}{H j:Hp}{o:St}{e:Lo}{D:Si}{r:Res m}{F:m->Sto->Res Fl}{k':m->Sto->Prop}(h:Bg K noH g j (r.lift e F) λs A=>Nh K E ρ H A D s)(G:DF K g j e o)(l:Le K ρ H g j)
  (f:∀a S,(Bg K noH g j (F a S) λs A=>Nh K E ρ H A D s)->k' a S):Bg K (λc=>E c o) g j r k':=by
 cases r with
 | ok a S=>exact f a S h
 | err c S=>exact λB I C J=>h B I o (l.trans C) J (G.mono C)
 | bad=>exact h
def sNx:MS:=λe S=>.ok (.nx e) S
def OR:MS:=λ_ _=>.bad
def BL(a b:MS):MS:=λe S=>(a e S).bind λf g=>match f with
 | .nx j=>b j g
 | f=>.ok f g
def C4(m:ME):MS:=λe S=>(m e S).lift e λ_ g=>.ok (.nx e) g
def E0(m:ME):MS:=λe S=>(m e S).lift e λd g=>.ok (.rt d) g
def sIf(t:MT)(a b:MS):MS:=λe S=>(t e S).lift e λc g=>if c=true then a e g else b e g
def aM(m:ME)(g:MG):MS:=λe S=>(m e S).lift e λd j=>(g d e j).bind λl o=>.ok (.nx l) o
def tgN(i:Nat):MG:=λd e S=>.ok (e.set i (some d)) S
def Bp(i:Nat)(m:ME):MS:=aM m (tgN i)
section
variable{X:Cx}{E:EW}{st:DM}{rest:List DM}{e:Expr}{pos:Pos}{a b:MS}{t:MT}
theorem Nh.later{K}{ρ s}{H A}{S}{D}{f}(l:Le K ρ H s A)(h:Nh K E ρ H S D f):Nh K E s A S D f:=by
 cases f with
 | nx e=>exact λg m j o=>h g m j (l.trans o)
 | bk e=>exact λg m j o=>h g m j (l.trans o)
 | ct e=>exact λg m j o=>h g m j (l.trans o)
 | ex c e=>exact λg m j o=>h g m j (l.trans o)
 | rt d=>exact λg m x o=>h g m x (l.trans o)
theorem Ci:GSs X E [] sNx:=WE.imp<|by
 rintro D g H ⟨j,l,S,m,o,s⟩
 exact s j H g .refl o m
theorem Af(s:GS X E st a)(A:GSs X E rest b):GSs X E (st :: rest) (BL a b):=(OW s A).imp<|by
 rintro D P H ⟨B,l,S,C,G,j⟩
 refine⟨B,l,S,C,G,j.seq λg I j=>?_⟩
 cases g with
 | nx J=>exact λm Q L o N O=>⟨m,J,I,O,N,j.go o λ_ _ k=>k.later o⟩
 | rt d=>exact j
 | bk d=>exact j
 | ct d=>exact j
 | ex c d=>exact j
theorem A5(g:GS X E st a):GSs X E [st] a:=Qs g
theorem JA:GS X E st OR:=(T0 (X:=X) (st:=st)).imp λD j H ⟨m,l,S,o,s,g⟩=>g.elim
theorem Ed(B:GE X E e m)(g:DX e none pos.line X.env=pure false:=by rfl):GS X E (.Expr e pos) (C4 m):=(WF B g).imp<|by
 rintro D C H ⟨G,l,S,j,g,o⟩
 exact⟨G,l,S,j,g,o.lift j .refl λd L o s I x A J N=>o s I C A J (j.mono A)⟩
theorem Co(s:GE X E e m):GS X E (.Return (some e) pos) (E0 m):=(YW s).imp<|by
 rintro D L H ⟨A,l,S,o,B,g⟩
 exact⟨A,l,S,o,B,g.lift o .refl λd N g j C x G I J=>g j C x G I J⟩
theorem Eo{c}{s A}(G:GT X E c t)(I:GSs X E s a)(hb:GSs X E A b):GS X E (.If c s A pos) (sIf t a b):=(aT G I hb).imp<|by
 rintro D N H ⟨J,l,S,o,L,g⟩
 refine⟨J,l,S,o,L,g.lift o .refl λc B g m O j C=>?_⟩
 cases c with
 | true=>rw[qX rfl]at g ⊢;exact⟨m,l,B,o.mono j,C,g.go j λ_ _ k=>k.later j⟩
 | false=>rw[qY AZ]at g ⊢;exact⟨m,l,B,o.mono j,C,g.go j λ_ _ k=>k.later j⟩
theorem Wt(h:PG X g (Q8 i)):GG X g (tgN i):=h.imp<|by
 rintro v A H Q ⟨j,l,S,d,hd,m,o,s⟩
 exact s j H _ .refl o (m.set hd i)
theorem ZC{i}{x}{g}(C:X.N.Nodup)(hi:X.N[i]?=some x)(G:Loc X.env.scope x)(I:GE X E e m)(j:DX e (some (.Name x g)) pos.line X.env=pure false:=by rfl)
  (J:X.fn x=true∨X.env.scope.names.lookup x=some .local:=by first | exact .inl rfl | exact .inr rfl | assumption):GS X E (.Assign [.Name x g] e pos) (Bp i m):=(Tz C hi G I j J).imp<|by
 rintro D R H ⟨L,l,S,o,j,s⟩
 exact⟨L,l,S,o,j,s.lift o .refl λd T s A O x B P Q=>s A O _ B P ((o.mono B).set Q i)⟩
def HJ(v:MP)(g:MG)(b:MS):Nat->Nat->Lo->Sto->Res Fl
 | k,i,e,S=>match v S with
  | none=>.bad
  | some m=>match m[i]? with
   | none=>.ok (.nx e) S
   | some d=>match k with
    | 0=>.bad
    | k+1=>(g d e S).bind λo s=>(b o s).bind λf l=>match f with
     | .nx j=>HJ v g b k (i+1) j l
     | .ct j=>HJ v g b k (i+1) j l
     | .bk j=>.ok (.nx j) l
     | .rt d=>.ok (.rt d) l
     | .ex c j=>.ok (.ex c j) l
def CS(v:MP)(S:Sto):Nat:=match v S with
 | none=>0
 | some g=>g.length
def Gw(m:MI)(g:MG)(b:MS):MS:=λe S=>(m e S).lift e λv j=>HJ v g b (CS v j) 0 e j
theorem F8{tg iter}{body}{mi}{g}(hp:Zz (AW X.prog X.w) X.A X.env X.xe)(hc:X.calm=true)(hi:GI X E tg iter mi)(hg:GG X tg g)(hb:GSs X E body b)
  (hs:∀x,Dg iter X.env x=pure x:=by intro _;rfl):GS X E (.For tg iter body [] pos) (Gw mi g b):=(YX hp hc hi hg hb hs).imp<|by
 rintro D σ H ⟨ρ,l,S,hl,hs,hm⟩
 refine⟨ρ,l,S,hl,hs,hm.lift hl .refl λv S1 hm L H1 J Y s1 vo=>?_⟩;refine⟨λi n N O=>∃j P C,Le X.K L H1 j O/\DF X.K j O P N/\BQ X.K j C O/\Bg X.K noH j O (HJ v g b n i P C) λfl S'=>Nh X.K E ρ H S' D fl,⟨CS v S1,L,l,S1,.refl,hl.mono Y,s1,hm.later Y⟩,?_⟩;rintro i n N O ⟨j,P,C,Q,r2,s2,m⟩;unfold HJ at m
 cases hv:v C with
 | none=>rw[hv]at m;exact m.elim
 | some ds=>
  rw[hv]at m;dsimp only at m;obtain⟨v1,v2⟩:=vo j O C ds i Q s2 hv
  cases hd:ds[i]? with
  | none=>
   rw[hd]at m;exact .inl ⟨v1 hd,m j O N (Y.trans Q) s2 r2⟩
  | some d=>
   rw[hd]at m;dsimp only at m;obtain⟨go,yl⟩:=v2 d hd
   cases n with
   | zero=>exact m.elim
   | succ n=>
    dsimp only at m;refine .inr ⟨go,λσ' R=>∃j P C,Le X.K L H1 j R/\DF X.K j R P σ'/\BQ X.K j C R/\Bg X.K noH j R (HJ v g b n (i+1) P C) λfl S'=>Nh X.K E ρ H S' D fl,λσ' R q=>⟨n,B5 n,q⟩,λx R y=>?_⟩;obtain⟨ρ3,T,s3,rd⟩:=yl x R y;refine⟨ρ3,P,C,d,rd,r2.mono T,s3,(m.later T).seq λe3 S3 m ρ4 H4 σ4 Z s4 r4=>?_⟩;refine⟨ρ4,e3,S3,r4,s4,(m.later Z).seq λf4 S4 m=>?_⟩
    cases f4 with
    | nx e5=>exact λo U s B G I=>⟨o,e5,S4,Q.trans (T.trans (Z.trans B)),I,G,m.later B⟩
    | ct e5=>exact λo U s B G I=>⟨o,e5,S4,Q.trans (T.trans (Z.trans B)),I,G,m.later B⟩
    | bk e5=>exact λo U s B G I=>m o U s (Y.trans (Q.trans (T.trans (Z.trans B)))) G I
    | ex c e5=>exact λo U s B G I=>m o U s (Y.trans (Q.trans (T.trans (Z.trans B)))) G I
    | rt d5=>exact λo U x5 B G I=>m o U x5 (Y.trans (Q.trans (T.trans (Z.trans B)))) G I
end
section
variable{X:Cx}{E:EW}{tg e:Expr}{m:ME}{K:AB}
noncomputable def Jr(d:D):MP:=λS=>match d with
 | .ref n=>match S[n]? with
  | some (.lst g)=>some g
  | _=>none
 | .fro g=>some g
 | _=>none
def D4(ds:List D):MP:=λ_=>some ds
def bB(m:ME):MI:=λe S=>(m e S).bind λd g=>match Jr d g with
 | some _=>.ok (Jr d) g
 | none=>.bad
def Xg(m:ME):MI:=λe S=>(m e S).bind λd g=>match d with
 | .tup j=>.ok (D4 j) g
 | _=>.bad
theorem OF(s:BQ K ρ S H)(r:BI K ρ H d (.ref a))(g:Jr d S=some ds):∃xs,SqL K H a xs/\Ab K ρ H ds xs:=by
 cases r with
 | tup j l=>cases g
 | exc _ _=>cases g
 | fro j l=>cases g;exact⟨_,j.sq,l⟩
 | @ref n _ A=>
  obtain⟨o,B,C⟩:=s.there A;unfold Jr at g;simp only[B]at g
  cases o with
  | lst I=>
   cases g;obtain⟨vs,e,G⟩:=C;exact⟨vs,.inl (.inl e),G⟩
  | _=>cases g
theorem Ph(r:BI K ρ H d (.ref a)):Nr K ρ H (Itl K a) (Jr d):=by
 intro g J S L i l s B;obtain⟨j,sq,o⟩:=OF s (r.mono l) B;refine⟨λC=>⟨j,sq,by rw[<-o.length];exact Bi.mp C⟩,λd hd=>?_⟩;obtain⟨x,A,G⟩:=o.get hd;refine⟨⟨j,x,sq,A⟩,λy N ⟨e,I⟩=>?_⟩;subst e;have:=I j sq;rw[A]at this;cases this;exact⟨g,.refl,s,G⟩
theorem ZE(h:GE X E e m):GI X E tg e (bB m):=(WL h).imp<|by
 rintro O H R ⟨B,l,S,C,G,g⟩
 refine⟨B,l,S,C,G,g.seq λd I g o J x L A s=>?_⟩
 cases j:Jr d I with
 | none=>rw[j]at g;exact g.elim
 | some P=>
  rw[j]at g
  have:∃a,x=.ref a:=by
   cases s <;> first | exact⟨_,rfl⟩ | (cases j;done)
  obtain⟨a,rfl⟩:=this;obtain⟨N,sq,_⟩:=OF A s j;exact⟨a,rfl,⟨N,sq⟩,g o J _ L A (Ph s)⟩
theorem Pe(A:H a=some (.tup xs))(B:Ab K ρ H ds xs):Nr K ρ H (Itt K a) (D4 ds):=by
 intro g C S N i l s G;cases G;have j:=B.mono l;have sq:SqT K C a xs:=.inl (.inl (l.tup _ _ A));refine⟨λI=>⟨xs,sq,by rw[<-j.length];exact Bi.mp I⟩,λd hd=>?_⟩;obtain⟨x,o,J⟩:=j.get hd;refine⟨⟨xs,x,sq,o⟩,λy O ⟨e,L⟩=>?_⟩;subst e;have:=L xs sq;rw[o]at this;cases this;exact⟨g,.refl,s,J⟩
theorem ZD(h:GE X E e m):GI X E tg e (Xg m):=(YZ h).imp<|by
 rintro N H R ⟨s,l,S,A,B,g⟩
 refine⟨s,l,S,A,B,g.seq λd O g j C x G I J=>?_⟩
 cases d <;> first | exact g.elim | skip
 cases J with
 | tup o L=>exact⟨_,rfl,⟨_,.inl (.inl o)⟩,g j C _ G I (Pe o L)⟩
noncomputable def Cr(lo:Int)(n:Nat):List D:=(A8 n).map λi:Nat=>D.int (lo+i)
theorem Mg(lo:Int)(n i:Nat):(Cr lo n)[i]?=if i < n then some (.int (lo+i))else none:=by
 unfold Cr;rw[Ad]
 by_cases h:i < n
 ·rw[Bk h,qX h];rfl
 ·rw[qY h,Bi.mpr (by simpa using h)];rfl
theorem Km(lo:Int)(n:Nat):Nr K ρ H (Itr lo n) (D4 (Cr lo n)):=by
 intro g B S C i l s o;cases o;rw[Mg];refine⟨λj=>?_,λd hd=>?_⟩
 ·split at j
  ·cases j
  ·rename_i h;exact Ex h
 ·split at hd
  ·rename_i h
   cases hd;refine⟨h,λy G ⟨e,A⟩=>?_⟩;subst e;subst A;exact⟨g,.refl,s,.int _⟩
  ·cases hd
def iR1(ml:ML):MI:=λe S=>(ml e S).bind λg l=>match g with
 | [.int j]=>if -(2 ^ 62)<=j/\j < 2 ^ 62 then .ok (D4 (Cr 0 j.toNat)) l else .bad
 | _=>.bad
def iR2(ml:ML):MI:=λe S=>(ml e S).bind λg l=>match g with
 | [.int i,.int j]=>if -(2 ^ 62)<=i/\i < 2 ^ 62/\-(2 ^ 62)<=j/\j < 2 ^ 62 then .ok (D4 (Cr i (j - i).toNat)) l else .bad
 | _=>.bad
theorem EX(B:Gl X "range") (g:X.mg "range" = none) (C:GA X E [a] ml) (o:AX [a] X.env=[(false,Bt a X.env)]:=by rfl):GI X E tg (.Call (.Name "range" p) [a] [] pos) (iR1 ml):=(Rz B g C o).imp<|by
 rintro P H R ⟨G,l,S,I,o,g⟩
 refine⟨G,l,S,I,o,g.seq λQ T g s J U L N O=>?_⟩;split at g
 ·rename_i j
  split at g
  ·rename_i A
   cases O with
   | cons r t=>
    cases t;cases r;exact⟨j,rfl,A.1,A.2,g s J _ L N (Km 0 j.toNat)⟩
  ·exact g.elim
 ·exact g.elim
theorem SM(A:Gl X "range") (g:X.mg "range" = none) (B:GA X E [a,b] ml) (o:AX [a,b] X.env=[(false,Bt a X.env),(false,Bt b X.env)]:=by rfl) (C:AX [b] X.env=[(false,Bt b X.env)]:=by rfl) :
  GI X E tg (.Call (.Name "range" p) [a,b] [] pos) (iR2 ml):=(Ry A g B o C).imp<|by
 rintro T H R ⟨G,l,S,I,o,g⟩
 refine⟨G,l,S,I,o,g.seq λU Y g s J Z L N O=>?_⟩;split at g
 ·rename_i i j
  split at g
  ·rename_i P
   cases O with
   | cons r t=>
    cases t with
    | cons Q t=>
     cases t;cases r;cases Q;exact⟨i,j,rfl,P,g s J _ L N (Km i _)⟩
  ·exact g.elim
 ·exact g.elim
end
def IH:List D->Lo->Sto->Res Lo
 | [],e,S=>.ok e S
 | _,_,_=>.bad
def Cz(g:MG)(r:List D->Lo->Sto->Res Lo):List D->Lo->Sto->Res Lo
 | d :: j,e,S=>(g d e S).bind λl m=>r j l m
 | [],_,_=>.bad
def HZ(n:Nat)(r:List D->Lo->Sto->Res Lo):MG:=λd e S=>match d with
 | .tup g=>if g.length=n then r g e S else .bad
 | _=>.bad
section
variable{X:Cx}
def gGs(K:AB)(r:List D->Lo->Sto->Res Lo):TGs:=λvs s H Q=>∃j e S o,Ab K j H o vs/\DF K j H e s/\BQ K j S H/\Bg K noH j H (r o e S) λA B=>∀g m l,Le K j H g m->BQ K g B m->DF K g m A l->Q l m
abbrev GGs(X:Cx)(ts:List Expr)(r:List D->Lo->Sto->Res Lo):Prop:=PGs X ts (gGs X.K r)
theorem PGs.imp(h:PGs X ts t)(i:∀vs g H Q,t' vs g H Q->t vs g H Q):PGs X ts t':=λj s g H vs l Q I r q=>h j s g H vs l Q I r (i vs g H Q q)
theorem Nf:GGs X [] IH:=WM.imp<|by
 rintro vs m H Q ⟨o,l,S,g,hd,s,A,j⟩
 cases g with
 | nil=>cases hd;exact⟨rfl,j o H m .refl A s⟩
 | cons d g=>exact j.elim
theorem Ge(E:GG X e g)(G:GGs X es r)
  (m:(EN (e :: es) X.env).map (·.2)=PP e X.env :: (EN es X.env).map (·.2):=by rfl):GGs X (e :: es) (Cz g r):=(T5 E G m).imp<|by
 rintro vs σ H Q ⟨I,l,S,o,hd,J,m,j⟩
 cases o with
 | nil=>exact j.elim
 | cons d o=>
  cases hd with
  | cons L N=>
   exact⟨_,_,rfl,I,l,S,d,L,J,m,j.seq λO P j s H1 R A T U=>⟨s,O,P,o,N.mono A,U,T,j.go A λ_ _ k B Y C Z s2 r2=>k B Y C (A.trans Z) s2 r2⟩⟩
theorem QD(o:X.calm=true)(h:GGs X es r)
  (s:(EN es X.env).length=n:=by rfl) (A:(EN es X.env).findIdx? (·.1)=none:=by rfl):GG X (.Tuple es k pos) (HZ n r):=(Ya o h s A).imp<|by
 rintro v J H Q ⟨B,l,S,d,hd,C,E,g⟩
 cases d <;> first | exact g.elim | skip
 rename_i G
 cases hd with
 | tup I m=>
  unfold HZ at g;dsimp only at g;split at g
  ·rename_i j
   exact⟨_,_,rfl,.inl (.inl I),by rw[<-m.length];exact j,B,l,S,G,m,C,E,g⟩
  ·exact g.elim
end
def spM(K:AB)(n:Nat)(f:List D->Sto->Res D):Sp:=λvs H Q E=>∃l m S,m.length=n/\Ab K l H m vs/\BQ K l S H/\Bg K (λc j=>E (.ref c) none j) l H (f m S) λd o=>
 ∀g j x,Le K l H g j->BQ K g o j->BI K g j d x->Q x j
theorem spM.len{K}{n}{f}{vs}{H}{Q}{E}(h:spM K n f vs H Q E):vs.length=n:=by
 obtain⟨l,m,S,g,j,_⟩:=h;rw[<-j.length];exact g
def Bs(n:Nat)(f:List D->Sto->Res D)(m:ML):ME:=λe S=>(m e S).bind λg j=>if g.length=n then f g j else .bad
def LM(C:AL)(n:Nat)(f:List D->Sto->Res D)(m:ML):ME:=λe S=>(m e S).bind λj g=>if j.length+1=n then(f (.ref g.length :: j) (g++[.ins C []])).bind (λd l=>match d with
  | .non=>.ok (.ref g.length) l
  | _=>.bad)else .bad
def Re(E:EW)(g:St):XK:=λv o H=>o=none/\∃c,v=.ref c/\E c g H
section
variable{X:Cx}{E:EW}{k n:Nat}{x:Str}{e:Expr}{es:List Expr}
theorem Bg.xk{m:Type}{K:AB}{o:St}{ρ g:List AL}{H A:Hp}{r:Res m}{k k':m->Sto->Prop}(h:Bg K (λc=>E c o) ρ H r k)(l:Le K ρ H g A)(f:∀a S,k a S->k' a S):Bg K (λc H'=>Re E o (.ref c) none H') g A r k':=by
 cases r with
 | ok a S=>exact f a S h
 | err c S=>exact λj H' B s=>⟨rfl,c,rfl,h j H' (l.trans B) s⟩
 | bad=>exact h
theorem W0(F:EZ X.prog X.w X.K X.mg X.base C k f fd ps (spM X.K n g))(G:IX C X (Re E))(I:De k X.A)(J:Gl X x)(j:X.mg x=some (.ref f))(L:D3 X.K (.ref f)=true)(hb:Binds X.K fd ps [])
  (N:GA X E (e :: es) ml) (O:(x==("__debug__" : Str))=false:=by decide) (P:AX (e :: es) X.env=(false,Bt e X.env) :: AX es X.env:=by rfl) (R:(D2 pos (AX es X.env)).any (·.1)=false:=by rfl) :
  GE X E (.Call (.Name x p) (e :: es) [] pos) (Bs n g ml):=(WV (E:=Re E) F I J j L hb .nil G N O P R).imp<|by
 rintro σ H Q ⟨T,l,S,U,Y,j⟩
 refine⟨T,l,S,U,Y,j.seq λZ S1 j o H1 xs B s1 r1=>?_⟩;split at j
 ·rename_i m
  rw[Bz];exact⟨o,Z,S1,m,r1,s1,j.xk B λ_ _ k s H' z l' s' r'=>k s H' z (B.trans l') s' r'⟩
 ·exact j.elim
theorem Wy(M:Mk X.K C f)(F:EZ X.prog X.w X.K X.mg X.base U k f fd ps (spM X.K n g))(Y:IX U X (Re E))(Z:De (k+1) X.A)(hg:Gl X x)(j:X.mg x=some (.ref C))(hb:Binds X.K fd ps [])
  (s:GA X E (e :: es) ml) (cQ:(x==("__debug__" : Str))=false:=by decide) (he:AX (e :: es) X.env=(false,Bt e X.env) :: AX es X.env:=by rfl) (cC:(D2 pos (AX es X.env)).any (·.1)=false:=by rfl) :
  GE X E (.Call (.Name x p) (e :: es) [] pos) (LM C n g ml):=(WQ (E:=Re E) M F Z hg j hb .nil Y s cQ he cC).imp<|by
 rintro σ H Q ⟨ρ,l,S,hl,hs,j⟩
 refine⟨ρ,l,S,hl,hs,j.seq λds O j B H1 xs P s1 r1 a G s I ei=>?_⟩;split at j
 ·rename_i m
  rw[Bz];obtain⟨s2,J⟩:=Gq (ho:=.own a) s1 I
  have ji:upd H1 G (.own a) a=none:=by rw[BC (B2 ei)];exact s
  obtain⟨s3,L,R⟩:=s2.alloc (p:=a) (ho:=.ins C G []) (o:=.ins C []) ji ⟨G,[],BE,.nil⟩;refine⟨B++[a],.ref O.length :: ds,O++[.ins C []],by simpa using m,.cons (.ref R) (r1.mono (J.trans L)),s3,Bg.xk (j.seq λz S2 j=>j) (P.trans (J.trans L)) λz S2 j N H' y T s' r'=>?_⟩
  cases z <;> first | exact j.elim | skip
  cases r';exact⟨rfl,j N H' _ (P.trans (J.trans (L.trans T))) s' (.ref (T.pre _ _ R))⟩
 ·exact j.elim
end
theorem KVR.lookup{K}{ρ}{H}(f:Str):∀{x:List (Str×D)} {y:List (Str×V)} {d:D},KVR K ρ H x y->x.lookup f=some d->∃v,y.lookup f=some v/\BI K ρ H d v
 | _,_,_,.nil,h=>by simp at h
 | (g,a) :: x,(o,b) :: y,d,.cons r t,h=>by
  obtain⟨j,l⟩:=r;dsimp only at j l;subst j;rw[BM]at h ⊢
  cases m:(f==g)with
  | true=>rw[m]at h;cases h;exact⟨b,rfl,l⟩
  | false=>rw[m]at h;exact KVR.lookup f t h
def KC(f:Str)(v:D):List (Str×D)->List (Str×D)
 | []=>[(f,v)]
 | (g,x) :: r=>if g=f then(g,v) :: r else(g,x) :: KC f v r
theorem KVR.putF{K}{ρ}{H}(f:Str){d}{v}(l:BI K ρ H d v):∀{x:List (Str×D)} {y:List (Str×V)},KVR K ρ H x y->KVR K ρ H (KC f d x) (putF f v y)
 | _,_,.nil=>.cons ⟨rfl,l⟩ .nil
 | (g,a) :: x,(s,b) :: y,.cons r t=>by
  obtain⟨m,o⟩:=r;dsimp only at m o;subst m;unfold KC L2.putF
  by_cases j:g=f
  ·rw[qX j,qX j];exact .cons ⟨rfl,l⟩ t
  ·rw[qY j,qY j];exact .cons ⟨rfl,o⟩ (KVR.putF f l t)
theorem KVR.length{g:Type}{K:AB}{ρ:List AL}{H:Hp}{x:List (g×D)}{y:List (g×V)}(h:KVR K ρ H x y):x.length=y.length:=DA h
def UR(C:AL)(f:Str)(m:ME):ME:=λe S=>(m e S).bind λd g=>match d with
 | .ref n=>match g[n]? with
  | some (.ins j fs)=>if j=C then(match fs.lookup f with | some v=>.ok v g | none=>.bad)else .bad
  | _=>.bad
 | _=>.bad
def Mc(C:AL)(f:Str)(mo mv:ME):MS:=λe S=>(mv e S).lift e λv j=>(mo e j).lift e λd g=>match d with
 | .ref n=>match g[n]? with
  | some (.ins l fs)=>if l=C/\fs.length < 1000 then .ok (.nx e) (g.set n (.ins C (KC f v fs)))else .bad
  | _=>.bad
 | _=>.bad
section
variable{X:Cx}{E:EW}{o e value:Expr}{m mv:ME}
theorem ZJ(G:Cls X.K C)(I:Fa X.K C f)(J:GE X E e m)(hb:EI e f X.env (Bt e X.env)=Bt e X.env:=by rfl):GE X E (.Attribute e f pos) (UR C f m):=(Yh J hb).imp<|by
 rintro σ H Q ⟨L,l,S,N,O,g⟩
 refine⟨L,l,S,N,O,g.seq λx P g s R v T B U=>?_⟩
 cases x <;> first | exact g.elim | skip
 rename_i n;dsimp only at g
 cases j:P[n]? with
 | none=>rw[j]at g;exact g.elim
 | some Y=>
  rw[j]at g
  cases Y <;> first | exact g.elim | skip
  rename_i C' fs;dsimp only at g;split at g
  ·rename_i Z
   rw[Z]at j
   cases U with
   | ref dg=>
    obtain⟨dx,dW,e1,e2⟩:=B.ob n _ _ j dg
    cases A:fs.lookup f with
    | none=>rw[A]at g;exact g.elim
    | some w=>
     rw[A]at g;obtain⟨v,h3,h4⟩:=KVR.lookup f e2 A;exact⟨_,_,dx,dW,v,rfl,e1,G,I,h3,g s R v T B h4⟩
  ·exact g.elim
theorem QC(hc:Cls X.K C)(hn:Fa X.K C f)(ha:GE X E o m)(hv:GE X E value mv)(J:DX value (some (.Attribute o f A)) pos.line X.env=pure false:=by rfl):GS X E (.Assign [.Attribute o f A] value pos) (Mc C f m mv):=(YY ha hv J).imp<|by
 rintro D σ H ⟨ρ,l,S,B,J,g⟩
 refine⟨ρ,l,S,B,J,g.lift B .refl λv S1 g L H1 y s s1 r1=>⟨L,l,S1,B.mono s,s1,(g.later s).lift (B.mono s) s λx S2 g j R u N T r2=>?_⟩⟩
 cases x <;> first | exact g.elim | skip
 rename_i n;dsimp only at g
 cases ho:S2[n]? with
 | none=>rw[ho]at g;exact g.elim
 | some ob=>
  rw[ho]at g
  cases ob <;> first | exact g.elim | skip
  rename_i C' fs;dsimp only at g;split at g
  ·rename_i O
   obtain⟨O,G⟩:=O;rw[O]at ho
   cases r2 with
   | ref P=>
    obtain⟨I,Q,U,Y⟩:=T.ob n _ _ ho P;have le:Le X.K j R j (upd R _ (.ins C I (putF f y Q))):=Le.write P (by rw[U];trivial);obtain⟨s3,Z⟩:=T.write (ho:=.ins C I (putF f y Q)) (o:=.ins C (KC f v fs)) P ⟨I,_,BE,(KVR.putF f (r1.mono N) Y).mono le⟩ le;refine⟨_,C,I,Q,rfl,U,hc,hn,by rw[<-KVR.length Y];exact G,?_⟩;exact g j _ σ (s.trans (N.trans Z)) s3 (B.mono (s.trans (N.trans Z)))
  ·exact g.elim
end
def ExAt(l:AL->Prop)(F:Option AC->Prop)(g C:AL)(H:Hp)(h:BY):Prop:=
 H g=none/\l g/\∃(j:Obj) (vs:Array AC) (A:AC),h.get? g=some j/\j.cls=.ref C/\(j.dict=none/\j.data=.fields vs)/\vs[0]?=some A /\
  ((F none/\vs[1]?=some .none)∨∃(T:AL) (m:Obj) (o:Array AC) (s:AC),F (some s)/\vs[1]?=some (.ref T)/\T≠g/\H T=none/\l T/\h.get? T=some m/\m.data=.fields o/\o[3]?=some s)
def CXG(P:Aq)(w:A9):CXT:=λg H s E e j=>∃m C l,e=.ref m/\j.os=s.os/\GU j.gens/\Un (frs g) [] H l s.heap j.heap/\HOk P w l j.heap/\ExAt (λb=>s.heap.get? b=none) (· = some .none) m C l j.heap/\E (.ref C) none l
theorem Inv.with(I:Inv X m o H s)(z:AC->AF->Prop):Inv { X with xe:=z } m o H s:=by
 obtain⟨ok,a,b,c,d,e,f,g,i,j,l⟩:=I;obtain⟨A,B,C,E,G,J,L,N,O,P,Q,R,S,T,U,Y,Z,jt⟩:=ok;exact⟨⟨A,B,C,E,G,J,L,N,O,P,Q,R,S,T,U,Y,Z,jt⟩,a,b,c,d,e,f,g,i,j,l⟩
theorem Inv.without(I:Inv { X with xe:=z } g j H s):Inv X g j H s:=by
 have:=I.with X.xe
 exact this
structure Good(X:Cx)(E:EW):Prop where
 pass:IX (CXG X.prog X.w) X (Re E)
 own:Zz (AW X.prog X.w) X.A X.env X.xe
 made:∀(ζ:List (AL×Obj)) (σ:St) (H:Hp) (s:AF) (h':BY) (ea C:AL) (args:List AC),Inv X ζ σ H s->E C σ H->BY.MadeExcOf s.heap h' ea (.ref C) args->X.xe (.ref ea) { s with heap:=h' }
theorem good_none(j:X.xe=λ_ _=>False):Good X noE:=by
 refine⟨λm o H s e A I h=>?_,by rw[j];exact Zz.never,λ_ _ _ _ _ _ _ _ _ w _=>w.elim⟩;obtain⟨B,C,E,rfl,os,g,un,l,x,_,c,G,w⟩:=h;exact w.elim
def Ck(n:Nat)(ds:List D):Lo:=ds.map some++BH (n - ds.length) none
theorem Ku{K}{ρ}{H}{N}{ds}{vs}(r:Ab K ρ H ds vs):DF K ρ H (Ck N.length ds) (start N vs):=by
 refine⟨by simp[Ck,start,r.length],λi d q=>?_⟩;unfold Ck at q;unfold start
 by_cases g:i < ds.length
 ·rw[AN (by simpa using g),Ad]at q
  rw[AN (by rw[AI,<-r.length];exact g),Ad]
  cases e:ds[i]? with
  | none=>rw[e]at q;cases q
  | some m=>
   rw[e]at q;cases q;obtain⟨v,j,l⟩:=r.get e;exact⟨v,by rw[j];rfl,l⟩
 ·rw[Ae (by simpa using g),CG]at q
  split at q <;> cases q
section
variable{X:Cx}
noncomputable def intOp(C:Int->Int->Prop)[∀i j,Decidable (C i j)](g:Int->Int->D):D->D->Sto->Res D
 | .int i,.int j,S=>if C i j then .ok (g i j) S else .bad
 | _,_,_=>.bad
theorem Uj[∀i j,Decidable (C i j)](h:intOp C g a b S=.ok d l):∃i j,a=.int i/\b=.int j/\C i j/\d=g i j/\l=S:=by
 unfold intOp at h;split at h
 ·split at h
  ·rename_i i j _ m
   cases h;exact⟨_,_,rfl,rfl,m,rfl,rfl⟩
  ·cases h
 ·cases h
theorem NR[∀i j,Decidable (C i j)](l:∀ρ H i j,BI X.K ρ H (g i j) (v i j))(h:OpR X f (rI C v)):OpR X f (rD X.K (intOp C g)):=h.imp<|by
 rintro x y H Q ⟨ρ,S,a,b,d,E,m,o,s,A,k⟩
 obtain⟨i,j,rfl,rfl,B,rfl,rfl⟩:=Uj A;cases o;cases s;exact⟨i,j,rfl,rfl,B,k ρ H _ .refl m (l _ _ _ _)⟩
theorem KU(l:∀ρ H i j,BI X.K ρ H (g i j) (v i j))(h:OpR X f (rI0 v)):OpR X f (rD X.K (intOp (λ_ _=>True) g)):=
 NR (C:=λ_ _=>True) l (h.imp λx y H Q ⟨i,j,m,o,_,q⟩=>⟨i,j,m,o,q⟩)
instance(i j:Int):Decidable (XS i j):=inferInstanceAs (Decidable (_/\_))
instance(i j:Int):Decidable (Sj i j):=inferInstanceAs (Decidable (_∨_))
abbrev V5:=intOp (λ_ _=>True) λi j=>.int (i - j)
abbrev LJ:=intOp Sj λi j=>.int (i * j)
abbrev E4:=intOp XS λi j=>.int (i / j)
abbrev Cm:=intOp (λ_ j=>0 < j) λi j=>.int (i % j)
abbrev ltD:=intOp (λ_ _=>True) λi j=>.bl (decide (i < j))
abbrev leD:=intOp (λ_ _=>True) λi j=>.bl (decide (i<=j))
abbrev geD:=intOp (λ_ _=>True) λi j=>.bl (decide (j<=i))
theorem Yu:OpR X (Cq .Sub) (rD X.K V5):=KU (λ_ _ _ _=>.int _) Yn
theorem NQ:OpR X (Cq .Mult) (rD X.K LJ):=NR (λ_ _ _ _=>.int _) Yo
theorem Iw:OpR X (Cq .FloorDiv) (rD X.K E4):=NR (λ_ _ _ _=>.int _) WY
theorem DP:OpR X (Cq .Mod) (rD X.K Cm):=NR (λ_ _ _ _=>.int _) Yp
theorem Qv:OpR X (Bb .Lt) (rD X.K ltD):=KU (λ_ _ _ _=>.bl _) aZ
theorem Xc:OpR X (Bb .LtE) (rD X.K leD):=KU (λ_ _ _ _=>.bl _) aa
theorem ah:OpR X (Bb .GtE) (rD X.K geD):=KU (λ_ _ _ _=>.bl _) ab
noncomputable def Dd:D->D->Sto->Res D
 | .int i,.int j,S=>.ok (.int (i+j)) S
 | .tup g,.tup m,S=>if g.length+m.length<=sizeLine then .ok (.tup (g++m)) S else .bad
 | .ref l,.ref b,S=>match S[l]?,S[b]? with
  | some (.lst g),some (.lst m)=>if g.length+m.length<=sizeLine then .ok (.ref S.length) (S++[.lst (g++m)])else .bad
  | _,_=>.bad
 | _,_,_=>.bad
def aR(K:AB):R2:=λx y H Q=>∃a b g j,x=.ref a/\y=.ref b/\H a=some (.tup g)/\H b=some (.tup j)/\g.length+j.length<=sizeLine /\
 (g=[]->Q (.ref b) H)/\(j=[]->Q (.ref a) H)/\(∀p,H p=none->Q (.ref p) (upd H p (.tup (g++j))))
theorem Wa:OpR X (Cq .Add) (aR X.K):=by
 intro L s N H x y v u Q I O P h;obtain⟨a,b,xs,o,rfl,rfl,A,hb,R,S,T,U⟩:=h;cases O;cases P;obtain⟨B,Y,Z,_⟩:=I.tuple (a:=a) (xs:=xs) (.inl (.inl A));obtain⟨cn,r2,p2,_⟩:=I.tuple (a:=b) (xs:=o) (.inl (.inl hb))
 by_cases j:xs=[]
 ·obtain⟨⟨cls,dd,data,sl⟩,C,E,n,hd⟩:=id Z
  obtain⟨⟨G,l,data2,m⟩,g,J,n2,hd2⟩:=id p2;simp only at E hd J hd2;subst E hd J hd2;have hi:B=[]:=Y.nil_iff.mpr j
  exact Sy ⟨_,C,rfl⟩ ⟨_,g,rfl⟩ M1 RS Gj GK (Ft _ _)
   (tuple_addW0 a b B.toArray cn.toArray n n2 dd l sl m (by simp[hi])) ⟨C,g,⟨.ref b,H,I,rfl,S j⟩⟩
 ·exact WZ L s N H (.ref a) (.ref b) _ _ Q I rfl rfl ⟨a,b,xs,o,rfl,rfl,.inl (.inl A),.inl (.inl hb),j,R,T,λ_ p hp=>U p hp⟩
theorem Ab.nil_of{K}{ρ}{H}{xs}{vs}(r:Ab K ρ H xs vs)(e:vs=[]):xs=[]:=by
 subst e;cases r;rfl
theorem E1:OpR X (Cq .Add) (rD X.K Dd):=(Yr.or (Wa.or Yq)).imp<|by
 rintro x y H Q ⟨l,S,a,b,d,S',j,Y,G,g,k⟩
 cases Y with
 | int i=>
  cases G <;> first | (cases g;done) | skip
  cases g;exact .inl ⟨_,_,rfl,rfl,k l H _ .refl j (.int _)⟩
 | @tup N Z vs A s=>
  cases G with
  | @tup O b1 ws P B=>
   unfold Dd at g;dsimp only at g;split at g
   ·rename_i I
    cases g;refine .inr (.inl ⟨_,_,_,_,rfl,rfl,A,P,by rw[<-s.length,<-B.length];exact I,λe=>?_,λe=>?_,λp C=>?_⟩)
    ·rw[s.nil_of e,List.nil_append]at k
     exact k l H _ .refl j (.tup P B)
    ·rw[B.nil_of e,Bz]at k
     exact k l H _ .refl j (.tup A s)
    ·obtain⟨J,E⟩:=Gq (ho:=.tup (vs++ws)) j C
     exact k l _ _ E J (.tup BE ((s.append B).mono E))
   ·cases g
  | _=>cases g
 | @ref n Z hn=>
  cases G with
  | @ref m b1 dg=>
   unfold Dd at g;dsimp only at g;split at g
   ·rename_i N O A s
    split at g
    ·rename_i I
     cases g;obtain⟨vs,e1,R⟩:=j.ob _ _ _ A hn;obtain⟨T,e2,U⟩:=j.ob _ _ _ s dg;refine .inr (.inr ⟨_,_,_,_,rfl,rfl,e1,e2,by rw[<-R.length,<-U.length];exact I,λp C=>?_⟩);have le:Le X.K l H (l++[p]) (upd H p (.lst (vs++T))):=Le.alloc C;obtain⟨J,E,L⟩:=j.alloc (ho:=.lst (vs++T)) (o:=.lst (N++O)) C ⟨_,BE,(R.append U).mono le⟩;exact k _ _ _ E J (.ref L)
    ·cases g
   ·cases g
  | _=>cases g
 | _=>cases g
def ixD:D->D->Sto->Res D:=λa b S=>match Fx a S,b with
 | some g,.int i=>match atI g i with
  | some d=>.ok d S
  | none=>.bad
 | _,_=>.bad
theorem XF{K}{ρ}{H}{ds}{vs}{i}{d}(r:Ab K ρ H ds vs)(h:atI ds i=some d):∃v,atI vs i=some v/\BI K ρ H d v:=by
 unfold atI at h ⊢;rw[<-r.length]
 cases g:ixN ds.length i with
 | none=>rw[g]at h;cases h
 | some j=>
  rw[g]at h;exact r.get h
theorem ag:IxR X (rD X.K ixD):=(ix_list.or Y7).imp<|by
 rintro x y H Q ⟨l,S,a,b,d,G,j,A,B,g,k⟩
 unfold ixD at g;split at g
 ·rename_i I i C
  split at g
  ·rename_i J hd
   cases g;cases B;obtain⟨p,m,rfl,E,sq⟩:=KS j A C;obtain⟨v,o,s⟩:=XF E hd
   rcases sq with sq | sq
   ·exact .inl ⟨p,m,_,v,rfl,rfl,sq,o,k l H v .refl j s⟩
   ·exact .inr ⟨p,m,_,v,rfl,rfl,sq,o,k l H v .refl j s⟩
  ·cases g
 ·cases g
def Ug(neg:Bool)(x y:D)(S:Sto):Res D:=match y with
 | .non=>match x with
  | .non=>.ok (.bl (!neg)) S
  | _=>.ok (.bl neg) S
 | _=>.bad
theorem Qu:OpR X (Bb .IsNot) (rD X.K (Ug true)):=WX.imp<|by
 rintro x y H Q ⟨j,S,a,b,d,s,l,m,o,g,k⟩
 cases o <;> first | (cases g;done) | skip
 refine⟨rfl,?_⟩
 cases m <;> (cases g;exact k j H _ .refl l (.bl _))
end
def mQ(f:List D->Sto->Res D)(m:ML):ME:=λe S=>(m e S).bind λg j=>okR (f g j)
section
variable{X:Cx}{E:EW}{e:Expr}{es:List Expr}{x:Str}{p pos:Pos}{ml:ML}{id:String}{r:List V->Hp->VK->Prop}{f:List D->Sto->Res D}
def Zd(K:AB)(r:List V->Hp->VK->Prop)(f:List D->Sto->Res D):Prop:=∀l H S o q m d s (Q:VK),BQ K l S H->Ab K l H o m->(SqL K H q m∨SqT K H q m)->f o S=.ok d s ->
 (∀g j z,Le K l H g j->BQ K g s j->BI K g j d z->Q z j)->r [.ref q] H Q
def Zf(K:AB)(r:List V->Hp->VK->Prop)(f:List D->Sto->Res D):Prop:=∀l H S m o d s (Q:VK),BQ K l S H->Ab K l H m o->f m S=.ok d s ->
 (∀g j z,Le K l H g j->BQ K g s j->BI K g j d z->Q z j)->r o H Q
theorem Q5(s:HH X (.builtin id) r)(A:Zd X.K r f)(B:Gl X x)(g:X.mg x=none)(C:Dy x=some (.builtin id))(h:GQ X E e ml)(G:x≠"__name__":=by decide) (I:(x==("__debug__" : Str))=false:=by decide)
  (o:AX [e] X.env=(false,Bt e X.env) :: AX [] X.env:=by rfl):GE X E (.Call (.Name x p) [e] [] pos) (mQ f ml):=(Hf s B g C (Ec h Gy o) G I o rfl).imp<|by
 rintro σ H Q ⟨J,l,S,L,N,g⟩
 refine⟨J,l,S,L,N,g.seq λO P g j R q T U Y Z sq=>?_⟩;obtain⟨d,S',e,k⟩:=g.okR
 exact A j R P O q T d S' Q Y Z sq e λm H' z l' s' r'=>k m H' z (U.trans l') s' r'
theorem Q6(o:HH X (.builtin id) r)(s:Zf X.K r f)(A:Gl X x)(g:X.mg x=none)(B:Dy x=some (.builtin id))(h:GA X E (e :: es) ml)(C:x≠"__name__":=by decide) (G:(x==("__debug__" : Str))=false:=by decide)
  (I:AX (e :: es) X.env=(false,Bt e X.env) :: AX es X.env:=by rfl) (J:(D2 pos (AX es X.env)).any (·.1)=false:=by rfl):GE X E (.Call (.Name x p) (e :: es) [] pos) (mQ f ml):=(Hf o A g B h C G I J).imp<|by
 rintro σ H Q ⟨L,l,S,N,O,g⟩
 refine⟨L,l,S,N,O,g.seq λP R g j T U Y Z r1=>?_⟩;obtain⟨d,S',e,k⟩:=g.okR
 exact s j T R P U d S' Q Z r1 e λm H' z l' s' r'=>k m H' z (Y.trans l') s' r'
def av(ds:List D)(S:Sto):Res D:=.ok (.int ds.length) S
theorem YK:Zd X.K (λxs H Q=>∃p g,xs=[.ref p]/\(SqL X.K H p g∨SqT X.K H p g)/\Q (.int g.length) H) av:=λj H S s q xs d A Q l m sq o k=>by
 cases o;exact⟨q,xs,rfl,sq,k j H _ .refl l (by rw[m.length];exact .int _)⟩
def Mi:List D->Sto->Res D
 | [.int i,.int j],S=>.ok (.int (if j < i then j else i)) S
 | _,_=>.bad
def Mj:List D->Sto->Res D
 | [.int i,.int j],S=>.ok (.int (if j > i then j else i)) S
 | _,_=>.bad
theorem XO:Zf X.K (λxs H Q=>∃i j,xs=[.int i,.int j]/\Q (.int (if j < i then j else i)) H) Mi:=λl H S s xs d A Q m o g k=>by
 unfold Mi at g;split at g
 ·cases g
  cases o with
  | cons a t=>
   cases t with
   | cons b t=>
    cases t;cases a;cases b;exact⟨_,_,rfl,k l H _ .refl m (.int _)⟩
 ·cases g
theorem XQ:Zf X.K (λxs H Q=>∃i j,xs=[.int i,.int j]/\Q (.int (if j > i then j else i)) H) Mj:=λl H S s xs d A Q m o g k=>by
 unfold Mj at g;split at g
 ·cases g
  cases o with
  | cons a t=>
   cases t with
   | cons b t=>
    cases t;cases a;cases b;exact⟨_,_,rfl,k l H _ .refl m (.int _)⟩
 ·cases g
end
noncomputable def Ce(X:Cx)(scope:Fd)(N':List Str)(l:List (Str×AL))(C:AL)(g:AF)(j:Hp)(ex:List AL)(pn:List (AL×Obj)):Cx where
 prog:=X.prog
 w:=X.w
 K:=X.K
 mg:=X.mg
 base:=X.base
 A:=X.A
 N:=N'
 s₀:=g
 H₀:=j
 env:=compEnvC scope l C X.env
 outer:=X.stack
 stack:=X.stack
 ex:=ex
 fn:=λx=>scope.names.lookup x==some .cell
 calm:=X.calm
 pn:=pn
 xe:=λ_ _=>False
theorem Nm:∀(names:List (Str×JW)) (g:List (Str×AL)),(∀y∈names,y.2=.free->∃c,env.cells.lookup y.1=some c)->(∀n c,g.lookup n=some c->env.cells.lookup n=some c) ->
  ∃l,(forIn names g (λ(x:Str×JW) (I:List (Str×AL))=>match x with | (name,kind)=>if (kind==Dh)=true then do let a <-cellOf env name;pure (El ((name,a) :: I))else pure (El I)):Sem (List (Str×AL)))=pure l /\
   (∀n c,l.lookup n=some c->env.cells.lookup n=some c)/\(∀n c,g.lookup n=some c->∃L,l.lookup n=some L)/\∀y∈names,y.2=.free->∃c,l.lookup y.1=some c
 | [],g,_,s=>⟨g,rfl,s,λn c h=>⟨c,h⟩,λ_ h=>nomatch h⟩
 | (n,k) :: r,g,h,s=>by
  rw[Vf]
  by_cases E:k=.free
  ·subst E
   obtain⟨c,J⟩:=h (n,.free) Am rfl
   obtain⟨l,e,G,A,H⟩:=Nm r ((n,c) :: g) (λy j=>h y (Aa _ j)) (λm d o=>by
    rw[BM]at o
    cases B:(m==n)with
    | true=>rw[B]at o;cases o;rw[eq_of_beq B];exact J
    | false=>rw[B]at o;exact s m d o)
   have N:cellOf env n=pure c:=by unfold cellOf;rw[J]
   refine⟨l,?_,G,λm d o=>A m (if m==n then c else d) ?_,λy j C=>?_⟩
   ·simp only[beq_self_eq_true,if_true,N,pure_bind]
    exact e
   ·rw[BM]
    cases B:(m==n)with
    | true=>rfl
    | false=>exact o
   ·rcases A7.mp j with rfl | j
    ·exact A n c (by rw[BM,beq_self_eq_true])
    ·exact H y j C
  ·have hb:(k==Dh)=false:=by simpa using E
   obtain⟨l,e,G,A,H⟩:=Nm r g (λy j=>h y (Aa _ j)) s;refine⟨l,?_,G,A,λy j C=>?_⟩
   ·simp only[hb,BR,if_false,pure_bind]
    exact e
   ·rcases A7.mp j with rfl | j
    ·exact(E C).elim
    ·exact H y j C
theorem RG(h:∀y∈scope.names,y.2=.free->∃c,env.cells.lookup y.1=some c):∃g,PM scope env=pure g /\
  (∀n c,g.lookup n=some c->env.cells.lookup n=some c)/\∀y∈scope.names,y.2=.free->∃c,g.lookup y.1=some c:=by
 obtain⟨g,e,j,_,l⟩:=Nm scope.names [] h (λn c z=>by simp at z);refine⟨g,?_,j,l⟩;unfold PM;exact(congrArg (λz=>z >>= λm=>pure m) e).trans (by rw[pure_bind])
def QS(X:Cx)(g:List Expr)(t:TT):Prop:=
 ∀(l:List (AL×Obj)) (s:AF) (j:St) (H:Hp) (Q:Bool->Hp->Prop),Inv X l j H s->t j H Q ->
  Ac (AW X.prog X.w) X.A (forIn g true λc r=>if r=true then do let ok <-PK c X.env (Bt c X.env);pure (El ok)else pure (El r)) (TP X l j Q) X.xe s
theorem T3:QS X [] (λ_ H Q=>Q true H):=λg s j H Q I h=>wpAny_tests_nil ⟨H,I,h⟩
theorem T2(h:PT X c t):QS X [c] t:=λg s j H Q I q=>wpAny_tests_one (h g s j H Q I q)
structure IY(X:Cx)(scope:Fd)(own N':List Str):Prop where
 kind:scope.kind=.function
 names:∀y∈scope.names,y.2=.local->scope.names.lookup y.1=some .local
 free:∀y∈scope.names,y.2=.free->X.env.kindOf y.1=some .cell∨X.env.kindOf y.1=some .free
 len:N'.length=own.length+X.N.length
 up:∀i x,N'[own.length+i]?=some x->Vis (GJ scope X.env) x->(X.N[i]?=some x/\Vis X.env.scope x/\((GJ scope X.env).names.lookup x=some .cell∨(GJ scope X.env).names.lookup x=some .free)/\X.env.kindOf x≠some .local)/\(x,Bu)∉scope.names/\(x,Dh)∈scope.names
 vis:∀x,((GJ scope X.env).names.lookup x=some .cell∨(GJ scope X.env).names.lookup x=some .free)->(x,Dh)∈scope.names∨(x,Bu)∈scope.names
theorem DU:∀(names:List (Str×JW)) (n:Nat) (j:List (Str×AL)) (x:Str) (c:AL),(BW n names j).lookup x=some c ->
  ((x,Bu)∈names/\n<=c)∨j.lookup x=some c
 | [],_,_,_,_,h=>.inr h
 | (y,k) :: r,n,j,x,c,h=>by
  unfold BW at h;split at h
  ·rename_i l
   have l:k=.cell:=by simpa using l
   subst l
   rcases DU r (n+1) _ x c h with⟨g,m⟩ | g
   ·exact .inl ⟨Aa _ g,J7 m⟩
   ·rw[BM]at g
    cases hb:x==y with
    | true=>rw[hb]at g;cases g;rw[beq_iff_eq.mp hb];exact .inl ⟨Am,AK _⟩
    | false=>rw[hb]at g;exact .inr g
  ·rcases DU r n j x c h with⟨g,m⟩ | g
   ·exact .inl ⟨Aa _ g,m⟩
   ·exact .inr g
theorem B6:∀(names:List (Str×JW)) (n:Nat) (g:List (Str×AL)) (x:Str),(∃c,g.lookup x=some c)->∃c,(BW n names g).lookup x=some c
 | [],_,_,_,h=>h
 | (y,k) :: r,n,g,x,h=>by
  unfold BW;split
  ·refine B6 r (n+1) _ x ?_
   rw[BM]
   cases hb:x==y with
   | true=>exact⟨_,rfl⟩
   | false=>exact h
  ·exact B6 r n g x h
theorem CW:∀(names:List (Str×JW)) (n:Nat) (g:List (Str×AL)) (x:Str),(x,Bu)∈names->∃c,(BW n names g).lookup x=some c/\n<=c
 | (y,k) :: r,n,g,x,h=>by
  unfold BW
  by_cases l:(x,Bu)∈r
  ·split
   ·obtain⟨c,j,o⟩:=CW r (n+1) ((y,n) :: g) x l
    exact⟨c,j,J7 o⟩
   ·exact CW r n g x l
  ·rcases A7.mp h with e | e
   ·cases e
    rw[qX (show(Bu==Bu)=true from rfl)];obtain⟨c,m⟩:=B6 r (n+1) ((y,n) :: g) y ⟨n,by rw[BM,beq_self_eq_true]⟩
    rcases DU r (n+1) _ y c m with⟨j,_⟩ | j
    ·exact(l j).elim
    ·rw[BM,beq_self_eq_true]at j
     cases j;exact⟨n,m,AK _⟩
   ·exact(l e).elim
theorem ID(m:(x,Bu)∉names)(h:g.lookup x=some c):(BW n names g).lookup x=some c:=by
 obtain⟨o,l⟩:=B6 names n g x ⟨c,h⟩
 rcases DU names n g x o l with⟨j,_⟩ | j
 ·exact(m j).elim
 ·rw[h]at j;cases j;exact l
theorem GB:∀(names:List (Str×JW)) (n:Nat) (g:List (Str×AL)),(∀x c,g.lookup x=some c->c < n)->(∀x y c,g.lookup x=some c->g.lookup y=some c->x=y) ->
  ∀x y c,(BW n names g).lookup x=some c->(BW n names g).lookup y=some c->x=y
 | [],_,_,_,h=>h
 | (z,k) :: r,n,g,l,h=>by
  unfold BW;split
  ·have j:∀x c,((z,n) :: g).lookup x=some c->(x=z/\c=n)∨g.lookup x=some c:=λx c q=>by
    rw[BM]at q
    cases hb:x==z with
    | true=>rw[hb]at q;cases q;exact .inl ⟨beq_iff_eq.mp hb,rfl⟩
    | false=>rw[hb]at q;exact .inr q
   refine GB r (n+1) _ (λx c q=>?_) λx y c s A=>?_
   ·rcases j x c q with⟨_,rfl⟩ | e
    ·exact B5 _
    ·exact J6 (l x c e)
   ·rcases j x c s with⟨e,B⟩ | e <;> rcases j y c A with⟨m,o⟩ | m
    ·rw[e,m]
    ·subst B;exact zX (l _ _ m) (Bx _)
    ·subst o;exact zX (l _ _ e) (Bx _)
    ·exact h x y c e m
  ·exact GB r n g l h
theorem F9:∀(names:List (Str×JW)) (h:BY) (g:List (Str×AL)) (x:Str) (c:AL),(BW h.objs.size names g).lookup x=some c->g.lookup x=some c∨((C8 h names).IsCell c none/\h.objs.size<=c)
 | [],_,_,_,_,q=>.inl q
 | (y,k) :: r,h,g,x,c,q=>by
  unfold BW at q;unfold C8;split at q
  ·rename_i j
   rw[qX j];have:=F9 r (h.push { cls:=.type "cell",data:=.cell none }) ((y,h.objs.size) :: g) x c (by rw[DY];exact q)
   rcases this with e | ⟨e,l⟩
   ·rw[BM]at e
    cases hb:x==y with
    | true=>
     rw[hb]at e;cases e;exact .inr ⟨⟨_,N7 _ _ _ _ (AR _ rfl),rfl⟩,AK _⟩
    | false=>rw[hb]at e;exact .inl e
   ·exact .inr ⟨e,by rw[DY]at l;exact J7 l⟩
  ·rename_i j
   rw[qY j];exact F9 r h g x c q
theorem Pb
  (h:Q (newEnv scope s.heap.objs.size globals (BW (s.heap.push { cls:=.type "dict",data:=.dict #[] }).objs.size scope.names C) j none .none (some g) IN) { s with heap:=C8 (s.heap.push { cls:=.type "dict",data:=.dict #[] }) scope.names }) :
  Ac M A (PJ scope globals C [] j none .none (some g)) Q E s:=by
 simp only[PJ,QX,if_true];refine AA (wpAny_alloc ?_);refine AA (wpAny_layCells _ (λB l m=>by cases o:l==Bu <;> simp[o]) _ _ _ _ ?_);rw[MW];exact AA (AH (AH h))
section
theorem QI(J:IY X scope own N')(I:Inv X ζ O L B)(E:∀b∈fp,Lk X ζ L b)(dX:∀b∈fp,b < B.heap.objs.size)
  (g:∀n c,A.lookup n=some c->X.env.cells.lookup n=some c) (c2:∀y∈scope.names,y.2=.free->∃c,A.lookup y.1=some c)
  (P:B.heap.objs.size<=n) (Q:∀x c,(BW n scope.names A).lookup x=some c->A.lookup x=some c∨(s.heap.IsCell c none/\n<=c)) (fX:∀c,n<=c->H c=none)
  (R:B.heap.objs.size<=C) (hn:s.heap.Ns C m) (ee:s.os=B.os) (hg:GU s.gens)
  (u:Un (frs X.stack) fp L H B.heap s.heap) (S:HOk X.prog X.w H s.heap) (dY:H C=none) :
  Inv (Ce X scope N' (BW n scope.names A) C B L fp (X.pn++ζ)) [] (BH own.length none++O) H s:=by
 have l:∀x c v,A.lookup x=some c->B.heap.IsCell c v->s.heap.IsCell c v:=by
  rintro x c v e ⟨o,T,hd⟩
  obtain⟨sl,q⟩:=u.any T (I.freeC x c (g x c e)) λz=>(E c z).2.2.2.2.1 x c (g x c e) rfl
  exact⟨_,q,hd⟩
 have ju:∀x c,A.lookup x=some c->c < n:=λx c e=>by
  obtain⟨v,z⟩:=I.cell x c (g x c e);exact AQ z.lt P
 have jv:(Ce X scope N' (BW n scope.names A) C B L fp (X.pn++ζ)).Ok:=by
  refine⟨I.ok.mod,J.kind,I.ok.glob,I.ok.blt,R,GB _ _ _ ju λx y c h1 h2=>I.ok.inj x y c (g x c h1) (g y c h2),λx hx=>?_,λx c z q=>?_,I.ok.hd,I.ok.frames,.inl rfl,λb hb=>?_,I.bs,Ai I.ok.bsz I.sz,λb o e hb=>?_,λb hb fc=>?_,I.stack,I.stkFree⟩
  ·rcases J.vis x hx with h | h
   ·exact B6 _ _ _ _ (c2 _ h rfl)
   ·obtain⟨c,U,_⟩:=CW scope.names n A x h
    exact⟨c,U⟩
  ·have z:(scope.names.lookup x==some .cell)=true:=z
   obtain⟨c',G,Y⟩:=CW scope.names n A x (Bj (beq_iff_eq.mp z));have q:(BW n scope.names A).lookup x=some c:=q;rw[G]at q;cases q;exact Ai P Y
  ·refine⟨Ak (AQ (dX b hb) R),λx c e=>?_⟩
   rcases Q x c e with e | ⟨_,e⟩
   ·exact(E b hb).2.2.2.2.1 x c (g x c e)
   ·exact HU (AQ (dX b hb) (Ai P e))
  ·obtain⟨_,_,_,z,_⟩:=E b hb
   rcases z with z | z
   ·exact I.ok.noex b o e z
   ·exact zX (AQ (AV (I.ok.bs b o e).1) z) (Bx _)
  ·obtain⟨_,z1,z2,_⟩:=E b hb
   rcases A7.mp (I.stkSub b fc)with e | e
   ·exact z1 e
   ·exact z2 e
 refine⟨jv,ee,hg,u,⟨m,hn,λi x v e1 N e3=>?_⟩,λx c e=>?_,dY,λx c e=>?_,λp Z=>?_,S,?_⟩
 ·have hi:own.length<=i:=by
   apply Ex
   intro cf;rw[AN (by simpa using cf),CG,qX cf]at N;cases N
  obtain⟨j,rfl⟩:∃j,i=own.length+j:=⟨i - own.length,by lia⟩
  rw[Ae (by simp)]at N
  have gC:O[j]?=some (some v):=by simpa using N
  obtain⟨⟨n1,n2,n3,n4⟩,n5,n6⟩:=J.up j x e1 e3;obtain⟨m0,gD,Y⟩:=I.loc;obtain⟨w',r,lk⟩:=Y j x v n1 gC n2;refine⟨w',r,.inr ⟨n3,?_⟩⟩
  rcases lk with⟨k,_⟩ | ⟨_,c,U,cm⟩
  ·exact(n4 k).elim
  ·obtain⟨c',G⟩:=c2 _ n6 rfl
   have e:=g x c' G;rw[U]at e;cases e;exact⟨c,ID n5 G,l x c _ G cm⟩
 ·rcases Q x c e with e | ⟨e,_⟩
  ·obtain⟨v,z⟩:=I.cell x c (g x c e)
   exact⟨v,l x c v e z⟩
  ·exact⟨none,e⟩
 ·rcases Q x c e with e | ⟨_,e⟩
  ·obtain⟨v,o,T,hd⟩:=I.cell x c (g x c e)
   exact u.free c o T (I.freeC x c (g x c e)) λz=>(E c z).2.2.2.2.1 x c (g x c e) rfl
  ·exact fX c e
 ·have iA:p∈X.pn++ζ:=by
   have Z:p∈(X.pn++ζ)++[]:=Z;rwa [Bz]at Z
  obtain⟨e,n,ne,nf,d⟩:=I.pin p iA
  have iB:p.1∉frs X.stack:=λz=>(A7.mp (I.stkSub _ z)).elim ne nf
  have iC:p.1∉fp:=λz=>(E _ z).2.2.2.2.2 p iA rfl
  exact⟨u.keep p.1 p.2 e n iB iC,u.free p.1 p.2 e n iC,Ak (AQ (AV e) R),iB,d⟩
 ·show(BH own.length none++O).length=N'.length
  rw[Ao,Ht,I.len,J.len]
def Te(k:Nat)(L:TI)(g:TG)(tc:TT)(te:TE):TE:=λB H Q=>L B H λJ C=>∀p,C p=none->∃W:Nat->Nat->St->Hp->List V->Prop,(∃m,W 0 m (BH k none++B) (upd C p (.lst [])) []) /\
 ∀i m s o l,W i m s o l->o p=some (.lst l)/\((J.stop i o/\Q (.ref p) o)∨(J.go i o/\l.length < sizeLine/\∀x E,J.yld i o x E->g x s E λj N=>tc j N λb G=>
  if b=true then te j G λy I=>I p=some (.lst l)/\∃A,A < m/\W (i+1) A j (upd I p (.lst (l++[y]))) (l++[y])else ∃A,A < m/\W (i+1) A j G l))
theorem SW{X':Cx}{H ϖ iter:Expr}{I:List Expr}{pos:Pos}{J:It}{it p:AL}{tn:Nat->BY->Prop}{g:TG}{tc:TT}{te:TE}{R:M2->AF->Prop}{Q:Hp->Prop}
  (hc:X'.calm=true) (hx:X'.xe=λ_ _=>False) (T:Sg X'.prog X'.w X'.K ϖ J fp it tn) (hg:PG X' ϖ g) (dw:QS X' I tc) (he:PE X' H te)
  (W:Nat->Nat->St->Hp->List V->Prop) (Y:∀i m j H' xs,W i m j H' xs->H' p=some (.lst xs)/\((J.stop i H'/\Q H')∨(J.go i H'/\xs.length < sizeLine/\∀x dv,J.yld i H' x dv->g x j dv λC H2=>tc C H2 λb H3=>
   if b=true then te C H3 λy H4=>H4 p=some (.lst xs)/\∃B,B < m/\W (i+1) B C (upd H4 p (.lst (xs++[y]))) (xs++[y])else ∃B,B < m/\W (i+1) B C H3 xs)))
  (fin:∀j H' s',Inv X' [] j H' s'->Q H'->R (.ok .next) s')
  {m0:Nat} {L:St} {H0:Hp} {s0:AF} (I0:Inv X' [] L H0 s0) (jw:tn 0 s0.heap) (f0:∀b∈fp,Lk X' [] H0 b) (w0:W 0 m0 L H0 []) :
  Dx (AW X'.prog X'.w) X'.A (.compLoop (.ListComp H [⟨ϖ,iter,I,0⟩] scope pos) 0 (.ref it) (.ref p) X'.env) R s0:=by
 have cV:∀{H':Hp},(∀b∈fp,H' b=none)->∀b∈fp,Lk X' [] H' b:=λhn b hb=>⟨hn b hb,(f0 b hb).2⟩
 refine codeAny_loop rfl (λn s'=>∃i j H' xs,Inv X' [] j H' s'/\tn i s'.heap/\(∀b∈fp,H' b=none)/\W i n j H' xs) (λn s1 hI=>?_) m0 ⟨0,L,H0,[],I0,jw,λb hb=>(f0 b hb).1,w0⟩;obtain⟨i,l,H1,xs,I1,bw,iD,w1⟩:=hI;show Ac _ X'.A ((compTurn (.ListComp H [⟨ϖ,iter,I,0⟩] scope pos) 0 (.ref it) (.ref p) X'.env).onRaise (λx=>do noteFrame x X'.env;theTreesLotGoes x)) _ _ s1;refine wpAny_noted ?_;rw[compTurn_list]
 have up:∀{α:Type} {t:Sem α} {P:α->AF->Prop} {E:AC->AF->Prop} {s:AF},Ac (AW X'.prog X'.w) X'.A t P X'.xe s->Ac (AW X'.prog X'.w) X'.A t P E s:=λh=>CZ h (λ_ _ z=>z) λ_ _ z=>by rw[hx]at z;exact z.elim
 obtain⟨hp,fe⟩:=Y i n l H1 xs w1;refine AA (wpAny_standAt (AA ?_))
 rcases fe with⟨Z,q⟩ | ⟨go,hz,step⟩
 ·refine up (thn (T.done X' rfl rfl rfl hc i [] s1 l H1 X'.xe I1 (cV iD) bw Z) λr s4 ⟨hr,I4⟩=>?_)
  subst hr;exact AH (fin l H1 s4 I4 q)
 ·refine up (thn (T.item X' rfl rfl rfl hc i [] s1 l H1 X'.xe I1 (cV iD) bw go) λr s4 ⟨u,hr,h4⟩=>?_)
  subst hr;refine AA (up (thn h4 λ_ s5 ⟨x,H5,I5,r5,y5,dB,fr5⟩=>?_));have gs:=I5.pinned (cV fr5) (T.obj _ _ dB);refine AA (up (thn (hg _ s5 l H5 x u _ gs r5 (step x H5 y5)) λ_ s6 ⟨N,H6,I6,q6⟩=>?_))
  have again:∀{O:AF} {G:St} {S:Hp} {ys:List V},Inv X' ([]++LB fp s5.heap) G S O->(∃B,B < n/\W (i+1) B G S ys)->∃m,m < n/\∃i j H' xs,Inv X' [] j H' O/\tn i O.heap/\(∀b∈fp,H' b=none)/\W i m j H' xs:=λ{O G S ys} U ⟨B,hm,w7⟩=>by
   refine⟨B,hm,i+1,G,S,ys,U.unpinned,T.keep _ _ _ dB λb hb o e=>(U.pin (b,o) (Az _ (Az _ (G2 hb e)))).1,λb hb=>?_,w7⟩;obtain⟨o,e,d⟩:=T.obj _ _ dB b hb;exact(U.pin (b,o) (Az _ (Az _ (G2 hb e)))).2.1
  refine AA (up (thn (dw _ s6 N H6 _ I6 q6) λok O ⟨S,U,q7⟩=>?_))
  cases ok with
  | false=>
   rw[qY AZ]at q7;exact AH ⟨rfl,again U q7⟩
  | true=>
   rw[qX rfl]at q7;refine AA (AA (up (thn (he _ O N S _ U q7) λyv s8 ⟨y,H8,I8,r8,hp8,q8⟩=>?_)));refine AA (up (thn (Mh (X:=X') _ s8 N H8 (.ref p) [y] (.ref p) [yv] (λv H9=>v=.non/\H9=upd H8 p (.lst (xs++[y]))) I8 rfl (.cons r8 .nil) ⟨p,xs,y,rfl,rfl,hp8,hz,rfl,rfl⟩) λv9 s9 ⟨v,H9,I9,r9,e9,e10⟩=>?_));subst e10;exact AH (AH ⟨rfl,again I9 q8⟩)
end
section
theorem Mp(H:Inv X A I m j)(J:Inv (Ce X scope N' U C j m fp (X.pn++A)) [] L H' s')(N:j.heap.objs.size<=C)(O:∀b∈fp,Lk X A m b)
  (s:Fb C s'.heap h'):Inv X A I H' { s' with heap:=h' }:=by
 have B:∀b o,j.heap.get? b=some o->b≠C:=λb o e=>Ak (AQ (AV e) N)
 have g:Un (frs X.stack) fp m H' j.heap s'.heap:=J.base
 have u:Un (frs X.stack) fp m H' j.heap h':=by
  refine⟨λb o e n hb l=>(s.2 b (B b o e)).trans (g.keep b o e n hb l),λb o e n hb l=>?_,g.free,λb o e l=>?_,g.tups,g.frzs,g.tbls⟩
  ·obtain⟨sl,q⟩:=g.slot b o e n hb l
   exact⟨sl,(s.2 b (B b o e)).trans q⟩
  ·obtain⟨P,q⟩:=g.there b o e l
   exact⟨P,(s.2 b (B b o e)).trans q⟩
 have G:H' C=none:=J.free
 have E:HOk X.prog X.w H' h':=λa o e=>(J.hok a o e).stay (λb u hb q=>(s.2 b λz=>by
  subst z
  rcases hb with z | z
  ·subst z;rw[G]at e;cases e
  ·rw[G]at z;cases z).trans q) (λ_ q=>q) λ_ _ q=>q
 exact H.call' (s':={ s' with heap:=h' }) (ch:=fp) J.os u E J.bare λb hb=>by
  obtain⟨_,Q,Y,R,S,T⟩:=O b hb;exact⟨R,Q,S,T⟩
theorem Lb{σ:St}{E:AC->AF->Prop}{Qf:AL->Hp->Prop}{RR:AC->AL->M2->AF->Prop}{it:AL}{J:It}{tn:Nat->BY->Prop}(hc:X.calm=true)(Sc:IY X scope own N')
  (hg:∀H C l B ex Y,PG (Ce X scope N' H C l B ex Y) ϖ g) (dw:∀H C l B ex Y,QS (Ce X scope N' H C l B ex Y) Z tc) (he:∀H C l B ex Y,PE (Ce X scope N' H C l B ex Y) elt te)
  (c1:∀n c,H.lookup n=some c->X.env.cells.lookup n=some c) (c2:∀y∈scope.names,y.2=.free->∃c,H.lookup y.1=some c)
  (U:Inv X ζ σ I s2) (T:Sg X.prog X.w X.K ϖ J fp it tn) (bf:tn 0 s2.heap) (f2:∀b∈fp,Lk X ζ I b)
  (q2:∀p,I p=none->∃W:Nat->Nat->St->Hp->List V->Prop,(∃m,W 0 m (BH own.length none++σ) (upd I p (.lst [])) []) /\
   ∀i m L H' xs,W i m L H' xs->H' p=some (.lst xs)/\((J.stop i H'/\Qf p H')∨(J.go i H'/\xs.length < sizeLine/\∀x dv,J.yld i H' x dv->g x L dv λN I=>tc N I λb G=>
    if b=true then te N G λy j=>j p=some (.lst xs)/\∃m',m' < m/\W (i+1) m' N (upd j p (.lst (xs++[y]))) (xs++[y])else ∃m',m' < m/\W (i+1) m' N G xs)))
  (jx:∀D C H L H' s',s2.heap.objs.size<=C->Inv (Ce X scope N' H C s2 I fp (X.pn++ζ)) [] L H' s'->Qf D H'->RR (.ref D) C (.ok .next) s') :
  Ac (AW X.prog X.w) X.A (newList []) (λacc s₃=>Ac (AW X.prog X.w) X.A (PJ scope X.env.globals H [] X.env.qual none .none (some X.env)) (λff s₄=>
   Dx (AW X.prog X.w) X.A (.compStart (.ListComp elt [⟨ϖ,iter,Z,0⟩] scope pos) 0 (.ref it) acc { ff with scope:=GJ scope X.env }) (RR acc ff.locals) s₄) E s₃) E s2:=by
 have dX:∀b∈fp,b < s2.heap.objs.size:=λb hb=>by
  obtain⟨o,e,_⟩:=T.obj _ _ bf b hb;exact AV e
 refine Bq (Pb ?_);dsimp only;generalize R:s2.heap.push { cls:=.type "list",dict:=none,data:=.seq ([]:List AC).toArray }=G;generalize S:G.push { cls:=.type "dict",data:=.dict #[] }=j
 have hC:G.objs.size=s2.heap.objs.size+1:=by rw[<-R,DY]
 have jy:j.objs.size=G.objs.size+1:=by rw[<-S,DY]
 have lO:s2.heap.objs.size≠G.objs.size:=by rw[hC];exact Ak (B5 _)
 have dF:s2.heap.objs.size<=G.objs.size:=by rw[hC];exact RW _
 have fg:s2.heap.objs.size<=j.objs.size:=by rw[jy];exact Nat.le_succ_of_le dF
 have fh:∀b o,G.get? b=some o->(C8 j scope.names).get? b=some o:=λb o e=>N7 _ _ _ _ (S▸AE _ e)
 have O:∀b o,s2.heap.get? b=some o->(C8 j scope.names).get? b=some o:=λb o e=>fh b o (R▸AE _ e)
 have cR:(C8 j scope.names).get? s2.heap.objs.size=some { cls:=.type "list",dict:=none,data:=.seq ([]:List AC).toArray }:=fh _ _ (R▸AR _ rfl)
 have gF:(C8 j scope.names).Ns G.objs.size λ_=>none:=by
  have:=(BY.Ns.new G (.type "dict")).keeps (N7 scope.names (G.push { cls:=.type "dict",data:=.dict #[] }));rw[S]at this;exact this
 have hD:I s2.heap.objs.size=none:=U.hok.fresh (AK _);have u:Un (frs X.stack) fp I (upd I s2.heap.objs.size (.lst [])) s2.heap (C8 j scope.names):=Un.laid O (AK _) hD;have hok:HOk X.prog X.w (upd I s2.heap.objs.size (.lst [])) (C8 j scope.names):=U.hok.laid O (AK _) ⟨CA _,[],0,.nil,cR⟩
 have fX:∀c,s2.heap.objs.size < c->upd I s2.heap.objs.size (.lst []) c=none:=λc h=>by rw[BC (HU h)];exact U.hok.fresh (HV h)
 have dY:upd I s2.heap.objs.size (.lst []) G.objs.size=none:=fX _ (by rw[hC];exact B5 _)
 have cT:∀x c,(BW j.objs.size scope.names H).lookup x=some c->H.lookup x=some c∨((C8 j scope.names).IsCell c none/\j.objs.size<=c):=λx c e=>F9 scope.names j H x c e
 obtain⟨W,⟨m0,w0⟩,turn⟩:=q2 s2.heap.objs.size hD
 have P:∀s₃:AF,s₃={ s2 with heap:=C8 j scope.names } ->
   Dx (AW X.prog X.w) X.A (.compLoop (.ListComp elt [⟨ϖ,iter,Z,0⟩] scope pos) 0 (.ref it) (.ref s2.heap.objs.size) (compEnvC scope (BW j.objs.size scope.names H) G.objs.size X.env))
    (RR (.ref s2.heap.objs.size) G.objs.size) s₃:=by
  rintro s₃ rfl
  have J0:Inv (Ce X scope N' (BW j.objs.size scope.names H) G.objs.size s2 I fp (X.pn++ζ)) [] (BH own.length none++σ) (upd I s2.heap.objs.size (.lst [])) { s2 with heap:=C8 j scope.names }:=
   QI (s:={ s2 with heap:=C8 j scope.names }) Sc U f2 dX c1 c2 fg cT (λc h=>fX c (by lia)) dF gF rfl U.bare u hok dY
  refine SW (X':=Ce X scope N' (BW j.objs.size scope.names H) G.objs.size s2 I fp (X.pn++ζ)) (fp:=fp) (Q:=Qf s2.heap.objs.size) hc rfl T (hg _ _ _ _ _ _) (dw _ _ _ _ _ _) (he _ _ _ _ _ _) W turn (λL H' s' J q=>jx _ _ _ L H' s' dF J q) J0 (T.keep _ _ _ bf λb _ o e=>O b o e) (λb hb=>?_) w0;obtain⟨z0,z1,z2,z3,z4,z5⟩:=f2 b hb;refine⟨by rw[BC (Ak (dX b hb))];exact z0,Ak (AQ (dX b hb) dF),λz=>?_,.inl hb,λx c e=>?_,λp hp=>?_⟩
  ·exact(A7.mp (U.stkSub _ z)).elim z1 z2
  ·rcases cT x c e with e | ⟨_,e⟩
   ·exact z4 x c (c1 x c e)
   ·exact HU (AQ (dX b hb) (Ai fg e))
  ·have hp:p∈(X.pn++ζ)++[]:=hp
   rw[Bz]at hp;exact z5 p hp
 exact codeAny_compStart_list (P _ rfl) (T.self X.A 0 _ _ _ (T.keep _ _ _ bf λb _ o e=>O b o e) (P _ rfl))
theorem WT(Z:X.calm=true)(E:IY X scope own N')(hi:PI X P iter wi)
  (hg:∀o C j l ex B,PG (Ce X scope N' o C j l ex B) P g) (dw:∀o C j l ex B,QS (Ce X scope N' o C j l ex B) G tc) (he:∀o C j l ex B,PE (Ce X scope N' o C j l ex B) L te)
  (hs:∀x,Dg iter X.env x=pure x:=by intro _;rfl):PE X (.ListComp L [⟨P,iter,G,0⟩] scope pos) (Te own.length wi g tc te):=by
 intro R s S H Q I h;rw[eval_ListComp];obtain⟨o,dy,c1,c2⟩:=RG (scope:=scope) (env:=X.env) (λy hy hf=>I.ok.has y.1 (E.free y hy hf));refine RQ (use:=none) rfl hs dy E.kind E.names (thn (hi R s S H _ I h) λv s1 h1=>thn h1 λitv s2 h2=>?_);obtain⟨it,fp,tn,J,H2,rfl,U,T,bf,Y,q2⟩:=h2
 refine Lb (Qf:=λp N=>Q (.ref p) N) (RR:=λO C=>compPost (AW X.prog X.w) X.A X.xe none (EP X R S Q) O C) Z E hg dw he c1 c2 U T bf Y q2 λD C jz σ' N s' hC J q=>?_
 obtain⟨m,hn,_⟩:=J.loc;exact⟨m,hn,λh' sb=>⟨.ref D,N,Mp U J hC Y sb,rfl,q⟩⟩
theorem WH{i:Nat}{y:Str}{G dG:Pos}(hc:X.calm=true)(gH:DX (.ListComp B [⟨U,iter,E,0⟩] scope pos) (some (.Name y G)) dG.line X.env=pure true)
  (hN:X.N.Nodup) (hy:X.N[i]?=some y) (ej:Loc X.env.scope y) (Y:IY X scope own N') (hi:PI X U iter wi)
  (hg:∀L C j l ex P,PG (Ce X scope N' L C j l ex P) U g) (dw:∀L C j l ex P,QS (Ce X scope N' L C j l ex P) E tc) (he:∀L C j l ex P,PE (Ce X scope N' L C j l ex P) B te)
  (hs:∀x,Dg iter X.env x=pure x:=by intro _;rfl) (hf:X.fn y=true∨X.env.scope.names.lookup y=some .local:=by first | exact .inl rfl | exact .inr rfl | assumption) :
  PS X (.Assign [.Name y G] (.ListComp B [⟨U,iter,E,0⟩] scope pos) dG) (aI (Te own.length wi g tc te) (Q8 i)):=by
 intro Z s σ H D I h;rw[exec_Assign_Name_used _ _ _ _ gH];refine AA (wpAny_standAt (AA ?_));show Ac _ X.A (do let _ <-comprehension (.ListComp B [⟨U,iter,E,0⟩] scope pos) scope X.env _ (newList []) false (Bt iter X.env) (some (PP (.Name y G) X.env))) _ _ s;obtain⟨L,dy,c1,c2⟩:=RG (scope:=scope) (env:=X.env) (λy hy hf=>I.ok.has y.1 (Y.free y hy hf))
 refine AA (CZ (RQ (use:=some (PP (.Name y G) X.env)) (Q:=λ_ s'=>SP X Z D .next s') rfl hs dy Y.kind Y.names
  (thn (hi Z s σ H _ I h) λv s1 h1=>thn h1 λitv s2 h2=>?_)) (λ_ s' hq=>AH (AH hq)) λ_ _ e=>e)
 obtain⟨it,fp,tn,J,H2,rfl,O,T,bf,f2,q2⟩:=h2
 refine Lb (Qf:=λp R=>D.nx (σ.set i (some (.ref p))) R) (RR:=λacc C=>compPost (AW X.prog X.w) X.A X.xe (some (PP (.Name y G) X.env)) (λ_ s'=>SP X Z D .next s') acc C) hc Y hg dw he c1 c2 O T bf f2 q2 λA C jz σ' R s' S J q=>?_
 obtain⟨m,hn,_⟩:=J.loc;have I3:Inv X Z σ R s':=Mp O J S f2 (ba ..);have dY:R C=none:=J.free
 have cm:∀x c,X.env.cells.lookup x=some c->c≠C:=λx c e z=>by
  obtain⟨v,q⟩:=O.cell x c e;exact zX (AQ q.lt (by rw[z];exact S)) (Bx _)
 have dZ:C≠X.env.locals:=HU (AQ O.lt S);show Ac _ X.A (PP (.Name y G) X.env (.ref A)) _ _ s';refine Zg (Ma (v:=.ref A) I3 hN hy ej rfl (λs4 I4 ⟨a,sb,ha⟩=>?_) hf)
 have jA:C≠a:=by
  rcases ha with e | e
  ·rw[e];exact dZ
  ·exact B2 (cm _ _ e)
 refine⟨m,hn.sameBut sb jA,λh' jB=>⟨_,R,?_,q⟩⟩
 refine I4.turned (t':=s4.toks) (it:=C) (λb o hb e=>(jB.2 b hb).trans e) dY dZ (.inr (Ai O.sz S)) cm λp hp z=>?_
 exact zX (AQ (AV (O.pin p hp).1) (by rw[z];exact S)) (Bx _)
end
def Dv(v:MP)(g:MG)(c:MT)(m:ME):Nat->Nat->Lo->Sto->List D->Res (List D)
 | k,i,e,S,j=>match v S with
  | none=>.bad
  | some s=>match s[i]? with
   | none=>.ok j S
   | some d=>match k with
    | 0=>.bad
    | k+1=>if j.length < sizeLine then(okR (g d e S)).bind λl A=>(okR (c l A)).bind λb o=>if b=true then(okR (m l o)).bind λy B=>Dv v g c m k (i+1) l B (j++[y])else Dv v g c m k (i+1) l o j else .bad
def Em(n:Nat)(l:MI)(g:MG)(c:MT)(m:ME):ML:=λe S=>(l e S).bind λv j=>Dv v g c m (CS v j) 0 (BH n none++e) j []
def Gg:MT:=λ_ S=>.ok true S
section
abbrev XR(X:Cx)(E:EW)(g:List Expr)(c:MT):Prop:=QS X g (gT X.K E c)
theorem Hl:XR X E [] Gg:=by
 rintro g s j H Q I ⟨m,l,S,B,o,A⟩
 exact T3 g s j H Q I (A m H .refl o)
theorem JC(h:GT X E e c):XR X E [e] c:=T2 h
theorem DF.grow{K}{ρ}{H}{e}{j}(n:Nat)(h:DF K ρ H e j):DF K ρ H (BH n none++e) (BH n none++j):=by
 refine⟨by simp[h.len],λi d q=>?_⟩
 by_cases g:i < n
 ·rw[AN (by simpa using g),CG,qX g]at q
  cases q
 ·rw[Ae (by simpa using g)]at q ⊢
  simp only[Ht]at q ⊢;exact h.at' _ d q
theorem Bg.ok_of{g:Type}{K:AB}{E:EH}{ρ:List AL}{H:Hp}{r:Res g}{k:g->Sto->Prop}{a:g}{S:Sto}(e:r=.ok a S)(h:k a S):Bg K E ρ H r k:=by
 subst e;exact h
theorem LG{g j:Type}{r:Res g}{F:g->Sto->Res j}{b:j}{S:Sto}(h:(okR r).bind F=.ok b S):∃a S1,r=.ok a S1/\F a S1=.ok b S:=by
 cases r with
 | ok a S1=>exact⟨a,S1,rfl,h⟩
 | err c S1=>cases h
 | bad=>cases h
theorem Ox:∀(k i:Nat) (e:Lo) (S:Sto) (j:List D),Dv v g c m k i e S j≠.err er S':=by
 intro k
 induction k with
 | zero=>
  intro i e S j h;unfold Dv at h;split at h
  ·cases h
  ·split at h <;> cases h
 | succ k A=>
  intro i e S j h;unfold Dv at h;split at h
  ·cases h
  ·split at h
   ·cases h
   ·dsimp only at h
    split at h
    ·cases l:g _ e S with
     | ok B C=>
      rw[l]at h;dsimp only[okR,Res.bind]at h
      cases o:c B C with
      | ok b E=>
       rw[o]at h;dsimp only[okR,Res.bind]at h
       cases b with
       | true=>
        rw[qX rfl]at h
        cases s:m B E with
        | ok y G=>rw[s]at h;exact A _ _ _ _ h
        | err _ _=>rw[s]at h;cases h
        | bad=>rw[s]at h;cases h
       | false=>
        rw[qY AZ]at h;exact A _ _ _ _ h
      | err _ _=>rw[o]at h;cases h
      | bad=>rw[o]at h;cases h
     | err _ _=>rw[l]at h;cases h
     | bad=>rw[l]at h;cases h
    ·cases h
theorem OL{K:AB}{n:Nat}{σ:St}{H:Hp}{Q:VK}(h:gL K E (Em n mi g c m) σ H Q):Te n (gI K E mi) (gG K g) (gT K noE c) (gE K noE m) σ H Q:=by
 obtain⟨ρ,l,S,hl,hs,P⟩:=h;refine⟨ρ,l,S,hl,hs,P.seq λv X P ρ1 H1 J l1 s1 vo p hp=>?_⟩
 obtain⟨Y,U,P,k⟩:∃Y U,Dv v g c m (CS v X) 0 (BH n none++l) X []=.ok Y U/\∀N H' p I,Le K ρ H N H'->BQ K N U H'->Ab K N H' Y I->H' p=some (.lst I)->(∀n:Nat,N[n]?≠some p)->H p=none->Q (.ref p) H':=by
  cases hc:Dv v g c m (CS v X) 0 (BH n none++l) X []with
  | ok Y U=>rw[hc]at P;exact⟨Y,U,rfl,P⟩
  | err c U=>exact(Ox _ _ _ _ _ hc).elim
  | bad=>rw[hc]at P;exact P.elim
 obtain⟨jC,fi⟩:=Gq (ho:=.lst []) s1 hp;have fb:H p=none:=l1.back hs s1 hp
 refine⟨λi j σ2 R I=>∃B e2 Z G,Le K ρ1 H1 B R/\DF K B R e2 σ2/\BQ K B Z R/\Ab K B R G I/\R p=some (.lst I)/\(∀q:Nat,B[q]?≠some p)/\Dv v g c m j i e2 Z G=.ok Y U,
  ⟨CS v X,ρ1,_,X,[],fi,(hl.mono (l1.trans fi)).grow n,jC,.nil,BE,λq e=>s1.notIn hp e,P⟩,?_⟩
 rintro i j σ2 R I ⟨B,e2,Z,G,l2,r2,s2,ra,eY,cM,A⟩;refine⟨eY,?_⟩;unfold Dv at A
 cases hv:v Z with
 | none=>rw[hv]at A;cases A
 | some vs=>
  rw[hv]at A;dsimp only at A;obtain⟨v1,v2⟩:=vo B R Z vs i l2 s2 hv
  cases hd:vs[i]? with
  | none=>
   rw[hd]at A;cases A;exact .inl ⟨v1 hd,k B R p I (l1.trans l2) s2 ra eY cM fb⟩
  | some d=>
   rw[hd]at A;dsimp only at A;obtain⟨go,yl⟩:=v2 d hd
   cases j with
   | zero=>cases A
   | succ j=>
    dsimp only at A;split at A
    ·rename_i hz
     obtain⟨e3,S3,h3,A⟩:=LG A;obtain⟨b,S4,h4,A⟩:=LG A;refine .inr ⟨go,by rw[<-ra.length];exact hz,λx H' y=>?_⟩;obtain⟨ρ3,l3,s3,rd⟩:=yl x H' y;obtain⟨jD,jE⟩:=l3.oth p _ eY cM;refine⟨ρ3,e2,Z,d,rd,r2.mono l3,s3,Bg.ok_of h3 λρ4 H4 σ4 l4 s4 r4=>?_⟩;obtain⟨jF,jG⟩:=l4.oth p _ jD jE;refine⟨ρ4,e3,S3,r4,s4,Bg.ok_of h4 λρ5 H5 T s5=>?_⟩;obtain⟨iE,iF⟩:=T.oth p _ jF jG
     cases b with
     | false=>
      rw[qY AZ]at A ⊢;exact⟨j,B5 j,ρ5,e3,S4,G,l2.trans (l3.trans (l4.trans T)),r4.mono T,s5,ra.mono (l3.trans (l4.trans T)),iE,iF,A⟩
     | true=>
      rw[qX rfl]at A ⊢;obtain⟨yv,S5,h5,A⟩:=LG A;refine⟨ρ5,e3,S4,r4.mono T,s5,Bg.ok_of h5 λs C y6 l6 s6 r6=>?_⟩;obtain⟨fY,iG⟩:=l6.oth p _ iE iF
      have l7:∀O,Le K s C s (upd C p (.lst O))->True:=λ_ _=>trivial
      have jH:∀O:List V,BQ K s S5 (upd C p (.lst O))/\(∀a o,Cv K s C a o->a≠p->Cv K s (upd C p (.lst O)) a o)/\∀e' w',BI K s C e' w'->BI K s (upd C p (.lst O)) e' w':=λO=>by
       have L:=D8 (H:=C) (p:=p) (ho:=.lst O) (.inr (by rw[fY];trivial))
       have mono:∀e' w',BI K s C e' w'->BI K s (upd C p (.lst O)) e' w':=λe' w' r=>r.keep L.1 L.2
       have iH:∀a o,Cv K s C a o->a≠p->Cv K s (upd C p (.lst O)) a o:=λa o r ne=>r.keep L.1 L.2 (BC ne)
       exact⟨⟨s6.len,s6.nd,λn o a q1 q2=>iH a o (s6.ob n o a q1 q2) λz=>iG n (by rw[<-z];exact q2)⟩,iH,mono⟩
      obtain⟨u1,u2,u3⟩:=jH (I++[y6]);refine⟨fY,j,B5 j,s,e3,S5,G++[yv],?_,?_,u1,?_,BE,iG,A⟩
      ·have lx:=l2.trans (l3.trans (l4.trans (T.trans l6)))
       have L:=D8 (H:=C) (p:=p) (ho:=.lst (I++[y6])) (.inr (by rw[fY];trivial))
       exact⟨lx.pre,λa zs q=>L.1 a zs (lx.tup a zs q),λa o u q=>L.2 a o u (lx.frz a o u q),λa o q z=>by
        have jI:a≠p:=CC q hp;obtain⟨z1,z2⟩:=lx.oth a o q z
        exact⟨by rw[BC jI];exact z1,z2⟩⟩
      ·have rr:=r4.mono (T.trans l6)
       exact⟨rr.len,λq d' hq=>by
        obtain⟨w',z1,z2⟩:=rr.at' q d' hq
        exact⟨w',z1,u3 _ _ z2⟩⟩
      ·have jJ:=ra.mono (l3.trans (l4.trans (T.trans l6)))
       have L:=D8 (H:=C) (p:=p) (ho:=.lst (I++[y6])) (.inr (by rw[fY];trivial));exact(jJ.keep L.1 L.2).append (.cons (u3 _ _ r6) .nil)
    ·cases A
theorem JB(H:X.calm=true)(I:IY X scope own N')(hi:GI X E G iter J)
  (L:∀o C j l ex s,GG (Ce X scope N' o C j l ex s) G g) (N:∀o C j l ex s,XR (Ce X scope N' o C j l ex s) noE A c) (O:∀o C j l ex s,GE (Ce X scope N' o C j l ex s) noE B m)
  (P:∀x,Dg iter X.env x=pure x:=by intro _;rfl):GL X E (.ListComp B [⟨G,iter,A,0⟩] scope pos) (Em own.length J g c m):=
 (WT (g:=gG X.K g) (tc:=gT X.K noE c) (te:=gE X.K noE m) H I hi L N O P).imp λ_ _ _ h=>OL h
theorem Ka(hc:X.calm=true)(gH:DX (.ListComp B [⟨R,iter,G,0⟩] scope pos) (some (.Name y py)) dG.line X.env=pure true)
  (hN:X.N.Nodup) (hy:X.N[i]?=some y) (ej:Loc X.env.scope y) (Sc:IY X scope own N') (hi:GI X E R iter mi)
  (hg:∀I C j s ex J,GG (Ce X scope N' I C j s ex J) R g) (dw:∀I C j s ex J,XR (Ce X scope N' I C j s ex J) noE G c) (he:∀I C j s ex J,GE (Ce X scope N' I C j s ex J) noE B m)
  (T:∀x,Dg iter X.env x=pure x:=by intro _;rfl) (hf:X.fn y=true∨X.env.scope.names.lookup y=some .local:=by first | exact .inl rfl | exact .inr rfl | assumption) :
  GS X E (.Assign [.Name y py] (.ListComp B [⟨R,iter,G,0⟩] scope pos) dG) (Bp i (D7 (Em own.length mi g c m))):=by
 refine(WH (g:=gG X.K g) (tc:=gT X.K noE c) (te:=gE X.K noE m) hc gH hN hy ej Sc hi hg dw he T hf).imp λD σ H ⟨O,l,S,U,T,Y⟩=>?_
 refine OL (E:=E) (Q:=λx H'=>D.nx (σ.set i (some x)) H') ⟨O,l,S,U,T,Bg.seq (F:=λZ S1=>Res.ok (L2.D.ref S1.length) (S1++[Ob.lst Z])) (k:=λd P=>Bg X.K noH O H ((tgN i d l P).bind λe1 P=>.ok (.nx e1) P) λfl S'=>Nh X.K E O H S' D fl) (Bg.lift Y U .refl λd P h=>h) λZ S1 Y A H1 p xs L s1 r1 hp hn fb=>?_⟩
 have l0:∀(n:Nat) a,A[n]?=some a->(A++[p])[n]?=some a:=λn a h=>by rw[AN (AD.mp h).1];exact h
 obtain⟨s2,at2⟩:=s1.adopt (o:=.lst Z) hn ⟨xs,hp,r1.more l0⟩
 have l2:Le X.K O H (A++[p]) H1:=⟨λn a h=>l0 n a (L.pre n a h),L.tup,L.frz,λa o e h=>⟨(L.oth a o e h).1,λn q=>by
  rcases FS q with⟨q,_⟩ | ⟨_,q⟩
  ·exact(L.oth a o e h).2 n q
  ·exact CC e fb q⟩⟩
 exact Y _ _ _ l2 s2 ((U.mono l2).set (.ref at2) i)
end
end L2
namespace L2
open PySem.SeqAt
noncomputable def IV:D->D->Option Bool
 | .non,.non=>some true
 | .bl a,.bl b=>some (a==b)
 | .int a,.int b=>some (a==b)
 | .str a,.str b=>some (a==b)
 | .non,.int _=>some false
 | .non,.str _=>some false
 | .non,.bl _=>some false
 | .non,.tup _=>some false
 | .int _,.non=>some false
 | .str _,.non=>some false
 | .bl _,.non=>some false
 | .tup _,.non=>some false
 | .int _,.tup _=>some false
 | .tup _,.int _=>some false
 | _,_=>none
def eqL(f:D->D->Option Bool):List D->List D->Option Bool
 | [],[]=>some true
 | [],_ :: _=>some false
 | _ :: _,[]=>some false
 | x :: g,y :: j=>match f x y,eqL f g j with
  | some a,some b=>some (a&&b)
  | _,_=>none
def eqP:Nat->D->D->Option Bool
 | 0,x,y=>IV x y
 | n+1,x,y=>match x,y with
  | .tup g,.tup j=>eqL (eqP n) g j
  | x,y=>IV x y
theorem Hq(h:eqL f (x :: xs) (y :: g)=some b):∃a c,f x y=some a/\eqL f xs g=some c/\b=(a&&c):=by
 unfold eqL at h;split at h
 ·rename_i a c j l
  cases h;exact⟨a,c,j,l,rfl⟩
 ·cases h
theorem RD:∀{xs g:List D} {b:Bool},eqL f xs g=some b->(∀(j:Nat) x y,xs[j]?=some x->g[j]?=some y->∃c,f x y=some c) /\
  b=((A8 (min xs.length g.length)).all (λj=>match xs[j]?,g[j]? with | some x,some y=>(f x y).getD false | _,_=>false)&&xs.length==g.length)
 | [],[],b,h=>by cases h;exact⟨λj x y h=>by simp at h,by simp⟩
 | [],y :: g,b,h=>by cases h;exact⟨λj x y h=>by simp at h,by simp⟩
 | x :: xs,[],b,h=>by cases h;exact⟨λj x y _ h=>by simp at h,by simp⟩
 | x :: xs,y :: g,b,h=>by
  obtain⟨a,c,o,s,rfl⟩:=Hq h;obtain⟨A,B⟩:=RD s;refine⟨λj C E l m=>?_,?_⟩
  ·cases j with
   | zero=>simp at l m;subst l;subst m;exact⟨a,o⟩
   | succ j=>exact A j C E (by simpa using l) (by simpa using m)
  ·rw[B,Al,Al,show min (xs.length+1) (g.length+1)=min xs.length g.length+1 by lia,List.range_succ_eq_map,List.all_cons,Zq]
   simp only[List.getElem?_cons_zero,o,Sr,Function.comp_def,List.getElem?_cons_succ];rw[Bool.and_assoc]
   congr 1
   congr 1
   rw[Bool.eq_iff_iff];simp
section
variable{K:AB}{ρ:List AL}{H:Hp}
theorem RA(n k:Nat)(y:D):eqP n (.ref k) y=none:=by cases n <;> cases y <;> rfl
theorem RB(n:Nat)(ds:List D)(y:D):eqP n (.fro ds) y=none:=by cases n <;> cases y <;> rfl
theorem RC(n:Nat)(c:AL)(y:D):eqP n (.exc c) y=none:=by cases n <;> cases y <;> rfl
theorem Is(o:BI K ρ H x v)(g:BI K ρ H j v):x=j∨(∃ds l vs,x=.tup ds/\j=.tup l/\Ab K ρ H ds vs/\Ab K ρ H l vs)∨(∀n y,eqP n x y=none)∨∀n y,eqP n j y=none:=by
 cases o with
 | non=>cases g;exact .inl rfl
 | bl b=>cases g;exact .inl rfl
 | int b=>cases g;exact .inl rfl
 | str b=>cases g;exact .inl rfl
 | fro _ _=>exact .inr (.inr (.inl λn y=>RB n _ y))
 | ref _=>exact .inr (.inr (.inl λn y=>RA n _ y))
 | exc _ _=>exact .inr (.inr (.inl λn y=>RC n _ y))
 | tup s A=>
  cases g with
  | fro _ _=>exact .inr (.inr (.inr λn y=>RB n _ y))
  | ref _=>exact .inr (.inr (.inr λn y=>RA n _ y))
  | exc _ _=>exact .inr (.inr (.inr λn y=>RC n _ y))
  | tup m B=>
   rw[s]at m;cases m;exact .inr (.inl ⟨_,_,_,rfl,rfl,A,B⟩)
theorem W6:∀(n:Nat) {x A y:D} {v:V} {b b':Bool},BI K ρ H x v->BI K ρ H A v->eqP n x y=some b->eqP n A y=some b'->b=b':=by
 intro n
 induction n with
 | zero=>
  intro x A y v b b' G I h j
  rcases Is G I with rfl | ⟨B,J,vs,rfl,rfl,_,_⟩ | q | q
  ·rw[h]at j;cases j;rfl
  ·have:eqP 0 (.tup B) y=eqP 0 (.tup J) y:=by cases y <;> rfl
   rw[<-this,h]at j;cases j;rfl
  ·rw[q]at h;cases h
  ·rw[q]at j;cases j
 | succ n N=>
  intro x A y v b b' G I h j
  have lists:∀{C:List D} {vs:List V} {E l:List D} {b b':Bool},Ab K ρ H C vs->Ab K ρ H E vs->eqL (eqP n) C l=some b->eqL (eqP n) E l=some b'->b=b':=by
   intro C
   induction C with
   | nil=>
    intro vs E l b b' m o g s;cases m;cases o;rw[g]at s;cases s;rfl
   | cons d B L=>
    intro vs E l b b' m o g s
    cases m with
    | cons O P=>
     cases o with
     | cons Q R=>
      cases l with
      | nil=>cases g;cases s;rfl
      | cons y l=>
       obtain⟨p,q,S,T,rfl⟩:=Hq g;obtain⟨Y,Z,U,X,rfl⟩:=Hq s;rw[N O Q S U,L P R T X]
  rcases Is G I with rfl | ⟨B,J,vs,rfl,rfl,m,o⟩ | q | q
  ·rw[h]at j;cases j;rfl
  ·by_cases c:∃l,y=.tup l
   ·obtain⟨l,rfl⟩:=c
    exact lists m o h j
   ·have:eqP (n+1) (.tup B) y=eqP (n+1) (.tup J) y:=by
     cases y <;> first | rfl | exact(c ⟨_,rfl⟩).elim
    rw[<-this,h]at j;cases j;rfl
  ·rw[q]at h;cases h
  ·rw[q]at j;cases j
theorem Cu(h:IV x x=some b):b=true:=by
 cases x <;> first | (cases h;done) | (cases h;simp)
theorem LZ:∀(n:Nat) {x:D} {b:Bool},eqP n x x=some b->b=true
 | 0,_,_,h=>Cu h
 | n+1,x,b,h=>by
  have lists:∀{j:List D} {b:Bool},eqL (eqP n) j j=some b->b=true:=by
   intro j
   induction j with
   | nil=>intro b g;cases g;rfl
   | cons d s l=>
    intro b g;obtain⟨p,q,m,o,rfl⟩:=Hq g;rw[LZ n m,l o];rfl
  cases x with
  | tup j=>exact lists h
  | non=>exact Cu (x:=.non) h
  | bl c=>exact Cu (x:=.bl c) h
  | int c=>exact Cu (x:=.int c) h
  | str c=>exact Cu (x:=.str c) h
  | ref c=>exact Cu (x:=.ref c) h
  | fro c=>exact Cu (x:=.fro c) h
  | exc c=>exact Cu (x:=.exc c) h
theorem Hw(g:(∃f,y=.fro f)∨(∃r,y=.ref r)∨∃c,y=.exc c)(n:Nat):eqP n x y=none:=by
 rcases g with⟨f,rfl⟩ | ⟨r,rfl⟩ | ⟨c,rfl⟩ <;> (cases n <;> cases x <;> rfl)
theorem U2(n:Nat)(B:BI K ρ H x v)(m:BI K ρ H y v)(h:eqP n x y=some b):b=true:=by
 induction n generalizing x y v b with
 | zero=>
  rcases Is B m with rfl | ⟨C,E,vs,rfl,rfl,_,_⟩ | q | q
  ·exact LZ 0 h
  ·cases h
  ·rw[q]at h;cases h
  ·cases m with
   | fro _ _=>rw[Hw (.inl ⟨_,rfl⟩)]at h;cases h
   | ref _=>rw[Hw (.inr (.inl ⟨_,rfl⟩))]at h;cases h
   | exc _ _=>rw[Hw (.inr (.inr ⟨_,rfl⟩))]at h;cases h
   | non=>cases(q 0 .non)
   | bl b=>cases(q 0 (.bl b))
   | int b=>cases(q 0 (.int b))
   | str b=>cases(q 0 (.str b))
   | tup _ _=>cases(q 0 .non)
 | succ n G=>
  have lists:∀{o s:List D} {vs:List V} {b:Bool},Ab K ρ H o vs->Ab K ρ H s vs->eqL (eqP n) o s=some b->b=true:=by
   intro o
   induction o with
   | nil=>intro s vs b j l g;cases j;cases l;cases g;rfl
   | cons d C A=>
    intro s vs b j l g
    cases j with
    | cons I J=>
     cases l with
     | cons L N=>
      obtain⟨p,q,O,P,rfl⟩:=Hq g;rw[G I L O,A J N P];rfl
  rcases Is B m with rfl | ⟨C,E,vs,rfl,rfl,j,l⟩ | q | q
  ·exact LZ (n+1) h
  ·exact lists j l h
  ·rw[q]at h;cases h
  ·cases m with
   | fro _ _=>rw[Hw (.inl ⟨_,rfl⟩)]at h;cases h
   | ref _=>rw[Hw (.inr (.inl ⟨_,rfl⟩))]at h;cases h
   | exc _ _=>rw[Hw (.inr (.inr ⟨_,rfl⟩))]at h;cases h
   | non=>cases(q 0 .non)
   | bl b=>cases(q 0 (.bl b))
   | int b=>cases(q 0 (.int b))
   | str b=>cases(q 0 (.str b))
   | tup _ _=>cases(q 0 .non)
end
section
variable{X:Cx}{ζ:List (AL×Obj)}{σ:St}{H:Hp}{s:AF}{ρ:List AL}
theorem EV(A:A4):A.in1.units=A.units+1:=rfl
theorem BD.at_(r:BD vs g)(h:j < g.toArray.size):∃v,vs[j]?=some v/\RelV v g.toArray[j]:=by
 have m:j < g.length:=by simpa using h
 have l:j < vs.length:=by rw[r.length];exact m
 obtain⟨u,o,A⟩:=r.get (i:=j) (x:=vs[j]) (by simp[l]);refine⟨vs[j],by simp[l],?_⟩
 have:g.toArray[j]=u:=by
  have:=AD.mp o;obtain⟨_,e⟩:=this;simpa using e
 rw[this];exact A
theorem NI(P:∀(x y:D) (b:Bool) (l m:V) (u v:AC),eqP n x y=some b->BI X.K ρ H x l->BI X.K ρ H y m->RelV l u->RelV m v->EqAt A s u v b)
  (h:eqL (eqP n) xs o=some b) (B:Ab X.K ρ H xs vs) (C:Ab X.K ρ H o Q) (E:BD vs us) (G:BD Q g) :
  ∃e:Nat->Bool,(∀j (I:j < us.toArray.size) (J:j < g.toArray.size),EqAt A s us.toArray[j] g.toArray[j] (e j))/\b=((A8 (min us.toArray.size g.toArray.size)).all e&&us.toArray.size==g.toArray.size):=by
 obtain⟨R,S⟩:=RD h;refine⟨λj=>match xs[j]?,o[j]? with | some x,some y=>(eqP n x y).getD false | _,_=>false,λj I J=>?_,?_⟩
 ·obtain⟨v,T,U⟩:=BD.at_ E I
  obtain⟨w,Y,Z⟩:=BD.at_ G J;obtain⟨x,L,rx⟩:=B.get' T;obtain⟨y,N,ry⟩:=C.get' Y;obtain⟨c,O⟩:=R j x y L N;have:=P x y c v w _ _ O rx ry U Z;simp only[L,N,O,Sr];exact this
 ·rw[S,B.length,C.length,E.length,G.length]
  simp
theorem Jg(I:Inv X ζ σ H s)(j:A.units < C9)(h:IV x y=some b)(G:BI X.K ρ H x J)(l:BI X.K ρ H y L)(m:RelV J u)(g:RelV L v) :
  EqAt A s u v b/\RcAt A s u v b/\RcNeAt A s u v (!b):=by
 cases G with
 | non=>
  cases m
  cases l with
  | non=>cases g;cases h;exact⟨EqAt.same _,RcAt.none_none,RcNeAt.none_none⟩
  | bl c=>cases g;cases h;exact⟨EqAt.none_bool _,RcAt.none_bool _,RcNeAt.none_bool _⟩
  | int i=>obtain⟨t,rfl⟩:=g;cases h;exact⟨EqAt.none_int _ _,RcAt.none_int _ _,RcNeAt.none_int _ _⟩
  | str z=>obtain⟨t,rfl⟩:=g;cases h;exact⟨EqAt.none_str _ _,RcAt.none_str _ _,RcNeAt.none_str _ _⟩
  | tup o B=>
   cases g;cases h;obtain⟨C,_,p,_⟩:=I.tuple (.inl (.inl o));exact⟨EqAt.none_tuple p j,RcAt.none_tuple p j,RcNeAt.none_tuple p j⟩
  | _=>cases h
 | bl a=>
  cases m
  cases l with
  | non=>cases g;cases h;exact⟨EqAt.bool_none _,RcAt.bool_none _,RcNeAt.bool_none _⟩
  | bl c=>cases g;cases h;exact⟨EqAt.bool_bool _ _,RcAt.bool_bool _ _,RcNeAt.bool_bool _ _⟩
  | _=>cases h
 | int a=>
  obtain⟨t,rfl⟩:=m
  cases l with
  | non=>cases g;cases h;exact⟨EqAt.int_none _ _,RcAt.int_none _ _,RcNeAt.int_none _ _⟩
  | int i=>obtain⟨E,rfl⟩:=g;cases h;exact⟨EqAt.int_int _ _ _ _,RcAt.int_int _ _ _ _,RcNeAt.int_int _ _ _ _⟩
  | tup o B=>
   cases g;cases h;obtain⟨C,_,p,_⟩:=I.tuple (.inl (.inl o));exact⟨EqAt.int_tuple _ _ p j,RcAt.int_tuple _ _ p j,RcNeAt.int_tuple _ _ p j⟩
  | _=>cases h
 | str a=>
  obtain⟨t,rfl⟩:=m
  cases l with
  | non=>cases g;cases h;exact⟨EqAt.str_none _ _,RcAt.str_none _ _,RcNeAt.str_none _ _⟩
  | str i=>obtain⟨E,rfl⟩:=g;cases h;exact⟨EqAt.str_str _ _ _ _,RcAt.str_str _ _ _ _,RcNeAt.str_str _ _ _ _⟩
  | _=>cases h
 | tup o B=>
  cases m;obtain⟨C,_,p,_⟩:=I.tuple (.inl (.inl o))
  cases l with
  | non=>cases g;cases h;exact⟨EqAt.tuple_none p j,RcAt.tuple_none p j,RcNeAt.tuple_none p j⟩
  | int i=>obtain⟨E,rfl⟩:=g;cases h;exact⟨EqAt.tuple_int _ _ p j,RcAt.tuple_int _ _ p j,RcNeAt.tuple_int _ _ p j⟩
  | _=>cases h
 | _=>cases h
theorem QH(I:Inv X ζ σ H s):∀(n:Nat) (A:A4) (x y:D) (b:Bool) (g j:V) (u v:AC),A.units+n < C9->eqP n x y=some b->BI X.K ρ H x g->BI X.K ρ H y j->RelV g u->RelV j v->EqAt A s u v b:=by
 intro n
 induction n with
 | zero=>exact λA x y b g j u v Q h m o B C=>(Jg I (by omega) h m o B C).1
 | succ n R=>
  intro A x y b g j u v Q h m o B C
  by_cases E:∃G J,x=.tup G/\y=.tup J
  ·obtain⟨G,J,rfl,rfl⟩:=E
   cases m with
   | @tup _ a vs L N=>
    cases o with
    | @tup _ c ws O P=>
     cases B;cases C
     by_cases l:a=c
     ·subst l
      rw[U2 (n+1) (.tup L N) (.tup O P) h];exact EqAt.same _
     ·obtain⟨b9,S,p,_⟩:=I.tuple (.inl (.inl L))
      obtain⟨cn,T,U,_⟩:=I.tuple (.inl (.inl O));obtain⟨e,Y,rfl⟩:=NI (A:=A.in1) (λx y b g j u v Z g2 g3 g4 g5=>R A.in1 x y b g j u v (by rw[EV];lia) Z g2 g3 g4 g5) h N P S T;exact EqAt.of_refs l (Zx p U (by lia) Y)
  ·have hf:IV x y=some b:=by
    cases x <;> cases y <;> first | exact h | exact(E ⟨_,_,rfl,rfl⟩).elim
   exact(Jg I (by lia) hf m o B C).1
def Je(d:D)(S:Sto):Option (List D):=match d with
 | .fro g=>some g
 | .ref n=>match S[n]? with
  | some (.lst g)=>some g
  | _=>none
 | _=>none
def eqB(x y:D)(S:Sto):Option Bool:=match Je x S,Je y S with
 | some g,some j=>if g.length=j.length then eqL (eqP 8) g j else some false
 | none,none=>eqP 8 x y
 | some _,none=>match y with
  | .tup _=>some false
  | .non=>some false
  | _=>none
 | none,some _=>match x with
  | .tup _=>some false
  | .non=>some false
  | _=>none
def eqD(neg:Bool)(x y:D)(S:Sto):Res D:=match eqB x y S with
 | some b=>.ok (.bl (if neg then !b else b)) S
 | none=>.bad
theorem G3{K}{S}{d}{x}{ds}(g:BQ K ρ S H)(r:BI K ρ H d x)(h:Je d S=some ds):∃p xs,x=.ref p/\Ab K ρ H ds xs/\SqL K H p xs:=by
 cases r with
 | fro j l=>cases h;exact⟨_,_,rfl,l,j.sq⟩
 | @ref n a m=>
  obtain⟨o,A,B⟩:=g.there m;unfold Je at h;simp only[A]at h
  cases o with
  | lst E=>cases h;obtain⟨vs,e,C⟩:=B;exact⟨_,_,rfl,C,.inl (.inl e)⟩
  | _=>cases h
 | _=>cases h
theorem U3{S}{x y}{b}{E G}{u v}(I:Inv X ζ σ H s)(hu:X.A.units+64 < C9)(U:BQ X.K ρ S H)(J:BI X.K ρ H x E)(L:BI X.K ρ H y G)(N:RelV E u)(O:RelV G v)(h:eqB x y S=some b) :
  RcAt X.A s u v b/\RcNeAt X.A s u v (!b):=by
 unfold eqB at h;split at h
 ·rename_i P ys Y Z
  obtain⟨p,vs,rfl,Q,sq⟩:=G3 U J Y;obtain⟨p',fj,rfl,gJ,jM⟩:=G3 U L Z;cases N;cases O;obtain⟨m,B,g,_⟩:=I.list sq;obtain⟨C,gK,fZ,_⟩:=I.list jM;split at h
  ·rename_i l
   obtain⟨e,R,rfl⟩:=NI (A:=X.A.in1) (λx y b E G u v g1 g2 g3 g4 g5=>QH I 8 X.A.in1 x y b E G u v (by rw[EV];lia) g1 g2 g3 g4 g5) h Q gJ B gK
   have j:m.toArray.size=C.toArray.size:=by
    simp only[AY];rw[<-B.length,<-gK.length,<-Q.length,<-gJ.length];exact l
   have e1:((A8 (min m.toArray.size C.toArray.size)).all e&&m.toArray.size==C.toArray.size)=(A8 m.toArray.size).all e:=by
    rw[<-j,Nat.min_self,beq_self_eq_true,Bool.and_true]
   rw[e1];exact⟨RcAt.lists g.isList fZ.isList j (by lia) R,RcNeAt.lists g.isList fZ.isList j (by lia) R⟩
  ·rename_i l
   cases h
   have j:(m.toArray.size != C.toArray.size)=true:=by
    simp only[AY];rw[<-B.length,<-gK.length,<-Q.length,<-gJ.length];simpa using l
   exact⟨RcAt.lists_lengths g.isList fZ.isList j (by lia),RcNeAt.lists_lengths g.isList fZ.isList j (by lia)⟩
 ·by_cases ht:∃P ys,x=.tup P/\y=.tup ys
  ·obtain⟨P,ys,rfl,rfl⟩:=ht
   cases J with
   | tup a1 a2=>
    cases L with
    | tup T b2=>
     cases N;cases O;obtain⟨m,B,p,_⟩:=I.tuple (.inl (.inl a1));obtain⟨C,cI,o,_⟩:=I.tuple (.inl (.inl T));obtain⟨e,R,rfl⟩:=NI (n:=7) (A:=X.A.in1) (λx y b E G u v g1 g2 g3 g4 g5=>QH I 7 X.A.in1 x y b E G u v (by rw[EV];lia) g1 g2 g3 g4 g5) h a2 b2 B cI;exact⟨Zx p o (by lia) R,RcNeAt.tuples p o (by lia) R⟩
  ·have hf:IV x y=some b:=by
    cases x <;> cases y <;> first | exact h | exact(ht ⟨_,_,rfl,rfl⟩).elim
   exact(Jg I (by lia) hf J L N O).2
 ·rename_i P Y Z
  obtain⟨p,vs,rfl,Q,sq⟩:=G3 U J Y;cases N;obtain⟨m,B,g,_⟩:=I.list sq;split at h
  ·cases h
   cases L with
   | tup T b2=>
    cases O;obtain⟨C,cI,o,_⟩:=I.tuple (.inl (.inl T));exact⟨RcAt.list_tuple g.isList o (by lia),RcNeAt.list_tuple g.isList o (by lia)⟩
  ·cases h
   cases L;cases O;exact⟨RcAt.list_none g.isList (by lia),RcNeAt.list_none g.isList (by lia)⟩
  ·cases h
 ·rename_i P Y Z
  obtain⟨p,vs,rfl,Q,sq⟩:=G3 U L Z;cases O;obtain⟨m,B,g,_⟩:=I.list sq;split at h
  ·cases h
   cases J with
   | tup T b2=>
    cases N;obtain⟨C,cI,o,_⟩:=I.tuple (.inl (.inl T));exact⟨RcAt.tuple_list o g.isList (by lia),RcNeAt.tuple_list o g.isList (by lia)⟩
  ·cases h
   cases J;cases N;exact⟨RcAt.none_list g.isList (by lia),RcNeAt.none_list g.isList (by lia)⟩
  ·cases h
theorem OZ(l:X.A.units+64 < C9):OpR X (Bb .Eq) (rD X.K (eqD false)):=by
 intro ζ s σ H x y v u Q I m o h;obtain⟨ρ,S,a,b,d,G,j,B,C,g,k⟩:=h;unfold eqD at g;split at g
 ·rename_i c E
  cases g;exact(U3 I l j B C m o E).1 _ _ _ _ ⟨.bl c,H,I,rfl,k ρ H _ .refl j (.bl _)⟩
 ·cases g
theorem UC(l:X.A.units+64 < C9):OpR X (Bb .NotEq) (rD X.K (eqD true)):=by
 intro ζ s σ H x y v u Q I m o h;obtain⟨ρ,S,a,b,d,G,j,B,C,g,k⟩:=h;unfold eqD at g;split at g
 ·rename_i c E
  cases g;exact(U3 I l j B C m o E).2 _ _ _ _ ⟨.bl (!c),H,I,rfl,k ρ H _ .refl j (.bl _)⟩
 ·cases g
def IK(x:D):List D->Option Bool
 | []=>some false
 | d :: g=>match eqP 8 d x,IK x g with
  | some a,some b=>some (a||b)
  | _,_=>none
def inD(neg:Bool)(x y:D)(S:Sto):Res D:=match Fx y S with
 | some g=>match IK x g with
  | some b=>.ok (.bl (if neg then !b else b)) S
  | none=>.bad
 | none=>.bad
theorem QP(h:IK x (d :: ds)=some b):∃a c,eqP 8 d x=some a/\IK x ds=some c/\b=(a||c):=by
 unfold IK at h;split at h
 ·rename_i a c g j
  cases h;exact⟨a,c,g,j,rfl⟩
 ·cases h
open Classical in
theorem JJ(I:Inv X ζ σ H s)(O:A.units+8 < C9)(P:BI X.K ρ H x Q)(R:RelV Q v):∀{ds:List D} {vs:List V} {us:List AC} {b:Bool},Ab X.K ρ H ds vs->BD vs us->IK x ds=some b ->
  ∃e:AC->Bool,(∀y∈us,EqAt A s y v (e y))/\b=us.any e:=by
 intro ds vs us b r q h
 let e:AC->Bool:=λy=>decide (∃d w,d∈ds/\BI X.K ρ H d w/\RelV w y/\eqP 8 d x=some true)
 have all:∀{g:List D} {m:List V} {j:List AC} {o:Bool},(∀d∈g,d∈ds)->Ab X.K ρ H g m->BD m j->IK x g=some o->(∀y∈j,EqAt A s y v (e y))/\o=j.any e:=by
  intro g
  induction g with
  | nil=>intro m j o _ r q h;cases r;cases q;cases h;exact⟨(λ_ z=>nomatch z),rfl⟩
  | cons d g S=>
   intro m j o J r q h
   cases r with
   | cons C T=>
    cases q with
    | @cons w y _ _ E U=>
     obtain⟨a,c,G,Y,rfl⟩:=QP h;obtain⟨Z,i2⟩:=S (λz l=>J z (Aa _ l)) T U Y
     have L:e y=a:=by
      by_cases B:∃d w,d∈ds/\BI X.K ρ H d w/\RelV w y/\eqP 8 d x=some true
      ·obtain⟨d',w',_,N,g2,g3⟩:=id B
       rw[RelV.inj g2 E]at N;have:=W6 8 N C g3 G;rw[<-this];exact wX B
      ·have:a=false:=by
        cases a with
        | false=>rfl
        | true=>exact(B ⟨d,_,J d Am,C,E,G⟩).elim
       rw[this];exact wY B
     refine⟨λz l=>?_,by rw[Ey,L,<-i2]⟩
     rcases A7.mp l with rfl | l
     ·rw[L]
      exact QH I 8 A d x a _ _ _ _ O G C P E R
     ·exact Z z l
 obtain⟨e1,e2⟩:=all (λ_ h=>h) r q h;exact⟨e,e1,e2⟩
theorem Xd(R:X.A.units+64 < C9):OpR X (Bb .In) (rD X.K (inD false)):=by
 intro ζ s σ H x y v u Q I E N h;obtain⟨ρ,S,a,b,d,T,j,G,O,g,k⟩:=h;unfold inD at g;split at g
 ·rename_i U P
  split at g
  ·rename_i c J
   cases g;obtain⟨p,Y,rfl,L,sq⟩:=KS j O P;cases N
   rcases sq with sq | sq
   ·obtain⟨l,m,o,_⟩:=I.list sq
    obtain⟨e,B,rfl⟩:=JJ I (A:=X.A.in1) (by rw[EV];lia) G E L m J;exact in_listAt e o.isList (λz C=>B z (by simpa using C)) ⟨.bl (l.toArray.any e),H,I,rfl,by rw[HE];exact k ρ H _ .refl j (.bl _)⟩
   ·obtain⟨l,m,o,_⟩:=I.tuple sq
    obtain⟨e,B,rfl⟩:=JJ I (A:=X.A.in1) (by rw[EV];lia) G E L m J;exact in_tupleAt e o (λz C=>B z (by simpa using C)) ⟨.bl (l.toArray.any e),H,I,rfl,by rw[HE];exact k ρ H _ .refl j (.bl _)⟩
  ·cases g
 ·cases g
theorem UB(R:X.A.units+64 < C9):OpR X (Bb .NotIn) (rD X.K (inD true)):=by
 intro ζ s σ H x y v u Q I E N h;obtain⟨ρ,S,a,b,d,T,j,G,O,g,k⟩:=h;unfold inD at g;split at g
 ·rename_i U P
  split at g
  ·rename_i c J
   cases g;obtain⟨p,Y,rfl,L,sq⟩:=KS j O P;cases N
   rcases sq with sq | sq
   ·obtain⟨l,m,o,_⟩:=I.list sq
    obtain⟨e,B,rfl⟩:=JJ I (A:=X.A.in1) (by rw[EV];lia) G E L m J;exact notIn_listAt e o.isList (λz C=>B z (by simpa using C)) ⟨.bl (!l.toArray.any e),H,I,rfl,by rw[HE];exact k ρ H _ .refl j (.bl _)⟩
   ·obtain⟨l,m,o,_⟩:=I.tuple sq
    obtain⟨e,B,rfl⟩:=JJ I (A:=X.A.in1) (by rw[EV];lia) G E L m J;exact notIn_tupleAt e o (λz C=>B z (by simpa using C)) ⟨.bl (!l.toArray.any e),H,I,rfl,by rw[HE];exact k ρ H _ .refl j (.bl _)⟩
  ·cases g
 ·cases g
end
def FO(mo ma:ME):ME:=λe S=>(mo e S).bind λd g=>match d with
 | .ref n=>match g[n]? with
  | some (.lst _)=>(ma e g).bind λy j=>match j[n]? with
   | some (.lst l)=>if l.length < sizeLine then .ok .non (j.set n (.lst (l++[y])))else .bad
   | _=>.bad
  | _=>.bad
 | _=>.bad
section
variable{X:Cx}{E:EW}{o e:Expr}{mo ma:ME}
theorem Qq{K}{ρ}{S}{H}{n}{x}{xs}(s:BQ K ρ S H)(r:BI K ρ H (.ref n) x)(h:S[n]?=some (.lst xs)):∃a vs,x=.ref a/\ρ[n]?=some a/\H a=some (.lst vs)/\Ab K ρ H xs vs:=by
 cases r with
 | ref g=>
  obtain⟨vs,e,j⟩:=s.ob n _ _ h g;exact⟨_,vs,rfl,g,e,j⟩
theorem DV(ho:GE X E o mo)(U:GE X E e ma)(Y:EI o "append" X.env (Bt o X.env)=Bt o X.env:=by rfl)
  (Z:((D2 s (AX [e] X.env)).all (λx=>!x.1)&&(backToKw s (keywordEach [] X.env)).all (λx=>x.1.isSome)
    &&decide ([e].length+([]:List TD).length+(if ([]:List TD).isEmpty then 0 else 1) < 30))=true:=by rfl)
  (cw:(m.endLine==s.line)=true:=by rfl) (A:AX [e] X.env=(false,Bt e X.env) :: AX [] X.env:=by rfl) (cW:(D2 s (AX [] X.env)).any (·.1)=false:=by rfl) :
  GE X E (.Call (.Attribute o "append" m) [e] [] s) (FO mo ma):=(aX MU PySem.F.slot_list_append PySem.F.type_list_append Mh ho (Ec U Gy A) Y Z cw A cW).imp<|by
 rintro σ H Q ⟨ρ,l,S,J,A,g⟩
 refine⟨ρ,l,S,J,A,g.seq λx S1 g B H1 v C L r1=>?_⟩
 cases x <;> first | exact g.elim | skip
 rename_i n;dsimp only at g;split at g
 ·rename_i xs0 h0
  obtain⟨a,vs,rfl,hn,e0,_⟩:=Qq L r1 h0;refine⟨.inl ⟨rfl,vs,.inl (.inl e0)⟩,B,l,S1,J.mono C,L,(g.later C).seq λy S2 g j N u O P r2=>?_⟩;split at g
  ·rename_i xs h3
   split at g
   ·rename_i hz
    have G:=O.pre n a hn;obtain⟨I,R,T⟩:=P.ob n _ _ h3 G;have le:Le X.K j N j (upd N a (.lst (I++[u]))):=Le.write G (by rw[R];trivial);obtain⟨s3,l3⟩:=P.write (ho:=.lst (I++[u])) (o:=.lst (xs++[y])) G ⟨_,BE,(T.append (.cons r2 .nil)).mono le⟩ le;exact⟨a,I,u,rfl,rfl,R,by rw[<-T.length];exact hz,g j _ _ (C.trans (O.trans l3)) s3 .non⟩
   ·exact g.elim
  ·exact g.elim
 ·exact g.elim
end
def Fu{g β:Type}[DecidableEq g](j:List (g×β))(k:g):Option β:=(j.find? λl=>decide (l.1=k)).map (·.2)
noncomputable def LA{j l:Type}[DecidableEq j](m:List (j×l))(k:j)(v:l):List (j×l):=
 if (m.any λg=>decide (g.1=k))=true then m.map (λg=>if g.1=k then(g.1,v)else g)else m++[(k,v)]
section
variable{κ:Type}[DecidableEq κ]{K:AB}{ρ:List AL}{H:Hp}
theorem KVR.val(k:κ):∀{x:List (κ×D)} {y:List (κ×V)},KVR K ρ H x y->(Fu x k=none->Gp y k=none)/\∀d,Fu x k=some d->∃v,Gp y k=some v/\BI K ρ H d v
 | _,_,.nil=>⟨λ_=>rfl,λd h=>by cases h⟩
 | (g,a) :: x,(m,b) :: y,.cons r t=>by
  obtain⟨j,l⟩:=r;dsimp only at j l;subst j;unfold Fu Gp;rw[CH,CH]
  by_cases e:g=k
  ·simp only[e,decide_true]
   exact⟨(λh=>nomatch h),(λd h=>by cases h;exact⟨b,rfl,l⟩)⟩
  ·simp only[e,decide_false]
   exact KVR.val k t
theorem KVR.any(k:κ):∀{x:List (κ×D)} {y:List (κ×V)},KVR K ρ H x y->(x.any λj=>decide (j.1=k))=y.any λj=>decide (j.1=k)
 | _,_,.nil=>rfl
 | (g,a) :: x,(l,b) :: y,.cons r t=>by
  rw[Ey,Ey,KVR.any k t,show g=l from r.1]
theorem KVR.repl(k:κ)(l:BI K ρ H d v):∀{x:List (κ×D)} {y:List (κ×V)},KVR K ρ H x y->KVR K ρ H (x.map λj=>if j.1=k then(j.1,d)else j) (y.map λj=>if j.1=k then(j.1,v)else j)
 | _,_,.nil=>.nil
 | (g,a) :: x,(s,b) :: y,.cons r t=>by
  obtain⟨m,o⟩:=r;dsimp only at m o;subst m;rw[Au,Au];refine .cons ?_ (KVR.repl k l t)
  by_cases e:g=k
  ·rw[qX e,qX e];exact⟨rfl,l⟩
  ·rw[qY e,qY e];exact⟨rfl,o⟩
theorem KVR.put(k:κ)(g:BI K ρ H d v)(h:KVR K ρ H x y):KVR K ρ H (LA x k d) (HI y k v):=by
 unfold LA HI;rw[KVR.any k h];split
 ·exact KVR.repl k g h
 ·exact O5 h ⟨rfl,g⟩
end
noncomputable def Ud:D->Option Key
 | .int i=>some (.inl i)
 | .str x=>some (.inr x)
 | _=>none
def Mm:List D->Option (List Key)
 | []=>some []
 | d :: g=>match Ud d,Mm g with
  | some k,some j=>some (k :: j)
  | _,_=>none
theorem KZ{K}{ρ}{H}{d}{v}{k}(r:BI K ρ H d v)(h:Ud d=some k):v=kV k:=by
 cases r <;> first | (cases h;done) | (cases h;rfl)
theorem Iy{K}{ρ}{H}:∀{ds:List D} {vs:List V} {g:List Key},Ab K ρ H ds vs->Mm ds=some g->vs=g.map kV
 | _,_,_,.nil,h=>by cases h;rfl
 | _,_,_,.cons r t,h=>by
  unfold Mm at h;split at h
  ·rename_i k g j l
   cases h;rw[KZ r j,Iy t l];rfl
  ·cases h
def SV(x y:D)(S:Sto):Option (Option D):=match x with
 | .ref n=>match S[n]? with
  | some (.dK g)=>match Ud y with
   | some k=>some (Fu g k)
   | none=>none
  | some (.dT g)=>match y with
   | .tup j=>match Mm j with
    | some l=>some (Fu g l)
    | none=>none
   | _=>none
  | some (.fK g)=>match Ud y with
   | some k=>some (Fu g k)
   | none=>none
  | some (.fT g)=>match y with
   | .tup j=>match Mm j with
    | some l=>some (Fu g l)
    | none=>none
   | _=>none
  | _=>none
 | _=>none
theorem Nj{K}{ρ}{S}{H}{x y}{O P}{o}(s:BQ K ρ S H)(Q:BI K ρ H x O)(E:BI K ρ H y P)(h:SV x y S=some o) :
  ∃a I,O=.ref a/\JN H a P I/\(o=none->I=none)/\∀d,o=some d->∃v,I=some v/\BI K ρ H d v:=by
 unfold SV at h;split at h
 ·rename_i n
  cases Q with
  | @ref _ a G=>
   split at h
   ·rename_i J g
    split at h
    ·rename_i k j
     cases h;obtain⟨l,e,r⟩:=s.ob n _ _ g G;rw[KZ E j];obtain⟨m,A⟩:=KVR.val k r;exact⟨a,Gp l k,rfl,JN.k e,m,A⟩
    ·cases h
   ·rename_i J g
    split at h
    ·rename_i R
     split at h
     ·rename_i B j
      cases h;obtain⟨l,e,r⟩:=s.ob n _ _ g G
      cases E with
      | tup C L=>
       obtain⟨m,A⟩:=KVR.val B r;rw[Iy L j]at C;exact⟨a,Gp l B,rfl,JN.t e C,m,A⟩
     ·cases h
    ·cases h
   ·rename_i J g
    split at h
    ·rename_i k j
     cases h;obtain⟨N,l,e,r⟩:=s.ob n _ _ g G;rw[KZ E j];obtain⟨m,A⟩:=KVR.val k r;exact⟨a,Gp l k,rfl,(.inl ⟨_,_,.inr ⟨N,e⟩,rfl,rfl⟩),m,A⟩
    ·cases h
   ·rename_i J g
    split at h
    ·rename_i R
     split at h
     ·rename_i B j
      cases h;obtain⟨N,l,e,r⟩:=s.ob n _ _ g G
      cases E with
      | tup C L=>
       obtain⟨m,A⟩:=KVR.val B r;rw[Iy L j]at C;exact⟨a,Gp l B,rfl,(.inr ⟨_,_,_,.inr ⟨N,e⟩,rfl,C,rfl⟩),m,A⟩
     ·cases h
    ·cases h
   ·cases h
 ·cases h
def RE(x y:D)(S:Sto):Res D:=match SV x y S with
 | some (some d)=>.ok d S
 | _=>.bad
def Jh(neg:Bool)(y x:D)(S:Sto):Res D:=match SV x y S with
 | some o=>.ok (.bl (if neg then !o.isSome else o.isSome)) S
 | none=>.bad
section
variable{X:Cx}{E:EW}{mo mi mv:ME}
theorem Wz(O:X.A.units+1 < C9)(ho:GE X E o mo)(hi:GE X E i mi)(m:Ze i:=by intro _ _;rfl):GE X E (.Subscript o i pos) (m2 RE mo mi):=(WS O ho hi m).imp λP H Q h=>by
 refine(IP h:tOp (rD X.K RE) (gE X.K E mo) (gE X.K E mi) P H Q) |> λt=>?_
 obtain⟨R,l,S,T,m,k⟩:=t;refine⟨R,l,S,T,m,k.imp λx S1 k s U u Y Z r1=>?_⟩;obtain⟨B,l2,S2,dt,cK,C⟩:=k s U u Y Z r1;refine⟨B,l2,S2,dt,cK,C.imp λy S3 C G J v l3 s3 r3=>?_⟩;obtain⟨I,S4,x4,y4,d,S5,L,r4,r5,j,k4⟩:=C G J v l3 s3 r3;unfold RE at j;split at j
 ·rename_i d' hd
  cases j;obtain⟨a,o',rfl,g,_,g2⟩:=Nj L r4 r5 hd;obtain⟨N,rfl,cI⟩:=g2 _ rfl;exact⟨a,N,rfl,g,k4 I J N .refl L cI⟩
 ·cases j
theorem Qn{m}{H}{Q}(h:gE X.K E (m2 (Jh false) mi mo) m H Q):aF (gE X.K E mi) (gE X.K E mo) m H Q:=by
 obtain⟨N,l,S,O,P,k⟩:=(IP h:tOp (rD X.K (Jh false)) (gE X.K E mi) (gE X.K E mo) m H Q);refine⟨N,l,S,O,P,k.imp λx S1 k o R u T U Y=>?_⟩;obtain⟨s,Z,S2,dt,cK,A⟩:=k o R u T U Y;refine⟨s,Z,S2,dt,cK,A.imp λy S3 A B G v l3 s3 r3=>?_⟩;obtain⟨C,S4,x4,y4,d,S5,I,r4,r5,j,k4⟩:=A B G v l3 s3 r3;unfold Jh at j;split at j
 ·rename_i J hd
  cases j;obtain⟨a,L,rfl,g,g1,g2⟩:=Nj I r5 r4 hd;refine⟨a,L,rfl,g,?_⟩
  have:L.isSome=J.isSome:=by
   cases J with
   | none=>rw[g1 rfl];rfl
   | some d=>obtain⟨w',rfl,_⟩:=g2 d rfl;rfl
  rw[this];exact k4 C G _ .refl I (.bl _)
 ·cases j
theorem Pr{m}{H}{Q}(h:gE X.K E (m2 (Jh true) mi mo) m H Q):Qm (gE X.K E mi) (gE X.K E mo) m H Q:=by
 obtain⟨N,l,S,O,P,k⟩:=(IP h:tOp (rD X.K (Jh true)) (gE X.K E mi) (gE X.K E mo) m H Q);refine⟨N,l,S,O,P,k.imp λx S1 k o R u T U Y=>?_⟩;obtain⟨s,Z,S2,dt,cK,A⟩:=k o R u T U Y;refine⟨s,Z,S2,dt,cK,A.imp λy S3 A B G v l3 s3 r3=>?_⟩;obtain⟨C,S4,x4,y4,d,S5,I,r4,r5,j,k4⟩:=A B G v l3 s3 r3;unfold Jh at j;split at j
 ·rename_i J hd
  cases j;obtain⟨a,L,rfl,g,g1,g2⟩:=Nj I r5 r4 hd;refine⟨a,L,rfl,g,?_⟩
  have:L.isSome=J.isSome:=by
   cases J with
   | none=>rw[g1 rfl];rfl
   | some d=>obtain⟨w',rfl,_⟩:=g2 d rfl;rfl
  rw[this];exact k4 C G _ .refl I (.bl _)
 ·cases j
theorem ZK(g:X.A.units+1 < C9)(hi:GE X E i mi)(ho:GE X E o mo)(j:Bh .In o=false:=by rfl):GE X E (.Compare i [.In] [o] pos) (m2 (Jh false) mi mo):=(Yi (T9 g hi ho) j).imp λ_ _ _ h=>Qn h
theorem UT{K}{m}{o}{H}{Q}(h:gT K E (mB m) o H Q):gE K E m o H λx H1=>∃c,x=.bl c/\Q c H1:=by
 obtain⟨s,l,S,A,B,g⟩:=h;refine⟨s,l,S,A,B,g.seq λd J g j H1 x C G I=>?_⟩
 cases d <;> first | exact g.elim | skip
 cases I;exact⟨_,rfl,g j H1 C G⟩
theorem ZB(g:X.A.units+1 < C9)(hi:GE X E i mi)(ho:GE X E o mo)(j:Bh .In o=false:=by rfl):GT X E (.Compare i [.In] [o] pos) (mB (m2 (Jh false) mi mo)):=(Tw (T9 g hi ho) j).imp λ_ _ _ h=>Qn (UT h)
theorem SL(g:X.A.units+1 < C9)(hi:GE X E i mi)(ho:GE X E o mo)(j:Bh .NotIn o=false:=by rfl):GT X E (.Compare i [.NotIn] [o] pos) (mB (m2 (Jh true) mi mo)):=(Tw (R3 g hi ho) j).imp λ_ _ _ h=>Pr (UT h)
def US:ME:=λ_ S=>.ok (.ref S.length) (S++[.dT []])
theorem Ux:GE X E (.Dict [] [] pos) US:=(T8 (X:=X) (pos:=pos)).imp<|by
 rintro B H Q ⟨C,l,S,G,j,k⟩ p m
 obtain⟨s,A,g⟩:=j.alloc (ho:=.dT []) (o:=.dT []) m ⟨[],BE,.nil⟩;exact k _ _ _ A s (.ref g)
def W8(x y v:D)(S:Sto):Option Sto:=match x with
 | .ref n=>match S[n]? with
  | some (.dK g)=>match Ud y with
   | some k=>if g.length < sizeLine then some (S.set n (.dK (LA g k v)))else none
   | none=>none
  | some (.dT g)=>match y with
   | .tup j=>match Mm j with
    | some l=>if g.length < sizeLine then some (S.set n (.dT (LA g l v)))else none
    | none=>none
   | _=>none
  | _=>none
 | _=>none
def K0(mo mi mv:ME):MS:=λe S=>(mv e S).lift e λv g=>(mo e g).lift e λx j=>(mi e j).lift e λy l=>match W8 x y v l with
 | some m=>.ok (.nx e) m
 | none=>.bad
theorem Ws(hu:X.A.units+1 < C9)(ho:GE X E o mo)(hi:GE X E i mi)(hv:GE X E value mv)(U:DX value (some (.Subscript o i I)) pos.line X.env=pure false:=by rfl):GS X E (.Assign [.Subscript o i I] value pos) (K0 mo mi mv):=(WG hu ho hi hv U).imp<|by
 rintro D σ H ⟨ρ,l,S,C,U,m⟩
 refine⟨ρ,l,S,C,U,m.lift C .refl λv S1 m Y H1 O s s1 r1=>⟨Y,l,S1,C.mono s,s1,(m.later s).lift (C.mono s) s λx S2 m Z H2 xv B s2 r2=>⟨Z,l,S2,C.mono (s.trans B),s2,(m.later B).lift (C.mono (s.trans B)) (s.trans B) λy S3 m j P yv J Q r3=>?_⟩⟩⟩;have iI:=r1.mono (B.trans J);have jN:=r2.mono J;have iJ:=C.mono (s.trans (B.trans J));split at m
 ·rename_i S4 g
  unfold W8 at g;split at g
  ·rename_i n
   cases jN with
   | @ref _ a G=>
    split at g
    ·rename_i b0 h4
     split at g
     ·rename_i R hk
      split at g
      ·rename_i hz
       cases g;obtain⟨L,e,r⟩:=Q.ob n _ _ h4 G;rw[KZ r3 hk];have le:Le X.K j P j (upd P a (.dK (HI L R O))):=Le.write G (by rw[e];trivial);obtain⟨s5,N⟩:=Q.write (ho:=.dK (HI L R O)) (o:=.dK (LA b0 R v)) G ⟨_,BE,(KVR.put R iI r).mono le⟩ le;exact⟨a,_,rfl,O3.k e (by rw[<-KVR.length r];exact hz),m j _ σ (s.trans (B.trans (J.trans N))) s5 (iJ.mono N)⟩
      ·cases g
     ·cases g
    ·rename_i b0 h4
     split at g
     ·rename_i ds
      split at g
      ·rename_i T hk
       split at g
       ·rename_i hz
        cases g;obtain⟨L,e,r⟩:=Q.ob n _ _ h4 G
        cases r3 with
        | tup b1 b2=>
         rw[Iy b2 hk]at b1;have le:Le X.K j P j (upd P a (.dT (HI L T O))):=Le.write G (by rw[e];trivial);obtain⟨s5,N⟩:=Q.write (ho:=.dT (HI L T O)) (o:=.dT (LA b0 T v)) G ⟨_,BE,(KVR.put T iI r).mono le⟩ le;exact⟨a,_,rfl,O3.t e b1 (by rw[<-KVR.length r];exact hz),m j _ σ (s.trans (B.trans (J.trans N))) s5 (iJ.mono N)⟩
       ·cases g
      ·cases g
     ·cases g
    ·cases g
  ·cases g
 ·exact m.elim
end
section
variable{X:Cx}{E:EW}{a b c:Expr}{pos:Pos}
theorem Ro{K}{f g}{N}{H}{Q}(h:gE K E (m3 f g ma Y mc) N H Q):Tf (rD K f) (rD K g) (gE K E ma) (gE K E Y) (gE K E mc) N H Q:=by
 obtain⟨Z,l,S,C,hs,j⟩:=h;refine⟨Z,l,S,C,hs,j.seq λx S1 j G H1 u m s1 r1=>⟨G,l,S1,C.mono m,s1,(j.later m).seq λy O j I H2 v o s2 P=>?_⟩⟩
 cases B:f x y O with
 | bad=>rw[B]at j;exact j.elim
 | err _ _=>rw[B]at j;exact j.elim
 | ok z R=>
  rw[B]at j;dsimp only[okR,Res.bind]at j;refine⟨I,O,x,y,z,R,s2,r1.mono o,P,B,λs H3 w A T r3=>?_⟩
  cases z with
  | bl k=>
   cases r3;refine⟨k,rfl,?_⟩
   cases k with
   | true=>
    rw[qX rfl];refine⟨s,l,R,C.mono (m.trans (o.trans A)),T,Bg.seq (j.later (o.trans A)) λw S4 j J H4 wv U s4 r4=>?_⟩;obtain⟨d,S',e,k⟩:=j.okR;exact⟨J,S4,y,w,d,S',s4,P.mono (A.trans U),r4,e,λL H' z l' s' r'=>k L H' z (m.trans (o.trans (A.trans (U.trans l')))) s' r'⟩
   | false=>rw[qY AZ];exact j s H3 _ (m.trans (o.trans A)) T (.bl false)
  | _=>exact j.elim
theorem Uq(ho:OpR X (Bb l) (rD X.K f))(m:OpR X (Bb j) (rD X.K g))(o:GE X E a ma)(hb:GE X E b s)(A:GE X E c mc)
  (B:lastMarks [l,j] [b,c]=false:=by with_unfolding_all rfl):GT X E (.Compare a [l,j] [b,c] pos) (mB (m3 f g ma s mc)):=(Tx ho m o hb A B).imp λ_ _ _ h=>Ro (UT h)
def mNeg(m:ME):ME:=λe S=>(m e S).bind λd g=>match d with
 | .int i=>.ok (.int (-i)) g
 | _=>.bad
end
abbrev MO:=Lo->Sto->Res (Option Int)
def gO(K:AB)(E:EW)(m:MO):TO:=λs H Q=>∃j e S,DF K j H e s/\BQ K j S H/\Bg K (λc=>E c s) j H (m e S) λo A=>∀g l,Le K j H g l->BQ K g A l->Q o l
abbrev GO(X:Cx)(E:EW)(e:Option Expr)(m:MO):Prop:=PO X e (gO X.K E m)
def LI:MO:=λ_ S=>.ok none S
def Hg(m:ME):MO:=λe S=>(m e S).bind λd g=>match d with
 | .int i=>.ok (some i) g
 | _=>.bad
def JF{α:Type}(xs:List α)(lo hi:Option Int):List α:=(xs.drop (HT.sIx xs.length 0 lo)).take (HT.sIx xs.length xs.length hi - HT.sIx xs.length 0 lo)
def TK(n:Nat)(lo hi:Option Int):Bool:=decide (HT.sIx n 0 lo=0/\HT.sIx n n hi=n)
def NG(d:D)(lo hi:Option Int)(S:Sto):Res D:=match d with
 | .tup g=>if TK g.length lo hi=true then .bad else .ok (.tup (JF g lo hi)) S
 | _=>match Je d S with
  | some g=>.ok (.ref S.length) (S++[.lst (JF g lo hi)])
  | none=>.bad
def LL(m:ME)(ml g:MO):ME:=λe S=>(m e S).bind λd j=>(ml e j).bind λlo l=>(g e l).bind λo s=>okR (NG d lo o s)
section
variable{X:Cx}{E:EW}{e:Expr}{lo hi:Option Expr}{pos p2:Pos}{m:ME}{ml mh:MO}
theorem PO.imp(h:PO X o t)(i:∀g H Q,t' g H Q->t g H Q):PO X o t':=λj s g H Q I q=>h j s g H Q I (i g H Q q)
theorem Q4:GO X E none LI:=PO.imp WK λs H Q ⟨g,l,S,A,j,o⟩=>o g H .refl j
theorem Nd(h:GE X E e m):GO X E (some e) (Hg m):=PO.imp (WJ h)<|by
 rintro J H Q ⟨o,l,S,s,A,g⟩
 refine⟨o,l,S,s,A,g.seq λd L g j B x C G I=>?_⟩
 cases d <;> first | exact g.elim | skip
 cases I;exact⟨_,rfl,g j B C G⟩
theorem Ow{K}{ρ}{H}{ds}{vs}(r:Ab K ρ H ds vs)(lo hi:Option Int):Ab K ρ H (JF ds lo hi) (La vs lo hi):=by
 unfold JF La;rw[r.length];exact(r.drop _).take _
theorem Ut(he:GE X E e m)(A:GO X E lo ml)(hu:GO X E hi mh):GE X E (.Subscript e (.Slice lo hi none p2) pos) (LL m ml mh):=(T6 (V6.or YJ) he A hu).imp<|by
 rintro σ H Q ⟨ρ,l,S,A,hs,s⟩
 refine⟨ρ,l,S,A,hs,s.seq λd S1 s J H1 x B s1 r1=>⟨J,l,S1,A.mono B,s1,(s.later B).seq λlo S2 s L H2 C s2=>⟨L,l,S2,A.mono (B.trans C),s2,(s.later C).seq λhi N s G O P R=>?_⟩⟩⟩;obtain⟨d',S',e,k⟩:=s.okR;have Y:=r1.mono (C.trans P)
 have lst:∀g,Je d N=some g->Res.ok (.ref N.length) (N++[.lst (JF g lo hi)])=Res.ok d' S'->aO X.K x lo hi O Q:=λg j e=>by
  cases e;obtain⟨p,T,rfl,rr,sq⟩:=G3 R Y j;refine⟨p,T,rfl,sq,λq j=>?_⟩;have le:Le X.K G O (G++[q]) (upd O q (.lst (La T lo hi))):=Le.alloc j;obtain⟨U,I,gM⟩:=R.alloc (ho:=.lst (La T lo hi)) (o:=.lst (JF g lo hi)) j ⟨_,BE,(Ow rr lo hi).mono le⟩;exact k _ _ _ (B.trans (C.trans (P.trans I))) U (.ref gM)
 cases d with
 | tup g=>
  unfold NG at e;dsimp only at e;split at e
  ·cases e
  ·rename_i hw
   cases e
   cases Y with
   | @tup _ a vs h1 Z=>
    refine .inr ⟨a,vs,rfl,.inl (.inl h1),λz=>hw ?_,λq j=>?_⟩
    ·unfold TK
     rw[Z.length];exact wX z
    ·obtain⟨U,I⟩:=Gq (ho:=.tup (La vs lo hi)) R j
     exact k _ _ _ (B.trans (C.trans (P.trans I))) U (.tup BE ((Ow Z lo hi).mono I))
 | non=>cases e
 | bl _=>cases e
 | int _=>cases e
 | str _=>cases e
 | exc _=>cases e
 | fro g=>exact .inl (lst g rfl e)
 | ref n=>
  unfold NG at e;dsimp only at e;split at e
  ·rename_i g j
   exact .inl (lst g j e)
  ·cases e
end
section
variable{X:Cx}{E:EW}{e:Expr}{p pos:Pos}{m:ME}
def EU(m:ME):ME:=λe S=>(m e S).bind λd g=>match Fx d g with
 | some j=>.ok (.tup j) g
 | none=>.bad
theorem Gf(R:Gl X "tuple") (j:X.mg "tuple" = none) (h:GE X E e m) (L:AX [e] X.env=(false,Bt e X.env) :: AX [] X.env:=by rfl):GE X E (.Call (.Name "tuple" p) [e] [] pos) (EU m):=
 (R1 MN R j bT (Ec h Gy L) (by decide) (by decide) L rfl).imp<|by
 rintro σ H Q ⟨T,l,S,U,Y,j⟩
 refine⟨T,l,S,U,Y,j.seq λd Z j A s x N C r1=>?_⟩
 cases g:Fx d Z with
 | none=>rw[g]at j;exact j.elim
 | some ds=>
  rw[g]at j
  have O:∀a vs,x=.ref a->SqL X.K s a vs->Ab X.K A s ds vs->∃p G,[x]=[.ref p]/\((SqL X.K s p G/\∀l,s l=none->Q (.ref l) (upd s l (.tup G)))∨(SqT X.K s p G/\Q (.ref p) s)):=λa vs e sq I=>by
   subst e;refine⟨a,vs,rfl,.inl ⟨sq,λq g=>?_⟩⟩;obtain⟨s2,P⟩:=Gq (ho:=.tup vs) C g;exact j _ _ _ (N.trans P) s2 (.tup BE (I.mono P))
  cases r1 with
  | @tup _ a vs B J=>cases g;exact⟨a,vs,rfl,.inr ⟨.inl (.inl B),j A s _ N C (.tup B J)⟩⟩
  | @fro _ a vs B J=>cases g;exact O a vs rfl B.sq J
  | @ref n a hn=>
   obtain⟨o,ho,ro⟩:=C.there hn;unfold Fx at g;simp only[ho]at g
   cases o with
   | lst es=>cases g;obtain⟨vs,e,I⟩:=ro;exact O a vs rfl (.inl (.inl e)) I
   | _=>cases g
  | _=>cases g
variable{o:Expr}
def atL(d:D)(S:Sto):Option (Nat×List D):=match d with
 | .ref n=>match S[n]? with
  | some (.lst g)=>some (n,g)
  | _=>none
 | _=>none
theorem Za{K}{ρ}{S}{H}{d}{x}{n}{xs}(s:BQ K ρ S H)(r:BI K ρ H d x)(h:atL d S=some (n,xs)):d=.ref n/\S[n]?=some (.lst xs)/\∃a vs,x=.ref a/\ρ[n]?=some a/\H a=some (.lst vs)/\Ab K ρ H xs vs:=by
 unfold atL at h;split at h
 ·split at h
  ·rename_i g hd
   cases h;exact⟨rfl,hd,Qq s r hd⟩
  ·cases h
 ·cases h
theorem WC{K}{ρ}{S}{H}{n}{a}{vs g}{j}(s:BQ K ρ S H)(l:ρ[n]?=some a)(e:H a=some (.lst vs))(r:Ab K ρ H j g) :
  BQ K ρ (S.set n (.lst j)) (upd H a (.lst g))/\Le K ρ H ρ (upd H a (.lst g)):=by
 have le:Le K ρ H ρ (upd H a (.lst g)):=Le.write l (by rw[e];trivial);exact s.write (ho:=.lst g) (o:=.lst j) l ⟨_,BE,r.mono le⟩ le
def UQ(mo:ME):ME:=λe S=>(mo e S).bind λd g=>match atL d g with
 | some (n,j)=>.ok .non (g.set n (.lst j.reverse))
 | none=>.bad
theorem QF(ho:GE X E o mo)(C:EI o "reverse" X.env (Bt o X.env)=Bt o X.env:=by rfl) (G:(j.endLine==I.line)=true:=by rfl) :
  GE X E (.Call (.Attribute o "reverse" j) [] [] I) (UQ mo):=(Yj MU PySem.F.slot_list_reverse PySem.F.type_list_reverse P3 ho C G).imp<|by
 rintro σ H Q ⟨J,l,S,L,N,g⟩
 refine⟨J,l,S,L,N,g.seq λd O g s H1 v P B R=>?_⟩
 cases A:atL d O with
 | none=>rw[A]at g;exact g.elim
 | some z=>
  obtain⟨n,xs⟩:=z;rw[A]at g;obtain⟨rfl,h0,a,vs,rfl,T,e,U⟩:=Za B R A;obtain⟨Y,Z⟩:=WC B T e U.reverse;exact⟨.inl ⟨rfl,vs,.inl (.inl e)⟩,a,vs,rfl,rfl,e,g s _ _ (P.trans Z) Y .non⟩
end
section
variable{X:Cx}
theorem range_getD{g:Type}(d:g)(bs:List g):(A8 bs.length).map (λi=>bs.getD i d)=bs:=by
 apply GR
 intro i;rw[Ad]
 by_cases h:i < bs.length
 ·rw[Bk h]
  simp[List.getD,h]
 ·rw[Bi.mpr (by simpa using h),Bi.mpr (by simpa using h)]
  rfl
theorem Vz{bs:List Bool}{g:List AC}(r:BD (bs.map V.bl) g){i:Nat}{v:AC}(h:g.toArray[i]?=some v):v=.bool (bs.getD i false):=by
 have j:g[i]?=some v:=by simpa using h
 obtain⟨o,e⟩:=AD.mp j
 have hb:i < bs.length:=by have:=r.length;simp at this;lia
 obtain⟨u,l,m⟩:=r.get (show(bs.map V.bl)[i]?=some (V.bl bs[i]) by simp[hb]);rw[j]at l;cases l;rw[show v=Ii bs[i]from m];simp[List.getD,hb]
def Tu(K:AB)(f:List Bool->Bool):List V->Hp->VK->Prop:=λg H Q=>∃p bs,g=[.ref p]/\(SqL K H p (bs.map V.bl)∨SqT K H p (bs.map V.bl))/\Q (.bl (f bs)) H
theorem QK{J:List (AL×Obj)}{s:AF}{L:St}{H:Hp}{p:AL}{bs:List Bool}{R:AC->AF->Prop}{E:AC->AF->Prop}(T:X.calm=true)(I:Inv X J L H s)(l:SqL X.K H p (bs.map V.bl)∨SqT X.K H p (bs.map V.bl))
  (h:∀m G,(∃I fp wr n P St N,m=Ax I/\Walks X.prog X.w X.A.in1 I fp wr n P St/\St 0 G.heap/\TruthOf X.prog X.w X.A.in1 P N/\(A8 n).map N=bs /\
   ∀(h':BY) (tk:Nat),(∀b o,¬b∈wr->G.heap.get? b=some o->h'.get? b=some o)->Inv X J L H { G with heap:=h',toks:=tk })->R m G) :
  Ac (AW X.prog X.w) X.A.in1 (Sw (.ref p)) R E s:=by
 have O:X.A.in1.handled=none:=I.ok.hd T
 have fin:∀(g:List AC),BD (bs.map V.bl) g->(A8 g.toArray.size).map (λi=>bs.getD i false)=bs:=λg r=>by
  have:g.toArray.size=bs.length:=by have:=r.length;simp at this;simpa using this.symm
  rw[this,range_getD]
 have B:∀(g:List AC),BD (bs.map V.bl) g->TruthOf X.prog X.w X.A.in1 (λi v=>g.toArray[i]?=some v) (λi=>bs.getD i false):=λg r i v s Q E U q=>by
  rw[Vz r U];exact Bc q
 have kp:∀(S:Obj) (h':BY) (tk:Nat),(∀b o,¬b∈[s.heap.objs.size]->(s.heap.push S).get? b=some o->h'.get? b=some o)->Inv X J L H { s with heap:=h',toks:=tk }:=λS h' tk k=>
  I.kept λb o e=>k b o (by simpa using Ak (AV e)) (AE _ e)
 rcases l with l | l
 ·obtain⟨g,C,j,Y⟩:=I.list l
  refine Ls j.isList (h _ _ ⟨s.heap.objs.size,_,_,_,_,_,_,rfl,Zv O _ p (Ak (AV j.isList.choose_spec.1)) g.toArray,⟨⟨_,AR _ rfl,rfl,rfl⟩,?_⟩,B g C,fin g C,kp _⟩)
  exact j.isList.at λo e=>AE _ e
 ·obtain⟨g,C,j,Y⟩:=I.tuple l
  have pt:s.heap.IsTuple p g.toArray:=j;refine Xm pt (h _ _ ⟨s.heap.objs.size,_,_,_,_,_,_,rfl,Walks.tuple O _ p (Ak j.lt) g.toArray,⟨⟨_,AR _ rfl,rfl,rfl⟩,?_⟩,B g C,fin g C,kp _⟩);obtain⟨o,e,c⟩:=pt;exact⟨o,AE _ e,c⟩
theorem Se(j:X.calm=true):HH X (.builtin "any") (Tu X.K λbs=>bs.any id):=by
 intro L s N H O R Q I r h;obtain⟨p,bs,rfl,l,q⟩:=h;obtain⟨u,rfl,m⟩:=vals1 r;cases m;refine call_any_walk (QK j I l λo S ⟨J,A,wr,n,P,St,B,e,W,st,g,C,kp⟩=>⟨J,A,wr,n,P,St,B,e,W,st,g,λE G k=>⟨.bl _,H,kp E G k,rfl,?_⟩⟩);rw[<-C]at q;dsimp only at q;rw[List.any_map]at q;exact q
noncomputable def QM:List D->Option (List Bool)
 | []=>some []
 | .bl b :: g=>(QM g).map (b :: ·)
 | _ :: _=>none
theorem RI{K}{ρ}{H}:∀{ds:List D} {vs:List V} {bs:List Bool},Ab K ρ H ds vs->QM ds=some bs->vs=bs.map V.bl
 | _,_,_,.nil,h=>by cases h;rfl
 | .bl b :: ds,_,bs,.cons r t,h=>by
  unfold QM at h
  cases g:QM ds with
  | none=>rw[g]at h;cases h
  | some j=>rw[g]at h;cases h;cases r;rw[RI t g];rfl
 | .non :: _,_,_,.cons r t,h=>by cases h
 | .int _ :: _,_,_,.cons r t,h=>by cases h
 | .str _ :: _,_,_,.cons r t,h=>by cases h
 | .tup _ :: _,_,_,.cons r t,h=>by cases h
 | .fro _ :: _,_,_,.cons r t,h=>by cases h
 | .ref _ :: _,_,_,.cons r t,h=>by cases h
 | .exc _ :: _,_,_,.cons r t,h=>by cases h
def XC(f:List Bool->Bool)(ds:List D)(S:Sto):Res D:=match QM ds with
 | some bs=>.ok (.bl (f bs)) S
 | none=>.bad
theorem Tk:Zd X.K (Tu X.K f) (XC f):=λj H S o q s d A Q l m sq g k=>by
 unfold XC at g;split at g
 ·rename_i bs hb
  cases g;rw[RI m hb]at sq;exact⟨q,bs,rfl,sq,k j H _ .refl l (.bl _)⟩
 ·cases g
abbrev XN:=XC λbs=>bs.any id
def V3:ZLi->Int:=λg=>Xq (λi=>g.getD i 0) g.length
theorem Iu:∀(n:Nat),(∀i,i < n->f i=g i)->Xq f n=Xq g n
 | 0,_=>rfl
 | n+1,h=>by
  show Xq f n+f n=Xq g n+g n;rw[Iu n λi j=>h i (by lia),h n (by lia)]
theorem MM{ns:ZLi}{g:List AC}(r:BD (ns.map V.int) g):∃xs:Array (Int×Tok),g.toArray=intItems xs/\xs.size=ns.length/\∀i,i < ns.length->numAt xs i=ns.getD i 0:=by
 induction ns generalizing g with
 | nil=>
  cases r;exact⟨#[],by simp[intItems],rfl,λi j=>zX j (by simp)⟩
 | cons n ns m=>
  cases r with
  | cons o s=>
   obtain⟨xs,l,A,B⟩:=m s;obtain⟨t,rfl⟩:=o;refine⟨#[(n,t)]++xs,?_,by simp[A];lia,λi j=>?_⟩
   ·unfold intItems at l ⊢
    rw[Array.map_append,<-l];simp
   ·cases i with
    | zero=>
     unfold numAt;rw[Array.getElem?_append_left (by simp)];simp
    | succ i=>
     have:=B i (by simpa using j);unfold numAt at this ⊢;rw[Array.getElem?_append_right (by simp)];simpa using this
def aP(K:AB)(f:ZLi->Int):List V->Hp->VK->Prop:=λj H Q=>∃p g,j=[.ref p]/\SqL K H p (g.map V.int)/\Q (.int (f g)) H
theorem SY(g:X.calm=true):HH X (.builtin "sum") (aP X.K V3):=by
 intro G s J H xs L Q I r h;obtain⟨p,N,rfl,j,q⟩:=h;obtain⟨u,rfl,l⟩:=vals1 r;cases l;obtain⟨O,m,o,P⟩:=I.list j;obtain⟨xs,A,B,C⟩:=MM m
 refine sum_intListG (xs:=xs) (I.ok.hd g) (by rw[<-A];exact o.isList) λR S E kp=>⟨.int _,H,I.kept kp,⟨E,rfl⟩,?_⟩
 rw[B,Iu _ C];exact q
noncomputable def E3:List D->Option ZLi
 | []=>some []
 | .int b :: g=>(E3 g).map (b :: ·)
 | _ :: _=>none
theorem Hj:∀{ds:List D} {ns:ZLi},E3 ds=some ns->ds=ns.map D.int
 | [],_,h=>by cases h;rfl
 | .int b :: ds,ns,h=>by
  unfold E3 at h
  cases g:E3 ds with
  | none=>rw[g]at h;cases h
  | some j=>rw[g]at h;cases h;rw[Hj g];rfl
 | .non :: _,_,h=>by cases h
 | .bl _ :: _,_,h=>by cases h
 | .str _ :: _,_,h=>by cases h
 | .tup _ :: _,_,h=>by cases h
 | .fro _ :: _,_,h=>by cases h
 | .ref _ :: _,_,h=>by cases h
 | .exc _ :: _,_,h=>by cases h
def P6(m:ME):ME:=λe S=>(m e S).bind λd g=>match Je d g with
 | some j=>match E3 j with
  | some l=>.ok (.int (V3 l)) g
  | none=>.bad
 | none=>.bad
theorem ZG(G:X.calm=true)(I:Gl X "sum") (g:X.mg "sum" = none) (h:GE X E e m) (A:AX [e] X.env=(false,Bt e X.env) :: AX [] X.env:=by rfl):GE X E (.Call (.Name "sum" p) [e] [] pos) (P6 m):=
 (Hf (SY G) I g bU (Ec h Gy A) (by decide) (by decide) A rfl).imp<|by
 rintro Z H Q ⟨J,l,S,L,N,g⟩
 refine⟨J,l,S,L,N,g.seq λd O g j P x R B T=>?_⟩
 cases o:Je d O with
 | none=>rw[o]at g;exact g.elim
 | some U=>
  rw[o]at g;dsimp only at g
  cases s:E3 U with
  | none=>rw[s]at g;exact g.elim
  | some Y=>
   rw[s]at g;obtain⟨p,xs,rfl,C,sq⟩:=G3 B T o;rw[Hj s]at C;rw[C.ints]at sq;exact⟨p,Y,rfl,sq,g j P _ R B (.int _)⟩
noncomputable def tyD(d:D)(S:Sto):Option String:=match d with
 | .non=>some "NoneType"
 | .bl _=>some "bool"
 | .int _=>some "int"
 | .str _=>some "str"
 | .tup _=>some "tuple"
 | .ref n=>match S[n]? with
  | some (.lst _)=>some "list"
  | some (.dK _)=>some "dict"
  | some (.dT _)=>some "dict"
  | _=>none
 | .fro _=>none
 | .exc _=>none
theorem YA{K}{ρ}{S}{H}{d}{x}{T}(s:BQ K ρ S H)(r:BI K ρ H d x)(h:tyD d S=some T):JL K H x (.type T):=by
 cases r with
 | non=>cases h;exact .non
 | bl b=>cases h;exact .bl b
 | int i=>cases h;exact .int i
 | str i=>cases h;exact .str i
 | tup m _=>cases h;exact .tup m
 | fro _ _=>cases h
 | exc _ _=>cases h
 | @ref n a A=>
  obtain⟨o,B,g⟩:=s.there A;unfold tyD at h;simp only[B]at h
  cases o with
  | lst j=>cases h;obtain⟨vs,e,l⟩:=g;exact .lst e
  | dK j=>cases h;obtain⟨vs,e,l⟩:=g;exact .dK e
  | dT j=>cases h;obtain⟨vs,e,l⟩:=g;exact .dT e
  | ins _ _=>cases h
  | fK _=>cases h
  | fT _=>cases h
  | mem _=>cases h
  | cod _ _ _=>cases h
def Xf(c T:String):Option Bool:=if T==c then some true else if T=="bool"&&c=="int" then some true else if ["NoneType", "bool", "int", "str", "tuple", "list", "dict"].contains T&&["bool", "int", "str", "tuple", "list", "dict"].contains c then some false else none
end
def G1{α:Type}(r g:Res α):Res α:=match r with
 | .bad=>g
 | r=>r
theorem R5{g:Type}(r r':Res g):G1 r r'=r∨G1 r r'=r':=by cases r <;> simp[G1]
def op2(f g:D->D->Sto->Res D):D->D->Sto->Res D:=λx y S=>G1 (f x y S) (g x y S)
theorem Qz(f g:D->D->Sto->Res D)(ma j:ME)(l:Lo)(S:Sto):m2 (op2 f g) ma j l S=m2 f ma j l S∨m2 (op2 f g) ma j l S=m2 g ma j l S:=by
 unfold m2
 cases ma l S with
 | ok x o=>
  dsimp only[Res.bind]
  cases j l o with
  | ok y m=>
   dsimp only[Res.bind];unfold op2
   rcases R5 (f x y m) (g x y m)with e | e <;> rw[e] <;> simp
  | err c m=>exact .inl rfl
  | bad=>exact .inl rfl
 | err c o=>exact .inl rfl
 | bad=>exact .inl rfl
section
theorem Uy{m g m2}(G:GE X E e g)(J:GE X E e m2)(h:∀l S,m l S=g l S∨m l S=m2 l S):GE X E e m:=by
 rintro j s o H Q I ⟨A,l,S,B,C,a⟩
 rcases h l S with q | q
 ·rw[q]at a;exact G j s o H Q I ⟨A,l,S,B,C,a⟩
 ·rw[q]at a;exact J j s o H Q I ⟨A,l,S,B,C,a⟩
theorem Ur(B:GT X E e C)(G:GT X E e J)(h:∀l S,t l S=C l S∨t l S=J l S):GT X E e t:=by
 rintro g s j H Q I ⟨m,l,S,o,A,a⟩
 rcases h l S with q | q
 ·rw[q]at a;exact B g s j H Q I ⟨m,l,S,o,A,a⟩
 ·rw[q]at a;exact G g s j H Q I ⟨m,l,S,o,A,a⟩
theorem ZF(C:GI X E g e G)(J:GI X E g e L)(h:∀l S,t l S=G l S∨t l S=L l S):GI X E g e t:=by
 rintro j s m H R I ⟨o,l,S,A,B,a⟩
 rcases h l S with q | q
 ·rw[q]at a;exact C j s m H R I ⟨o,l,S,A,B,a⟩
 ·rw[q]at a;exact J j s m H R I ⟨o,l,S,A,B,a⟩
theorem Xe{m g m2}(h:∀l S,m l S=g l S∨m l S=m2 l S)(l:Lo)(S:Sto):mB m l S=mB g l S∨mB m l S=mB m2 l S:=by
 unfold mB
 rcases h l S with q | q <;> rw[q] <;> simp
abbrev inA(neg:Bool):=op2 (inD neg) (Jh neg)
theorem bE(j:X.A.units+64 < C9)(hi:GE X E i l)(ho:GE X E o mo)(g:Bh .In o=false:=by with_unfolding_all rfl):GE X E (.Compare i [.In] [o] pos) (m2 (inA false) l mo):=
 Uy (ZL (Xd j) hi ho g) (ZK (by lia) hi ho g) λ_ _=>Qz _ _ _ _ _ _
theorem Uo(j:X.A.units+64 < C9)(hi:GE X E i l)(ho:GE X E o mo)(g:Bh .In o=false:=by with_unfolding_all rfl):GT X E (.Compare i [.In] [o] pos) (mB (m2 (inA false) l mo)):=
 Ur (DQ (Xd j) hi ho g) (ZB (by lia) hi ho g) (Xe λ_ _=>Qz _ _ _ _ _ _)
theorem Oq(j:X.A.units+64 < C9)(hi:GE X E i l)(ho:GE X E o mo)(g:Bh .NotIn o=false:=by with_unfolding_all rfl):GT X E (.Compare i [.NotIn] [o] pos) (mB (m2 (inA true) l mo)):=
 Ur (DQ (UB j) hi ho g) (SL (by lia) hi ho g) (Xe λ_ _=>Qz _ _ _ _ _ _)
abbrev ixA:=op2 ixD RE
theorem Du(l:X.A.units+64 < C9)(ho:GE X E o mo)(hi:GE X E i j)(g:Nu i:=by intro _ _;rfl):GE X E (.Subscript o i pos) (m2 ixA mo j):=
 Uy (bD ag ho hi g) (Wz (by lia) ho hi g) λ_ _=>Qz _ _ _ _ _ _
def FH(d:D):MP:=match d with
 | .tup g=>D4 g
 | d=>Jr d
def FQ(m:ME):MI:=λe S=>(m e S).bind λd g=>match FH d g with
 | some _=>.ok (FH d) g
 | none=>.bad
theorem FR(h:GE X E e m):GI X E j e (FQ m):=ZF (ZE h) (ZD h) λl S=>by
 unfold FQ bB Xg
 cases m l S with
 | ok d g=>
  dsimp only[Res.bind]
  cases d <;> first | exact .inl rfl | exact .inr rfl
 | err c g=>exact .inl rfl
 | bad=>exact .inl rfl
def D1(m:ME):ME:=λe S=>(m e S).bind λd g=>match Fx d g with
 | some j=>.ok (.int j.length) g
 | none=>.bad
theorem FT(j:Gl X "len") (o:X.mg "len" = none) (h:GE X E e m) (s:AX [e] X.env=(false,Bt e X.env) :: AX [] X.env:=by rfl):GE X E (.Call (.Name "len" p) [e] [] pos) (D1 m):=
 (Q5 Np YK j o PySem.boot_len (Xh h) (by decide) (by decide) s).imp λG H Q ⟨A,l,S,B,C,a⟩=>⟨A,l,S,B,C,by
  have q:mQ av (Og m) l S=D1 m l S:=by
   unfold mQ Og D1
   cases m l S with
   | ok d g=>
    dsimp only[Res.bind]
    cases Fx d g <;> rfl
   | err c g=>rfl
   | bad=>rfl
  rw[q];exact a⟩
theorem Ww(g:X.calm=true)(j:Gl X "min") (l:X.mg "min" = none) (h:GA X E [a,b] ml) (m:AX [a,b] X.env=(false,Bt a X.env) :: AX [b] X.env:=by rfl) (o:(D2 pos (AX [b] X.env)).any (·.1)=false:=by rfl):GE X E (.Call (.Name "min" p) [a,b] [] pos) (mQ Mi ml):=
 Q6 (Sb g) XO j l Kh h (by decide) (by decide) m o
theorem Wx(g:X.calm=true)(j:Gl X "max") (l:X.mg "max" = none) (h:GA X E [a,b] ml) (m:AX [a,b] X.env=(false,Bt a X.env) :: AX [b] X.env:=by rfl) (o:(D2 pos (AX [b] X.env)).any (·.1)=false:=by rfl):GE X E (.Call (.Name "max" p) [a,b] [] pos) (mQ Mj ml):=
 Q6 (Sd g) XQ j l bV h (by decide) (by decide) m o
theorem ZM(g:X.calm=true)(j:Gl X "any") (l:X.mg "any" = none) (h:GE X E e m) (o:AX [e] X.env=(false,Bt e X.env) :: AX [] X.env:=by rfl):GE X E (.Call (.Name "any" p) [e] [] pos) (mQ XN (Og m)):=
 Q5 (Se g) Tk j l bZ (Xh h) (by decide) (by decide) o
end
def isB(t A:String):Option Bool:=if ["NoneType", "bool", "int", "str", "tuple", "list", "dict"].contains A then Xf t A else none
noncomputable def Vr(g:Fd)(x:Str):Bool:=decide (g.names.lookup x=some .local)||decide (g.names.lookup x=some .cell)||decide (g.names.lookup x=some .free)
def U8(X:Cx)(scope:Fd)(own N':List Str):Bool:=
 decide (scope.kind=.function)&&scope.names.all (λy=>!decide (y.2=.local)||decide (scope.names.lookup y.1=some .local)) &&
 scope.names.all (λy=>!decide (y.2=.free)||decide (X.env.kindOf y.1=some .cell)||decide (X.env.kindOf y.1=some .free))&&decide (N'.length=own.length+X.N.length) &&
 ((N'.drop own.length).zip X.N).all (λp=>!Vr (GJ scope X.env) p.1||(decide (p.1=p.2)&&Vr X.env.scope p.1&&(decide ((GJ scope X.env).names.lookup p.1=some .cell)||decide ((GJ scope X.env).names.lookup p.1=some .free))&&!decide (X.env.kindOf p.1=some .local)&&!scope.names.any (λz=>decide (z=(p.1,Bu)))&&scope.names.any (λz=>decide (z=(p.1,Dh))))) &&
 (GJ scope X.env).names.all (λy=>(!decide (y.2=.cell)&&!decide (y.2=.free))||scope.names.any (λz=>decide (z=(y.1,Dh)))||scope.names.any (λz=>decide (z=(y.1,Bu))))
theorem OE:Vr g x=true↔Vis g x:=by
 unfold Vr Vis;simp[or_assoc]
theorem FA(h:U8 X scope own N'=true):IY X scope own N':=by
 unfold U8 at h;simp only[Di]at h;obtain⟨⟨⟨⟨⟨H,m⟩,o⟩,s⟩,A⟩,B⟩:=h;rw[HF]at m o A B;refine⟨of_decide_eq_true H,λy l e=>?_,λy l e=>?_,of_decide_eq_true s,λi x e v=>?_,λx j=>?_⟩
 ·have:=m y l
  simpa[e]using this
 ·have:=o y l
  simpa[e]using this
 ·have C:=of_decide_eq_true s
  have S:own.length+i < N'.length:=(AD.mp e).1
  have j:i < X.N.length:=by lia
  have I:(x,X.N[i])∈(N'.drop own.length).zip X.N:=by
   rw[List.mem_iff_getElem?];refine⟨i,?_⟩;rw[List.getElem?_zip_eq_some];exact⟨by rw[Fg];exact e,by simp[j]⟩
  have:=A _ I;rw[OE.mpr v]at this;simp only[N2,Xx,Di,Bool.or_eq_true,decide_eq_true_eq,Bool.not_eq_true',decide_eq_false_iff_not]at this;obtain⟨⟨⟨⟨⟨J,L⟩,O⟩,P⟩,E⟩,Q⟩:=this;refine⟨⟨by rw[J];simp[j],OE.mp L,O,P⟩,λq=>?_,?_⟩
  ·rw[Jp]at E
   exact E _ q (wX rfl)
  ·obtain⟨z,G,e⟩:=VZ.mp Q
   rw[of_decide_eq_true e]at G;exact G
 ·have g:∀k,(GJ scope X.env).names.lookup x=some k->(k=.cell∨k=.free)->(x,Dh)∈scope.names∨(x,Bu)∈scope.names:=λk e R=>by
   have:=B _ (Bj e)
   rcases R with rfl | rfl
   ·simpa using this
   ·simpa using this
  rcases j with e | e
  ·exact g _ e (.inl rfl)
  ·exact g _ e (.inr rfl)
structure Dfn(K:AB)(mg:Str->Option AC)(x qual:Str)(st:DM)(ps:List Str) where
 f:AL
 fd:EJ
 F:Fun K x qual st f fd
 b:Binds K fd ps []
 m:mg x=some (.ref f)
theorem Dfn.kp{K}{j}{x g}{st}{ps}(d:Dfn K j x g st ps):D3 K (.ref d.f)=true:=d.F.kp
structure Mtd(K:AB)(x qual:Str)(st:DM)(ps:List Str) where
 f:AL
 fd:EJ
 F:Fun K x qual st f fd
 b:Binds K fd ps []
structure Own(K:AB)(mg:Str->Option AC)(x:Str)(C f:AL):Prop where
 cl:Cls K C
 mk':Mk K C f
 m:mg x=some (.ref C)
end L2
namespace Srt
structure Ord(U:Ap->Prop)(lt:Ap->Ap->Bool):Prop where
 asym:∀x y,U x->U y->lt x y=true->lt y x=false
 ntr:∀x y z,U x->U y->U z->lt y x=false->lt z y=false->lt z x=false
theorem Ord.irr(o:Ord U lt)(h:U x):lt x x=false:=by
 cases e:lt x x with
 | false=>rfl
 | true=>exact(o.asym x x h h e).symm.trans e |>.symm▸rfl
def ix(xs:Array Ap)(i:Nat):Ap:=xs.getD i (.none,.none)
theorem Gc(h:xs[i]?=g[j]?):ix xs i=ix g j:=by
 unfold ix;rw[DJ,DJ,h]
theorem CI(h:i < xs.size):xs[i]?=some (ix xs i):=by
 unfold ix;rw[DJ,getElem?_pos xs i h];rfl
theorem SE(l:g < xs.size)(hd:d<=g)(k:Nat) :
  ix (Xr xs g d) k=if k=g - d then ix xs g else if g - d < k/\k<=g then ix xs (k - 1)else ix xs k:=by
 have e:=getElem?_bubble l d hd k;split
 ·rename_i h;rw[qX h]at e;exact Gc e
 ·rename_i h
  rw[qY h]at e;split
  ·rename_i j;rw[qX j]at e;exact Gc e
  ·rename_i j;rw[qY j]at e;exact Gc e
theorem Cn(g:j<=xs.size)(k:Nat) :
  ix (Gi xs i j ((j - i) / 2)) k=if i<=k/\k < j then ix xs (i+j - 1 - k)else ix xs k:=by
 have e:=getElem?_mirror_all (i:=i) g k;split
 ·rename_i h;rw[qX h]at e;exact Gc e
 ·rename_i h;rw[qY h]at e;exact Gc e
section
def HG(prog:Aq)(w:A9)(A:A4)(s:AF)(a₀:Array Ap)(g:JU)(lt:Ap->Ap->Bool):Prop:=
 ∀x y,x∈a₀->y∈a₀->∀(Q:Bool->AF->Prop) (E:AC->AF->Prop),Q (lt x y) s->Ac (AW prog w) A (keyLt' g x.1 y.1) Q E s
structure Good(a₀:Array Ap)(κ:JU)(st:An):Prop where
 perm:(AM st).Perm a₀
 kind:kindOf st=κ
 failed:Fc st=none
theorem Good.size{st:An}(g:Good a₀ j st):(AM st).size=a₀.size:=g.perm.size_eq
theorem Good.mem{st:An}(g:Good a₀ l st){i:Nat}(h:i < a₀.size):ix (AM st) i∈a₀:=by
 have j:i < (AM st).size:=by rw[g.size];exact h
 have e:=CI j;have:=B0 e;exact A3.mp ((DT.mp g.perm).mem_iff.mp (A3.mpr this))
theorem Good.setArr{st:An}(g:Good a₀ j st){xs:Array Ap}(l:xs.Perm (AM st)):Good a₀ j (setArr st xs):=⟨l.trans g.perm,g.kind,g.failed⟩
theorem Kj{st:An}{x y:Ap}{Q:Option Bool->An->Prop}(C:HG prog w A s a₀ j lt)(g:Good a₀ j st)(l:x∈a₀)(m:y∈a₀)(h:Q (some (lt x y)) st):wpS (AW prog w) A E s (lt' x y) Q st:=by
 rw[lt'_eq];refine AT (Eu ?_);rw[g.kind];refine AT (wpS_lift (KJ ?_));refine C x y l m _ _ ⟨rfl,?_⟩;exact AU h
theorem JY{st:An}{i j:Nat}{Q:Option Bool->An->Prop}(C:HG prog w A s a₀ m lt)(g:Good a₀ m st)(hi:i < a₀.size)(l:j < a₀.size)(h:Q (some (lt (ix (AM st) i) (ix (AM st) j))) st) :
  wpS (AW prog w) A E s (Zj i j) Q st:=by
 rw[ltAt'_eq];refine AT (Eu ?_);show wpS _ _ _ _ (do let x <-elem' (AM st) i;let y <-elem' (AM st) j;lt' x y) Q st;rw[Vc,Vc,CI (by rw[g.size];exact hi),CI (by rw[g.size];exact l)];exact AT (AU (AT (AU (Kj C g (g.mem hi) (g.mem l) h))))
def Up(lt:Ap->Ap->Bool)(xs:Array Ap)(lo hi:Nat):Prop:=∀i j,lo<=i->i<=j->j < hi->lt (ix xs j) (ix xs i)=false
def Dn(lt:Ap->Ap->Bool)(xs:Array Ap)(lo hi:Nat):Prop:=∀i j,lo<=i->i<=j->j < hi->lt (ix xs i) (ix xs j)=false
def Out(xs g:Array Ap)(lo hi:Nat):Prop:=∀i,(i < lo∨hi<=i)->ix g i=ix xs i
theorem Out.refl{xs:Array Ap}{lo hi:Nat}:Out xs xs lo hi:=λ_ _=>rfl
theorem Out.trans{xs g j:Array Ap}{lo hi:Nat}(a:Out xs g lo hi)(b:Out g j lo hi):Out xs j lo hi:=λi h=>(b i h).trans (a i h)
theorem Up.out{xs g:Array Ap}{lo hi l h:Nat}(u:Up lt xs l h)(o:Out xs g lo hi)(d:h<=lo∨hi<=l):Up lt g l h:=λi j m s A=>by
 rw[o i (by lia),o j (by lia)];exact u i j m s A
theorem Up.grow{st:An}(O:Ord (·∈a₀) lt)(g:Good a₀ B st){lo hi:Nat}(l:hi < a₀.size)(u:Up lt (AM st) lo hi)(C:lo < hi)(h:lt (ix (AM st) hi) (ix (AM st) (hi - 1))=false):Up lt (AM st) lo (hi+1):=λi j m o E=>by
 by_cases s:j < hi
 ·exact u i j m o s
 ·have:j=hi:=by lia
  subst this
  by_cases A:i=j
  ·subst A;exact O.irr (g.mem l)
  ·exact O.ntr _ _ _ (g.mem (by lia)) (g.mem (show j - 1 < _ by omega)) (g.mem l) (u i (j - 1) m (by lia) (by lia)) h
theorem wpS_binarySort{st:An}{lo n ok:Nat}{Q:Bool->An->Prop}(C:HG prog w A s a₀ S lt)(O:Ord (·∈a₀) lt)(hn:lo+n<=a₀.size)(hok:ok<=n)(g:Good a₀ S st)(u:Up lt (AM st) lo (lo+ok))
  (h:∀m,Good a₀ S m->Up lt (AM m) lo (lo+n)->Out (AM st) (AM m) lo (lo+n)->AO m=AO st->Q true m):wpS (AW prog w) A E s (binarySort' lo n ok) Q st:=by
 rw[binarySort'_eq]
 refine AT (EF (CF (I:=λk c m=>c=(none,())/\Good a₀ S m/\Up lt (AM m) lo (lo+min k n)/\Out (AM st) (AM m) lo (lo+n)/\AO m=AO st)
  (Q:=λc m=>c=(none,())/\Good a₀ S m/\Up lt (AM m) lo (lo+n)/\Out (AM st) (AM m) lo (lo+n)/\AO m=AO st) ?step ?fin ?init) ?post)
 case post=>
  rintro c m ⟨rfl,X,Y,Z,p'⟩;exact AU (h m X Y Z p')
 case init=>
  refine⟨rfl,g,λi j R T h3=>?_,.refl,rfl⟩
  by_cases h0:ok=0
  ·have:i=j:=by lia
   subst this;exact O.irr (g.mem (by omega))
  ·exact u i j R T (by lia)
 case fin=>
  rintro c m ⟨hc,X,Y,Z,p'⟩;refine⟨hc,X,?_,Z,p'⟩;rwa [show min (max (max ok 1) n) n=n by lia]at Y
 case step=>
  rintro k c H lP lQ ⟨rfl,B,U,o1,p1⟩;rw[show min k n=k by lia]at U
  have L:lo+k < a₀.size:=by lia
  refine AT (EF (CF (I:=λx c o=>o=H/\∃l r,c=(none,l,r)/\l<=r/\r<=k/\r - l<=k - x /\
    (∀i,i < l->lt (ix (AM H) (lo+k)) (ix (AM H) (lo+i))=false)/\(∀i,r<=i->i < k->lt (ix (AM H) (lo+k)) (ix (AM H) (lo+i))=true))
   (Q:=λc o=>o=H/\∃l r,c=(none,l,r)/\l<=k /\
    (∀i,i < l->lt (ix (AM H) (lo+k)) (ix (AM H) (lo+i))=false)/\(∀i,l<=i->i < k->lt (ix (AM H) (lo+k)) (ix (AM H) (lo+i))=true)) ?istep ?ifin ?iinit) ?ipost)
  case iinit=>exact⟨rfl,0,k,rfl,by lia,by lia,by lia,λi hi=>by lia,λi R T=>by lia⟩
  case ifin=>
   rintro c o ⟨rfl,l,r,rfl,hlr,J,hm,N,P⟩
   have:l=r:=by lia
   subst this;exact⟨rfl,l,l,rfl,J,N,P⟩
  case istep=>
   rintro x c o _ lR ⟨rfl,l,r,rfl,hlr,J,hm,N,P⟩;dsimp only
   by_cases cg:l ≥ r
   ·rw[qX cg]
    have:l=r:=by lia
    subst this;exact AU ⟨rfl,l,l,rfl,J,N,P⟩
   ·rw[qY cg]
    refine AT (JY C B L (by lia) ?_)
    cases G:lt (ix (AM o) (lo+k)) (ix (AM o) (lo+(l+r) / 2))with
    | true=>
     refine AU ⟨rfl,l,(l+r) / 2,rfl,by lia,by lia,by omega,N,λi R T=>?_⟩
     cases e:lt (ix (AM o) (lo+k)) (ix (AM o) (lo+i))with
     | true=>rfl
     | false=>
      have:=O.ntr _ _ _ (B.mem (show lo+(l+r) / 2 < _ by lia)) (B.mem (show lo+i < _ by lia)) (B.mem L) (U (lo+(l+r) / 2) (lo+i) (by lia) (by lia) (by lia)) e;rw[G]at this;cases this
    | false=>
     refine AU ⟨rfl,(l+r) / 2+1,r,rfl,by lia,by omega,by omega,λi R=>?_,P⟩;exact O.ntr _ _ _ (B.mem (show lo+i < _ by lia)) (B.mem (show lo+(l+r) / 2 < _ by lia)) (B.mem L) (U (lo+i) (lo+(l+r) / 2) (by lia) (by lia) (by lia)) G
  case ipost=>
   rintro c o ⟨rfl,l,r,rfl,hlk,N,P⟩;show wpS _ _ _ _ (do moveDown' (lo+k) (lo+l);pure (El (none,()))) _ _;rw[moveDown'_eq]
   have jO:lo+k < (AM o).size:=by rw[B.size];exact L
   have e:∀i,ix (Xr (AM o) (lo+k) (lo+k - (lo+l))) i=if i=lo+l then ix (AM o) (lo+k)else if lo+l < i/\i<=lo+k then ix (AM o) (i - 1)else ix (AM o) i:=λi=>by
    rw[SE jO (by lia),show lo+k - (lo+k - (lo+l))=lo+l by lia]
   refine AT (CL (AU ⟨rfl,B.setArr (bubble_perm _ _ _),?_,o1.trans λi hi=>?_,p1⟩))
   ·rw[show min (k+1) n=k+1 by lia]
    intro i j R T h3;show lt (ix (Xr (AM o) (lo+k) (lo+k - (lo+l))) j) (ix (Xr (AM o) (lo+k) (lo+k - (lo+l))) i)=false;rw[e,e]
    repeat' split
    all_goals first
     | (exfalso;lia)
     | exact O.irr (B.mem L)
     | (have q:=N (i - lo) (by lia);rw[show lo+(i - lo)=i by lia]at q;exact q)
     | (have q:=P (j - 1 - lo) (by omega) (by omega);rw[show lo+(j - 1 - lo)=j - 1 by lia]at q;exact O.asym _ _ (B.mem L) (B.mem (by lia)) q)
     | exact U _ _ (by omega) (by omega) (by lia)
   ·show ix (Xr (AM o) (lo+k) (lo+k - (lo+l))) i=ix (AM o) i
    rw[e,qY (by lia),qY (by lia)]
end
section
theorem GV{g:Type}{M:PX}{r:String}{Q:PUnit->g->Prop}{st:g}(h:Q ⟨⟩ st):wpS M A E s (liftM (rule r):StateT g Sem PUnit) Q st:=wpS_lift (PD ⟨rfl,h⟩)
theorem Dn.flip{xs:Array Ap}{lo hi:Nat}(g:hi<=xs.size)(d:Dn lt xs lo hi):Up lt (Gi xs lo hi ((hi - lo) / 2)) lo hi:=λi j l m o=>by
 rw[Cn g,Cn g,qX (by lia),qX (by lia)];exact d _ _ (by omega) (by omega) (by omega)
theorem Dn.part{xs:Array Ap}{lo hi m:Nat}(g:hi<=xs.size)(l:lo<=m)(o:m<=hi)(d:Dn lt xs lo hi)(e:Up lt xs m hi):Dn lt (Gi xs m hi ((hi - m) / 2)) lo hi:=λi j s A B=>by
 rw[Cn g,Cn g]
 by_cases C:m<=i
 ·rw[qX (by lia),qX (by lia)]
  exact e _ _ (by omega) (by omega) (by omega)
 ·rw[qY (by lia)]
  split
  ·exact d _ _ (by omega) (by lia) (by omega)
  ·exact d _ _ (by omega) (by omega) (by omega)
theorem G0{xs:Array Ap}{i j lo hi:Nat}(g:j<=xs.size)(l:lo<=i)(m:j<=hi):Out xs (Gi xs i j ((j - i) / 2)) lo hi:=λk o=>by
 rw[Cn g,qY (by lia)]
theorem Dn.grow{st:An}(O:Ord (·∈a₀) lt)(g:Good a₀ B st){lo hi:Nat}(l:hi < a₀.size)(u:Dn lt (AM st) lo hi)(C:lo < hi)(h:lt (ix (AM st) (hi - 1)) (ix (AM st) hi)=false):Dn lt (AM st) lo (hi+1):=λi j m o E=>by
 by_cases s:j < hi
 ·exact u i j m o s
 ·have:j=hi:=by lia
  subst this
  by_cases A:i=j
  ·subst A;exact O.irr (g.mem l)
  ·exact O.ntr _ _ _ (g.mem l) (g.mem (show j - 1 < _ by omega)) (g.mem (by lia)) h (u i (j - 1) m (by lia) (by lia))
theorem Pm(O:Ord (·∈a₀) lt){st:An}(g:Good a₀ o st){lo:Nat}(h:lo < a₀.size):Up lt (AM st) lo (lo+1):=λi j s A B=>by
 have l:i=lo:=by lia
 have m:j=lo:=by lia
 rw[l,m];exact O.irr (g.mem h)
theorem Vj{st:An}{lo bh n:Nat}{Q:Option Nat->An->Prop}(C:HG prog w A s a₀ m lt)(O:Ord (·∈a₀) lt)(J:1<=n)(L:n<=bh)(N:lo+bh<=a₀.size)(g:Good a₀ m st)(u:Up lt (AM st) lo (lo+n))
  (h:∀n,1<=n->n<=bh->Up lt (AM st) lo (lo+n)->Q (some n) st):wpS (AW prog w) A E s (do
   let mut n:=n
   for _ in [n:bh] do
    let some o <-Zj (lo+n) (lo+n - 1) | return none
    if o then break
    n:=n+1
   return some n) Q st:=by
 refine AT (EF (CF (I:=λx c j=>j=st/\c=(none,x)/\Up lt (AM st) lo (lo+x))
  (Q:=λc j=>j=st/\∃n,c=(none,n)/\1<=n/\n<=bh/\Up lt (AM st) lo (lo+n)) ?step ?fin ⟨rfl,rfl,u⟩) ?post)
 case fin=>
  rintro c j ⟨rfl,rfl,u⟩
  have e:max n bh=bh:=by lia
  rw[e]at u ⊢;exact⟨rfl,bh,rfl,by lia,AK _,u⟩
 case step=>
  rintro x c j B P ⟨rfl,rfl,u⟩;dsimp only;refine AT (JY C g (by lia) (by lia) ?_)
  cases G:lt (ix (AM j) (lo+x)) (ix (AM j) (lo+x - 1))with
  | true=>exact AU ⟨rfl,x,rfl,by lia,by lia,u⟩
  | false=>exact AU ⟨rfl,rfl,Up.grow (hi:=lo+x) O g (by lia) u (by lia) G⟩
 case post=>
  rintro c j ⟨rfl,n,rfl,l,H,u⟩;exact AU (h n l H u)
theorem wpS_countRun{st}{lo bh}{Q}(C:HG prog w A s a₀ H lt)(O:Ord (·∈a₀) lt)(h1:1<=bh)(hn:lo+bh<=a₀.size)(g:Good a₀ H st)
  (h:∀l n,Good a₀ H l->1<=n->n<=bh->Up lt (AM l) lo (lo+n)->Out (AM st) (AM l) lo (lo+bh)->AO l=AO st->Q (some n) l):wpS (AW prog w) A E s (countRun' lo bh) Q st:=by
 rw[countRun'_eq]
 refine AT (EF (CF (I:=λx c l=>l=st/\c=(none,x)/\Up lt (AM st) lo (lo+x))
  (Q:=λc l=>l=st/\∃n,c=(none,n)/\1<=n/\n<=bh/\Up lt (AM st) lo (lo+n)/\(n=bh∨lt (ix (AM st) (lo+n)) (ix (AM st) (lo+n - 1))=true)) ?step ?fin ?init) ?post)
 case init=>
  refine⟨rfl,rfl,λi j a1 a2 a3=>?_⟩
  have:i=j:=by lia
  subst this;exact O.irr (g.mem (by lia))
 case fin=>
  rintro c l ⟨rfl,rfl,u⟩
  have e:max 1 bh=bh:=by lia
  rw[e]at u ⊢;exact⟨rfl,bh,rfl,h1,AK _,u,.inl rfl⟩
 case step=>
  rintro x c l X iK ⟨rfl,rfl,u⟩;dsimp only;refine AT (JY C g (by lia) (by lia) ?_)
  cases N:lt (ix (AM l) (lo+x)) (ix (AM l) (lo+x - 1))with
  | true=>exact AU ⟨rfl,x,rfl,X,by lia,u,.inr N⟩
  | false=>exact AU ⟨rfl,rfl,Up.grow (hi:=lo+x) O g (by lia) u (by lia) N⟩
 case post=>
  rintro c l ⟨rfl,n,rfl,Y,cM,u,hd⟩;dsimp only
  by_cases T:n=bh
  ·rw[qX (by simpa using T)]
   exact AU (h l n g Y cM u .refl rfl)
  ·rw[qY (by simpa using T)]
   have eS:=hd.resolve_left T
   have P:∀(bw:An),Good a₀ H bw->Dn lt (AM bw) lo (lo+(n+1))->Out (AM l) (AM bw) lo (lo+bh)->AO bw=AO l ->
     wpS (AW prog w) A E s (do
      liftM (rule "list.sort.descending-run")
      let mut n:=n+1
      let mut neq:=0
      for _ in [n:bh] do
       let some Z <-Zj (lo+n) (lo+n - 1) | return none
       if Z then
        if neq > 0 then KM (lo+n - (neq+1)) (lo+n)
        neq:=0
       else
        let some eo <-Zj (lo+n - 1) (lo+n) | return none
        if eo then break
        neq:=neq+1
       n:=n+1
      if neq > 0 then KM (lo+n - (neq+1)) (lo+n)
      KM lo (lo+n)
      for _ in [n:bh] do
       let some Z <-Zj (lo+n) (lo+n - 1) | return none
       if Z then break
       n:=n+1
      return some n) Q bw:=by
    intro bw g1 d1 o1 p1;refine AT (GV ?_)
    refine AT (EF (CF (I:=λx c B=>Good a₀ H B/\∃q,c=(none,x,q)/\q+1<=x/\Dn lt (AM B) lo (lo+x)/\Up lt (AM B) (lo+x - (q+1)) (lo+x)/\Out (AM l) (AM B) lo (lo+bh)/\AO B=AO l)
     (Q:=λc B=>Good a₀ H B/\∃n q,c=(none,n,q)/\n<=bh/\q+1<=n/\Dn lt (AM B) lo (lo+n)/\Up lt (AM B) (lo+n - (q+1)) (lo+n)/\Out (AM l) (AM B) lo (lo+bh)/\AO B=AO l) ?dstep ?dfin ?dinit) ?dpost)
    case dinit=>
     refine⟨g1,0,rfl,by lia,d1,?_,o1,p1⟩;have:=Pm O g1 (lo:=lo+n) (by lia);rwa [show lo+(n+1) - (0+1)=lo+n by lia,show lo+(n+1)=lo+n+1 by lia]
    case dfin=>
     rintro c B ⟨G,q,rfl,N,d2,S,J,L⟩
     have e:max (n+1) bh=bh:=by lia
     rw[e]at d2 S N ⊢;exact⟨G,bh,q,rfl,AK _,N,d2,S,J,L⟩
    case dstep=>
     rintro x c B X iK ⟨G,q,rfl,N,d2,S,J,L⟩;dsimp only;refine AT (JY C G (by lia) (by lia) ?_)
     cases hs:lt (ix (AM B) (lo+x)) (ix (AM B) (lo+x - 1))with
     | true=>
      dsimp only;rw[qX rfl];have cf:=O.asym _ _ (G.mem (show lo+x < _ by lia)) (G.mem (show lo+x - 1 < _ by lia)) hs
      by_cases eu:q > 0
      ·rw[qX eu,Hz]
       have o:lo+x<=(AM B).size:=by rw[G.size];lia
       have U:Good a₀ H (setArr B (Gi (AM B) (lo+x - (q+1)) (lo+x) ((lo+x - (lo+x - (q+1))) / 2))):=G.setArr (Nz _ _ _ _);have d3:=Dn.part (lt:=lt) (lo:=lo) o (show lo<=lo+x - (q+1) by lia) (by omega) d2 S;refine AT (CL (AU ⟨U,0,rfl,by lia,?_,?_,J.trans (G0 o (by lia) (by lia)),L⟩))
       ·refine Dn.grow (hi:=lo+x) O U (by lia) d3 (by lia) ?_
        show lt (ix (Gi (AM B) (lo+x - (q+1)) (lo+x) ((lo+x - (lo+x - (q+1))) / 2)) (lo+x - 1)) (ix (Gi (AM B) (lo+x - (q+1)) (lo+x) ((lo+x - (lo+x - (q+1))) / 2)) (lo+x))=false;rw[Cn o,Cn o,qX (by omega),qY (by lia)];exact O.ntr _ _ _ (G.mem (by lia)) (G.mem (show lo+x - 1 < _ by lia)) (G.mem (by omega)) cf (d2 _ _ (by lia) (by omega) (by lia))
       ·have:=Pm O U (lo:=lo+x) (by lia)
        rwa [show lo+(x+1) - (0+1)=lo+x by lia,show lo+(x+1)=lo+x+1 by lia]
      ·rw[qY eu]
       refine AU ⟨G,0,rfl,by lia,Dn.grow (hi:=lo+x) O G (by lia) d2 (by lia) cf,?_,J,L⟩;have:=Pm O G (lo:=lo+x) (by lia);rwa [show lo+(x+1) - (0+1)=lo+x by lia,show lo+(x+1)=lo+x+1 by lia]
     | false=>
      dsimp only;rw[qY AZ];refine AT (JY C G (by lia) (by lia) ?_)
      cases hl:lt (ix (AM B) (lo+x - 1)) (ix (AM B) (lo+x))with
      | true=>exact AU ⟨G,x,q,rfl,by lia,N,d2,S,J,L⟩
      | false=>
       refine AU ⟨G,q+1,rfl,by lia,Dn.grow (hi:=lo+x) O G (by lia) d2 (by lia) hl,?_,J,L⟩;rw[show lo+(x+1) - (q+1+1)=lo+x - (q+1) by lia];exact Up.grow (hi:=lo+x) O G (by lia) S (by omega) hs
    case dpost=>
     rintro c B ⟨G,m,q,rfl,hm,N,d2,S,J,L⟩;dsimp only
     have o:lo+m<=(AM B).size:=by rw[G.size];lia
     have last:∀cL,Good a₀ H cL->Dn lt (AM cL) lo (lo+m)->Out (AM l) (AM cL) lo (lo+bh)->AO cL=AO l->∀(R:StateT An Sem (Option Nat)),R=(do
        let mut n:=m
        for _ in [n:bh] do
         let some Z <-Zj (lo+n) (lo+n - 1) | return none
         if Z then break
         n:=n+1
        return some n)->wpS (AW prog w) A E s (do KM lo (lo+m);R) Q cL:=by
      rintro cL U d3 o3 p3 R rfl
      have fo:lo+m<=(AM cL).size:=by rw[U.size];lia
      rw[Hz];refine AT (CL ?_);have g4:Good a₀ H (setArr cL (Gi (AM cL) lo (lo+m) ((lo+m - lo) / 2))):=U.setArr (Nz _ _ _ _)
      exact Vj C O (by lia) hm hn g4 (Dn.flip fo d3) λk k1 k2 k3=>h _ k g4 k1 k2 k3 (o3.trans (G0 fo (by lia) (by lia))) p3
     by_cases eu:q > 0
     ·rw[qX eu,Hz]
      refine AT (CL ?_);exact last _ (G.setArr (Nz _ _ _ _)) (Dn.part o (by lia) (by omega) d2 S) (J.trans (G0 o (by lia) (by lia))) L _ rfl
     ·rw[qY eu]
      exact last _ G d2 J L _ rfl
   have cf:=O.asym _ _ (g.mem (show lo+n < _ by lia)) (g.mem (show lo+n - 1 < _ by omega)) eS
   by_cases gD:n > 1
   ·rw[qX gD]
    refine AT (JY C g (by lia) (by omega) ?_)
    cases hr:lt (ix (AM l) lo) (ix (AM l) (lo+n - 1))with
    | true=>exact AU (h l n g Y cM u .refl rfl)
    | false=>
     dsimp only;rw[qY AZ,Hz]
     have o:lo+n<=(AM l).size:=by rw[g.size];lia
     have g1:Good a₀ H (setArr l (Gi (AM l) lo (lo+n) ((lo+n - lo) / 2))):=g.setArr (Nz _ _ _ _)
     have al:∀i j,lo<=i->i < lo+n->lo<=j->j < lo+n->lt (ix (AM l) i) (ix (AM l) j)=false:=λi j i1 i2 j1 j2=>by
      have q1:=u j (lo+n - 1) (by omega) (by lia) (by omega);have q2:=u lo i (by lia) (by omega) (by omega);exact O.ntr _ _ _ (g.mem (by lia)) (g.mem (show lo < _ by lia)) (g.mem (by lia)) (O.ntr _ _ _ (g.mem (by lia)) (g.mem (show lo+n - 1 < _ by lia)) (g.mem (by lia)) q1 hr) q2
     refine AT (CL ?_);refine P _ g1 ?_ (G0 o (by lia) (by lia)) rfl;refine Dn.grow (hi:=lo+n) O g1 (by lia) (λi j a1 a2 a3=>?_) (by lia) ?_
     ·show lt (ix (Gi (AM l) lo (lo+n) ((lo+n - lo) / 2)) i) (ix (Gi (AM l) lo (lo+n) ((lo+n - lo) / 2)) j)=false
      rw[Cn o,Cn o,qX (by lia),qX (by lia)];exact al _ _ (by omega) (by omega) (by omega) (by omega)
     ·show lt (ix (Gi (AM l) lo (lo+n) ((lo+n - lo) / 2)) (lo+n - 1)) (ix (Gi (AM l) lo (lo+n) ((lo+n - lo) / 2)) (lo+n))=false
      rw[Cn o,Cn o,qX (by omega),qY (by lia),show lo+(lo+n) - 1 - (lo+n - 1)=lo by omega];exact O.ntr _ _ _ (g.mem (by lia)) (g.mem (show lo+n - 1 < _ by lia)) (g.mem (by lia)) cf hr
   ·rw[qY gD]
    have e:n=1:=by lia
    subst e;refine P _ g (Dn.grow (hi:=lo+1) O g (by lia) (λi j a1 a2 a3=>?_) (by lia) cf) .refl rfl
    have e1:i=lo:=by lia
    have e2:j=lo:=by lia
    rw[e1,e2];exact O.irr (g.mem (by lia))
end
def bF:Bool->Ap->Array Ap->Nat->Nat->Nat->StateT An Sem (Option Nat):=sortPriv% PySem.Builtin.gallop
section
abbrev BS:=Option (Option Nat)×Nat×Nat
theorem XD{st:An}{p:Nat->Bool}{n lo hi:Nat}{F:Nat->BS->StateT An Sem (ForInStep BS)}{T:BS->StateT An Sem (Option Nat)}{Q:Option Nat->An->Prop}(H:lo<=hi)(J:hi<=n)
  (L:∀i,i < lo->p i=true) (N:∀i,hi<=i->i < n->p i=false) (mono:∀i j,i<=j->j < n->p j=true->p i=true)
  (O:∀x l h (R:ForInStep BS->An->Prop),l<=h->h<=n->(l ≥ h->R (.done (none,l,h)) st)->(l < h->p (l+(h - l) / 2)=true->R (.yield (none,l+(h - l) / 2+1,h)) st)->(l < h->p (l+(h - l) / 2)=false->R (.yield (none,l,l+(h - l) / 2)) st) ->
   wpS (AW prog w) A E s (F x (none,l,h)) R st)
  (P:∀l h,h<=n->(∀i,i < h->p i=true)->(∀i,h<=i->i < n->p i=false)->wpS (AW prog w) A E s (T (none,l,h)) Q st):wpS (AW prog w) A E s (forIn [0:n] (none,lo,hi) F >>= T) Q st:=by
 refine AT (EF (CF (I:=λx c g=>g=st/\∃l h,c=(none,l,h)/\l<=h/\h<=n/\h - l<=n - x/\(∀i,i < l->p i=true)/\(∀i,h<=i->i < n->p i=false))
  (Q:=λc g=>g=st/\∃l h,c=(none,l,h)/\h<=n/\(∀i,i < h->p i=true)/\(∀i,h<=i->i < n->p i=false)) ?step ?fin ⟨rfl,lo,hi,rfl,H,J,by lia,L,N⟩) ?post)
 case fin=>
  rintro c g ⟨rfl,l,h,rfl,G,m,S,o,B⟩
  have:l=h:=by lia
  subst this;exact⟨rfl,l,l,rfl,m,o,B⟩
 case step=>
  rintro x c g _ Z ⟨rfl,l,h,rfl,G,m,S,o,B⟩
  refine O x l h _ G m (λcg=>?_) (λU C=>?_) λU C=>?_
  ·have:l=h:=by lia
   subst this;exact⟨rfl,l,l,rfl,m,o,B⟩
  ·exact⟨rfl,_,_,rfl,by lia,m,by omega,λi hi=>mono i (l+(h - l) / 2) (by lia) (by lia) C,B⟩
  ·refine⟨rfl,_,_,rfl,by lia,by lia,by omega,o,λi X Y=>?_⟩
   cases e:p i with
   | false=>rfl
   | true=>rw[mono _ i X Y e]at C;cases C
 case post=>
  rintro c g ⟨rfl,l,h,rfl,m,o,B⟩;exact P l h m o B
theorem Q7{st:An}{q:Nat->Bool}{n mx:Nat}{F:Nat->BS->StateT An Sem (ForInStep BS)}{T:BS->StateT An Sem (Option Nat)}{Q:Option Nat->An->Prop}(N:mx<=n)(C:q 0=true)
  (G:∀x a b (R:ForInStep BS->An->Prop),a < b->(b ≥ mx->R (.done (none,a,b)) st)->(b < mx->q b=false->R (.done (none,a,b)) st)->(b < mx->q b=true->R (.yield (none,b,2 * b+1)) st)->wpS (AW prog w) A E s (F x (none,a,b)) R st)
  (H:∀a b,a < b->q a=true->(a=0∨a < mx)->(b < mx->q b=false)->wpS (AW prog w) A E s (T (none,a,b)) Q st):wpS (AW prog w) A E s (forIn [0:n] (none,0,1) F >>= T) Q st:=by
 refine AT (EF (CF (I:=λx c g=>g=st/\∃a b,c=(none,a,b)/\a < b/\x+1<=b/\q a=true/\(a=0∨a < mx))
  (Q:=λc g=>g=st/\∃a b,c=(none,a,b)/\a < b/\q a=true/\(a=0∨a < mx)/\(b < mx->q b=false)) ?step ?fin ⟨rfl,0,1,rfl,by lia,by lia,C,.inl rfl⟩) ?post)
 case fin=>
  rintro c g ⟨rfl,a,b,rfl,j,J,l,m⟩;exact⟨rfl,a,b,rfl,j,l,m,λh=>by lia⟩
 case step=>
  rintro x c g _ O ⟨rfl,a,b,rfl,j,J,l,m⟩
  refine G x a b _ j (λP=>?_) (λB o=>?_) λB o=>?_
  ·exact⟨rfl,a,b,rfl,j,l,m,λh=>by lia⟩
  ·exact⟨rfl,a,b,rfl,j,l,m,λ_=>o⟩
  ·exact⟨rfl,b,2 * b+1,rfl,by lia,by lia,o,.inr B⟩
 case post=>
  rintro c g ⟨rfl,a,b,rfl,j,l,m,L⟩;exact H a b j l m L
theorem EQ{st:An}{left:Bool}{key:Ap}{arr:Array Ap}{base n hint:Nat}{Q:Option Nat->An->Prop}(C:HG prog w A s a₀ κ lt)(g:Good a₀ κ st)(p:Nat->Bool)
  (Y:key∈a₀) (gN:∀i,i < n->base+i < arr.size/\ix arr (base+i)∈a₀) (hp:∀i,i < n->p i=if left=true then lt (ix arr (base+i)) key else !lt key (ix arr (base+i)))
  (mono:∀i j,i<=j->j < n->p j=true->p i=true) (Z:hint < n)
  (h:∀k,k<=n->(∀i,i < k->p i=true)->(∀i,k<=i->i < n->p i=false)->Q (some k) st):wpS (AW prog w) A E s (bF left key arr base n hint) Q st:=by
 have P:∀i,i < n->∀R:Option Bool->An->Prop,R (some (p i)) st->wpS (AW prog w) A E s (do let x <-elem' arr (base+i);if left=true then lt' x key else do let y <-lt' key x;pure (y.map (!·))) R st:=by
  intro i B R U;obtain⟨O,H⟩:=gN i B;rw[Vc,CI O];refine AT (AU ?_);rw[hp i B]at U
  cases left with
  | true=>exact Kj C g H Y U
  | false=>exact AT (Kj C g Y H (AU U))
 refine(AT ?_:wpS _ _ _ _ (bF left key arr base n hint) Q st);refine P hint Z _ ?_
 have fin:∀(lo B:Nat) {F:Nat->BS->StateT An Sem (ForInStep BS)} {T:BS->StateT An Sem (Option Nat)},lo<=B->B<=n->(∀i,i < lo->p i=true)->(∀i,B<=i->i < n->p i=false) ->
   (∀x l m (R:ForInStep BS->An->Prop),l<=m->m<=n->(l ≥ m->R (.done (none,l,m)) st)->(l < m->p (l+(m - l) / 2)=true->R (.yield (none,l+(m - l) / 2+1,m)) st)->(l < m->p (l+(m - l) / 2)=false->R (.yield (none,l,l+(m - l) / 2)) st) ->
    wpS (AW prog w) A E s (F x (none,l,m)) R st)->(∀l m,T (none,l,m)=pure (some m))->wpS (AW prog w) A E s (forIn [0:n] (none,lo,B) F >>= T) Q st:=λlo B F T O H h3 h4 hF hT=>
  XD O H h3 h4 mono hF λl m q1 q2 q3=>by rw[hT];exact AU (h m q1 q2 q3)
 cases hq:p hint with
 | true=>
  dsimp only;rw[qX rfl]
  refine Q7 (q:=λi=>decide (hint+i < n)&&p (hint+i)) (mx:=n - hint) (by lia) (by simp[hq,Z]) (λx a b R X I J L=>?_) λa b X G ha hb=>?_
  ·dsimp only
   by_cases o:b ≥ n - hint
   ·rw[qX o];exact AU (I o)
   ·rw[qY o]
    refine AT (P (hint+b) (by lia) _ ?_);have hd:decide (hint+b < n)=true:=wX (by lia)
    cases e:p (hint+b)with
    | true=>exact AU (L (by lia) (by simp[hd,e]))
    | false=>exact AU (J (by lia) (by simp[hd,e]))
  ·dsimp only
   have S:p (hint+a)=true:=by simp at G;exact G.2
   have iL:hint+a < n:=by simp at G;exact G.1
   refine fin (hint+a+1) (hint+min b (n - hint)) (by omega) (by omega) (λi B=>mono i (hint+a) (by lia) iL S) (λi O H=>?_) (λx l m R l1 l2 I J L=>?_) λl m=>rfl
   ·by_cases N:b < n - hint
    ·have:=hb N
     have hd:decide (hint+b < n)=true:=wX (by lia);rw[hd,Xw]at this
     cases e:p i with
     | false=>rfl
     | true=>rw[mono (hint+b) i (by lia) H e]at this;cases this
    ·omega
   ·dsimp only
    by_cases o:l ≥ m
    ·rw[qX o];exact AU (I o)
    ·rw[qY o]
     refine AT (P (l+(m - l) / 2) (by lia) _ ?_)
     cases e:p (l+(m - l) / 2)with
     | true=>exact AU (J (by lia) e)
     | false=>exact AU (L (by lia) e)
 | false=>
  dsimp only;rw[qY AZ]
  refine Q7 (q:=λi=>decide (i<=hint)&&!p (hint - i)) (mx:=hint+1) (by lia) (by simp[hq]) (λx a b R X I J L=>?_) λa b X G ha hb=>?_
  ·dsimp only
   by_cases o:b ≥ hint+1
   ·rw[qX o];exact AU (I o)
   ·rw[qY o]
    refine AT (P (hint - b) (by omega) _ ?_);have hd:decide (b<=hint)=true:=wX (by lia)
    cases e:p (hint - b)with
    | true=>exact AU (J (by lia) (by simp[hd,e]))
    | false=>exact AU (L (by lia) (by simp[hd,e]))
  ·dsimp only
   have S:p (hint - a)=false:=by simp at G;exact G.2
   have iL:a<=hint:=by simp at G;exact G.1
   refine fin (hint+1 - min b (hint+1)) (hint - a) (by omega) (by omega) (λi B=>?_) (λi O H=>?_) (λx l m R l1 l2 I J L=>?_) λl m=>rfl
   ·by_cases N:b < hint+1
    ·have:=hb N
     have hd:decide (b<=hint)=true:=wX (by lia);rw[hd,Xw]at this;exact mono i (hint - b) (by omega) (by lia) (by simpa using this)
    ·omega
   ·cases e:p i with
    | false=>rfl
    | true=>rw[mono (hint - a) i O H e]at S;cases S
   ·dsimp only
    by_cases o:l ≥ m
    ·rw[qX o];exact AU (I o)
    ·rw[qY o]
     refine AT (P (l+(m - l) / 2) (by lia) _ ?_)
     cases e:p (l+(m - l) / 2)with
     | true=>exact AU (J (by lia) e)
     | false=>exact AU (L (by lia) e)
end
structure MI(R:Ap->Ap->Prop)(T o ra rb:List Ap):Prop where
 perm:(o++(ra++rb)).Perm T
 srt:o.Pairwise R
 low:∀x∈o,∀y∈ra++rb,R x y
 sa:ra.Pairwise R
 sb:rb.Pairwise R
structure HK(R:Ap->Ap->Prop)(T r:List Ap):Prop where
 perm:r.Perm T
 srt:r.Pairwise R
section
theorem MI.takeA(m:MI R T o (xs++s) rb)(h:∀x∈xs,∀y∈rb,R x y):MI R T (o++xs) s rb:=by
 have l:=BP.mp m.sa;refine⟨by simpa[A0]using m.perm,BP.mpr ⟨m.srt,l.1,λx g y j=>m.low x g y (by simp[j])⟩,λx g y j=>?_,l.2.1,m.sb⟩
 rcases A1.mp g with g | g
 ·exact m.low x g y (by rcases A1.mp j with h | h <;> simp[h])
 ·rcases A1.mp j with j | j
  ·exact l.2.2 x g y j
  ·exact h x g y j
theorem MI.takeB(m:MI R T o s (xs++rb))(h:∀x∈xs,∀y∈s,R x y):MI R T (o++xs) s rb:=by
 have l:=BP.mp m.sb;refine⟨?_,BP.mpr ⟨m.srt,l.1,λx g y j=>m.low x g y (by simp[j])⟩,λx g y j=>?_,m.sa,l.2.1⟩
 ·refine List.Perm.trans ?_ m.perm
  rw[A0];refine Gk o ?_;rw[<-A0,<-A0];exact L0 rb PY
 ·rcases A1.mp g with g | g
  ·exact m.low x g y (by rcases A1.mp j with h | h <;> simp[h])
  ·rcases A1.mp j with j | j
   ·exact h x g y j
   ·exact l.2.2 x g y j
theorem MI.endA(m:MI R T o g []):HK R T (o++g):=by
 refine⟨by simpa using m.perm,BP.mpr ⟨m.srt,m.sa,λx j y l=>m.low x j y (by simp[l])⟩⟩
theorem MI.endB(m:MI R T o [] g):HK R T (o++g):=by
 refine⟨by simpa using m.perm,BP.mpr ⟨m.srt,m.sb,λx j y l=>m.low x j y (by simp[l])⟩⟩
theorem MI.last(m:MI R T o g j)(h:∀y∈j,∀x∈g,R y x):HK R T (o++(j++g)):=by
 refine⟨(Gk o PY).trans m.perm,BP.mpr ⟨m.srt,BP.mpr ⟨m.sb,m.sa,h⟩,λx l y s=>m.low x l y (by rcases A1.mp s with h | h <;> simp[h])⟩⟩
end
theorem Kb(h:i < a.size):a.toList.drop i=ix a i :: a.toList.drop (i+1):=by
 rw[GD (by simpa using h)]
 congr 1
 have:=CI h;rw[getElem?_pos a i h]at this;simpa using this
theorem FV{a:Array Ap}{i k:Nat}(h:i+k<=a.size):a.toList.drop i=(a.extract i (i+k)).toList++a.toList.drop (i+k):=by
 have e:(a.extract i (i+k)).toList=(a.toList.drop i).take k:=by simp[Jo]
 rw[e,<-MX,Ej]
theorem KW(h:i+k<=a.size)(g:x∈(a.extract i (i+k)).toList):∃j,j < k/\x=ix a (i+j):=by
 rw[A3,KN]at g;obtain⟨j,l,rfl⟩:=g;refine⟨j,by lia,?_⟩;have:=CI (xs:=a) (i:=i+j) (by lia);rw[getElem?_pos a _ (by lia)]at this;simpa using this
theorem G8(a:Array Ap)(i:Nat):(a.extract i a.size).toList=a.toList.drop i:=by
 simp[Jo];exact C6 (by simp)
theorem Dt(g:x∈a.toList.drop i):∃j,i<=j/\j < a.size/\x=ix a j:=by
 obtain⟨k,l,rfl⟩:=QY.mp g;simp at l;refine⟨i+k,by lia,by omega,?_⟩;have:=CI (xs:=a) (i:=i+k) (by omega);rw[getElem?_pos a _ (by omega)]at this;simpa using this
theorem KP{g:Type}{M:PX}{A:A4}{E:AC->AF->Prop}{s:AF}{c:Prop}[Decidable c]{a b:StateT An Sem g}{Q:g->An->Prop}{st:An}(j:c->wpS M A E s a Q st)(hb:¬c->wpS M A E s b Q st):wpS M A E s (if c then a else b) Q st:=by
 split
 ·exact j ‹_›
 ·exact hb ‹_›
theorem CQ{g:Type}{M:PX}{A:A4}{E:AC->AF->Prop}{s:AF}{x y:Nat}{a b:StateT An Sem g}{Q:g->An->Prop}{st:An}(j:x=y->wpS M A E s a Q st)(hb:¬x=y->wpS M A E s b Q st):wpS M A E s (if (x==y)=true then a else b) Q st:=KP (λh=>j (by simpa using h)) λh=>hb (by simpa using h)
theorem GX{M:PX}{A:A4}{E:AC->AF->Prop}{s:AF}{j l o:Type}{a b:Nat}{f:Nat->l->StateT j Sem (ForInStep l)}{k:l->StateT j Sem o}{R:o->j->Prop}(I:Nat->l->j->Prop){Q:l->j->Prop}
  (step:∀F,f=F->∀(i:Nat) (c:l) (st:j),a<=i->i < b->I i c st->wpS M A E s (F i c) (λr g=>match r with | .done m=>Q m g | .yield m=>I (i+1) m g) st)
  (fin:∀c st,I (max a b) c st->Q c st) {c:l} {st:j} (init:I a c st) (post:∀K,k=K->∀c g,Q c g->wpS M A E s (K c) R g):wpS M A E s (forIn [a:b] c f >>= k) R st:=AT (EF (CF I (step f rfl) fin init) (post k rfl))
theorem TJ{j g:Type}{M:PX}{A:A4}{E:AC->AF->Prop}{s:AF}{c:g->Prop}{d:∀i,Decidable (c i)}{F t:g->StateT An Sem j}{Q:j->An->Prop}{st:An}(h:∀i,wpS M A E s (F i) Q st)(l:(∀i,wpS M A E s (F i) Q st)->∀i,wpS M A E s (t i) Q st)(i:g):wpS M A E s (if c i then t i else F i) Q st:=KP (λ_=>l h i) λ_=>h i
theorem KO{m g l:Type}{M:PX}{A:A4}{E:AC->AF->Prop}{s:AF}{c:g->l->Prop}{d:∀i j,Decidable (c i j)}{F t:g->l->StateT An Sem m}{x:g}{y:l}{Q:m->An->Prop}{st:An}(I:g->l->Prop)(h:∀i j,I i j->wpS M A E s (F i j) Q st)(o:(∀i j,I i j->wpS M A E s (F i j) Q st)->c x y->wpS M A E s (t x y) Q st)(B:¬c x y->I x y):∀i,x=i->∀j,y=j->wpS M A E s (if c i j then t i j else F i j) Q st:=λ_ e _ f=>e▸f▸KP (o h) λn=>h x y (B n)
theorem JX{g:Type}{M:PX}{A:A4}{E:AC->AF->Prop}{s:AF}{c:Prop}{d:Decidable c}{x:g}{Q:ForInStep g->An->Prop}{st:An}(h:Q (.done x) st/\Q (.yield x) st):wpS M A E s (if c then pure (.done x)else pure (.yield x)) Q st:=KP (λ_=>AU h.1) λ_=>AU h.2
section
variable{prog:Aq}{w:A9}{A:A4}{E:AC->AF->Prop}{s:AF}{a₀:Array Ap}{κ:JU}{lt:Ap->Ap->Bool}
theorem Kk{st:An}{a:Array Ap}{i:Nat}{Q:Ap->An->Prop}(h:i < a.size)(g:Q (ix a i) st):wpS (AW prog w) A E s (elem' a i) Q st:=by
 rw[Vc,CI h];exact AU g
theorem Bl{g:Type}{st:An}{a:Array Ap}{i:Nat}{f:Ap->StateT An Sem g}{Q:g->An->Prop}(h:i < a.size)(j:wpS (AW prog w) A E s (f (ix a i)) Q st):wpS (AW prog w) A E s (elem' a i >>= f) Q st:=AT (Kk h j)
def mLo:Array Ap->Array Ap->StateT An Sem (Array Ap):=sortPriv% PySem.Builtin.mergeLo
def mHi:Array Ap->Array Ap->StateT An Sem (Array Ap):=sortPriv% PySem.Builtin.mergeHi
structure JM(a₀:Array Ap)(κ:JU)(st st':An):Prop where
 good:Good a₀ κ st'
 arr:AM st'=AM st
 pend:AO st'=AO st
theorem JM.gal{st g:An}(h:JM a₀ κ st g)(n:Nat):JM a₀ κ st (Ea (kindOf g) (AM g) (AO g) n (Fc g)):=⟨⟨h.good.perm,h.good.kind,h.good.failed⟩,h.arr,h.pend⟩
abbrev Rl(lt:Ap->Ap->Bool)(x y:Ap):Prop:=lt y x=false
theorem OJ(O:Ord (·∈a₀) lt){a:Array Ap}(ma:∀i,i < a.size->ix a i∈a₀)(l:a.toList.Pairwise (Rl lt)):∀i j,i<=j->j < a.size->Rl lt (ix a i) (ix a j):=λi j m g=>by
 by_cases e:i=j
 ·subst e;exact O.irr (ma i g)
 ·have hd:=Kb (a:=a) (i:=i) (by lia)
  have:=l.sublist (List.drop_sublist i a.toList);rw[hd]at this;refine(Su.mp this).1 _ ?_;rw[show a.toList.drop (i+1)=(a.extract (i+1) (i+1+(j - (i+1)))).toList++a.toList.drop (i+1+(j - (i+1)))from FV (by lia),show i+1+(j - (i+1))=j by lia,Kb g];simp
theorem Na(ma:∀x∈a.toList,x∈a₀):∀i,i < a.size->ix a i∈a₀:=λi g=>ma _ (A3.mpr (B0 (CI g)))
theorem KQ{st:An}{n:Nat}{Q:Unit->An->Prop}(h:Q () (Ea (kindOf st) (AM st) (AO st) n (Fc st))):wpS (AW prog w) A E s ((sortPriv% PySem.Builtin.setMinGallop) n) Q st:=CL h
abbrev GL(M:Array Ap->Nat->Nat->Prop)(p q n t:Nat)(o:Array Ap)(i j:Nat):Prop:=M o i j/\i+1 < p/\j < q/\t+n<=i+j
theorem Vh{st:An}{a b:Array Ap}{Q:Array Ap->An->Prop}(C:HG prog w A s a₀ κ lt)(O:Ord (·∈a₀) lt)(g:Good a₀ κ st)
  (ma:∀x∈a.toList,x∈a₀) (mb:∀x∈b.toList,x∈a₀) (sa:a.toList.Pairwise (Rl lt)) (sb:b.toList.Pairwise (Rl lt)) (na:0 < a.size) (nb:0 < b.size)
  (h0:∀x∈a.toList,Rl lt (ix b 0) x) (h1:∀y∈b.toList,Rl lt y (ix a (a.size - 1)))
  (h:∀r B,JM a₀ κ st B->HK (Rl lt) (a.toList++b.toList) r.toList->Q r B):wpS (AW prog w) A E s (mLo a b) Q st:=by
 have R:=Na ma;have S:=Na mb;have ua:=OJ O R sa;have ub:=OJ O S sb
 have tr:∀x y z:Ap,x∈a₀->y∈a₀->z∈a₀->Rl lt x y->Rl lt y z->Rl lt x z:=λx y z Z hy hz h1 h2=>O.ntr x y z Z hy hz h1 h2
 let M (out:Array Ap) (l ib:Nat):Prop:=MI (Rl lt) (a.toList++b.toList) out.toList (a.toList.drop l) (b.toList.drop ib)
 have tA:∀out l ib,M out l ib->l < a.size->(∀j,ib<=j->j < b.size->Rl lt (ix a l) (ix b j))->M (out.push (ix a l)) (l+1) ib:=λout l ib m jS hr=>by
  have N:MI (Rl lt) (a.toList++b.toList) out.toList ([ix a l]++a.toList.drop (l+1)) (b.toList.drop ib):=by rw[Ek,<-Kb jS];exact m
  have:=N.takeA λx Z y hy=>by
   obtain⟨j,P,H,rfl⟩:=Dt hy;rw[Ah.mp Z];exact hr j P H
  simpa[M]using this
 have tB:∀out l ib,M out l ib->ib < b.size->(∀j,l<=j->j < a.size->Rl lt (ix b ib) (ix a j))->M (out.push (ix b ib)) l (ib+1):=λout l ib m jT hr=>by
  have N:MI (Rl lt) (a.toList++b.toList) out.toList (a.toList.drop l) ([ix b ib]++b.toList.drop (ib+1)):=by rw[Ek,<-Kb jT];exact m
  have:=N.takeB λx Z y hy=>by
   obtain⟨j,P,H,rfl⟩:=Dt hy;rw[Ah.mp Z];exact hr j P H
  simpa[M]using this
 have sA:∀out l ib k,M out l ib->l+k<=a.size->(∀i j,i < k->ib<=j->j < b.size->Rl lt (ix a (l+i)) (ix b j))->M (out++a.extract l (l+k)) (l+k) ib:=λout l ib k m hk hr=>by
  have N:MI (Rl lt) (a.toList++b.toList) out.toList ((a.extract l (l+k)).toList++a.toList.drop (l+k)) (b.toList.drop ib):=by rw[<-FV hk];exact m
  have:=N.takeA λx Z y hy=>by
   obtain⟨j,P,H,rfl⟩:=Dt hy;obtain⟨i,i1,rfl⟩:=KW hk Z;exact hr i j i1 P H
  show MI _ _ (out++a.extract l (l+k)).toList _ _;rw[As];exact this
 have sB:∀out l ib k,M out l ib->ib+k<=b.size->(∀i j,i < k->l<=j->j < a.size->Rl lt (ix b (ib+i)) (ix a j))->M (out++b.extract ib (ib+k)) l (ib+k):=λout l ib k m hk hr=>by
  have N:MI (Rl lt) (a.toList++b.toList) out.toList (a.toList.drop l) ((b.extract ib (ib+k)).toList++b.toList.drop (ib+k)):=by rw[<-FV hk];exact m
  have:=N.takeB λx Z y hy=>by
   obtain⟨j,P,H,rfl⟩:=Dt hy;obtain⟨i,i1,rfl⟩:=KW hk Z;exact hr i j i1 P H
  show MI _ _ (out++b.extract ib (ib+k)).toList _ _;rw[As];exact this
 have eB:∀out l ib,M out l ib->ib=b.size->HK (Rl lt) (a.toList++b.toList) (out++a.extract l a.size++b.extract ib b.size).toList:=λout l ib m e=>by
  subst e
  have N:MI (Rl lt) (a.toList++b.toList) out.toList (a.toList.drop l) []:=by
   have:b.toList.drop b.size=[]:=by simp
   rw[<-this];exact m
  rw[As,As,G8,G8,show b.toList.drop b.size=[] by simp,Bz];exact N.endA
 have eA:∀out l ib,M out l ib->l=a.size->HK (Rl lt) (a.toList++b.toList) (out++a.extract l a.size++b.extract ib b.size).toList:=λout l ib m e=>by
  subst e
  have N:MI (Rl lt) (a.toList++b.toList) out.toList [] (b.toList.drop ib):=by
   have:a.toList.drop a.size=[]:=by simp
   rw[<-this];exact m
  rw[As,As,G8,G8,show a.toList.drop a.size=[] by simp,Bz];exact N.endB
 have eL:∀out l ib,M out l ib->l+1=a.size->HK (Rl lt) (a.toList++b.toList) (out++b.extract ib b.size++a.extract l a.size).toList:=λout l ib m e=>by
  have:=m.last λy hy x Z=>by
   obtain⟨j,P,H,rfl⟩:=Dt Z;obtain⟨i,i1,i2,rfl⟩:=Dt hy
   have:j=a.size - 1:=by lia
   subst this;exact h1 _ (A3.mpr (B0 (CI i2)))
  rw[As,As,G8,G8,A0];exact this
 have m0:M #[] 0 0:=⟨by simp,by simp,by simp,by simpa using sa,by simpa using sb⟩
 have m1:M #[ix b 0] 0 1:=by
  have:=tB #[] 0 0 m0 nb λj _ hj=>h0 _ (A3.mpr (B0 (CI hj)))
  simpa using this
 let F (r:Array Ap):Prop:=HK (Rl lt) (a.toList++b.toList) r.toList
 refine(AT (GV ?_):wpS _ _ _ _ (mLo a b) Q st);refine Bl nb ?_;refine(show wpS (AW prog w) A E s (if (1==b.size)=true then _ else _) Q st from ?_)
 refine CQ (λc1=>AU (h _ st ⟨g,rfl,rfl⟩ (eB _ _ _ m1 c1))) λc1=>?_
 refine CQ (λc2=>AU (h _ st ⟨g,rfl,rfl⟩ (eL _ _ _ m1 c2))) λc2=>?_
 refine AT (Eu ?_)
 refine GX (I:=λx c B=>JM a₀ κ st B/\∃out l ib mg,c=(none,out,l,ib,mg)/\GL M a.size b.size x 1 out l ib)
  (Q:=λc B=>JM a₀ κ st B/\∃r z,c=(some r,z)/\F r) ?step ?fin ?init ?post
 case init=>exact⟨⟨g,rfl,rfl⟩,_,_,_,_,rfl,m1,by lia,by lia,by lia⟩
 case fin=>
  rintro c B ⟨_,out,l,ib,mg,_,_,k1,k2,k3⟩
  lia
 case post=>
  rintro F hF c B ⟨s1,r,z,rfl,f⟩;subst hF;exact AU (h r B s1 f)
 case step=>
  rintro G hG x c bw _ _ ⟨s1,out,l,ib,mg,rfl,m,k1,k2,k3⟩;subst hG
  refine GX (I:=λy c B=>B=bw/\∃U J cE X Y,c=(none,U,J,cE,X,Y)/\GL M a.size b.size y (l+ib) U J cE)
   (Q:=λc B=>B=bw/\((∃r z,c=(some r,z)/\F r)∨∃U J cE X Y,c=(none,U,J,cE,X,Y)/\GL M a.size b.size 1 (l+ib) U J cE)) ?step1 ?fin1 ?init1 ?post1
  case init1=>exact⟨rfl,out,l,ib,0,0,rfl,m,k1,k2,by lia⟩
  case fin1=>
   rintro c B ⟨rfl,U,J,cE,X,Y,rfl,N,q1,q2,q3⟩;exact⟨rfl,.inr ⟨U,J,cE,X,Y,rfl,N,q1,q2,by lia⟩⟩
  case step1=>
   rintro G hG y c B _ _ ⟨rfl,U,J,cE,X,Y,rfl,N,q1,q2,q3⟩;subst hG
   have q4:J < a.size:=by lia
   refine Bl q2 (Bl q4 (AT (Kj C s1.good (S _ q2) (R _ q4) ?_)))
   cases e:lt (ix b cE) (ix a J)with
   | true=>
    have m2:=tB U J cE N q2 λj P H=>tr _ _ _ (S _ q2) (R _ q4) (R _ H) (O.asym _ _ (S _ q2) (R _ q4) e) (ua J j P H)
    refine Bl q2 (CQ (λd=>AU ⟨rfl,.inl ⟨_,_,rfl,eB _ _ _ m2 d⟩⟩) λd=>JX ?_)
    have z:cE+1 < b.size/\l+ib+(y+1)<=J+(cE+1):=by lia
    exact⟨⟨rfl,.inr ⟨_,J,cE+1,_,_,rfl,m2,q1,z.1,by lia⟩⟩,rfl,_,J,cE+1,_,_,rfl,m2,q1,z⟩
   | false=>
    have m2:=tA U J cE N q4 λj P H=>tr _ _ _ (R _ q4) (S _ q2) (S _ H) e (ub cE j P H)
    refine Bl q4 (CQ (λd=>AU ⟨rfl,.inl ⟨_,_,rfl,eL _ _ _ m2 d⟩⟩) λd=>JX ?_)
    have z:J+1+1 < a.size/\l+ib+(y+1)<=J+1+cE:=by lia
    exact⟨⟨rfl,.inr ⟨_,J+1,cE,_,_,rfl,m2,z.1,q2,by lia⟩⟩,rfl,_,J+1,cE,_,_,rfl,m2,z.1,q2,z.2⟩
  case post1=>
   rintro G hG c B ⟨rfl,⟨r,z,rfl,f⟩ | ⟨U,J,cE,X,Y,rfl,N⟩⟩ <;> subst hG
   ·exact AU ⟨s1,_,_,rfl,f⟩
   refine AT (GV ?_)
   refine GX (I:=λy c bf=>JM a₀ κ st bf/\∃bp L cH cX X Y,c=(none,bp,L,cH,cX,X,Y)/\GL M a.size b.size 1 (l+ib) bp L cH)
    (Q:=λc bf=>JM a₀ κ st bf/\((∃r z,c=(some r,z)/\F r)∨∃bp L cH cX X Y,c=(none,bp,L,cH,cX,X,Y)/\GL M a.size b.size 1 (l+ib) bp L cH)) ?step2 ?fin2 ?init2 ?post2
   case init2=>exact⟨s1,U,J,cE,mg+1,X,Y,rfl,N⟩
   case fin2=>exact λc bf h=>⟨h.1,.inr h.2⟩
   case post2=>
    rintro G hG c bf ⟨s2,⟨r,z,rfl,f⟩ | ⟨bp,L,cH,cX,ac2,bc2,rfl,m2,p1,p2,p3⟩⟩ <;> subst hG
    ·exact AU ⟨s2,_,_,rfl,f⟩
    ·exact AT (KQ (AU ⟨s2.gal _,bp,L,cH,cX+1,rfl,m2,p1,p2,by lia⟩))
   case step2=>
    rintro G hG y c bf _ _ ⟨s2,bp,L,cH,cX,ac2,bc2,rfl,m2,p1,p2,p3⟩;subst hG;dsimp only
    revert cX
    refine TJ (λgP=>?_) λt i=>t _
    refine AT (KQ (Bl p2 ?_));have s3:=s2.gal gP;refine AT (EQ (base:=L) (n:=a.size - L) (hint:=0) (arr:=a) (key:=ix b cH) (left:=false) C s3.good (λi=>!lt (ix b cH) (ix a (L+i))) (S _ p2) (λi hi=>⟨by lia,R _ (by lia)⟩) (λi hi=>rfl) (λi j ft hj e=>?_) (by lia) λk hk k1 k2=>?_)
    ·have e':lt (ix b cH) (ix a (L+j))=false:=by simpa using e
     have:=tr _ _ _ (R _ (by lia)) (R _ (by lia)) (S _ p2) (ua (L+i) (L+j) (by lia) (by lia)) e';simpa using this
    have f':∀j,L+k<=j->j < a.size->Rl lt (ix b cH) (ix a j):=λj P H=>by
     have:=k2 (j - L) (by lia) (by lia);rw[show L+(j - L)=j by lia]at this;exact O.asym _ _ (S _ p2) (R _ H) (by simpa using this)
    have m5:=sA bp L cH k m2 (by lia) λi j hi P H=>tr _ _ _ (R _ (by lia)) (S _ p2) (S _ H) (by simpa using k1 i hi) (ub cH j P H)
    generalize ho:bp=o;generalize hi:L=i
    revert o i
    refine KO (λo i=>M o i cH/\i+1 < a.size/\i=L+k) ?_ (λt gR=>?_) λgR=>⟨m2,p1,by lia⟩
    case refine_2=>
     refine CQ (λd=>AU ⟨s3,.inl ⟨_,_,rfl,eL _ _ _ m5 d⟩⟩) λd1=>?_
     exact CQ (λd=>AU ⟨s3,.inl ⟨_,_,rfl,eA _ _ _ m5 d⟩⟩) λd2=>t _ _ ⟨m5,by lia,rfl⟩
    rintro eC T ⟨m3,c1,hi3⟩
    have c3:l+ib+1<=T+cH:=by lia
    have c4:T < a.size:=by lia
    have m4:=tB _ _ _ m3 p2 λj h=>f' j (hi3▸h)
    refine Bl p2 (CQ (λd=>AU ⟨s3,.inl ⟨_,_,rfl,eB _ _ _ m4 d⟩⟩) λd=>Bl c4 ?_)
    have c5:cH+1 < b.size:=by lia
    have c6:l+ib+1+1<=T+(cH+1):=by lia
    generalize eC.push (ix b cH)=out4 at m4 ⊢;generalize cH+1=ib4 at m4 c5 c6 ⊢;refine AT (EQ (base:=ib4) (n:=b.size - ib4) (hint:=0) (arr:=b) (key:=ix a T) (left:=true) C s3.good (λi=>lt (ix b (ib4+i)) (ix a T)) (R _ c4) (λi hi=>⟨by lia,S _ (by lia)⟩) (λi hi=>rfl) (λi j ft hj e=>?_) (by lia) λk3 dI k4 k5=>?_)
    ·cases e2:lt (ix b (ib4+i)) (ix a T)with
     | true=>rfl
     | false=>
      have:=tr _ _ _ (R _ c4) (S _ (by lia)) (S _ (by lia)) e2 (ub (ib4+i) (ib4+j) (by lia) (by lia));exact nomatch (show true=false from(show lt (ix b (ib4+j)) (ix a T)=true from e).symm.trans this)
    have gU:∀j,ib4+k3<=j->j < b.size->Rl lt (ix a T) (ix b j):=λj P H=>by
     have:=k5 (j - ib4) (by lia) (by lia);rwa [show ib4+(j - ib4)=j by lia]at this
    have m6:=sB _ T ib4 k3 m4 (by lia) λi j hi P H=>tr _ _ _ (S _ (by lia)) (R _ c4) (R _ H) (O.asym _ _ (S _ (by lia)) (R _ c4) (k4 i hi)) (ua T j P H)
    generalize ho:out4=o;generalize hi:ib4=i
    revert o i
    refine KO (λo j=>M o T j/\j < b.size/\j=ib4+k3) ?_ (λt dI=>CQ (λd=>AU ⟨s3,.inl ⟨_,_,rfl,eB _ _ _ m6 d⟩⟩) λd=>t _ _ ⟨m6,by lia,rfl⟩) λdI=>⟨m4,c5,by lia⟩
    rintro gV g7 ⟨m5,c7,hi5⟩
    have m7:=tA _ _ _ m5 c4 λj h=>gU j (hi5▸h)
    refine Bl c4 (CQ (λd=>AU ⟨s3,.inl ⟨_,_,rfl,eL _ _ _ m7 d⟩⟩) λd=>JX ?_)
    have z:T+1+1 < a.size/\g7 < b.size/\l+ib+1<=T+1+g7:=by lia
    exact⟨⟨s3,.inr ⟨_,T+1,g7,_,_,_,rfl,m7,z⟩⟩,s3,_,T+1,g7,_,_,_,rfl,m7,z⟩
end
theorem MI.last2(m:MI R T o g j)(h:∀x∈g,∀y∈j,R x y):HK R T (o++(g++j)):=by
 refine⟨m.perm,BP.mpr ⟨m.srt,BP.mpr ⟨m.sa,m.sb,h⟩,λx l y s=>m.low x l y s⟩⟩
theorem HK.rev(f:HK (λx y=>Rl lt y x) T r):HK (Rl lt) T r.reverse:=⟨r.reverse_perm.trans f.perm,Hs.mpr f.srt⟩
theorem Ql(h:i < a.size):(a.toList.take (i+1)).reverse=ix a i :: (a.toList.take i).reverse:=by
 have:=CI h;rw[getElem?_pos a i h]at this;rw[GM,show a.toList[i]?=some (ix a i) by simpa using CI h];simp
theorem OK{a:Array Ap}{i n:Nat}(h:i<=n)(g:n<=a.size):(a.toList.take n).reverse=(a.extract i n).toList.reverse++(a.toList.take i).reverse:=by
 have e:(a.extract i n).toList=(a.toList.take n).drop i:=by simp[Jo,List.drop_take]
 rw[e,<-List.reverse_append]
 congr 1
 have:=Ej i (a.toList.take n);rw[List.take_take,show min i n=i by lia]at this;exact this.symm
theorem Ds(g:x∈(a.toList.take n).reverse):∃j,j < n/\j < a.size/\x=ix a j:=by
 rw[VW]at g;obtain⟨k,l,rfl⟩:=QY.mp g;simp at l;refine⟨k,by lia,by lia,?_⟩;have:=CI (xs:=a) (i:=k) (by lia);rw[getElem?_pos a _ (by lia)]at this;simpa using this
theorem Oe(g:x∈(a.extract i n).toList.reverse):∃j,i<=j/\j < n/\j < a.size/\x=ix a j:=by
 rw[VW,A3,KN]at g;obtain⟨j,l,rfl⟩:=g;refine⟨i+j,by lia,by omega,by omega,?_⟩;have:=CI (xs:=a) (i:=i+j) (by omega);rw[getElem?_pos a _ (by omega)]at this;simpa using this
theorem FD(a:Array Ap)(n:Nat):(a.extract 0 n).toList=a.toList.take n:=by simp[Jo]
section
abbrev GH(M:Array Ap->Nat->Nat->Prop)(p q n t:Nat)(o:Array Ap)(i j:Nat):Prop:=M o i j/\0 < i/\1 < j/\i<=p/\j<=q/\i+j+n<=t
theorem Vi{st:An}{a b:Array Ap}{Q:Array Ap->An->Prop}(C:HG prog w A s a₀ κ lt)(O:Ord (·∈a₀) lt)(g:Good a₀ κ st)
  (ma:∀x∈a.toList,x∈a₀) (mb:∀x∈b.toList,x∈a₀) (sa:a.toList.Pairwise (Rl lt)) (sb:b.toList.Pairwise (Rl lt)) (pa:0 < a.size) (pb:0 < b.size)
  (h0:∀x∈a.toList,Rl lt (ix b 0) x) (h1:∀y∈b.toList,Rl lt y (ix a (a.size - 1)))
  (h:∀r B,JM a₀ κ st B->HK (Rl lt) (a.toList++b.toList) r.toList->Q r B):wpS (AW prog w) A E s (mHi a b) Q st:=by
 have P:=Na ma;have R:=Na mb;have ua:=OJ O P sa;have ub:=OJ O R sb
 have tr:∀x y z:Ap,x∈a₀->y∈a₀->z∈a₀->Rl lt x y->Rl lt y z->Rl lt x z:=λx y z Z hy hz h1 h2=>O.ntr x y z Z hy hz h1 h2
 let M (out:Array Ap) (l nb:Nat):Prop:=MI (λx y=>Rl lt y x) (a.toList++b.toList) out.toList (a.toList.take l).reverse (b.toList.take nb).reverse
 have jU:∀out l nb,M out (l+1) nb->l < a.size->nb<=b.size->(∀j,j < nb->Rl lt (ix b j) (ix a l))->M (out.push (ix a l)) l nb:=λout l nb m dJ dM hr=>by
  have N:MI (λx y=>Rl lt y x) (a.toList++b.toList) out.toList ([ix a l]++(a.toList.take l).reverse) (b.toList.take nb).reverse:=by rw[Ek,<-Ql dJ];exact m
  have:=N.takeA λx Z y hy=>by
   obtain⟨j,S,j2,rfl⟩:=Ds hy;rw[Ah.mp Z];exact hr j S
  simpa[M]using this
 have jV:∀out l nb,M out l (nb+1)->nb < b.size->l<=a.size->(∀j,j < l->Rl lt (ix a j) (ix b nb))->M (out.push (ix b nb)) l nb:=λout l nb m dM dJ hr=>by
  have N:MI (λx y=>Rl lt y x) (a.toList++b.toList) out.toList (a.toList.take l).reverse ([ix b nb]++(b.toList.take nb).reverse):=by rw[Ek,<-Ql dM];exact m
  have:=N.takeB λx Z y hy=>by
   obtain⟨j,S,j2,rfl⟩:=Ds hy;rw[Ah.mp Z];exact hr j S
  simpa[M]using this
 have tA:∀out l nb,M out l nb->0 < l->l<=a.size->nb<=b.size->(∀j,j < nb->Rl lt (ix b j) (ix a (l - 1)))->M (out.push (ix a (l - 1))) (l - 1) nb:=λout l nb m h0 dJ dM hr=>
  jU out (l - 1) nb (by rw[show l - 1+1=l by lia];exact m) (by omega) dM hr
 have tB:∀out l nb,M out l nb->0 < nb->nb<=b.size->l<=a.size->(∀j,j < l->Rl lt (ix a j) (ix b (nb - 1)))->M (out.push (ix b (nb - 1))) l (nb - 1):=λout l nb m h0 dM dJ hr=>
  jV out l (nb - 1) (by rw[show nb - 1+1=nb by lia];exact m) (by omega) dJ hr
 have sA:∀out l nb k,M out l nb->k<=l->l<=a.size->nb<=b.size->(∀i j,k<=i->i < l->j < nb->Rl lt (ix b j) (ix a i))->M (out++(a.extract k l).reverse) k nb:=λout l nb k m hk dJ dM hr=>by
  have N:MI (λx y=>Rl lt y x) (a.toList++b.toList) out.toList ((a.extract k l).toList.reverse++(a.toList.take k).reverse) (b.toList.take nb).reverse:=by rw[<-OK hk dJ];exact m
  have:=N.takeA λx Z y hy=>by
   obtain⟨j,S,j2,rfl⟩:=Ds hy;obtain⟨i,i1,i2,i3,rfl⟩:=Oe Z;exact hr i j i1 i2 S
  show MI _ _ (out++(a.extract k l).reverse).toList _ _;rw[As,DS];exact this
 have sB:∀out l nb k,M out l nb->k<=nb->nb<=b.size->l<=a.size->(∀i j,k<=i->i < nb->j < l->Rl lt (ix a j) (ix b i))->M (out++(b.extract k nb).reverse) l k:=λout l nb k m hk dM dJ hr=>by
  have N:MI (λx y=>Rl lt y x) (a.toList++b.toList) out.toList (a.toList.take l).reverse ((b.extract k nb).toList.reverse++(b.toList.take k).reverse):=by rw[<-OK hk dM];exact m
  have:=N.takeB λx Z y hy=>by
   obtain⟨j,S,j2,rfl⟩:=Ds hy;obtain⟨i,i1,i2,i3,rfl⟩:=Oe Z;exact hr i j i1 i2 S
  show MI _ _ (out++(b.extract k nb).reverse).toList _ _;rw[As,DS];exact this
 have eA:∀out l nb,M out l nb->l=0->HK (Rl lt) (a.toList++b.toList) (a.extract 0 l++b.extract 0 nb++out.reverse).toList:=λout l nb m e=>by
  subst e
  have N:MI (λx y=>Rl lt y x) (a.toList++b.toList) out.toList [] (b.toList.take nb).reverse:=by simpa[M]using m
  have:=N.endB.rev;rw[As,As,FD,FD,DS];simpa using this
 have eB:∀out l nb,M out l nb->nb=0->HK (Rl lt) (a.toList++b.toList) (a.extract 0 l++b.extract 0 nb++out.reverse).toList:=λout l nb m e=>by
  subst e
  have N:MI (λx y=>Rl lt y x) (a.toList++b.toList) out.toList (a.toList.take l).reverse []:=by simpa[M]using m
  have:=N.endA.rev;rw[As,As,FD,FD,DS];simpa using this
 have eF:∀out l nb,M out l nb->nb=1->HK (Rl lt) (a.toList++b.toList) (b.extract 0 nb++a.extract 0 l++out.reverse).toList:=λout l nb m e=>by
  have:=m.last2 λx Z y hy=>by
   obtain⟨j,S,j2,rfl⟩:=Ds Z;obtain⟨i,i1,i2,rfl⟩:=Ds hy
   have:i=0:=by lia
   subst this;exact h0 _ (A3.mpr (B0 (CI j2)))
  have:=this.rev;rw[As,As,FD,FD,DS];simpa using this
 have m0:M #[] a.size b.size:=by
  refine⟨?_,by simp,by simp,?_,?_⟩
  ·rw[C6 (by simp),C6 (by simp)]
   simpa using List.Perm.append a.toList.reverse_perm b.toList.reverse_perm
  ·rw[C6 (by simp)];exact Hs.mpr sa
  ·rw[C6 (by simp)];exact Hs.mpr sb
 have m1:M #[ix a (a.size - 1)] (a.size - 1) b.size:=by
  have:=tA #[] a.size b.size m0 pa (AK _) (AK _) λj hj=>h1 _ (A3.mpr (B0 (CI hj)))
  simpa using this
 let F (r:Array Ap):Prop:=HK (Rl lt) (a.toList++b.toList) r.toList
 refine(AT (GV ?_):wpS _ _ _ _ (mHi a b) Q st);refine Bl (i:=a.size - 1) (by omega) ?_;refine(show wpS (AW prog w) A E s (if (a.size - 1==0)=true then _ else _) Q st from ?_)
 refine CQ (λc1=>AU (h _ st ⟨g,rfl,rfl⟩ (eA _ _ _ m1 c1))) λc1=>?_
 refine CQ (λc2=>AU (h _ st ⟨g,rfl,rfl⟩ (eF _ _ _ m1 c2))) λc2=>?_
 refine AT (Eu ?_)
 refine GX (I:=λx c B=>JM a₀ κ st B/\∃out l nb mg,c=(none,l,nb,out,mg)/\GH M a.size b.size (1+x) (a.size+b.size) out l nb)
  (Q:=λc B=>JM a₀ κ st B/\∃r z,c=(some r,z)/\F r) ?step ?fin ?init ?post
 case init=>exact⟨⟨g,rfl,rfl⟩,_,a.size - 1,b.size,_,rfl,m1,by lia,by lia,by omega,by lia,by lia⟩
 case fin=>
  rintro c B ⟨_,out,l,nb,mg,_,_,k1,k2,k3,k4,k5⟩
  lia
 case post=>
  rintro G hG c B ⟨s1,r,z,rfl,f⟩;subst hG;exact AU (h r B s1 f)
 case step=>
  rintro G hG x c bw _ _ ⟨s1,out,l,nb,mg,rfl,m,k1,k2,k3,k4,k5⟩;subst hG
  refine GX (I:=λy c B=>B=bw/\∃U H J X Y,c=(none,H,J,U,X,Y)/\GH M a.size b.size y (l+nb) U H J)
   (Q:=λc B=>B=bw/\((∃r z,c=(some r,z)/\F r)∨∃U H J X Y,c=(none,H,J,U,X,Y)/\GH M a.size b.size 1 (l+nb) U H J)) ?step1 ?fin1 ?init1 ?post1
  case init1=>exact⟨rfl,out,l,nb,0,0,rfl,m,k1,k2,k3,k4,by lia⟩
  case fin1=>
   rintro c B ⟨rfl,U,H,J,X,Y,rfl,N,q1,q2,q3,q4,q5⟩;exact⟨rfl,.inr ⟨U,H,J,X,Y,rfl,N,q1,q2,q3,q4,by lia⟩⟩
  case step1=>
   rintro G hG y c B _ _ ⟨rfl,U,H,J,X,Y,rfl,N,q1,q2,q3,q4,q5⟩;subst hG
   have q6:H - 1 < a.size:=by lia
   have q7:J - 1 < b.size:=by lia
   refine Bl q7 (Bl q6 (AT (Kj C s1.good (R _ q7) (P _ q6) ?_)))
   cases e:lt (ix b (J - 1)) (ix a (H - 1))with
   | true=>
    have m2:=tA U H J N q1 q3 q4 λj S=>tr _ _ _ (R _ (by lia)) (R _ q7) (P _ q6) (ub j (J - 1) (by lia) q7) (O.asym _ _ (R _ q7) (P _ q6) e)
    refine Bl q6 (CQ (λd=>AU ⟨rfl,.inl ⟨_,_,rfl,eA _ _ _ m2 d⟩⟩) λd=>JX ?_)
    have z:0 < H - 1/\H - 1<=a.size/\H - 1+J+(y+1)<=l+nb:=by lia
    exact⟨⟨rfl,.inr ⟨_,H - 1,J,_,_,rfl,m2,z.1,q2,z.2.1,q4,by lia⟩⟩,rfl,_,H - 1,J,_,_,rfl,m2,z.1,q2,z.2.1,q4,z.2.2⟩
   | false=>
    have m2:=tB U H J N (by lia) q4 q3 λj S=>tr _ _ _ (P _ (by lia)) (P _ q6) (R _ q7) (ua j (H - 1) (by lia) q6) e
    refine Bl q7 (CQ (λd=>AU ⟨rfl,.inl ⟨_,_,rfl,eF _ _ _ m2 d⟩⟩) λd=>JX ?_)
    have z:1 < J - 1/\J - 1<=b.size/\H+(J - 1)+(y+1)<=l+nb:=by lia
    exact⟨⟨rfl,.inr ⟨_,H,J - 1,_,_,rfl,m2,q1,z.1,q3,z.2.1,by lia⟩⟩,rfl,_,H,J - 1,_,_,rfl,m2,q1,z.1,q3,z.2.1,z.2.2⟩
  case post1=>
   rintro G hG c B ⟨rfl,⟨r,z,rfl,f⟩ | ⟨U,H,J,X,Y,rfl,N⟩⟩ <;> subst hG
   ·exact AU ⟨s1,_,_,rfl,f⟩
   refine AT (GV ?_)
   refine GX (I:=λy c bf=>JM a₀ κ st bf/\∃bp cO L cX X Y,c=(none,cO,L,bp,cX,X,Y)/\GH M a.size b.size 1 (l+nb) bp cO L)
    (Q:=λc bf=>JM a₀ κ st bf/\((∃r z,c=(some r,z)/\F r)∨∃bp cO L cX X Y,c=(none,cO,L,bp,cX,X,Y)/\GH M a.size b.size 1 (l+nb) bp cO L)) ?step2 ?fin2 ?init2 ?post2
   case init2=>exact⟨s1,U,H,J,mg+1,X,Y,rfl,N⟩
   case fin2=>exact λc bf h=>⟨h.1,.inr h.2⟩
   case post2=>
    rintro G hG c bf ⟨s2,⟨r,z,rfl,f⟩ | ⟨bp,cO,L,cX,ac2,bc2,rfl,m2,p1,p2,p3,p4,p5⟩⟩ <;> subst hG
    ·exact AU ⟨s2,_,_,rfl,f⟩
    ·exact AT (KQ (AU ⟨s2.gal _,bp,cO,L,cX+1,rfl,m2,p1,p2,p3,p4,by lia⟩))
   case step2=>
    rintro G hG y c bf _ _ ⟨s2,bp,cO,L,cX,ac2,bc2,rfl,m2,p1,p2,p3,p4,p5⟩;subst hG;dsimp only
    revert cX
    refine TJ (λgP=>?_) λt i=>t _
    have s3:=s2.gal gP
    have p6:L - 1 < b.size:=by lia
    refine AT (KQ (Bl p6 ?_));refine AT (EQ (base:=0) (n:=cO) (hint:=cO - 1) (arr:=a) (key:=ix b (L - 1)) (left:=false) C s3.good (λi=>!lt (ix b (L - 1)) (ix a (0+i))) (R _ p6) (λi hi=>⟨by lia,P _ (by lia)⟩) (λi hi=>rfl) (λi j ft hj e=>?_) (by lia) λk hk k1 k2=>?_)
    ·have e':lt (ix b (L - 1)) (ix a (0+j))=false:=by simpa using e
     have:=tr _ _ _ (P _ (by lia)) (P _ (by lia)) (R _ p6) (ua (0+i) (0+j) (by lia) (by lia)) e';simpa using this
    have near:∀j,j < k->Rl lt (ix a j) (ix b (L - 1)):=λj S=>by
     have:=k1 j S;rw[HR]at this;simpa using this
    have m5:=sA bp cO L k m2 hk p3 p4 λi j i1 i2 S=>by
     have:=k2 i i1 i2;rw[HR]at this;exact tr _ _ _ (R _ (by lia)) (R _ p6) (P _ (by lia)) (ub j (L - 1) (by lia) p6) (O.asym _ _ (R _ p6) (P _ (by lia)) (by simpa using this))
    dsimp only;generalize hk6:cO - k=k6;generalize ho:bp=o;generalize hi:cO=i
    revert o i
    refine KO (λo i=>M o i L/\0 < i/\i=k) ?_ (λt gR=>CQ (λd=>AU ⟨s3,.inl ⟨_,_,rfl,eA _ _ _ m5 d⟩⟩) λd=>t (bp++(a.extract k cO).reverse) k ⟨m5,by lia,rfl⟩) λgR=>⟨m2,p1,by lia⟩
    rintro eC T ⟨m3,c1,hi3⟩
    have c4:T - 1 < a.size:=by lia
    have c5:T<=cO:=by lia
    have m4:=tB _ _ _ m3 (by lia) p4 (by lia) λj h=>near j (hi3▸h)
    refine Bl p6 (CQ (λd=>AU ⟨s3,.inl ⟨_,_,rfl,eF _ _ _ m4 d⟩⟩) λd=>Bl c4 ?_)
    have c6:1 < L - 1/\L - 1 < b.size/\T+(L - 1)+2<=l+nb:=by lia
    generalize eC.push (ix b (L - 1))=out4 at m4 ⊢;generalize L - 1=nb4 at m4 c6 ⊢;obtain⟨c6,c7,c8⟩:=c6;refine AT (EQ (base:=0) (n:=nb4) (hint:=nb4 - 1) (arr:=b) (key:=ix a (T - 1)) (left:=true) C s3.good (λi=>lt (ix b (0+i)) (ix a (T - 1))) (P _ c4) (λi hi=>⟨by lia,R _ (by lia)⟩) (λi hi=>rfl) (λi j ft hj e=>?_) (by lia) λk3 dI k4 k5=>?_)
    ·cases e2:lt (ix b (0+i)) (ix a (T - 1))with
     | true=>rfl
     | false=>
      have:=tr _ _ _ (P _ c4) (R _ (by lia)) (R _ (by lia)) e2 (ub (0+i) (0+j) (by lia) (by lia));exact nomatch (show true=false from(show lt (ix b (0+j)) (ix a (T - 1))=true from e).symm.trans this)
    have fu:∀j,j < k3->Rl lt (ix b j) (ix a (T - 1)):=λj S=>by
     have:=k4 j S;rw[HR]at this;exact O.asym _ _ (R _ (by lia)) (P _ c4) this
    have m6:=sB _ T nb4 k3 m4 dI (by lia) (by lia) λi j i1 i2 S=>by
     have:=k5 i i1 i2;rw[HR]at this;exact tr _ _ _ (P _ (by lia)) (P _ c4) (R _ (by lia)) (ua j (T - 1) (by lia) c4) this
    dsimp only;generalize hk7:nb4 - k3=k7;generalize ho:out4=o;generalize hi:nb4=i
    revert o i
    refine KO (λo j=>M o T j/\1 < j/\j<=nb4/\j=k3) ?_ (λt gW=>?_) λgW=>⟨m4,c6,AK _,by lia⟩
    case refine_2=>
     refine CQ (λd=>AU ⟨s3,.inl ⟨_,_,rfl,eF _ _ _ m6 d⟩⟩) λd2=>?_
     exact CQ (λd=>AU ⟨s3,.inl ⟨_,_,rfl,eB _ _ _ m6 d⟩⟩) λd4=>t (out4++(b.extract k3 nb4).reverse) k3 ⟨m6,by lia,by lia,rfl⟩
    rintro gV fw ⟨m5,c9,c10,hi5⟩
    have m7:=tA _ _ _ m5 c1 (by lia) (by lia) λj h=>fu j (hi5▸h)
    refine Bl c4 (CQ (λd=>AU ⟨s3,.inl ⟨_,_,rfl,eA _ _ _ m7 d⟩⟩) λd=>JX ?_)
    have z:0 < T - 1/\1 < fw/\T - 1<=a.size/\fw<=b.size/\T - 1+fw+1<=l+nb:=by lia
    exact⟨⟨s3,.inr ⟨_,T - 1,fw,_,_,_,rfl,m7,z⟩⟩,s3,_,T - 1,fw,_,_,_,rfl,m7,z⟩
end
def wr(arr:Array Ap)(g:Nat)(l:List (Ap×Nat)):Array Ap:=l.foldl (λa (x:Ap×Nat)=>match x with | (p,j)=>a.setIfInBounds (g+j) p) arr
theorem M6(g:Nat):∀(l:List Ap) (k:Nat) (arr:Array Ap),g+k+l.length<=arr.size->(wr arr g (l.zipIdx k)).toList=arr.toList.take (g+k)++l++arr.toList.drop (g+k+l.length)
 | [],k,arr,h=>by simp[wr]
 | x :: l,k,arr,h=>by
  rw[Al]at h;have e:wr arr g ((x :: l).zipIdx k)=wr (arr.setIfInBounds (g+k) x) g (l.zipIdx (k+1)):=rfl;rw[e,M6 g l (k+1) _ (by simp;lia)]
  have j:g+k < arr.toList.length:=by simp;lia
  rw[L3,Al,show g+(k+1)=g+k+1 by lia];rw[GM,List.take_set_of_le (AK _),Av j,List.drop_set_of_lt (by lia)];simp[show g+k+1+l.length=g+k+(l.length+1) by lia]
theorem ix_list(a:Array Ap)(i:Nat):ix a i=(a.toList[i]?).getD (.none,.none):=by
 unfold ix;rw[DJ];simp
theorem Ue(h:sa+m.size<=arr.size)(i:Nat):ix (wr arr sa m.toList.zipIdx) i=if i < sa then ix arr i else if i < sa+m.size then ix m (i - sa)else ix arr i:=by
 have e:=M6 sa m.toList 0 arr (by simpa using h);rw[ix_list,show m.toList.zipIdx=m.toList.zipIdx 0 from rfl,e,Z1]
 have j:(arr.toList.take sa).length=sa:=by simp;lia
 split
 ·rename_i g
  rw[A0,AN (by lia),N1 g,ix_list]
 ·rename_i g
  split
  ·rename_i l
   rw[A0,Ae (by lia),j,AN (by simp;lia),ix_list]
  ·rename_i l
   rw[Ae (by simp;lia),Fg,ix_list]
   congr 2
   simp
   lia
theorem WO{arr m:Array Ap}{g:Nat}(h:g+m.size<=arr.size)(j:m.toList.Perm (arr.extract g (g+m.size)).toList):(wr arr g m.toList.zipIdx).Perm arr:=by
 rw[DT];have e:=M6 g m.toList 0 arr (by simpa using h);rw[show m.toList.zipIdx=m.toList.zipIdx 0 from rfl,e,Z1]
 have l:arr.toList=arr.toList.take g++(arr.extract g (g+m.size)).toList++arr.toList.drop (g+m.toList.length):=by
  rw[A0,Aw,<-FV h,Ej]
 conv=>rhs;rw[l]
 exact L0 _ (Gk _ j)
theorem P7{a:Array Ap}{lo hi i:Nat}(h:hi<=a.size)(g:i < hi - lo):ix (a.extract lo hi) i=ix a (lo+i):=by
 apply Gc
 rw[Array.getElem?_extract];simp
 lia
section
variable{prog:Aq}{w:A9}{A:A4}{E:AC->AF->Prop}{s:AF}{a₀:Array Ap}{κ:JU}{lt:Ap->Ap->Bool}
theorem TY{a:Array Ap}{lo hi:Nat}(h:hi<=a.size)(u:Up lt a lo hi):(a.extract lo hi).toList.Pairwise (Rl lt):=by
 rw[List.pairwise_iff_getElem];intro i j m o B;simp at m o
 have e:∀k (g:k < (a.extract lo hi).toList.length),(a.extract lo hi).toList[k]=ix a (lo+k):=λk g=>by
  have l:k < (a.extract lo hi).size:=by rw[Aw]at g;exact g
  have:=CI l;rw[getElem?_pos (a.extract lo hi) k l]at this
  have C:(a.extract lo hi).size=hi - lo:=by simp;lia
  rw[<-P7 h (by lia)];simpa using this
 rw[e,e];exact u _ _ (by lia) (by lia) (by omega)
theorem Vg{st g:An}{Q:PUnit->An->Prop}(h:Q ⟨⟩ g):wpS (AW prog w) A E s (set g:StateT An Sem PUnit) Q st:=AU h
theorem OD{st}{i l m pw sb H pw2}{Q}(C:HG prog w A s a₀ κ lt)(O:Ord (·∈a₀) lt)(g:Good a₀ κ st)
  (e1:(AO st)[i]?=some (l,m,pw)) (e2:(AO st)[i+1]?=some (sb,H,pw2)) (ez:sb=l+m) (dJ:1<=m) (dM:1<=H) (hs:sb+H<=a₀.size)
  (Y:Up lt (AM st) l (l+m)) (Z:Up lt (AM st) sb (sb+H))
  (h:∀o,Good a₀ κ o->AO o=((AO st).setIfInBounds i (l,m+H,pw)).eraseIdxIfInBounds (i+1)->Up lt (AM o) l (l+(m+H))->Out (AM st) (AM o) l (l+(m+H))->Q true o) :
  wpS (AW prog w) A E s (mergeAt' i) Q st:=by
 subst ez;have hsz:=g.size
 have mem:∀j,j < a₀.size->ix (AM st) j∈a₀:=λj hj=>g.mem hj
 have tr:∀x y z:Ap,x∈a₀->y∈a₀->z∈a₀->Rl lt x y->Rl lt y z->Rl lt x z:=λx y z hx hy B J I=>O.ntr x y z hx hy B J I
 refine(AT (Eu ?_):wpS _ _ _ _ (mergeAt' i) Q st);rw[show(sortPriv% PySem.Builtin.SortState.pending) st=AO st from rfl,e1,e2];refine AT (Vg ?_);generalize L:((sortPriv% PySem.Builtin.SortState.mk) (kindOf st) (AM st) (((AO st).setIfInBounds i (l,m+H,pw)).eraseIdxIfInBounds (i+1)) (gallopOf st) (Fc st))=bw
 have g1:Good a₀ κ bw:=by subst L;exact⟨g.perm,g.kind,g.failed⟩
 have a1:AM bw=AM st:=by subst L;rfl
 have p1:AO bw=((AO st).setIfInBounds i (l,m+H,pw)).eraseIdxIfInBounds (i+1):=by subst L;rfl
 refine AT (Kk (a:=AM st) (i:=l+m) (by lia) ?_);refine AT (EQ (base:=l) (n:=m) (hint:=0) (arr:=AM st) (key:=ix (AM st) (l+m)) (left:=false) C g1 (λj=>!lt (ix (AM st) (l+m)) (ix (AM st) (l+j))) (mem _ (by lia)) (λj hj=>⟨by lia,mem _ (by lia)⟩) (λj hj=>rfl) (λx y fx hy e=>?_) (by lia) λk hk k1 k2=>?_)
 ·have e':lt (ix (AM st) (l+m)) (ix (AM st) (l+y))=false:=by simpa using e
  have:=tr _ _ _ (mem _ (by lia)) (mem _ (by lia)) (mem _ (by lia)) (Y (l+x) (l+y) (by lia) (by lia) (by lia)) e';simpa using this
 have low:∀j,l<=j->j < l+k->Rl lt (ix (AM st) j) (ix (AM st) (l+m)):=λj G R=>by
  have:=k1 (j - l) (by lia);rw[show l+(j - l)=j by lia]at this;simpa using this
 have fy:∀i j,l<=i->i < l+k->l+m<=j->j < l+m+H->Rl lt (ix (AM st) i) (ix (AM st) j):=λi j T i2 G R=>tr _ _ _ (mem _ (by lia)) (mem _ (by lia)) (mem _ (by lia)) (low i T i2) (Z _ _ (by lia) (by omega) (by omega))
 have N:(∀j,l<=j->j < l+m->Rl lt (ix (AM st) j) (ix (AM st) (l+m)))->Up lt (AM st) l (l+(m+H)):=λhh x y J I h3=>by
  by_cases c1:y < l+m
  ·exact Y x y J I c1
  by_cases c2:x < l+m
  ·exact tr _ _ _ (mem _ (by lia)) (mem _ (by lia)) (mem _ (by lia)) (hh x J c2) (Z _ _ (by lia) (by lia) (by lia))
  ·exact Z x y (by lia) I (by lia)
 refine(show wpS (AW prog w) A E s (if (m - k==0)=true then _ else _) Q bw from ?_)
 by_cases c1:m - k=0
 ·rw[qX (by simpa using c1)]
  refine AU (h bw g1 p1 ?_ (by rw[a1];exact .refl));rw[a1]
  exact N λj G R=>low j G (by lia)
 rw[qY (by simpa using c1)];refine AT (Kk (a:=AM st) (i:=l+k+(m - k) - 1) (by omega) ?_);rw[show l+k+(m - k) - 1=l+m - 1 by lia];refine AT (EQ (base:=l+m) (n:=H) (hint:=H - 1) (arr:=AM st) (key:=ix (AM st) (l+m - 1)) (left:=true) C g1 (λj=>lt (ix (AM st) (l+m+j)) (ix (AM st) (l+m - 1))) (mem _ (by lia)) (λj hj=>⟨by lia,mem _ (by lia)⟩) (λj hj=>rfl) (λx y fx hy e=>?_) (by omega) λk3 dI k4 k5=>?_)
 ·cases e2:lt (ix (AM st) (l+m+x)) (ix (AM st) (l+m - 1))with
  | true=>rfl
  | false=>
   have:=tr _ _ _ (mem _ (by lia)) (mem _ (by lia)) (mem _ (by lia)) e2 (Z (l+m+x) (l+m+y) (by lia) (by lia) (by lia));exact nomatch (show true=false from(show lt (ix (AM st) (l+m+y)) (ix (AM st) (l+m - 1))=true from e).symm.trans this)
 have U:∀j,l+m+k3<=j->j < l+m+H->Rl lt (ix (AM st) (l+m - 1)) (ix (AM st) j):=λj G R=>by
  have:=k5 (j - (l+m)) (by lia) (by lia);rwa [show l+m+(j - (l+m))=j by lia]at this
 refine(show wpS (AW prog w) A E s (if (k3==0)=true then _ else _) Q bw from ?_)
 by_cases c2:k3=0
 ·rw[qX (by simpa using c2)]
  refine AU (h bw g1 p1 ?_ (by rw[a1];exact .refl));rw[a1]
  exact N λj G R=>tr _ _ _ (mem _ (by lia)) (mem _ (by lia)) (mem _ (by lia)) (Y j (l+m - 1) (by omega) (by lia) (by lia)) (U _ (by lia) (by lia))
 rw[qY (by simpa using c2)]
 let x:=(AM st).extract (l+k) (l+m)
 let y:=(AM st).extract (l+m) (l+m+k3)
 have xs:x.size=m - k:=by simp[x];lia
 have ys:y.size=k3:=by simp[y];lia
 have jW:∀j,j < m - k->ix x j=ix (AM st) (l+k+j):=λj hj=>P7 (by lia) (by lia)
 have jX:∀j,j < k3->ix y j=ix (AM st) (l+m+j):=λj hj=>P7 (by lia) (by lia)
 have eD:∀z∈x.toList,∃j,j < m - k/\z=ix (AM st) (l+k+j):=λz B=>by
  have B:z∈((AM st).extract (l+k) (l+k+(m - k))).toList:=by rw[show l+k+(m - k)=l+m by lia];exact B
  exact KW (by lia) B
 have eE:∀z∈y.toList,∃j,j < k3/\z=ix (AM st) (l+m+j):=λz B=>KW (by lia) B
 have fin:∀(r:Array Ap) (o:An),JM a₀ κ bw o->HK (Rl lt) (x.toList++y.toList) r.toList->∀bf:An,AM bf=wr (AM o) (l+k) r.toList.zipIdx->kindOf bf=kindOf o->Fc bf=Fc o->AO bf=AO o->Q true bf:=by
  intro r o S f bf q1 q2 q3 q4
  have hr:r.size=m - k+k3:=by
   have:=f.perm.length_eq;simp only[Ao,Aw]at this
   lia
  have ha:AM o=AM st:=S.arr.trans a1;rw[ha]at q1
  have hb:l+k+r.size<=(AM st).size:=by lia
  have mm:∀t,t < r.size->∃t',ix r t=ix (AM st) t'/\l+k<=t'/\t' < l+m+k3:=λt ht=>by
   have:ix r t∈r.toList:=A3.mpr (B0 (CI ht))
   rcases A1.mp (f.perm.mem_iff.mp this)with h | h
   ·obtain⟨j,G,e⟩:=eD _ h
    exact⟨_,e,by lia,by lia⟩
   ·obtain⟨j,G,e⟩:=eE _ h
    exact⟨_,e,by lia,by lia⟩
  have rs:=OJ O (a:=r) (λt ht=>by
   obtain⟨t',e,_,_⟩:=mm t ht;rw[e]
   exact mem _ (by lia)) f.srt
  refine h bf ⟨?_,?_,?_⟩ (q4.trans (S.pend.trans p1)) ?_ ?_
  ·rw[q1]
   refine(WO hb (f.perm.trans ?_)).trans g.perm
   have:(AM st).toList.drop (l+k)=x.toList++(AM st).toList.drop (l+m):=by
    have:=FV (a:=AM st) (i:=l+k) (k:=m - k) (by lia);rw[show l+k+(m - k)=l+m by lia]at this;exact this
   have I:(AM st).toList.drop (l+m)=y.toList++(AM st).toList.drop (l+m+k3):=FV (by lia);have h3:(AM st).toList.drop (l+k)=((AM st).extract (l+k) (l+k+r.size)).toList++(AM st).toList.drop (l+k+r.size):=FV hb;rw[this,I,<-A0,show l+k+r.size=l+m+k3 by lia]at h3;rw[show l+k+r.size=l+m+k3 by lia];exact Qa (List.append_cancel_right h3)
  ·rw[q2];exact S.good.kind
  ·rw[q3];exact S.good.failed
  ·rw[q1]
   intro i j J I h3;show Rl lt _ _;rw[Ue hb,Ue hb]
   by_cases T:i < l+k
   ·rw[qX T]
    by_cases G:j < l+k
    ·rw[qX G];exact Y i j J I (by lia)
    rw[qY G]
    by_cases R:j < l+k+r.size
    ·rw[qX R]
     obtain⟨t,e,t1,t2⟩:=mm (j - (l+k)) (by omega);rw[e]
     by_cases t3:t < l+m
     ·exact Y i t J (by lia) t3
     ·exact fy i t J T (by lia) (by lia)
    ·rw[qY R];exact fy i j J T (by lia) (by lia)
   rw[qY T,qY (show ¬j < l+k by lia)]
   by_cases i2:i < l+k+r.size
   ·rw[qX i2]
    by_cases R:j < l+k+r.size
    ·rw[qX R];exact rs _ _ (by lia) (by omega)
    ·rw[qY R]
     obtain⟨t,e,t1,t2⟩:=mm (i - (l+k)) (by omega);rw[e]
     by_cases t3:t < l+m
     ·exact tr _ _ _ (mem _ (by lia)) (mem _ (by lia)) (mem _ (by lia)) (Y t (l+m - 1) (by lia) (by lia) (by lia)) (U j (by lia) (by lia))
     ·exact Z t j (by lia) (by lia) (by lia)
   ·rw[qY i2,qY (show ¬j < l+k+r.size by lia)]
    exact Z i j (by lia) I (by lia)
  ·rw[q1]
   intro i hi;rw[Ue hb]
   by_cases T:i < l+k
   ·rw[qX T]
   ·rw[qY T,qY (by lia)]
 have X:∀{P:Prop},((∀z∈x.toList,z∈a₀)->(∀z∈y.toList,z∈a₀)->x.toList.Pairwise (Rl lt)->y.toList.Pairwise (Rl lt)->0 < x.size->0 < y.size->(∀z∈x.toList,Rl lt (ix y 0) z)->(∀z∈y.toList,Rl lt z (ix x (x.size - 1)))->P)->P:=by
  intro P hP
  refine hP (λz B=>?_) (λz B=>?_) (TY (by lia) λi j J I h3=>Y i j (by lia) I h3) (TY (by lia) λi j J I h3=>Z i j J I (by lia)) (by lia) (by lia) (λz B=>?_) λz B=>?_
  ·obtain⟨j,G,rfl⟩:=eD z B
   exact mem _ (by lia)
  ·obtain⟨j,G,rfl⟩:=eE z B
   exact mem _ (by lia)
  ·obtain⟨j,G,rfl⟩:=eD z B
   rw[jX 0 (by lia)];have:=k2 (k+j) (by lia) (by lia);rw[show l+(k+j)=l+k+j by lia]at this;exact O.asym _ _ (mem _ (by lia)) (mem _ (by lia)) (by simpa using this)
  ·obtain⟨j,G,rfl⟩:=eE z B
   rw[xs,jW _ (by lia),show l+k+(m - k - 1)=l+m - 1 by lia];exact O.asym _ _ (mem _ (by lia)) (mem _ (by lia)) (k4 j G)
 refine(show wpS (AW prog w) A E s (if m - k<=k3 then mLo x y >>= _ else mHi x y >>= _) Q bw from ?_);split
 ·refine AT (X λb1 b2 b3 b4 b5 b6 b7 b8=>Vh C O g1 b1 b2 b3 b4 b5 b6 b7 b8 λr o S f=>?_)
  refine AT (CL (AT (Eu (AU ?_))));have q:=fin r o S f (setArr o (wr (AM o) (l+k) r.toList.zipIdx)) rfl rfl rfl rfl;rw[<-show(Fc o).isNone=true by rw[S.good.failed];rfl]at q;exact q
 ·refine AT (X λb1 b2 b3 b4 b5 b6 b7 b8=>Vi C O g1 b1 b2 b3 b4 b5 b6 b7 b8 λr o S f=>?_)
  refine AT (CL (AT (Eu (AU ?_))));have q:=fin r o S f (setArr o (wr (AM o) (l+k) r.toList.zipIdx)) rfl rfl rfl rfl;rw[<-show(Fc o).isNone=true by rw[S.good.failed];rfl]at q;exact q
end
theorem Wo[Decidable c](h:1 < z):(if c then z - 2 - 1 else z - 2)+1 < z:=by split <;> omega
def Stk(lt:Ap->Ap->Bool)(arr:Array Ap):List (Nat×Nat×Nat)->Nat->Nat->Prop
 | [],lo,g=>lo=g
 | (s,n,_) :: r,lo,g=>s=lo/\1<=n/\Up lt arr s (s+n)/\Stk lt arr r (s+n) g
section
theorem Stk.le:∀{l:List (Nat×Nat×Nat)} {lo hi:Nat},Stk lt arr l lo hi->lo+l.length<=hi
 | [],lo,hi,h=>by cases h;simp
 | (s,n,_) :: r,lo,hi,⟨j,m,_,g⟩=>by
  have:=Stk.le g;rw[Al]
  lia
theorem Stk.app:∀{l r:List (Nat×Nat×Nat)} {lo hi:Nat},Stk lt arr (l++r) lo hi↔∃g,Stk lt arr l lo g/\Stk lt arr r g hi
 | [],r,lo,hi=>⟨λh=>⟨lo,rfl,h⟩,λ⟨_,e,h⟩=>by cases e;exact h⟩
 | (s,n,_) :: l,r,lo,hi=>by
  constructor
  ·rintro⟨j,m,o,A⟩
   obtain⟨g,a,b⟩:=Stk.app.mp A;exact⟨g,⟨j,m,o,a⟩,b⟩
  ·rintro⟨g,⟨j,m,o,A⟩,b⟩
   exact⟨j,m,o,Stk.app.mpr ⟨g,A,b⟩⟩
theorem Stk.pw(m:∀x,(f x).1=x.1/\(f x).2.1=x.2.1):∀{l:List (Nat×Nat×Nat)} {lo hi:Nat} (i:Nat),Stk lt arr l lo hi->Stk lt arr (l.modify i f) lo hi
 | [],lo,hi,i,h=>by cases i <;> exact h
 | (s,n,p) :: r,lo,hi,0,h=>by
  obtain⟨g,j⟩:=m (s,n,p);show Stk lt arr (f (s,n,p) :: r) lo hi;generalize f (s,n,p)=q at g j;obtain⟨E,G,H⟩:=q;dsimp only at g j;subst g j;exact h
 | (s,n,p) :: r,lo,hi,i+1,⟨o,A,B,C⟩=>⟨o,A,B,Stk.pw m i C⟩
theorem Stk.out:∀{l:List (Nat×Nat×Nat)} {lo hi x y:Nat},Stk lt arr l lo hi->Out arr arr' x y->(hi<=x∨y<=lo)->Stk lt arr' l lo hi
 | [],lo,hi,x,y,h,o,d=>h
 | (s,n,_) :: r,lo,hi,x,y,⟨j,m,A,g⟩,o,d=>by
  have:=g.le;exact⟨j,m,A.out o (by lia),Stk.out g o (by lia)⟩
end
section
theorem Out.wide(o:Out xs g l h)(m:j<=l)(s:h<=h'):Out xs g j h':=λi A=>o i (by lia)
theorem Gn{st:An}{i hi:Nat}{Q:Bool->An->Prop}(C:HG prog w A s a₀ P lt)(O:Ord (·∈a₀) lt)(g:Good a₀ P st)(k:Stk lt (AM st) (AO st).toList 0 hi)(hs:hi<=a₀.size)(X:i+1 < (AO st).size)
  (h:∀j,Good a₀ P j->Stk lt (AM j) (AO j).toList 0 hi->(AO j).size+1=(AO st).size->Out (AM st) (AM j) 0 hi->Q true j):wpS (AW prog w) A E s (mergeAt' i) Q st:=by
 obtain⟨m,o,pw,R⟩:∃m o pw,(AO st)[i]?=some (m,o,pw):=⟨_,_,_,getElem?_pos (AO st) i (by lia)⟩
 obtain⟨H,B,G,S⟩:∃m o pw,(AO st)[i+1]?=some (m,o,pw):=⟨_,_,_,getElem?_pos (AO st) (i+1) X⟩
 obtain⟨l,r,I,Y⟩:∃l r,(AO st).toList=l++(m,o,pw) :: (H,B,G) :: r/\l.length=i:=by
  have Z:(AO st).toList[i]?=some (m,o,pw):=by simpa using R
  have a2:(AO st).toList[i+1]?=some (H,B,G):=by simpa using S
  obtain⟨b1,c1⟩:=AD.mp Z;obtain⟨b2,c2⟩:=AD.mp a2;refine⟨(AO st).toList.take i,(AO st).toList.drop (i+2),?_,by rw[CP];lia⟩
  conv=>lhs;rw[<-Ej i (AO st).toList,GD b1,GD b2,c1,c2]
 rw[I]at k;obtain⟨J,T,⟨q1,q2,q3,⟨q4,q5,q6,L⟩⟩⟩:=Stk.app.mp k;have hle:=L.le;have jY:=T.le
 refine OD C O g R S q4 q2 q5 (by lia) q3 q6 λj g' p' u' N=>?_
 have U:(AO j).toList=l++(m,o+B,pw) :: r:=by
  rw[p',Array.toList_eraseIdxIfInBounds,L3,I];rw[List.set_append_right _ _ (by lia),Y,HS,List.set_cons_zero,List.eraseIdx_append_of_length_le (by lia),show i+1 - l.length=1 by lia];rfl
 refine h j g' ?_ ?_ (N.wide (by lia) (by lia))
 ·rw[U]
  refine Stk.app.mpr ⟨J,T.out N (.inl (by lia)),q1,by lia,u',?_⟩
  have e:H+B=m+(o+B):=by lia
  rw[e]at L;exact L.out N (.inr (by lia))
 ·have z1:=congrArg GP U
  have z2:=congrArg GP I;simp at z1 z2
  lia
theorem wpS_sortRuns{st:An}{Q:Unit->An->Prop}(C:HG prog w A s a₀ J lt)(O:Ord (·∈a₀) lt)(g:Good a₀ J st)(hp:AO st = #[])
  (h:∀o,Good a₀ J o->Up lt (AM o) 0 a₀.size->Q () o):wpS (AW prog w) A E s sortRuns' Q st:=by
 rw[sortRuns'_eq];refine AT (Eu ?_);dsimp only;rw[g.size];generalize minRun' a₀.size a₀.size 0=L
 refine AT (EF (CF (I:=λx c o=>∃lo,c=(none,lo)/\Good a₀ J o/\Stk lt (AM o) (AO o).toList 0 lo/\lo<=a₀.size/\min x a₀.size<=lo)
  (Q:=λc o=>c=(none,a₀.size)/\Good a₀ J o/\Stk lt (AM o) (AO o).toList 0 a₀.size) ?step ?fin ?init) ?post)
 case init=>exact⟨0,rfl,g,by rw[hp];rfl,by lia,by lia⟩
 case fin=>
  rintro c o ⟨lo,rfl,g',k',h1,h2⟩
  have:lo=a₀.size:=by lia
  subst this;exact⟨rfl,g',k'⟩
 case step=>
  rintro x c bw _ hx ⟨lo,rfl,g1,U,h1,h2⟩;dsimp only
  by_cases cg:lo ≥ a₀.size
  ·rw[qX cg]
   have:lo=a₀.size:=by lia
   subst this;exact AU ⟨rfl,g1,U⟩
  rw[qY cg];refine AT (wpS_countRun C O (by lia) (by lia) g1 λX n Y P T u2 o2 p2=>?_);dsimp only
  have k2:Stk lt (AM X) (AO X).toList 0 lo:=by
   rw[p2];exact U.out o2 (.inl (AK _))
  by_cases hm:n < L
  ·rw[qX hm]
   refine AT (GV ?_);refine AT (wpS_binarySort C O (by lia) (by omega) Y u2 λZ g3 u3 o3 p3=>?_)
   have k3:Stk lt (AM Z) (AO Z).toList 0 lo:=by
    rw[p3];exact k2.out o3 (.inl (AK _))
   rw[qY (by simp)];refine AT (Eu ?_)
   cases hb:(AO Z).back? with
   | none=>
    dsimp only;refine AT (CL (AU ⟨lo+min (a₀.size - lo) L,rfl,⟨g3.perm,g3.kind,g3.failed⟩,?_,by lia,by lia⟩));show Stk lt (AM Z) ((AO Z).push (lo,min (a₀.size - lo) L,0)).toList 0 (lo+min (a₀.size - lo) L);rw[GF];exact Stk.app.mpr ⟨lo,k3,rfl,by omega,u3,rfl⟩
   | some t=>
    obtain⟨s1,P,z⟩:=t;dsimp only;generalize power' a₀.size (2 * s1+P) (2 * s1+P+P+min (a₀.size - lo) L) a₀.size=pw
    refine AT (EF (CF (I:=λ_ c m=>c=(none,())/\Good a₀ J m/\Stk lt (AM m) (AO m).toList 0 lo/\Up lt (AM m) lo (lo+min (a₀.size - lo) L))
     (Q:=λc m=>c=(none,())/\Good a₀ J m/\Stk lt (AM m) (AO m).toList 0 lo/\Up lt (AM m) lo (lo+min (a₀.size - lo) L)) ?_ (λc m h=>h) ⟨rfl,g3,k3,u3⟩) ?_)
    ·rintro x' c' m _ _ ⟨rfl,B,G,H⟩
     refine AT (Eu ?_)
     by_cases N:(AO m).size > 1
     ·rw[qX N]
      obtain⟨s2,T,R,S⟩:∃s2 T R,(AO m)[(AO m).size - 2]?=some (s2,T,R):=⟨_,_,_,getElem?_pos (AO m) ((AO m).size - 2) (by lia)⟩
      rw[S];dsimp only
      by_cases ho:R<=pw
      ·rw[qX ho]
       exact AU ⟨rfl,B,G,H⟩
      ·rw[qY ho]
       refine AT (Gn C O B G (by omega) (by lia) λdB g5 k5 _ o5=>?_);exact AU ⟨rfl,g5,k5,H.out o5 (.inr (by lia))⟩
     ·rw[qY N]
      exact AU ⟨rfl,B,G,H⟩
    ·rintro c' m ⟨rfl,B,G,H⟩
     dsimp only;refine AT (CL (AT (CL (AU ⟨lo+min (a₀.size - lo) L,rfl,⟨B.perm,B.kind,B.failed⟩,?_,by lia,by lia⟩))));show Stk lt (AM m) ((((AO m).modify ((AO m).size - 1) λx=>(x.fst,x.2.fst,pw))).push (lo,min (a₀.size - lo) L,0)).toList 0 (lo+min (a₀.size - lo) L);rw[GF,Qc];exact Stk.app.mpr ⟨lo,Stk.pw (f:=λx=>(x.fst,x.2.fst,pw)) (λx=>⟨rfl,rfl⟩) _ G,rfl,by omega,H,rfl⟩
  ·rw[qY hm]
   refine AT (Eu ?_)
   cases hb:(AO X).back? with
   | none=>
    dsimp only;refine AT (CL (AU ⟨lo+n,rfl,⟨Y.perm,Y.kind,Y.failed⟩,?_,by lia,by lia⟩));show Stk lt (AM X) ((AO X).push (lo,n,0)).toList 0 (lo+n);rw[GF];exact Stk.app.mpr ⟨lo,k2,rfl,by omega,u2,rfl⟩
   | some t=>
    obtain⟨s1,P,z⟩:=t;dsimp only;generalize power' a₀.size (2 * s1+P) (2 * s1+P+P+n) a₀.size=pw
    refine AT (EF (CF (I:=λ_ c m=>c=(none,())/\Good a₀ J m/\Stk lt (AM m) (AO m).toList 0 lo/\Up lt (AM m) lo (lo+n))
     (Q:=λc m=>c=(none,())/\Good a₀ J m/\Stk lt (AM m) (AO m).toList 0 lo/\Up lt (AM m) lo (lo+n)) ?_ (λc m h=>h) ⟨rfl,Y,k2,u2⟩) ?_)
    ·rintro x' c' m _ _ ⟨rfl,B,G,H⟩
     refine AT (Eu ?_)
     by_cases N:(AO m).size > 1
     ·rw[qX N]
      obtain⟨s2,T,R,S⟩:∃s2 T R,(AO m)[(AO m).size - 2]?=some (s2,T,R):=⟨_,_,_,getElem?_pos (AO m) ((AO m).size - 2) (by lia)⟩
      rw[S];dsimp only
      by_cases ho:R<=pw
      ·rw[qX ho]
       exact AU ⟨rfl,B,G,H⟩
      ·rw[qY ho]
       refine AT (Gn C O B G (by omega) (by lia) λdB g5 k5 _ o5=>?_);exact AU ⟨rfl,g5,k5,H.out o5 (.inr (by lia))⟩
     ·rw[qY N]
      exact AU ⟨rfl,B,G,H⟩
    ·rintro c' m ⟨rfl,B,G,H⟩
     dsimp only;refine AT (CL (AT (CL (AU ⟨lo+n,rfl,⟨B.perm,B.kind,B.failed⟩,?_,by lia,by lia⟩))));show Stk lt (AM m) ((((AO m).modify ((AO m).size - 1) λx=>(x.fst,x.2.fst,pw))).push (lo,n,0)).toList 0 (lo+n);rw[GF,Qc];exact Stk.app.mpr ⟨lo,Stk.pw (f:=λx=>(x.fst,x.2.fst,pw)) (λx=>⟨rfl,rfl⟩) _ G,rfl,by omega,H,rfl⟩
 case post=>
  rintro c bw ⟨rfl,g1,U⟩;dsimp only
  refine AT (EF (CF (I:=λx c m=>c=(none,())/\Good a₀ J m/\Stk lt (AM m) (AO m).toList 0 a₀.size/\((AO m).size<=1∨(AO m).size+x<=a₀.size))
   (Q:=λc m=>c=(none,())/\Good a₀ J m/\Stk lt (AM m) (AO m).toList 0 a₀.size/\(AO m).size<=1) ?_ ?_ ?_) ?_)
  ·rintro x c m _ _ ⟨rfl,B,G,d⟩
   refine AT (Eu ?_)
   by_cases N:(AO m).size<=1
   ·rw[qX N]
    exact AU ⟨rfl,B,G,N⟩
   ·rw[qY N]
    refine AT (Gn C O B G (AK _) (Wo (by lia)) λdB g5 k5 z5 o5=>?_);exact AU ⟨rfl,g5,k5,.inr (by lia)⟩
  ·rintro c m ⟨rfl,B,G,d⟩
   exact⟨rfl,B,G,by lia⟩
  ·refine⟨rfl,g1,U,.inr ?_⟩
   have:=U.le;simp at this;omega
  ·rintro c m ⟨rfl,B,G,d⟩
   refine AU (h m B ?_);generalize hl:(AO m).toList=l at G
   have hd:l.length<=1:=by rw[<-hl];simpa using d
   match l,G,hd with
   | [],G,_=>exact λi j h1 h2 h3=>by have:(0:Nat)=a₀.size:=G;lia
   | [(s,n,_)],⟨e1,_,u,S⟩,_=>
    have S:s+n=a₀.size:=S;rw[S,e1]at u;exact u
end
noncomputable def ltL:ZLi->ZLi->Bool
 | [],[]=>false
 | [],_ :: _=>true
 | _ :: _,[]=>false
 | x :: g,y :: j=>if x=y then ltL g j else decide (x < y)
theorem LN:∀x y,ltL x y=true->ltL y x=false
 | [],[],h=>by cases h
 | [],_ :: _,_=>rfl
 | _ :: _,[],h=>by cases h
 | x :: g,y :: j,h=>by
  unfold ltL at h ⊢
  by_cases e:x=y
  ·rw[qX e]at h;rw[qX e.symm];exact LN g j h
  ·rw[qY e]at h;rw[qY (B2 e)];simp at h ⊢;lia
theorem NX:∀x y z,ltL y x=false->ltL z y=false->ltL z x=false
 | [],y,[],_,_=>rfl
 | [],[],_ :: _,_,_=>rfl
 | [],_ :: _,_ :: _,_,_=>rfl
 | x :: o,[],z,h,_=>by cases h
 | _,y :: s,[],_,h=>by cases h
 | x :: o,y :: s,z :: B,j,g=>by
  unfold ltL at j g ⊢
  by_cases m:y=x
  ·rw[qX m]at j
   subst m
   by_cases l:z=y
   ·rw[qX l]at g ⊢
    exact NX o s B j g
   ·rw[qY l]at g ⊢;exact g
  ·rw[qY m]at j
   by_cases l:z=y
   ·subst l;rw[qY m];exact j
   ·rw[qY l]at g
    by_cases A:z=x
    ·subst A;simp at j g;lia
    ·rw[qY A];simp at j g ⊢;lia
theorem Q0:∀x y,ltL x y=false->ltL y x=false->x=y
 | [],[],_,_=>rfl
 | [],_ :: _,h,_=>by cases h
 | _ :: _,[],_,h=>by cases h
 | x :: l,y :: m,g,j=>by
  unfold ltL at g j
  by_cases e:x=y
  ·rw[qX e]at g;rw[qX e.symm]at j;rw[e,Q0 l m g j]
  ·rw[qY e]at g;rw[qY (B2 e)]at j;simp at g j;lia
def ltK(f:AC->ZLi)(x y:Ap):Bool:=ltL (f x.1) (f y.1)
theorem WW(f:AC->ZLi)(U:Ap->Prop):Ord U (ltK f):=⟨λx y _ _ h=>LN _ _ h,λx y z _ _ _ g j=>NX _ _ _ g j⟩
section
theorem P1(o:Bool)(h:Q (decide (a < b)) s):Ac (AW prog w) A (oneLt' o (.int a t) (.int b u)) Q E s:=by
 cases o with
 | true=>exact oneLt_int h
 | false=>
  rw[oneLt'_eq];simp only[BR,if_false];exact AA (wpAny_lt_int (Bc h))
def QR(s:AF)(v:AC)(ns:ZLi):Prop:=∃a g,v=.ref a/\s.heap.IsTuple a g/\C7 g.toList ns
noncomputable def bL(o:Bool):(AC×AC)×Nat->Option Bool×Unit->Sem (ForInStep (Option Bool×Unit)):=λe _=>match e with
 | ((p,q),i)=>eqBool p q >>= λc=>if (!c)=true then oneLt' (o&&i==0) p q >>= λb=>pure (.done (some b,()))else pure (.yield (none,()))
theorem Uc(o:Bool)(x y:AC):keyLt' (Zh o) x y=(Fi x >>= λr=>Fi y >>= λq=>forIn (r.toList.zip q.toList).zipIdx ((none,()):Option Bool×Unit) (bL o) >>= λz=>match z.1 with
  | some b=>pure b
  | none=>pure (decide (r.size < q.size))):=by kernel_rfl
theorem VC(o:Bool):∀{is j:List AC} {ns C:ZLi} (k:Nat) {Q:Bool->AF->Prop},C7 is ns->C7 j C->Q (ltL ns C) s ->
  Ac (AW prog w) A (forIn ((is.zip j).zipIdx k) ((none,()):Option Bool×Unit) (bL o) >>= λz=>match z.1 with
   | some b=>pure b
   | none=>pure (decide (n0+is.length < n0+j.length))) Q E s:=by
 intro is
 induction is with
 | nil=>
  intro j ns C k Q l B g;cases l;rw[List.zip_nil_left,Ve,MW];refine AA (AH (AH ?_))
  cases B with
  | nil=>simpa[ltL]using g
  | cons m t h=>simpa[ltL]using g
 | cons v is G=>
  intro j ns C k Q l B g
  cases l with
  | cons n t l=>
   cases B with
   | nil=>
    rw[List.zip_nil_right,Ve,MW];refine AA (AH (AH ?_));rw[wY (by rw[Al,HW];lia)];exact g
   | cons m u B=>
    rw[List.zip_cons_cons,List.zipIdx_cons,Vf];rw[bind_assoc];unfold ltL at g;refine AA ?_;refine AA (Zu ?_)
    by_cases e:n=m
    ·rw[qX e]at g
     rw[qY (by simp[e])];refine AH ?_;have:=G (k+1) l B g;simpa[Nat.add_lt_add_iff_left]using this
    ·rw[qY e]at g
     rw[qX (by simp[e])];refine AA (P1 _ (AH ?_));exact AA (AH (AH g))
end
section
theorem Ja(h:QR s v ns):∃g:Array AC,C7 g.toList ns/\s.TypeIs v "tuple"/\∀(E:AC->AF->Prop) (Q:Array AC->AF->Prop),Q g s->Ac (AW prog w) A (Fi v) Q E s:=by
 obtain⟨a,g,rfl,⟨o,j,l,n,hd⟩,m⟩:=h;exact⟨g,m,⟨o,j,l⟩,λE Q q=>Lx j hd q⟩
theorem W9(o:Bool)(g:QR s x ns)(j:QR s y l)(h:Q (ltL ns l) s):Ac (AW prog w) A (keyLt' (Zh o) x y) Q E s:=by
 obtain⟨r,m,_,wr⟩:=Ja (prog:=prog) (w:=w) (A:=A) g;obtain⟨q,B,_,C⟩:=Ja (prog:=prog) (w:=w) (A:=A) j;rw[Uc];refine AA (wr E _ (AA (C E _ ?_)));have:=VC (prog:=prog) (w:=w) (A:=A) (E:=E) (n0:=0) o 0 m B h;simp only[HR,Aw]at this;exact this
theorem SQ(h:QR s v (n :: ns))(j:∀t,Q (some (.int n t)) s):Ac (AW prog w) A (RT v) Q E s:=by
 obtain⟨r,g,ty,wr⟩:=Ja (prog:=prog) (w:=w) (A:=A) h;refine(AA (wpAny_typeOf ty ?_):Ac _ _ (RT v) Q E s);refine(show Ac (AW prog w) A (if (Ei "tuple" != Ei "tuple")=true then _ else _) Q E s from ?_);rw[qY (by simp)];refine AA (wr E _ (AH ?_));generalize m:r.toList=l at g
 cases g with
 | cons _ t o=>
  have:r[0]?=some (.int n t):=by
   rw[<-Array.getElem?_toList,m];rfl
  rw[this];exact j t
theorem LX:∀{vs:List AC},(∀v∈vs,∃n ns,QR s v (n :: ns))->∀{Q:List (Option AC)->AF->Prop},(∀is ns,C7 is ns->is.length=vs.length->Q (is.map some) s)->Ac (AW prog w) A (vs.mapM RT) Q E s
 | [],_,Q,h=>by
  rw[List.mapM_nil];exact AH (h [] [] .nil rfl)
 | v :: vs,g,Q,h=>by
  obtain⟨n,ns,j⟩:=g v Am;rw[List.mapM_cons];refine AA (SQ j λt=>AA (LX (λv l=>g v (Aa _ l)) λis m o B=>AH ?_));exact h (.int n t :: is) (n :: m) (.cons n t o) (by rw[Al,B,Al])
theorem NN(h:C7 is ns)(g:is≠[]):oneTypeOnly' is.toArray=pure (some (.type "int")):=by
 rw[oneTypeOnly'_eq,TC,mapM_typeOf_ints h];simp only[map_pure,pure_bind]
 cases is with
 | nil=>exact zX rfl g
 | cons v is=>
  have j:(XV (λ_=>Ei "int") (v :: is)).toArray[0]?=some (Ei "int"):=by simp
  have l:((XV (λ_=>Ei "int") (v :: is)).toArray.all λx=>x==Ei "int")=true:=by
   simp only[List.all_toArray,Zq,HF]
   exact λ_ _=>rfl
  rw[j];simp only[l,if_true]
theorem Ua(g:∀v∈vs,∃n ns,QR s v (n :: ns))(j:vs≠[])(h:Q (Zh true) s):Ac (AW prog w) A (keyKind' vs.toArray) Q E s:=by
 rw[keyKind'_eq,TC];refine AA ?_;rw[map_eq_pure_bind];refine AA (LX g λis ns l m=>AH ?_)
 have o:((is.map some).toArray.all λx=>x.isSome)=true:=by simp
 rw[qX o];refine AA (PD ?_)
 have B:(is.map some).toArray.filterMap id=is.toArray:=by simp
 rw[B,NN l (by intro e;subst e;cases vs with | nil=>exact j rfl | cons=>simp at m)];refine AA (AH (AH ?_));exact h
end
section
theorem ET(h:x∈HM vs):x.1∈vs/\x.1=x.2:=by
 have:x∈(HM vs).toList:=A3.mpr h;rw[pairsOf_toList]at this;exact⟨(mem_zip_self this).2,(mem_zip_self this).1⟩
theorem R4(vs:List AC):(HM vs).map (·.2)=vs.toArray:=by
 apply Array.ext'
 rw[Gm,pairsOf_toList];simp[VX]
def Nt(prog:Aq)(w:A9)(A:A4)(s:AF)(vs:List AC)(f:AC->ZLi):Prop:=
 ∃g:JU,(∀(Q:JU->AF->Prop) (E:AC->AF->Prop),Q g s->Ac (AW prog w) A (keyKind' vs.toArray) Q E s)/\HG prog w A s (HM vs) g (ltK f)
theorem MK(ho:s.heap.get? a=some (BN "list" vs.toArray n)) (U:vs.length<=sizeLine)
  (X:2<=vs.length->∀s':AF,(∀b o,b≠a->s.heap.get? b=some o->s'.heap.get? b=some o)->Nt prog w A s' vs f)
  (h:∀out:Array AC,out.toList.Perm vs->out.toList.Pairwise (λx y=>ltL (f y) (f x)=false)->P (.done (.ret .none)) { s with heap:=Xp s.heap a vs out }) :
  Ac (AW prog w) A (Builtin.«list.sort» ⟨[.ref a],[]⟩) P E s:=by
 have ha:a < s.heap.objs.size:=AV ho
 have I:vs.toArray.size=vs.length:=by simp
 obtain⟨J,O⟩:∃J,(s.heap.update a (B4 λ_=>#[])).get? a=some (BN "list" #[] J):=⟨_,N9 ho (λ_=>#[])⟩
 have B:(((s.heap.update a (B4 λ_=>#[])).push (BN "tuple" vs.toArray 0)).push (BN "list" #[] 0)).get? a=some (BN "list" #[] J):=
  AE _ (AE _ O)
 have L:∀b o,b≠a->s.heap.get? b=some o->(((s.heap.update a (B4 λ_=>#[])).push (BN "tuple" vs.toArray 0)).push (BN "list" #[] 0)).get? b=some o:=λb o hb Y=>
  AE _ (AE _ (by rw[Rb _ _ _ _ hb];exact Y))
 have fin:∀j:An,(AM j).Perm (HM vs)->(AM j).toList.Pairwise (Rl (ltK f))->P (.done (.ret .none)) { s with heap:=Xp s.heap a vs ((AM j).map (·.2)) }:=by
  intro j m G
  have R:∀x∈(AM j).toList,x.1=x.2:=λx N=>by
   have:x∈(HM vs).toList:=(DT.mp m).mem_iff.mp N;exact(ET (A3.mp this)).2
  refine h _ ?_ ?_
  ·have:=(DT.mp m).map (·.2)
   rw[<-Gm,<-Gm,R4]at this;simpa using this
  ·rw[Gm,EK]
   refine G.imp_of_mem λ{x y} N Z r=>?_
   rw[<-R x N,<-R y Z];exact r
 have last:∀j:An,(AM j).Perm (HM vs)->Fc j=none->(AM j).toList.Pairwise (Rl (ltK f))->(((AM j).map (·.2)).size<=sizeLine+1):=λj m _ _=>by
  rw[Array.size_map,m.size_eq,pairsOf_size]
  lia
 rw[list_sort_plain];refine AA (Lx ho rfl (AA (HQ ho rfl (AA (Ny O rfl (AA (wpAny_newTuple (AA (KI (DW ?_)))))) ) (by rw[I];exact U) (CA _))));show Ac (AW prog w) A _ P E { s with heap:=((s.heap.update a (B4 λ_=>#[])).push (BN "tuple" vs.toArray 0)).push (BN "list" #[] 0) };dsimp only
 by_cases H:vs.toArray.size < 2
 ·rw[qX H,qX H]
  refine AA (AH ?_);rw[StateT.run_pure]
  have S:(AM (Ea PL (vs.toArray.zip vs.toArray) #[] 7 none)).toList.Pairwise (Rl (ltK f)):=by
   have:(AM (Ea PL (vs.toArray.zip vs.toArray) #[] 7 none)).toList.length < 2:=by
    rw[Aw];show(HM vs).size < 2;rw[pairsOf_size];omega
   generalize (AM (Ea PL (vs.toArray.zip vs.toArray) #[] 7 none)).toList=l at this
   match l,this with
   | [],_=>exact .nil
   | [x],_=>exact List.pairwise_singleton _ _
   | _ :: _ :: _,h=>simp at h;lia
  refine AA (AH (AA (Ny B rfl (AA (HQ B rfl ?_ (CA _) (last (Ea PL (vs.toArray.zip vs.toArray) #[] 7 none) (JP _) rfl S))))));simp only[bne_self_eq_false,BR,if_false];exact AH (fin (Ea PL (vs.toArray.zip vs.toArray) #[] 7 none) (JP _) S)
 ·rw[qY H,qY H]
  obtain⟨κ,kk,C⟩:=X (by lia) { s with heap:=((s.heap.update a (B4 λ_=>#[])).push (BN "tuple" vs.toArray 0)).push (BN "list" #[] 0) } L;refine AA (kk _ _ ?_)
  refine AA (CZ (Srt.wpS_sortRuns (a₀:=HM vs) (st:=Ea κ (vs.toArray.zip vs.toArray) #[] 7 none)
   (Q:=λ_ j=>(AM j).Perm (HM vs)/\Fc j=none/\(AM j).toList.Pairwise (Rl (ltK f))) C (WW f _) ⟨JP _,rfl,rfl⟩ rfl λj g u=>⟨g.perm,g.failed,?_⟩) ?_ λ_ _ e=>e)
  ·have:=TY (a:=AM j) (lo:=0) (hi:=(AM j).size) (AK _) (by rw[g.size];exact u)
   rwa [G8,List.drop_zero]at this
  rintro⟨⟨⟩,j⟩ s' ⟨rfl,m,T,G⟩;refine AA (Ny B rfl (AA (HQ B rfl ?_ (CA _) (last j m T G))));rw[T];simp only[bne_self_eq_false,BR,if_false];exact AH (fin j m G)
theorem Rp(h:∀v∈vs,QR s v (f v)/\f v≠[])(g:vs≠[]):Nt prog w A s vs f:=
 ⟨Zh true,λQ E q=>Ua (λv j=>by
  obtain⟨l,m⟩:=h v j
  cases e:f v with
  | nil=>exact zX e m
  | cons n o=>exact⟨n,o,by rw[<-e];exact l⟩) g q,λx y B C Q E q=>W9 true (h _ (ET B).1).1 (h _ (ET C).1).1 q⟩
def UA(v:AC):ZLi:=[numOf v]
theorem Rr(h:C7 vs ns)(l:2<=vs.length):Nt prog w A s vs UA:=by
 refine⟨oneType',λQ E q=>?_,λx y o B Q E q=>?_⟩
 ·match vs,l,h with
  | v :: u :: r,_,h=>rw[keyKind_ints h];exact AH q
 ·obtain⟨n,t,g⟩:=h.all _ (ET o).1
  obtain⟨m,u,j⟩:=h.all _ (ET B).1;rw[keyLt'_oneType,g,j];refine oneLt_int ?_
  have:ltK UA x y=decide (n < m):=by
   unfold ltK UA;rw[g,j];show(if n=m then false else decide (n < m))=_;split
   ·rename_i e;simp[e]
   ·rfl
  rw[<-this];exact q
end
def MQ(h:BY)(d:AL)(es:Array Z3)(ep:Nat):Prop:=∃o,h.get? d=some o/\o.ExactDict/\o.data=.dict es ep
theorem MQ.at'(x:MQ h d es ep)(e:∀o,h.get? d=some o->h'.get? d=some o):MQ h' d es ep:=let ⟨o,g,r⟩:=x;⟨o,e _ g,r⟩
theorem MQ.ty{s:AF}{d:AL}{es:Array Z3}{ep:Nat}(x:MQ s.heap d es ep):s.TypeIs (.ref d) "dict":=let ⟨o,g,j,_⟩:=x;⟨o,g,j.1⟩
section
theorem Tr{Q:AC->AF->Prop}(hd:(d==Cw)=false)(j:MQ s.heap d es ep)
  (B:Q (.ref s.heap.objs.size) { s with heap:=s.heap.push { cls:=.type "dict_keyiterator",data:=.fields #[.ref d,.int 0 0,.int es.size 0,.int ep 0] } }):Ac (AW prog w) A (Sw (.ref d)) Q E s:=by
 have g:=j.ty;obtain⟨o,l,C,m⟩:=j;refine wpAny_pyIter_slot g M4 (FE M4 g PySem.F.entry_dict_iter ?_ (PySem.F.args_dict_iter_1 _));unfold Builtin.«dict.__iter__»;refine AA ?_;unfold bd;refine AA (wpAny_notOrdered_dict g (show Ac _ _ (pure (Ax d)) _ _ s from AH ?_));refine(show Ac _ _ (Ki d >>= _) _ _ s from ?_);unfold Ki;rw[qY (by simp[hd])];refine AA (AH (AA (Lu l m (AA (N6 l m (AA (Bq (AH ⟨_,rfl, "dict_keyiterator",_,⟨_,AR _ rfl,rfl⟩,Bo.lookup,?_⟩))))))));simpa[JS]using B
theorem Tq(g:s.heap.IsKeyIter it d i es.size ep)(C:MQ s.heap d es ep)(hi:i < es.size)
  (G:∀h',h'.IsKeyIter it d (i+1) es.size ep->Fb it s.heap h'->Q (some es[i].key) { s with heap:=h' }):Ac (AW prog w) A (Mz (.ref it)) Q E s:=by
 obtain⟨o,j,H,hd⟩:=id g;obtain⟨I,l,J,m⟩:=C;unfold Mz;refine AA (KJ (Hy (name:=B8 "__next__") g.typeIs Bo (FE Bo g.typeIs IG (AA (AH (AA (AA ?_)))) (IA _))))
 first | refine AA (DG g.typeIs (AH (AA (JQ j hd ?_)))) | refine AA (EG g.typeIs (AH (AA (JQ j hd ?_))))
 simp only[show HN "dict_keyiterator" = false by decide,BR,if_false];refine(show Ac _ _ (if (Ax d==Dz)=true then _ else _) _ _ s from ?_);rw[qY (λz:(Ax d==Dz)=true=>AZ z)];refine AA (AH (AA (Lu l m ?_)));rw[qY (by simp)];refine AA (AH (AA (N6 l m ?_)));rw[qY (by simp)];refine AH ?_;simp only[show ¬((i:Int) < 0) by lia,if_false,DR,Array.getElem?_eq_getElem hi];refine AA ?_
 first | refine AA (DG g.typeIs (AH (AA (Ih g.typeIs ?_)))) | refine AA (EG g.typeIs (AH (AA (Ih g.typeIs ?_))))
 refine(show Ac _ _ (setField (.ref it) 1 (JS ((i:Int)+1)) >>= _) _ _ s from ?_);have B:(s.heap.update it (Zo (·.setIfInBounds 1 (JS ((i:Int)+1))))).IsKeyIter it d (i+1) es.size ep:=⟨_,Pa _ j (Obj.isFreed_of_fields (S9 hd _)),(Obj.cls_mapFields ..).trans H,by rw[S9 hd];simp[JS]⟩;refine AA (wpAny_setField j hd (by simp) (AA (DW (AA (Ih (s:={ s with heap:=s.heap.update it (Zo (·.setIfInBounds 1 (JS ((i:Int)+1)))) }) B.typeIs ?_)))));exact(show Ac _ _ (pure es[i].key) _ _ _ from AH (AH ⟨_,rfl,AH (G _ B (EO ..))⟩))
theorem WA(C:A.handled=none)(g:s.heap.IsKeyIter it d i es.size ep)(G:MQ s.heap d es ep)(hi:es.size<=i)
  (H:∀h',BY.ExtBut it s.heap h'->Q none { s with heap:=h' }):Ac (AW prog w) A (Mz (.ref it)) Q E s:=by
 obtain⟨o,j,I,hd⟩:=id g;obtain⟨J,l,L,B⟩:=G;unfold Mz;refine AA (KJ (Hy (name:=B8 "__next__") g.typeIs Bo (FE Bo g.typeIs IG (AA (AH (AA (AA ?_)))) (IA _))))
 first | refine AA (DG g.typeIs (AH (AA (JQ j hd ?_)))) | refine AA (EG g.typeIs (AH (AA (JQ j hd ?_))))
 simp only[show HN "dict_keyiterator" = false by decide,BR,if_false];refine(show Ac _ _ (if (Ax d==Dz)=true then _ else _) _ _ s from ?_);rw[qY (λz:(Ax d==Dz)=true=>AZ z)];refine AA (AH (AA (Lu l B ?_)));rw[qY (by simp)];refine AA (AH (AA (N6 l B ?_)));rw[qY (by simp)];refine AH ?_;simp only[show ¬((i:Int) < 0) by lia,if_false,DR,Array.getElem?_eq_none hi];refine AA ?_
 first | refine AA (DG g.typeIs (AH (show Ac _ _ (setField (.ref it) 0 .none >>= _) _ _ s from ?_))) | refine AA (EG g.typeIs (AH (show Ac _ _ (setField (.ref it) 0 .none >>= _) _ _ s from ?_)))
 refine AA (wpAny_setField j hd (by simp) (show Ac _ _ (newExc (.type "StopIteration") [] >>= _) _ _ _ from AA ?_));simp only[newExc,newTuple];refine AA (Bq (AA (m:=firstArgMember _ _) (wpAny_of_eq (a:=Dz) (by first | rfl | (simp only[firstArgMember];rfl)) (Bq ?_ (by size_fits)))) (by size_fits));simp only[raiseNew];refine AA (wpAny_handled ?_);rw[show A.in1.handled=none from C];refine AA (AH (wpAny_throw ?_));refine AA (wpAny_isInstance (T:="StopIteration") (b:=true) ⟨_,AR _ rfl,rfl⟩ isSubtype_stop (AH ?_));exact H _ (((EO ..).extBut.push _).push _)
theorem Ru(C:A.handled=none)(I:AL)(G:d≠I):Walks prog w A I [I,d] [I] es.size (λi v=>∃h:i < es.size,v=es[i].key) (λi h=>h.IsKeyIter I d i es.size ep/\MQ h d es ep) where
 sub:=λx l=>by simp at l;simp[l]
 frame:=λ_ _ _ st keep=>⟨st.1.at λo e=>keep I (by simp) o e,st.2.at' λo e=>keep d (by simp) o e⟩
 item:=λi s Q E m st g=>Tq st.1 st.2 m λj H B=>g _ j s.toks ⟨m,rfl⟩ ⟨H,st.2.at' λo e=>B.extBut d o G e⟩ λb o hb e=>B.extBut b o (λh=>hb (by simp[h])) e
 done:=λs Q E st g=>WA C st.1 st.2 (AK _) λj J=>g j s.toks λb o hb e=>J b o (λh=>hb (by simp[h])) e
 self:=λ_ _ _ _ st g=>wpAny_pyIter_keyiter st.1 g
theorem Qr(lo:(d==Cw)=false):PySem.W.KdlSrc prog w "dict" d d es.size (λi v=>∃h:i < es.size,v=es[i].key) (λh=>MQ h d es ep) where
 type:=λ_ g=>g.ty
 there:=λ_ g=>⟨let ⟨_,j,_⟩:=g;AV j,let ⟨_,j,_⟩:=g;AV j⟩
 keep:=λ_ _ g m=>g.at' λo e=>m d (.inl rfl) o e
 notList:=by decide
 notTuple:=by decide
 hint:=λ_ _ _ _ g l=>PySem.W.kdl_hint_dict g.ty l
 iter:=λ_ _ s g=>⟨_,_,(λ_ _ l=>Tr lo g l),Ru s _ (Ak (let ⟨_,j,_⟩:=g;AV j)),⟨⟨_,AR _ rfl,rfl,rfl⟩,g.at' λo e=>AE _ e⟩⟩
end
end Srt
namespace L2
open Srt (ltL)
theorem OX{s A:Type}{R:s->A->Prop}{B C:List A}(p:B.Perm C):∀{l1:List s},Ev R l1 B->∃E,Ev R E C/\E.Perm l1:=by
 induction p with
 | nil=>intro l1 h;cases h;exact⟨[],.nil,.refl _⟩
 | cons x _ G=>
  intro l1 h
  cases h with
  | cons r t=>
   obtain⟨H,g,j⟩:=G t;exact⟨_ :: H,.cons r g,j.cons _⟩
 | swap x y l=>
  intro l1 h
  cases h with
  | cons r t=>
   cases t with
   | cons I t=>exact⟨_ :: _ :: _,.cons I (.cons r t),List.Perm.swap _ _ _⟩
 | trans _ _ m o=>
  intro l1 h;obtain⟨a,g,j⟩:=m h;obtain⟨b,J,L⟩:=o g;exact⟨b,J,L.trans j⟩
theorem Iv{j l o:Type}{R:j->l->Prop}{f:j->o}{g:l->o}:∀{m:List j} {s:List l},Ev R m s->(∀a∈m,∀b,R a b->g b=f a)->s.map g=m.map f
 | _,_,.nil,_=>rfl
 | _,_,.cons r t,h=>by rw[Au,Au,h _ Am _ r,Iv t λa A=>h a (Aa _ A)]
theorem LC{j g:Type}{R:j->g->Prop}:∀{l:List j} {m:List g} {b:g},Ev R l m->b∈m->∃a∈l,R a b
 | _,_,_,.nil,h=>nomatch h
 | _,_,b,.cons r t,h=>by
  rcases A7.mp h with h | h
  ·subst h;exact⟨_,Am,r⟩
  ·obtain⟨a,o,e⟩:=LC t h
   exact⟨a,Aa _ o,e⟩
noncomputable def MH:V->Int
 | .int n=>n
 | _=>0
def Rt(H:Hp):AC->ZLi
 | .int n _=>[n]
 | .ref b=>match H b with
  | some (.tup g)=>g.map MH
  | _=>[]
 | _=>[]
theorem Jc(r:ZLi):(r.map V.int).map MH=r:=by
 rw[B7];exact(FF λa _=>rfl).trans (Zp r)
def bN(K:AB)(H:Hp)(p:AL)(G:List V->Prop):Prop:=
 (∃vs,(SqL K H p vs∨SqT K H p vs)/\G vs)∨(∃g,H p=some (.dK g)/\G (g.map λx=>kV x.1)) ∨
  ∃g,H p=some (.dT g)/\∀bs:List AL,Ev (λ(k:List Key×V) b=>H b=some (.tup (k.1.map kV))) g bs->G (bs.map V.ref)
def Mw(H:Hp)(f:V->ZLi)(vs:List V):Prop:=(∀v∈vs,∃n,v=.int n/\f v=[n])∨∀v∈vs,∃b,v=.ref b/\H b=some (.tup ((f v).map V.int))/\f v≠[]
def aN(K:AB):List V->Hp->VK->Prop:=λg H Q=>∃p,g=[.ref p]/\bN K H p λvs=>∃f:V->ZLi,Mw H f vs /\
 ∀out,out.Perm vs->out.Pairwise (λx y=>ltL (f y) (f x)=false)->∀l,H l=none->Q (.ref l) (upd H l (.lst out))
theorem Mw.rel(h:Mw H f vs):∀v∈vs,∀u,RelV v u->Rt H u=f v:=λv g u r=>by
 rcases h with h | h
 ·obtain⟨n,rfl,e⟩:=h v g
  obtain⟨t,rfl⟩:=r;exact e.symm
 ·obtain⟨b,rfl,e,_⟩:=h v g
  cases r;show(match H b with | some (.tup j)=>j.map MH | _=>[])=_;rw[e];exact Jc _
theorem ON(hc:X.calm=true)(I:Inv X ζ σ H s)(h:bN X.K H p G) :
  ∃vs P,G vs/\BD vs P/\P.length<=sizeLine/\∀(R:List AC->AF->Prop) (E:AC->AF->Prop),(∀(g:BY) (tk:Nat),(∀b o,s.heap.get? b=some o->g.get? b=some o)->R P { s with heap:=g,toks:=tk })->Ac (AW X.prog X.w) X.A.in1 (collect (.ref p)) R E s:=by
 have hh:X.A.handled=none:=I.ok.hd hc
 rcases h with⟨vs,sq,g⟩ | ⟨B,e,g⟩ | ⟨B,e,g⟩
 ·rcases sq with sq | sq
  ·obtain⟨P,U,pl,J⟩:=I.list sq
   refine⟨vs,P,g,U,by rw[<-U.length];exact J,λR E k=>collect_list pl.isList (k _ s.toks λb o e=>?_) (by rw[<-U.length];exact J)⟩;rw[Rb _ _ _ _ (Ak (AV e))];exact AE _ e
  ·obtain⟨P,U,⟨o,ho,cT,n,hd⟩,J⟩:=I.tuple sq
   have eN:P.length<=sizeLine:=by rw[<-U.length];exact J
   exact⟨vs,P,g,U,eN,λR E k=>wpAny_collect_seq p (.inr rfl) ho cT hd (λh' kp=>by simpa using k h' s.toks kp) (by simpa using eN)⟩
 ·obtain⟨J,sm,Y,kv,o,es,ep,g1,g2,g3,g5,g6,_⟩:=(show CT X.prog X.w H s.heap p (.dK B)from I.hok p _ e)
  have C:es.size=B.length:=by
   have a1:=g6.length;have a2:B.length=Y.length:=DA kv;rw[Aw]at a1
   lia
  have hv:BD (B.map λx=>kV x.1) (es.toList.map (·.key)):=by
   have Q:∀{l:List Z3} {Y:List (Key×AC)} {B:List (Key×V)},Pairs (C1 X.prog X.w) l Y->KV B Y->BD (B.map λx=>kV x.1) (l.map (·.key)):=by
    intro l Y B hp
    induction hp generalizing B with
    | nil=>intro h;cases h;exact .nil
    | cons q1 q2 _ Z=>
     intro h
     cases h with
     | cons r t=>
      refine .cons ?_ (Z t);dsimp only;rw[r.1]
      rcases CK q1 with⟨i,t,e1,S⟩ | ⟨x,t,e1,S⟩
      ·rw[e1,S];exact⟨t,rfl⟩
      ·rw[e1,S];exact⟨t,rfl⟩
   exact Q g6 kv
  refine⟨_,es.toList.map (·.key),g,hv,by rw[AI,Aw,C];exact J,λR E k=>?_⟩
  refine O4 (Srt.Qr (es:=es) (ep:=ep) sm) hh ⟨o,g1,g2,g3⟩ (by rw[C];exact J) λg' tk m kp T=>?_
  have:m.toList=es.toList.map (·.key):=by
   apply GR
   intro j
   by_cases L:j < es.size
   ·have N:j < m.size:=by rw[T.1];exact L
    obtain⟨_,S⟩:=T.2 j m[j] (by simp[N]);simp[L,N,S]
   ·have N:¬j < m.size:=by rw[T.1];exact L
    simp[L,N]
  rw[this];exact k g' tk kp
 ·obtain⟨J,sm,O,rr,o,es,ep,g1,g2,g3,g4,_⟩:=(show CT X.prog X.w H s.heap p (.dT B)from I.hok p _ e)
  have C:es.size=B.length:=by
   have a1:=congrArg GP g4;have a2:B.length=O.length:=DA rr;rw[Aw,AI]at a1
   lia
  have hb:Ev (λ(k:List Key×V) b=>H b=some (.tup (k.1.map kV))) B (O.map (·.2.1)):=by
   have Q:∀{B:List (List Key×V)} {O:List (List Key×AL×AC)},Ev (λ(p:List Key×V) (q:List Key×AL×AC)=>p.1=q.1/\H q.2.1=some (.tup (p.1.map kV))/\RelV p.2 q.2.2) B O->Ev (λ(k:List Key×V) b=>H b=some (.tup (k.1.map kV))) B (O.map (·.2.1)):=by
    intro B O h
    induction h with
    | nil=>exact .nil
    | cons r _ Z=>exact .cons r.2.1 Z
   exact Q rr
  have hk:es.toList.map (·.key)=(O.map (·.2.1)).map Ax:=by
   rw[g4,B7,B7];rfl
  have hv:∀l:List AL,BD (l.map V.ref) (l.map Ax):=λl=>by
   induction l with
   | nil=>exact .nil
   | cons a l Z=>exact .cons rfl Z
  refine⟨_,(O.map (·.2.1)).map Ax,g _ hb,hv _,by rw[AI,AI,<-DA rr];exact J,λR E k=>?_⟩
  refine O4 (Srt.Qr (es:=es) (ep:=ep) sm) hh ⟨o,g1,g2,g3⟩ (by rw[C];exact J) λg' tk m kp T=>?_
  have:m.toList=(O.map (·.2.1)).map Ax:=by
   rw[<-hk]
   apply GR
   intro j
   by_cases L:j < es.size
   ·have N:j < m.size:=by rw[T.1];exact L
    obtain⟨_,S⟩:=T.2 j m[j] (by simp[N]);simp[L,N,S]
   ·have N:¬j < m.size:=by rw[T.1];exact L
    simp[L,N]
  rw[this];exact k g' tk kp
theorem OS{X:Cx}{s:AF}{H:Hp}{f:V->ZLi}{vs:List V}{g:List AC}(I:∀b xs,H b=some (.tup xs)->∃is:List AC,BD xs is/\Zr s.heap b is.toArray)(h:Mw H f vs)(C:BD vs g)(G:2<=g.length){A:A4}:Srt.Nt X.prog X.w A s g (Rt H):=by
 rcases id h with N | O
 ·have:∃ns,C7 g ns:=by
   have B:∀{vs:List V} {g:List AC},BD vs g->(∀v∈vs,∃n,v=.int n/\f v=[n])->∃ns,C7 g ns:=by
    intro vs g r
    induction r with
    | nil=>exact λ_=>⟨[],.nil⟩
    | cons r _ P=>
     intro j
     obtain⟨ns,l⟩:=P λv R=>j v (Aa _ R)
     obtain⟨n,rfl,_⟩:=j _ Am;obtain⟨t,rfl⟩:=r;exact⟨n :: ns,.cons n t l⟩
   exact B C N
  obtain⟨ns,l⟩:=this;obtain⟨S,T,U⟩:=Srt.Rr (prog:=X.prog) (w:=X.w) (A:=A) (s:=s) l G;refine⟨S,T,λx y J L Q E q=>U x y J L Q E ?_⟩;obtain⟨n,t,Y⟩:=l.all _ (Srt.ET J).1;obtain⟨m,u,Z⟩:=l.all _ (Srt.ET L).1
  have e:Srt.ltK Srt.UA x y=Srt.ltK (Rt H) x y:=by
   unfold Srt.ltK Srt.UA;rw[Y,Z];rfl
  rw[e];exact q
 ·refine Srt.Rp (λu hu=>?_) (by intro e;subst e;simp at G)
  obtain⟨v,j,r⟩:=LC C hu;rw[h.rel v j u r];obtain⟨b,rfl,e,ne⟩:=O v j;cases r;refine⟨⟨b,?_⟩,ne⟩;obtain⟨is,r,o,ho,cT,n,hd⟩:=I b _ e;exact⟨is.toArray,rfl,⟨o,ho,cT,n,hd⟩,by simpa using intsAre_of r⟩
theorem SZ{X}(T:X.calm=true):HH X (.builtin "sorted") (aN X.K):=by
 intro U s Y H N us Q I r h;obtain⟨p,rfl,C⟩:=h;obtain⟨u,rfl,Z⟩:=vals1 r;cases Z;obtain⟨vs,B,⟨f,j,q⟩,E,G,col⟩:=ON T I C;refine Calls.call_function_entry kind_sorted plain_sorted entry_sorted (args_sorted1 _) ?_;unfold Builtin.«sorted»;refine AA (m:=checkCount "sorted" 1 1 _) (AH (AA (col _ _ λg O kp=>?_)));refine AA (KI ?_ G);have J:Inv X U Y H { s with heap:=g,toks:=O }:=I.kept kp;have L:(g.push (BN "list" B.toArray 0)).get? g.objs.size=some (BN "list" B.toArray 0):=AR _ rfl;refine AA (DW (FE slot_list_sort ⟨_,L,rfl⟩ bP (Srt.MK (f:=Rt H) L G (λh2 s' keep=>?_) λout po so=>⟨_,rfl,AH ⟨_,rfl,?_⟩⟩) (args_list_sort _)))
 ·refine OS (λb N e=>?_) j E h2
  obtain⟨_,is,r,o,P,cT,n,hd⟩:=(show CT X.prog X.w H g b (.tup N)from J.hok b _ e);exact⟨is,r,o,keep b o (Ak (AV P)) (AE _ P),cT,n,hd⟩
 ·obtain⟨l,S,pv⟩:=OX po.symm E
  have j':l.Pairwise (λx y=>ltL (f y) (f x)=false):=by
   have e:out.toList.map (Rt H)=l.map f:=Iv S λa ha b rb=>j.rel a (pv.mem_iff.mp ha) b rb
   have:=(EK (f:=Rt H) (R:=λx y=>ltL y x=false)).mpr so;rw[e]at this;exact EK.mp this
  obtain⟨k,hk⟩:=sortedHeap_at (out:=out) L
  have A:l.length<=sizeLine:=by rw[pv.length_eq,E.length];exact G
  have I2:=J.laid (a:=g.objs.size) (o:=.lst l) (t':=O) (h':=Xp (g.push (BN "list" B.toArray 0)) g.objs.size B out)
   (λb u z=>by
    have lt:b < g.objs.size:=AV z;rw[sortedHeap_old (Ak lt) (by rw[size_push'];exact J6 lt)]
    exact AE _ z) (AK _) ⟨A,out.toList,k,S,hk⟩
  exact⟨.ref g.objs.size,_,I2,rfl,q l pv j' _ (J.hok.fresh (AK _))⟩
def Dr(ns:ZLi):ZLi:=ns.mergeSort (λa b=>decide (a<=b))
@[simp] def Zs:Dr []=[]:=by unfold Dr;simp
theorem CB(ns:ZLi):(Dr ns).Perm ns:=RX ns _
theorem OO(ns:ZLi):(Dr ns).Pairwise (·<=·):=by
 have:=OB (le:=λa b:Int=>decide (a<=b)) (by intro a b c g j;simp at g j ⊢;lia) (by intro a b;simp;lia) ns
 exact this.imp λh=>by simpa using h
def Ir(g:List ZLi):List ZLi:=g.mergeSort (λa b=>!ltL b a)
theorem FJ(rs:List ZLi):(Ir rs).Perm rs:=RX rs _
theorem Kv(g:List ZLi):(Ir g).Pairwise (λa b=>ltL b a=false):=by
 have:=OB (le:=λa b:ZLi=>!ltL b a) (by intro a b c j l;simp at j l ⊢;exact Srt.NX _ _ _ j l) (by
  intro a b
  cases e:ltL b a with
  | false=>simp
  | true=>simp[Srt.LN _ _ e]) g
 exact this.imp λh=>by simpa using h
theorem Mb{l l':List ZLi}(p:l.Perm l')(h:l.Pairwise (λa b=>ltL b a=false))(h':l'.Pairwise (λa b=>ltL b a=false)):l=l':=
 p.eq_of_pairwise (λa b _ _ g j=>Srt.Q0 a b j g) h h'
noncomputable def Ub:Key->D
 | .inl i=>.int i
 | .inr x=>.str x
def F7(d:D)(S:Sto):Option (List D):=match d with
 | .fro g=>some g
 | .tup g=>some g
 | .ref n=>match S[n]? with
  | some (.lst g)=>some g
  | some (.dK j)=>some (j.map λx=>Ub x.1)
  | some (.dT j)=>some (j.map λx=>.tup (x.1.map Ub))
  | _=>none
 | _=>none
def KB(r:ZLi):D:=.tup (r.map D.int)
def Mf:List D->Option (List ZLi)
 | []=>some []
 | .tup g :: r=>match E3 g,Mf r with
  | some (n :: j),some l=>some ((n :: j) :: l)
  | _,_=>none
 | _ :: _=>none
def II(ds:List D):Option (List D):=match E3 ds with
 | some g=>some ((Dr g).map D.int)
 | none=>match Mf ds with
  | some j=>some ((Ir j).map KB)
  | none=>none
def C2(m:ME):ME:=λe S=>(m e S).bind λd g=>match F7 d g with
 | some j=>match II j with
  | some l=>.ok (.ref g.length) (g++[.lst l])
  | none=>.bad
 | none=>.bad
section
theorem Wl(x y:Int):ltL [y] [x]=decide (y < x):=by
 show(if y=x then false else decide (y < x))=_;split
 ·rename_i e;simp[e]
 ·rfl
def MB(H:Hp):V->ZLi
 | .int n=>[n]
 | .ref b=>match H b with
  | some (.tup g)=>g.map MH
  | _=>[]
 | _=>[]
theorem OT{K}{ρ}{H}:∀{ds:List D} {j:List ZLi} {vs:List V},Mf ds=some j->Ab K ρ H ds vs->vs.map (MB H)=j/\∀v∈vs,∃b,v=.ref b/\H b=some (.tup ((MB H v).map V.int))/\MB H v≠[]
 | [],_,_,h,.nil=>by cases h;exact⟨rfl,λv g=>nomatch g⟩
 | .tup E :: ds,j,_,h,.cons r t=>by
  unfold Mf at h;split at h
  ·rename_i n ns l m o
   cases h;obtain⟨s,A⟩:=OT o t
   cases r with
   | @tup _ b G hb B=>
    have:=Hj m;subst this;have:=B.ints;subst this
    have e:MB H (.ref b)=n :: ns:=by
     show(match H b with | some (.tup C)=>C.map MH | _=>[])=_;rw[hb];exact Jc _
    refine⟨by rw[Au,e,s],λv g=>?_⟩
    rcases A7.mp g with g | g
    ·subst g
     refine⟨b,rfl,?_,?_⟩
     ·rw[e];exact hb
     ·rw[e];exact List.cons_ne_nil _ _
    ·exact A v g
  ·cases h
 | .non :: _,_,_,h,_=>by cases h
 | .bl _ :: _,_,_,h,_=>by cases h
 | .int _ :: _,_,_,h,_=>by cases h
 | .str _ :: _,_,_,h,_=>by cases h
 | .fro _ :: _,_,_,h,_=>by cases h
 | .ref _ :: _,_,_,h,_=>by cases h
 | .exc _ :: _,_,_,h,_=>by cases h
theorem OU{K}{ρ}{H}:∀{vs:List V},(∀v∈vs,∃b,v=.ref b/\H b=some (.tup ((MB H v).map V.int))/\MB H v≠[])->Ab K ρ H ((vs.map (MB H)).map KB) vs
 | [],_=>.nil
 | v :: vs,h=>by
  obtain⟨b,e,hb,_⟩:=h v Am;refine .cons ?_ (OU λu g=>h u (Aa _ g));subst e;exact .tup hb (Ab.of_ints _)
theorem Th{K:AB}{ρ:List AL}{H:Hp}{ds es:List D}{vs:List V}(h:II ds=some es)(r:Ab K ρ H ds vs) :
  ∃f:V->ZLi,Mw H f vs/\∀out,out.Perm vs->out.Pairwise (λx y=>ltL (f y) (f x)=false)->Ab K ρ H es out:=by
 unfold II at h;split at h
 ·rename_i ns A
  cases h;have:=Hj A;subst this;have:=r.ints;subst this;refine⟨λv=>[MH v],.inl λv g=>?_,λout j l=>?_⟩
  ·obtain⟨n,_,rfl⟩:=Cf.mp g
   exact⟨n,rfl,rfl⟩
  ·have B:out=(out.map MH).map V.int:=by
    rw[B7]
    conv=>lhs;rw[<-QZ out]
    refine FF λv g=>?_
    obtain⟨n,_,rfl⟩:=Cf.mp (j.mem_iff.mp g);rfl
   have m:out.map MH=Dr ns:=by
    have C:(out.map MH).Perm (Dr ns):=by
     have:=j.map MH;rw[Jc]at this;exact this.trans (CB ns).symm
    refine C.eq_of_pairwise (λa b _ _ E G=>Int.le_antisymm E G) ?_ (OO ns);rw[EK]
    refine l.imp λ{x y} o=>?_
    rw[Wl]at o;simp at o;exact o
   rw[B,m];exact Ab.of_ints _
 ·split at h
  ·rename_i rs I
   cases h;obtain⟨J,s⟩:=OT I r;refine⟨MB H,.inr s,λout j l=>?_⟩
   have m:out.map (MB H)=Ir rs:=by
    refine Mb ?_ (EK.mpr l) (Kv rs);have:=j.map (MB H);rw[J]at this;exact this.trans (FJ rs).symm
   rw[<-m]
   exact OU λv g=>s v (j.mem_iff.mp g)
  ·cases h
theorem LQ{K}{ρ}{H}:∀g:List Key,Ab K ρ H (g.map Ub) (g.map kV)
 | []=>.nil
 | .inl i :: g=>.cons (.int i) (LQ g)
 | .inr x :: g=>.cons (.str x) (LQ g)
theorem LP{K}{ρ}{H}:∀{g:List (Key×D)} {j:List (Key×V)},KVR K ρ H g j->Ab K ρ H (g.map λx=>Ub x.1) (j.map λx=>kV x.1)
 | _,_,.nil=>.nil
 | (k,_) :: _,(k',_) :: _,.cons r t=>by
  have e:k=k':=r.1;subst e
  cases k with
  | inl i=>exact .cons (.int i) (LP t)
  | inr x=>exact .cons (.str x) (LP t)
theorem Ol{K}{ρ}{H}:∀{g:List (List Key×D)} {j:List (List Key×V)} {bs:List AL},KVR K ρ H g j->Ev (λ(k:List Key×V) b=>H b=some (.tup (k.1.map kV))) j bs->Ab K ρ H (g.map λx=>.tup (x.1.map Ub)) (bs.map V.ref)
 | _,_,_,.nil,.nil=>.nil
 | (k,_) :: _,(k',_) :: _,_,.cons r t,.cons l m=>by
  have e:k=k':=r.1;subst e;exact .cons (.tup l (LQ k)) (Ol t m)
theorem FC(T:X.calm=true)(U:Gl X "sorted") (j:X.mg "sorted" = none) (h:GE X E e m) (N:AX [e] X.env=(false,Bt e X.env) :: AX [] X.env:=by rfl):GE X E (.Call (.Name "sorted" p) [e] [] pos) (C2 m):=
 (Hf (SZ T) U j Jk (Ec h Gy N) (by decide) (by decide) N rfl).imp<|by
 rintro σ H Q ⟨Y,l,S,Z,hs,j⟩
 refine⟨Y,l,S,Z,hs,j.seq λd S1 j s A x l1 O r1=>?_⟩
 cases g:F7 d S1 with
 | none=>rw[g]at j;exact j.elim
 | some P=>
  rw[g]at j;dsimp only at j
  cases G:II P with
  | none=>rw[G]at j;exact j.elim
  | some R=>
   rw[G]at j
   have fin:∀vs:List V,Ab X.K s A R vs->∀q,A q=none->Q (.ref q) (upd A q (.lst vs)):=λvs B q g=>by
    have le:Le X.K s A (s++[q]) (upd A q (.lst vs)):=Le.alloc g;obtain⟨s4,l4,gM⟩:=O.alloc (ho:=.lst vs) (o:=.lst R) g ⟨_,BE,B.mono le⟩;exact j _ _ _ (l1.trans l4) s4 (.ref gM)
   have out:∀vs,Ab X.K s A P vs->∃f:V->ZLi,Mw A f vs/\∀out,out.Perm vs->out.Pairwise (λx y=>ltL (f y) (f x)=false)->∀l,A l=none->Q (.ref l) (upd A l (.lst out)):=λvs B=>by
    obtain⟨f,k1,k2⟩:=Th G B;exact⟨f,k1,λout po so=>fin out (k2 out po so)⟩
   cases r1 with
   | fro I J=>cases g;exact⟨_,rfl,.inl ⟨_,.inl I.sq,out _ J⟩⟩
   | tup I J=>cases g;exact⟨_,rfl,.inl ⟨_,.inr (.inl (.inl I)),out _ J⟩⟩
   | @ref n a hn=>
    obtain⟨o,ho,L⟩:=O.there hn;unfold F7 at g;simp only[ho]at g
    cases o with
    | lst ys=>cases g;obtain⟨vs,e,B⟩:=L;exact⟨_,rfl,.inl ⟨vs,.inl (.inl (.inl e)),out _ B⟩⟩
    | dK b0=>cases g;obtain⟨vs,e,B⟩:=L;exact⟨_,rfl,.inr (.inl ⟨vs,e,out _ (LP B)⟩)⟩
    | dT b0=>cases g;obtain⟨vs,e,B⟩:=L;exact⟨_,rfl,.inr (.inr ⟨vs,e,λbs hb=>out _ (Ol B hb)⟩)⟩
    | ins C fs=>cases g
    | fK _=>cases g
    | fT _=>cases g
    | mem _=>cases g
    | cod _ _ _=>cases g
   | _=>cases g
end
theorem Uh{K}{t}(h:∀A∈["NoneType", "bool", "int", "str", "tuple", "list", "dict"],DN K (.type A) (.type t)=Xf t A):∀A b,isB t A=some b->DN K (.type A) (.type t)=some b:=λA b e=>by
 unfold isB at e;split at e
 ·rename_i g
  rw[h A (by simpa using g)];exact e
 ·cases e
theorem Wp{K}:∀A b,isB "int" A=some b->DN K (.type A) (.type "int")=some b:=Uh λA h=>by
 simp only[A7,Es,or_false]at h
 rcases h with rfl | rfl | rfl | rfl | rfl | rfl | rfl <;> kernel_rfl
theorem Ui{K}:∀A b,isB "bool" A=some b->DN K (.type A) (.type "bool")=some b:=Uh λA h=>by
 simp only[A7,Es,or_false]at h
 rcases h with rfl | rfl | rfl | rfl | rfl | rfl | rfl <;> kernel_rfl
theorem ZW(h:CXG P w [] H s (λ_ _ _=>False) e s'):False:=by
 obtain⟨_,_,_,_,_,_,_,_,_,z⟩:=h;exact z
def Xk(I:Lo->Sto->Prop)(R:Fl->Sto->Prop)(f:Fl)(S:Sto):Prop:=match f with
 | .nx e=>I e S
 | .ct e=>I e S
 | .bk e=>R (.nx e) S
 | .rt d=>R (.rt d) S
 | .ex c e=>R (.ex c e) S
theorem W2(I:Nat->Lo->Sto->Prop)(R:Fl->Sto->Prop)(l:∀i e S,I i e S->v S=some xs)
  (step:∀i d e S,xs[i]?=some d->I i e S->∃e1 S1,g d e S=.ok e1 S1/\∃f S2,b e1 S1=.ok f S2/\Xk (I (i+1)) R f S2)
  (fin:∀e S,I xs.length e S->R (.nx e) S):∀(k i:Nat) (e:Lo) (S:Sto),I i e S->i<=xs.length->xs.length<=i+k->∃f S',HJ v g b k i e S=.ok f S'/\R f S':=by
 intro k
 induction k with
 | zero=>
  intro i e S h o s
  have:i=xs.length:=by lia
  subst this;refine⟨.nx e,S,?_,fin e S h⟩;unfold HJ;rw[l _ e S h];simp
 | succ k m=>
  intro i e S h o s;unfold HJ;rw[l _ e S h];dsimp only
  by_cases A:i < xs.length
  ·have hd:xs[i]?=some xs[i]:=by simp[A]
   rw[hd];dsimp only;obtain⟨e1,S1,B,f,S2,C,t⟩:=step i _ e S hd h;rw[B];dsimp only[Res.bind];rw[C];dsimp only[Res.bind]
   cases f with
   | nx j=>exact m (i+1) j S2 t (by lia) (by lia)
   | ct j=>exact m (i+1) j S2 t (by lia) (by lia)
   | bk j=>exact⟨_,_,rfl,t⟩
   | rt d=>exact⟨_,_,rfl,t⟩
   | ex c j=>exact⟨_,_,rfl,t⟩
  ·have:i=xs.length:=by lia
   subst this;rw[show xs[xs.length]?=none by simp];exact⟨.nx e,S,rfl,fin e S h⟩
theorem Hm(I:Nat->Lo->Sto->Prop)(R:Fl->Sto->Prop)(j:I 0 e S)(l:∀i e S,I i e S->v S=some xs)
  (step:∀i d e S,xs[i]?=some d->I i e S->∃e1 S1,g d e S=.ok e1 S1/\∃f S2,b e1 S1=.ok f S2/\Xk (I (i+1)) R f S2)
  (fin:∀e S,I xs.length e S->R (.nx e) S):∃f S',HJ v g b (CS v S) 0 e S=.ok f S'/\R f S':=by
 have m:CS v S=xs.length:=by unfold CS;rw[l 0 e S j]
 rw[m];exact W2 I R l step fin _ _ _ _ j (CA _) (by lia)
theorem U7(I:Nat->Lo->Sto->List D->Prop)(l:∀i e S j,I i e S j->v S=some xs)
  (step:∀i d e S j,xs[i]?=some d->I i e S j->j.length < sizeLine/\∃e1 S1,g d e S=.ok e1 S1/\∃b S2,c e1 S1=.ok b S2/\((b=true/\∃y S3,m e1 S2=.ok y S3/\I (i+1) e1 S3 (j++[y]))∨(b=false/\I (i+1) e1 S2 j))) :
  ∀(k i:Nat) (e:Lo) (S:Sto) (j:List D),I i e S j->i<=xs.length->xs.length<=i+k->∃r o,Dv v g c m k i e S j=.ok r o/\∃A,I xs.length A o r:=by
 intro k
 induction k with
 | zero=>
  intro i e S j h B C
  have:i=xs.length:=by lia
  subst this;refine⟨j,S,?_,e,h⟩;unfold Dv;rw[l _ e S j h];simp
 | succ k s=>
  intro i e S j h B C;unfold Dv;rw[l _ e S j h];dsimp only
  by_cases E:i < xs.length
  ·have hd:xs[i]?=some xs[i]:=by simp[E]
   rw[hd];dsimp only;obtain⟨G,e1,S1,H,b,S2,J,t⟩:=step i _ e S j hd h;rw[qX G,H];dsimp only[okR,Res.bind];rw[J];dsimp only[okR,Res.bind]
   rcases t with⟨rfl,y,S3,L,t⟩ | ⟨rfl,t⟩
   ·rw[qX rfl,L]
    exact s (i+1) e1 S3 _ t (by lia) (by lia)
   ·rw[qY AZ]
    exact s (i+1) e1 S2 j t (by lia) (by lia)
  ·have:i=xs.length:=by lia
   subst this;rw[show xs[xs.length]?=none by simp];exact⟨j,S,rfl,e,h⟩
theorem Nk(I:Nat->Lo->Sto->List D->Prop)(l:I 0 e S [])(o:∀i e S j,I i e S j->v S=some xs)
  (step:∀i d e S j,xs[i]?=some d->I i e S j->j.length < sizeLine/\∃e1 S1,g d e S=.ok e1 S1/\∃b S2,c e1 S1=.ok b S2/\((b=true/\∃y S3,m e1 S2=.ok y S3/\I (i+1) e1 S3 (j++[y]))∨(b=false/\I (i+1) e1 S2 j))) :
  ∃r s,Dv v g c m (CS v S) 0 e S []=.ok r s/\∃A,I xs.length A s r:=by
 have B:CS v S=xs.length:=by unfold CS;rw[o 0 e S [] l]
 rw[B];exact U7 I o step _ _ _ _ _ l (CA _) (by lia)
theorem UV(h:-1000000<=j):-(2 ^ 62)<=j:=Int.le_trans (by decide) h
theorem Ul{j:Int}(h:j<=1000000):j < 2 ^ 62:=TH h (by decide)
theorem LV{ml:ML}{e:Lo}{S S1:Sto}{j:Int}(h:ml e S=.ok [.int j] S1)(g:-1000000<=j)(l:j<=1000000):iR1 ml e S=.ok (D4 (Cr 0 j.toNat)) S1:=by
 unfold iR1;rw[h];dsimp only[Res.bind];rw[qX ⟨UV g,Ul l⟩]
theorem Y8{ml:ML}{e:Lo}{S S1:Sto}{i j:Int}(h:ml e S=.ok [.int i,.int j] S1)(g:-1000000<=i)(l:i<=1000000)(m:-1000000<=j)(o:j<=1000000):iR2 ml e S=.ok (D4 (Cr i (j - i).toNat)) S1:=by
 unfold iR2;rw[h];dsimp only[Res.bind];rw[qX ⟨UV g,Ul l,UV m,Ul o⟩]
theorem GZ(lo:Int)(n:Nat):(Cr lo n).length=n:=by simp[Cr]
theorem Hd{lo:Int}{n i:Nat}{d:D}(h:(Cr lo n)[i]?=some d):i < n/\d=.int (lo+i):=by
 rw[Mg]at h;split at h
 ·rename_i g
  cases h;exact⟨g,rfl⟩
 ·cases h
theorem Hn(h:0 < j)(g:j<=1000000):E4 (.int i) (.int j) S=.ok (.int (i / j)) S:=by
 show(if XS i j then _ else _)=_;rw[qX ⟨h,by lia⟩]
theorem C0(h:0 < j):Cm (.int i) (.int j) S=.ok (.int (i % j)) S:=by
 show(if 0 < j then _ else _)=_;rw[qX h]
theorem BB(g:ma e S=.ok x S1)(hb:j e S1=.ok y S2)(l:f x y S2=.ok d S3):m2 f ma j e S=.ok d S3:=by
 unfold m2;rw[g];dsimp only[Res.bind];rw[hb];dsimp only[Res.bind];rw[l];rfl
theorem Cc(h:m e S=.ok d S1):Bp i m e S=.ok (.nx (e.set i (some d))) S1:=by
 unfold Bp aM;rw[h];rfl
theorem He(h:m e S=.ok d S1):E0 m e S=.ok (.rt d) S1:=by
 unfold E0;rw[h];rfl
theorem Fn(h:m e S=.ok d S1):C4 m e S=.ok (.nx e) S1:=by
 unfold C4;rw[h];rfl
theorem FP(h:t e S=.ok c S1):sIf t a b e S=if c=true then a e S1 else b e S1:=by
 unfold sIf;rw[h];rfl
theorem G6(h:m e S=.ok v S1):Gw m g b e S=HJ v g b (CS v S1) 0 e S1:=by
 unfold Gw;rw[h];rfl
theorem DE(h:m e S=.ok ds S1)(g:ds.length=n):Bs n f m e S=f ds S1:=by
 unfold Bs;rw[h];dsimp only[Res.bind];rw[qX g]
theorem BF(h:a e S=.ok (.nx e1) S1):BL a b e S=b e1 S1:=by unfold BL;rw[h];rfl
theorem Pv(h:a e S=.ok (.rt d) S1):BL a b e S=.ok (.rt d) S1:=by unfold BL;rw[h];rfl
def Keeps(S g:Sto):Prop:=S.length<=g.length/\∀j,j < S.length->g[j]?=S[j]?
theorem Keeps.refl(S:Sto):Keeps S S:=⟨AK _,λ_ _=>rfl⟩
theorem Keeps.trans(a:Keeps S S1)(b:Keeps S1 S2):Keeps S S2:=⟨Ai a.1 b.1,λj h=>(b.2 j (AQ h a.1)).trans (a.2 j h)⟩
theorem Keeps.app(S:Sto)(G:Sto):Keeps S (S++G):=⟨by simp,λj h=>AN h⟩
theorem Keeps.set(a:Keeps S S1)(h:S.length<=m)(o:Ob):Keeps S (S1.set m o):=⟨by simpa using a.1,λj g=>by rw[Ag (by lia)];exact a.2 j g⟩
theorem Keeps.at{S S1:Sto}(a:Keeps S S1){j:Nat}{o:Ob}(h:S[j]?=some o):S1[j]?=some o:=by
 rw[a.2 j (AD.mp h).1];exact h
theorem IW(g:mo e S=.ok (.ref n) S1)(j:S1[n]?=some (.lst xs))(l:ma e S1=.ok y S2)(m:S2[n]?=some (.lst xs2))(o:xs2.length < sizeLine) :
  FO mo ma e S=.ok .non (S2.set n (.lst (xs2++[y]))):=by
 unfold FO;rw[g];dsimp only[Res.bind];rw[j];dsimp only;rw[l];dsimp only[Res.bind];rw[m];dsimp only;rw[qX o]
theorem ER(h:S[n]?=some (.lst xs)):FH (.ref n) S=some xs:=by
 unfold FH Jr;dsimp only;rw[h]
theorem Hk(h:m e S=.ok (.ref n) S1)(g:S1[n]?=some (.lst xs)):FQ m e S=.ok (FH (.ref n)) S1:=by
 unfold FQ;rw[h];dsimp only[Res.bind];rw[ER g]
theorem Oo(h:m e S=.ok (.tup xs) S1):FQ m e S=.ok (D4 xs) S1:=by
 unfold FQ;rw[h];rfl
theorem Jd(h:ml e S=.ok ds S1):D7 ml e S=.ok (.ref S1.length) (S1++[.lst ds]):=by
 unfold D7;rw[h];rfl
theorem B1(S:Sto)(o:Ob):(S++[o])[S.length]?=some o:=by simp
theorem CM(h:S[n]?=some (.lst ds)):Fx (.ref n) S=some ds:=by
 unfold Fx;dsimp only;rw[h]
theorem IU(h:S[n]?=some (.lst ds)):F7 (.ref n) S=some ds:=by
 unfold F7;dsimp only;rw[h]
theorem Hv(h:m e S=.ok d S1)(hi:F7 d S1=some ds)(g:II ds=some es):C2 m e S=.ok (.ref S1.length) (S1++[.lst es]):=by
 unfold C2;rw[h];dsimp only[Res.bind];rw[hi];dsimp only;rw[g]
theorem Ip(h:m e S=.ok d S1)(g:Fx d S1=some ds):EU m e S=.ok (.tup ds) S1:=by
 unfold EU;rw[h];dsimp only[Res.bind];rw[g]
theorem F6(h:m e S=.ok d S1)(g:Fx d S1=some ds):D1 m e S=.ok (.int ds.length) S1:=by
 unfold D1;rw[h];dsimp only[Res.bind];rw[g]
theorem NH(g:mv e S=.ok v S1)(ho:mo e S1=.ok (.ref n) S2)(j:S2[n]?=some (.ins C fs))(l:fs.length < 1000) :
  Mc C f mo mv e S=.ok (.nx e) (S2.set n (.ins C (KC f v fs))):=by
 unfold Mc;rw[g];dsimp only[Res.lift];rw[ho];dsimp only[Res.lift];rw[j];dsimp only;rw[qX ⟨rfl,l⟩]
theorem ZQ(h:m e S=.ok (.ref n) S1)(g:S1[n]?=some (.ins C fs))(j:fs.lookup f=some v):UR C f m e S=.ok v S1:=by
 unfold UR;rw[h];dsimp only[Res.bind];rw[g];dsimp only;rw[qX rfl,j]
theorem Wi(h:ml e S=.ok ds S1)(g:ds.length+1=n)(j:f (.ref S1.length :: ds) (S1++[.ins C []])=.ok .non S2):LM C n f ml e S=.ok (.ref S1.length) S2:=by
 unfold LM;rw[h];dsimp only[Res.bind];rw[qX g,j]
theorem By(h:m e S=.ok d S1)(g:r e S1=.ok ds S2):AS m r e S=.ok (d :: ds) S2:=by
 unfold AS;rw[h];dsimp only[Res.bind];rw[g]
theorem Kc(h:j e S=.ok v S1):Em n j g c m e S=Dv v g c m (CS v S1) 0 (BH n none++e) S1 []:=by
 unfold Em;rw[h];rfl
theorem IF(h:m e S=.ok (.bl b) S1):mB m e S=.ok b S1:=by
 unfold mB;rw[h];rfl
theorem aq(j:ma e S=.ok x S1)(hb:l e S1=.ok y S2)(m:f x y S2=.ok (.bl true) S3)(o:mc e S3=.ok w s)(A:g y w s=.ok d S5):m3 f g ma l mc e S=.ok d S5:=by
 unfold m3;rw[j];dsimp only[Res.bind];rw[hb];dsimp only[Res.bind];rw[m];dsimp only[Res.bind,okR];rw[o];dsimp only[Res.bind];rw[A]
theorem UW(h:decide (i<=j)=b):leD (.int i) (.int j) S=.ok (.bl b) S:=by subst h;rfl
theorem LO(h:decide (i < j)=b):ltD (.int i) (.int j) S=.ok (.bl b) S:=by subst h;rfl
theorem ZO(h:decide (j<=i)=b):geD (.int i) (.int j) S=.ok (.bl b) S:=by subst h;rfl
theorem Ni(h:decide (i=j)=b):eqD false (.int i) (.int j) S=.ok (.bl b) S:=by
 subst h;show Res.ok (D.bl (i==j)) S=_;rfl
theorem UG(h:m e S=.ok b S1):MJ m e S=.ok (!b) S1:=by
 unfold MJ;rw[h];rfl
theorem ND(h:ml e S=.ok ds S1)(g:ds.length<=1000):IC ml e S=.ok (.tup ds) S1:=by
 unfold IC;rw[h];dsimp only[Res.bind];rw[qX (Ai g (by decide))]
theorem Ym(h:g e S=.ok true S1):mOr g tb e S=.ok true S1:=by
 unfold mOr;rw[h];rfl
theorem P0(h:g e S=.ok false S1):mOr g tb e S=tb e S1:=by
 unfold mOr;rw[h];rfl
theorem aK(h:m e S=.ok d S1)(g:Fx d S1=some ds):Og m e S=.ok ds S1:=by
 unfold Og;rw[h];dsimp only[Res.bind];rw[g]
theorem YS(h:ml e S=.ok ds S1)(g:f ds S1=.ok d S2):mQ f ml e S=.ok d S2:=by
 unfold mQ;rw[h];dsimp only[Res.bind];rw[g];rfl
theorem Ga(h:S[n]?=some (.lst ds)):Je (.ref n) S=some ds:=by
 unfold Je;dsimp only;rw[h]
def pickG{α:Type}(xs:List α)(lo hi st:Option Int):List α:=(sliceRange (DH lo hi st xs.length).1 (DH lo hi st xs.length).2.1 (DH lo hi st xs.length).2.2).filterMap (xs[·]?)
theorem Rx{g j:Type}(f:g->j)(xs:List g)(lo hi st:Option Int):pickG (xs.map f) lo hi st=(pickG xs lo hi st).map f:=by
 unfold pickG;rw[AI,List.map_filterMap]
 congr 1
 funext i
 rw[Ad]
theorem IJ(g:List AC)(lo hi st:Option Int):Sm g.toArray lo hi st=(pickG g lo hi st).toArray:=by
 unfold Sm pickG;simp only[AY,List.getElem?_toArray]
theorem BD.pickIx(r:BD xs us):∀is:List Nat,BD (is.filterMap (xs[·]?)) (is.filterMap (us[·]?))
 | []=>.nil
 | i :: is=>by
  have l:=BD.pickIx r is
  cases g:xs[i]? with
  | none=>
   have j:us[i]?=none:=by
    rw[Bi]at g ⊢;rw[<-r.length];exact g
   rw[Dq (by simpa using g),Dq (by simpa using j)];exact l
  | some x=>
   obtain⟨u,j,m⟩:=r.get g;rw[Dp (by simpa using g),Dp (by simpa using j)];exact .cons m l
theorem BD.pickG(r:BD xs us)(lo hi st:Option Int):BD (L2.pickG xs lo hi st) (L2.pickG us lo hi st):=by
 unfold L2.pickG;rw[r.length];exact r.pickIx _
theorem Ab.pickIx{K}{ρ}{H}{ds}{vs}(r:Ab K ρ H ds vs):∀is:List Nat,Ab K ρ H (is.filterMap (ds[·]?)) (is.filterMap (vs[·]?))
 | []=>.nil
 | i :: is=>by
  have l:=Ab.pickIx r is
  cases g:ds[i]? with
  | none=>
   have j:vs[i]?=none:=by
    rw[Bi]at g ⊢;rw[<-r.length];exact g
   rw[Dq (by simpa using g),Dq (by simpa using j)];exact l
  | some x=>
   obtain⟨u,j,m⟩:=r.get g;rw[Dp (by simpa using g),Dp (by simpa using j)];exact .cons m l
theorem Ab.pickG{K}{ρ}{H}{ds}{vs}(r:Ab K ρ H ds vs)(lo hi st:Option Int):Ab K ρ H (L2.pickG ds lo hi st) (L2.pickG vs lo hi st):=by
 unfold L2.pickG;rw[r.length];exact r.pickIx _
section
variable{X:Cx}{E:EW}{e st:Expr}{te:TE}{lo hi:Option Expr}{tl th ts:TO}{pos p2:Pos}{m:ME}{ml mh ms:MO}
def tSlS(K:AB)(te:TE)(tl th ts:TO):TE:=λg H Q=>te g H λx s=>tl g s λl A=>th g A λu B=>ts g B λc j=>
 ∃a o,x=.ref a/\SqL K j a o/\c≠some 0/\∀p,j p=none->Q (.ref p) (upd j p (.lst (pickG o l u c)))
theorem R0(Y:PE X e te)(Z:PO X lo tl)(hu:PO X hi th)(dh:PO X (some st) ts):PE X (.Subscript e (.Slice lo hi (some st) p2) pos) (tSlS X.K te tl th ts):=by
 intro j s B H Q I h;refine PR (thn (Y j s B H _ I h) λv s1 ⟨x,H1,I1,r1,q1⟩=>?_);refine wpAny_Slice (thn (Z j s1 B H1 _ I1 q1) λR s2 ⟨l,H2,I2,pl,q2⟩=>thn (hu j s2 B H2 _ I2 q2) λS g ⟨u,G,J,pu,L⟩=>?_)
 refine thn (dh j g B G _ J L) λT g ⟨c,G,J,pc,L⟩=>?_
 have N:Inv X j B G { g with heap:=g.heap.push { cls:=.type "slice",data:=.fields #[R,S,T] } }:=J.kept (t':=g.toks) λb ob q=>AE _ q
 obtain⟨a,O,rfl,hx,hc,q⟩:=L;cases r1;obtain⟨b9,r,U,hz⟩:=N.list hx;show Ac (AW X.prog X.w) X.A (KL e (.Slice lo hi (some st) p2) (.ref a) (.ref g.heap.objs.size)) (EP X j B Q) X.xe { g with heap:=g.heap.push { cls:=.type "slice",data:=.fields #[R,S,T] } };refine tail_any (ops:=[.ref a,.ref g.heap.objs.size]) U.isList.typeIs Lw.lookup ?_ (by with_unfolding_all rfl);have C:=r.length;refine RP U.isList (Lq ..) pl pu pc hc ?_ (by rw[AY] <;> lia);rw[IJ]
 have P:(pickG O l u c).length<=O.length:=by
  have:=slicePick_size_le b9.toArray l u c;rw[IJ,AY,AY,<-(r.pickG l u c).length,<-C]at this;exact this
 refine⟨.ref _,_,N.laid (t':=g.toks) (o:=.lst (pickG O l u c)) (λb ob q=>AE _ q) (AK _) ?_,rfl,q _ (N.hok.fresh (AK _))⟩;exact⟨Ai P hz,_,0,r.pickG l u c,AR _ rfl⟩
def KY(m:ME)(ml mh ms:MO):ME:=λe S=>(m e S).bind λd j=>(ml e j).bind λlo l=>(mh e l).bind λhi o=>(ms e o).bind λst g=>match Je d g with
 | some s=>if st=some 0 then .bad else .ok (.ref g.length) (g++[.lst (pickG s lo hi st)])
 | none=>.bad
theorem SN(T:GE X E e m)(j:GO X E lo ml)(U:GO X E hi mh)(Y:GO X E (some st) ms):GE X E (.Subscript e (.Slice lo hi (some st) p2) pos) (KY m ml mh ms):=(R0 T j U Y).imp<|by
 rintro σ H Q ⟨Z,l,S,j,hs,g⟩
 refine⟨Z,l,S,j,hs,g.seq λd S1 g I H1 x A s1 r1=>⟨I,l,S1,j.mono A,s1,(g.later A).seq λlo S2 g J H2 B s2=>⟨J,l,S2,j.mono (A.trans B),s2,(g.later B).seq λhi S3 g L H3 G s3=>⟨L,l,S3,j.mono (A.trans (B.trans G)),s3,(g.later G).seq λst S4 g C O P R=>?_⟩⟩⟩⟩;have r4:=r1.mono (B.trans (G.trans P))
 cases s:Je d S4 with
 | none=>rw[s]at g;exact g.elim
 | some ds=>
  rw[s]at g;dsimp only at g;split at g
  ·exact g.elim
  ·rename_i hc
   obtain⟨p,N,rfl,rr,sq⟩:=G3 R r4 s;refine⟨p,N,rfl,sq,hc,λq s=>?_⟩;have le:Le X.K C O (C++[q]) (upd O q (.lst (pickG N lo hi st))):=Le.alloc s;obtain⟨s5,l5,k0⟩:=R.alloc (ho:=.lst (pickG N lo hi st)) (o:=.lst (pickG ds lo hi st)) s ⟨_,BE,(rr.pickG lo hi st).mono le⟩;exact g _ _ _ (A.trans (B.trans (G.trans (P.trans l5)))) s5 (.ref k0)
end
def Mu(f:Int->Int->Bool):ZLi->Option Int
 | []=>none
 | a :: r=>some (r.foldl (λm x=>if f x m=true then x else m) a)
theorem JI(f:Int->Int->Bool)(a:Int)(r:ZLi):∀k,k<=r.length->(a :: r).getD (CU (λi j=>f ((a :: r).getD i 0) ((a :: r).getD j 0)) k) 0=(r.take k).foldl (λm x=>if f x m=true then x else m) a
 | 0,_=>by simp[CU]
 | k+1,h=>by
  have o:=JI f a r k (by lia)
  have g:k < r.length:=by lia
  have s:r.take (k+1)=r.take k++[r[k]]:=by rw[GM];simp[g]
  have l:(a :: r).getD (k+1) 0=r[k]:=by simp[g]
  rw[s,List.foldl_append,<-o];show(a :: r).getD (if f ((a :: r).getD (k+1) 0) ((a :: r).getD (CU (λi j=>f ((a :: r).getD i 0) ((a :: r).getD j 0)) k) 0)=true then k+1 else CU (λi j=>f ((a :: r).getD i 0) ((a :: r).getD j 0)) k) 0=_;rw[l];show _=(if f r[k] _=true then r[k]else _);split
  ·exact l
  ·rfl
theorem Lh(g:Nat->Nat->Bool):∀k,CU g k<=k
 | 0=>AK _
 | k+1=>by
  show(if g (k+1) (CU g k)=true then k+1 else CU g k)<=k+1;have:=Lh g k
  split <;> lia
def ltZ(x m:Int):Bool:=decide (x < m)
theorem VJ(f:Int->Int->Bool)(h:Mu f ns=some b):0 < ns.length/\ns[CU (λi j=>f (ns.getD i 0) (ns.getD j 0)) (ns.length - 1)]?=some b:=by
 cases ns with
 | nil=>cases h
 | cons a r=>
  cases h;refine⟨by simp,?_⟩;have e:=JI f a r r.length (AK _);rw[Er]at e;have l:=Lh (λi j=>f ((a :: r).getD i 0) ((a :: r).getD j 0)) r.length;rw[<-e,show(a :: r).length - 1=r.length by simp]
  have g:CU (λi j=>f ((a :: r).getD i 0) ((a :: r).getD j 0)) r.length < (a :: r).length:=by rw[Al];exact Nat.lt_succ_of_le l
  rw[A2 g,Fh,A2 g];rfl
theorem Kp{ns:ZLi}{us:List AC}(r:BD (ns.map V.int) us){i:Nat}{v:AC}(h:us[i]?=some v):∃t,v=.int (ns.getD i 0) t:=by
 have g:i < ns.length:=by
  have:=(AD.mp h).1;have l:=r.length;rw[AI]at l
  lia
 obtain⟨u,j,m⟩:=r.get (i:=i) (x:=.int (ns.getD i 0)) (by rw[Ad,A2 g,Fh,A2 g];rfl);rw[h]at j;cases j;exact m
section
theorem We{s:AF}{o:Obj}{h':BY}(g:∀b u,b∉[s.heap.objs.size]->(s.heap.push o).get? b=some u->h'.get? b=some u):∀b u,s.heap.get? b=some u->h'.get? b=some u:=λb u e=>
 g b u (λj=>zX (Ah.mp j▸AV e) (Bx _)) (AE _ e)
theorem bH{s:AF}{o:Obj}{l:AL}(g:l < s.heap.objs.size):∀b∈[s.heap.objs.size,l],b < (s.heap.push o).objs.size:=λb hb=>by
 rw[DY]
 have j:b=s.heap.objs.size∨b=l:=by simpa using hb
 rcases j with rfl | rfl
 ·exact B5 _
 ·exact J6 g
end
theorem QO{g:Type}{xs:List g}{j:Int}{x:g}(l:0<=j)(h:xs[j.toNat]?=some x):atI xs j=some x:=by
 have m:=(AD.mp h).1;unfold atI ixN;rw[qX (by omega),qX (by lia)];simpa using h
theorem Q2(hd:Fx d S=some ds)(g:0<=j)(h:ds[j.toNat]?=some z):ixA d (.int j) S=.ok z S:=by
 show G1 (ixD d (.int j) S) _=_
 have:ixD d (.int j) S=.ok z S:=by
  unfold ixD;rw[hd];dsimp only;rw[QO g h]
 rw[this];rfl
theorem Uf(g:S[n]?=some (.lst ds))(l:0<=j)(h:ds[j.toNat]?=some z):ixA (.ref n) (.int j) S=.ok z S:=Q2 (CM g) l h
theorem ZS(neg:Bool)(g:S[n]?=some (.lst ds))(j:S[k]?=some (.lst [])):eqD neg (.ref n) (.ref k) S=.ok (.bl (if neg then !ds.isEmpty else ds.isEmpty)) S:=by
 unfold eqD eqB;rw[Ga g,Ga j]
 cases ds with
 | nil=>rfl
 | cons x l=>rfl
theorem ay{g:Type}:∀{l:List g},l.length=1->∃j,l=[j]
 | [a],_=>⟨a,rfl⟩
theorem ax{j:Type}:∀{l:List j},l.length=2->∃m g,l=[m,g]
 | y :: _,q=>by
  obtain⟨g,rfl⟩:=ay (Ic q);exact⟨y,g,rfl⟩
theorem aw{m:Type}:∀{l:List m},l.length=3->∃o g j,l=[o,g,j]
 | y :: _,q=>by
  obtain⟨g,j,rfl⟩:=ax (Ic q);exact⟨y,g,j,rfl⟩
theorem len4{o:Type}:∀{l:List o},l.length=4->∃s g j m,l=[s,g,j,m]
 | y :: _,q=>by
  obtain⟨g,j,m,rfl⟩:=aw (Ic q);exact⟨y,g,j,m,rfl⟩
theorem len5{s:Type}:∀{l:List s},l.length=5->∃A g j m o,l=[A,g,j,m,o]
 | y :: _,q=>by
  obtain⟨g,j,m,o,rfl⟩:=len4 (Ic q);exact⟨y,g,j,m,o,rfl⟩
end L2
namespace PySem
open PySem.Sem (wp)
open PyProof.Rows (IntsAre)
section
variable{E:AC->AF->Prop}
theorem Nl{R:M2->AF->Prop}{r:AL}{a b c:Int}{t u v:Tok}{n:Nat}(m:A.handled=none)(B:IsRange s.heap r a b c t u v)(C:Lr a b c=true)(G:DZ a b c=n)(H:n<=2 ^ 24)
  (I:∀(h':BY) (tk:Nat) (g:Array AC) (j:Nat),(∀b o,s.heap.get? b=some o->h'.get? b=some o)->h'.get? s.heap.objs.size=some { cls:=.type "list",data:=.seq g j }->ItemsOf (λi v=>∃t,v=.int (a+i * c) t) g n->R (.ok (.ret (.ref s.heap.objs.size))) { s with heap:=h',toks:=tk }) :
  Dx (AW prog w) A (.builtin "proto.collect" ⟨[.ref r],[]⟩) R s:=by
 refine Ia F.entry_proto_collect ?_;rw[Et F.plain_proto_collect _];show Ac _ A.in1 (newList [] >>= λl=>again (.builtin "list.__iadd__" ⟨[l,.ref r],[]⟩)) _ _ s;refine AA (Bq (AH ⟨HP XW _,Ia F.entry_list_iadd ?_⟩));rw[Et XW _];show Ac _ A.in1 (bb (.ref s.heap.objs.size) (.ref r) (.ref s.heap.objs.size)) _ _ _;have J:(s.heap.push { cls:=.type "list",data:=.seq ([]:List AC).toArray }).get? s.heap.objs.size=some { cls:=.type "list",data:=.seq #[] 0 }:=AR _ rfl
 exact wpAny_extend_range (A:=A) (R:=R) (s:={ s with heap:=s.heap.push { cls:=.type "list",data:=.seq ([]:List AC).toArray } }) m (AE _ B) C G H s.heap.objs.size (.ref s.heap.objs.size) 0 J λh' tk g j L N O=>
  I h' tk g j (λb o e=>L b o (Ak (AV e)) (AE _ e)) N O
theorem Oz{Q:List AC->AF->Prop}{r:AL}{a b c:Int}{t u v:Tok}{n:Nat}(j:A.handled=none)(l:IsRange s.heap r a b c t u v)(m:Lr a b c=true)(B:DZ a b c=n)(C:n<=2 ^ 24)
  (G:∀(h':BY) (tk:Nat) (g:Array AC),(∀b o,s.heap.get? b=some o->h'.get? b=some o)->ItemsOf (λi v=>∃t,v=.int (a+i * c) t) g n->Q g.toList { s with heap:=h',toks:=tk }):Ac (AW prog w) A (collect (.ref r)) Q E s:=by
 unfold collect;refine AA (wpAny_runValue (Nl j l m B C λh' tk g L H I J=>?_));show Ac _ A (load s.heap.objs.size >>= _) _ _ _;exact AA (wpAny_load I (AH (G h' tk g H J)))
end
end PySem
namespace L2
section
instance(i j:Int):Decidable ((λ_ j:Int=>0<=j) i j):=inferInstanceAs (Decidable (0<=j))
end
open PySem.SeqAt
section
theorem Ix(g:N.Nodup:=by decide +kernel)(j:∀x∈ps,sc.names.lookup x=some .local∨sc.names.lookup x=some .cell:=by decide +kernel)(l:∀y∈sc.names,y.2≠.free:=by decide +kernel)(m:sc.kind=.function:=by rfl)(o:sc.isCoroutine=false:=by rfl)(s:sc.isGenerator=false:=by rfl)(A:N.take ps.length=ps:=by rfl):B9 N ps sc:=⟨m,o,s,g,A,j,l⟩
end
section
variable{X:Cx}{E:EW}{e:Expr}
theorem Da(i:Nat)(g:X.N.Nodup)(hi:X.N[i]?=some x:=by rfl)(j:Loc X.env.scope x:=by first | exact Lm rfl | exact Jl rfl)(l:X.fn x=true∨X.env.scope.names.lookup x=some .local:=by first | exact .inl rfl | exact .inr rfl | assumption):GG X (.Name x pos) (tgN i):=Wt (WN g hi j l)
theorem Ct(i:Nat)(j:X.N.Nodup)(l:GE X E e m)(hi:X.N[i]?=some x:=by rfl)(o:Loc X.env.scope x:=by first | exact Lm rfl | exact Jl rfl)(s:DX e (some (.Name x g)) pos.line X.env=pure false:=by rfl)
  (A:X.fn x=true∨X.env.scope.names.lookup x=some .local:=by first | exact .inl rfl | exact .inr rfl | assumption):GS X E (.Assign [.Name x g] e pos) (Bp i m):=ZC j hi o l s A
end
section
variable{K:AB}{ρ ρ':List AL}{H H':Hp}{L:Key->Int}{n:Nat}{a:AL}
mutual
theorem BI.cut(p:∀(n:Nat) a,ρ[n]?=some a->ρ'[n]?=some a):∀{d:D} {v j:V},BI K ρ H d v->BI K ρ' H' d j->BI K ρ H' d j
 | _,_,_,.non,.non=>.non
 | _,_,_,.bl _,.bl b=>.bl b
 | _,_,_,.int _,.int i=>.int i
 | _,_,_,.str _,.str x=>.str x
 | _,_,_,.tup _ r,.tup h g=>.tup h (Ab.cut p r g)
 | _,_,_,.fro _ r,.fro h g=>.fro h (Ab.cut p r g)
 | _,_,_,.ref h,.ref l=>by
  have e:=(p _ _ h).symm.trans l;cases e;exact .ref h
 | _,_,_,.exc _ _,.exc h e=>.exc h e
theorem Ab.cut(p:∀(n:Nat) a,ρ[n]?=some a->ρ'[n]?=some a):∀{d:List D} {v g:List V},Ab K ρ H d v->Ab K ρ' H' d g->Ab K ρ H' d g
 | _,_,_,.nil,.nil=>.nil
 | _,_,_,.cons r t,.cons j l=>.cons (BI.cut p r j) (Ab.cut p t l)
end
theorem KVR.cut(p:∀(n:Nat) a,ρ[n]?=some a->ρ'[n]?=some a):∀{x:List (j×D)} {y z:List (j×V)},KVR K ρ H x y->KVR K ρ' H' x z->KVR K ρ H' x z
 | _,_,_,.nil,.nil=>.nil
 | _,_,_,.cons r t,.cons g l=>.cons ⟨g.1,r.2.cut p g.2⟩ (KVR.cut p t l)
theorem Cv.cut(p:∀(n:Nat) a,ρ[n]?=some a->ρ'[n]?=some a)(h:Cv K ρ H a o)(h':Cv K ρ' H' a o):Cv K ρ H' a o:=by
 cases o with
 | lst j=>obtain⟨_,_,r⟩:=h;obtain⟨vs,e,g⟩:=h';exact⟨vs,e,r.cut p g⟩
 | dK j=>obtain⟨_,_,r⟩:=h;obtain⟨vs,e,g⟩:=h';exact⟨vs,e,KVR.cut p r g⟩
 | dT j=>obtain⟨_,_,r⟩:=h;obtain⟨vs,e,g⟩:=h';exact⟨vs,e,KVR.cut p r g⟩
 | ins C j=>obtain⟨_,_,_,r⟩:=h;obtain⟨l,vs,e,g⟩:=h';exact⟨l,vs,e,KVR.cut p r g⟩
 | fK j=>obtain⟨_,_,_,r⟩:=h;obtain⟨l,vs,e,g⟩:=h';exact⟨l,vs,e,KVR.cut p r g⟩
 | fT j=>obtain⟨_,_,_,r⟩:=h;obtain⟨l,vs,e,g⟩:=h';exact⟨l,vs,e,KVR.cut p r g⟩
 | mem L=>exact h'
 | cod _ _ _=>exact h'
end
end L2
namespace L2
open PySem.W
section
variable{X:Cx}{k k' n:Nat}{x qual:Str}{st:DM}{ps:List Str}{p pos:Pos}{e:Expr}{es:List Expr}{ml:ML}{g:List D->Sto->Res D}
theorem gcl(D:Dfn X.K X.mg x qual st ps)(F:EZ X.prog X.w X.K X.mg X.base (CXG X.prog X.w) k D.f D.fd ps (spM X.K n g))(j:De k' X.A)(l:GA X noE (e :: es) ml)(o:k<=k':=by decide)(s:X.xe=λ_ _=>False:=by rfl)(B:Gl X x:=by rfl)
  (C:(x==("__debug__" : Str))=false:=by decide) (E:AX (e :: es) X.env=(false,Bt e X.env) :: AX es X.env:=by rfl) (G:(D2 pos (AX es X.env)).any (·.1)=false:=by rfl) :
  GE X noE (.Call (.Name x p) (e :: es) [] pos) (Bs n g ml):=W0 F (good_none s).pass (j.mono o) B D.m D.kp D.b l C E G
end
abbrev FnAt(K:Frag)(x g:Str)(st:DM)(f:AL):Prop:=∃(m:AC) (o:Option AL) (kV j s:AC) (A:Option AL) (l ct:AC) (B:Array (Option AC)),
 K.lookup f=some ⟨m,o,.func (fnOf x g (G9 st) (Ef st) (A6 st) .none kV j s A l ct),B⟩/\codeIn K l g=true/\keepIn K (.ref f)=true
abbrev Fp(K:Frag)(x:Str)(st:DM)(f:AL):Prop:=M0 K Ay x=some (some (.ref f))/\FnAt K x x st f
abbrev VQ(K:Frag)(C:AL)(x g:Str)(st:DM)(f:AL):Prop:=findIn K (.ref C) x=some (some (.ref f))/\isFn K (.ref f)=true/\FnAt K x g st f
abbrev ClsAt(K:Frag)(x:Str)(C:AL):Prop:=M0 K Ay x=some (some (.ref C))/\plainGet K C Str.empty=true/\hasDictIn K C=true/\plainOver K C=true/\findIn K (.ref C) "__setattr__" = some (some (.builtin "object.__setattr__"))/\makesIn K C=true/\keepIn K (.ref C)=true
def Sk(st:DM)(ps:List Str):Prop:=∀(x g:Str) (kV j m:AC) (o:Option AL) (s ct:AC) (l:List AC),l.length=ps.length->JT (fnOf x g (G9 st) (Ef st) (A6 st) .none kV j m o s ct) ⟨l,[]⟩=pure (ps.zip l)
section
variable{K:Frag}{h:BY}{mg:Str->Option AC}{x qual:Str}{st:DM}{f C:AL}{ps:List Str}{a b c d e:Str}
theorem FnAt.fd(z:FnAt K x qual st f):∃fd,Fun K x qual st f fd:=by
 obtain⟨j,m,kV,g,o,s,A,ct,B,l,c,k⟩:=z;exact⟨_,Uz l c k⟩
def mkD(X:K.In h)(G:h.Ns Ay mg)(z:Fp K x st f)(b:Sk st ps):Dfn K mg x x st ps:=⟨f,(FnAt.fd z.2).choose,(FnAt.fd z.2).choose_spec,(FnAt.fd z.2).choose_spec.binds (b x x),mg_of X G z.1⟩
def mkM(z:VQ K C x qual st f)(b:Sk st ps):Mtd K x qual st ps:=⟨f,(FnAt.fd z.2.2).choose,(FnAt.fd z.2.2).choose_spec,(FnAt.fd z.2.2).choose_spec.binds (b x qual)⟩
theorem mkO(X:K.In h)(G:h.Ns Ay mg)(z:ClsAt K y C)(i:VQ K C "__init__" qual st f):Own K mg y C f:=⟨⟨z.2.1,z.2.2.1,z.2.2.2.1,z.2.2.2.2.1⟩,⟨z.2.2.2.2.2.1,i.1,i.2.1,z.2.2.2.2.2.2⟩,mg_of X G z.1⟩
abbrev bnd(st:DM)(ps:List Str)(us:List AC):Prop:=∀(x qual:Str) (kV g j:AC) (l:Option AL) (m ct:AC),JT (fnOf x qual (G9 st) (Ef st) (A6 st) .none kV g j l m ct) ⟨us,[]⟩=pure (ps.zip us)
theorem bd1(z:∀u,bnd st [a] [u]):Sk st [a]:=λx q k d p n c t j g=>by obtain⟨u,rfl⟩:=ay g;exact z u x q k d p n c t
theorem bd2(z:∀u v,bnd st [a,b] [u,v]):Sk st [a,b]:=λx q k d p n c t j g=>by obtain⟨u,v,rfl⟩:=ax g;exact z u v x q k d p n c t
theorem bd3(z:∀u v w,bnd st [a,b,c] [u,v,w]):Sk st [a,b,c]:=λx q k d p n c t j g=>by obtain⟨u,v,w,rfl⟩:=aw g;exact z u v w x q k d p n c t
theorem bd5(z:∀u v w y l,bnd st [a,b,c,d,e] [u,v,w,y,l]):Sk st [a,b,c,d,e]:=λx q k d p n c t j g=>by obtain⟨u,v,w,y,l,rfl⟩:=len5 g;exact z u v w y l x q k d p n c t
end
abbrev Cx.q(X:Cx):Cx:={ X with xe:=λ_ _=>False }
def Fe(n:Nat)(j:MS)(ds:List D)(S:Sto):Res D:=(okR (j (Ck n ds) S)).bind λf g=>match f with
 | .rt d=>.ok d g
 | .nx _=>.ok .non g
 | _=>.bad
section
variable{P:Aq}{w:A9}{K:AB}{mg:Str->Option AC}{base:BY}
theorem W3{x m}{st}{f}{fd}{N ps}{k n}(F:Fun K x m st f fd)(Y:B9 N ps (A6 st))(Z:ps.length=n){G}
  (bu:∀(L:AC) (A:A4) (j:List Env) (s:AF) (H:Hp) (E:XK),De k (A.deeper (Fs m (A6 st) s.heap.objs.size f L))->GSs (Ov (CXG P w) P w K mg base N m (A6 st) f L A j s H E).q noE (Ef st) G) :
  EZ P w K mg base (CXG P w) (k+1) f fd ps (spM K n (Fe N.length G)):=by
 obtain⟨oc,od,kV,doc,pm,an,L,ct,di,rfl,lk,cp⟩:=F.ex
 refine Xi lk cp Y (λvs H Q E h=>by rw[Z];exact h.len) λA j s H vs Q E C h=>?_
 obtain⟨ρ,ds,S,h1,h2,h3,o⟩:=h;have hb:=bu L A j s H E C;refine⟨gS K noE G,λζ O σ R D I q=>CZ (hb ζ O σ R D (I.with _) q) (λT s1 z=>?_) λe s1 z=>z.elim,ρ,_,S,Ku h2,h3,?_⟩
 ·cases T with
  | next=>obtain⟨g,B,J,z⟩:=z;exact⟨g,B,J.without,z⟩
  | brk=>obtain⟨g,B,J,z⟩:=z;exact⟨g,B,J.without,z⟩
  | cont=>obtain⟨g,B,J,z⟩:=z;exact⟨g,B,J.without,z⟩
  | ret u=>obtain⟨v,g,B,J,r,z⟩:=z;exact⟨v,g,B,J.without,r,z⟩
 ·unfold Fe at o
  cases C:G (Ck N.length ds) S with
  | bad=>rw[C]at o;exact o.elim
  | err c S'=>rw[C]at o;exact o.elim
  | ok T S'=>
   rw[C]at o
   cases T with
   | nx U=>exact λX R g l O r=>o X R .non l O .non
   | rt d=>exact o
   | bk U=>exact o.elim
   | ct U=>exact o.elim
   | ex c U=>exact o.elim
end
def rIsQ(K:AB)(c:V)(cv:AC):List V->Hp->VK->Prop:=λg H Q=>∃x t b,g=[x,c]/\JL K H x t/\DN K t cv=some b/\Q (.bl b) H
section
variable{E:EW}{e ce:Expr}{c:V}
theorem VD(g:∀u,RelV c u->u=cv):HH X (.builtin "isinstance") (rIsQ X.K c cv):=by
 intro o s A H B C Q I r h;obtain⟨x,t,b,rfl,ty,e,q⟩:=h;obtain⟨v,w,rfl,j,l⟩:=vals2 r;rw[g w l]
 exact SF I j ty e λm=>⟨.bl b,H,I.tok m,rfl,q⟩
def Wj(g:String->Option Bool)(m:ME):ME:=λe S=>(m e S).bind λd j=>match tyD d j with
  | some T=>match g T with
   | some b=>.ok (.bl b) j
   | none=>.bad
  | none=>.bad
theorem Uv(C:∀u,RelV c u->u=cv)(G:∀T b,j T=some b->DN X.K (.type T) cv=some b)
  (I:Gl X "isinstance") (g:X.mg "isinstance" = none) (h:GE X E e m) (J:PE X ce (tC c))
  (A:AX [e,ce] X.env=(false,Bt e X.env) :: AX [ce] X.env:=by rfl) (L:AX [ce] X.env=(false,Bt ce X.env) :: AX [] X.env:=by rfl) (N:(D2 pos (AX [ce] X.env)).any (·.1)=false:=by rfl) :
  GE X E (.Call (.Name "isinstance" p) [e,ce] [] pos) (Wj j m):=
 (Hf (VD C) I g bW (Ec h (Ec J Gy L) A) (by decide) (by decide) A N).imp<|by
 rintro σ H Q ⟨O,l,S,P,R,g⟩
 refine⟨O,l,S,P,R,g.seq λd U g o Y x Z B r1=>?_⟩
 cases s:tyD d U with
 | none=>rw[s]at g;exact g.elim
 | some T=>
  rw[s]at g;dsimp only at g
  cases hb:j T with
  | none=>rw[hb]at g;exact g.elim
  | some b=>
   rw[hb]at g;exact⟨x,_,b,rfl,YA B r1 s,G T b hb,g o Y _ Z B (.bl _)⟩
end
end L2
abbrev oN(e:L2.Lo)(S:L2.Sto):L2.Res L2.Fl:=.ok (.nx e) S
abbrev sR(n:Nat):Option L2.D:=some (.ref n)
abbrev sI(i:Int):Option L2.D:=some (.int i)
abbrev sF(l:ZLi):Option L2.D:=some (.fro (l.map L2.D.int))
namespace M
open L2
theorem FN(h:g (Ck n ds) S=.ok (.rt d) S1):Fe n g ds S=.ok d S1:=by unfold Fe;rw[h];rfl
theorem YN(h:g (Ck n ds) S=.ok (.nx e) S1):Fe n g ds S=.ok .non S1:=by unfold Fe;rw[h];rfl
abbrev mIs(g:String->Option Bool)(_:AL->Option Bool)(m:ME):ME:=Wj g m
theorem a6(h:m e S=.ok d S1)(j:tyD d S1=some T)(hb:g T=some b):mIs g tabC m e S=.ok (.bl b) S1:=by
 show Wj g m e S=_;unfold Wj;rw[h];dsimp only[Res.bind];rw[j];dsimp only;rw[hb]
end M
namespace L2
section
variable{prog:Aq}{w:A9}{A:A4}{R:M2->AF->Prop}{I:AL}{fp wr:List AL}{n:Nat}{P:Nat->AC->Prop}{St:Nat->BY->Prop}{E:AC->AF->Prop}{s:AF}
def bO(P:Nat->AC->Prop)(l:Nat->Nat->Bool)(j:Nat)(g:Array AC):Prop:=(j=0/\g = #[])∨∃i v,j=i+1/\g = #[v,v]/\P (CU l i) v
def VR(P:Nat->AC->Prop)(g:Nat->Nat->Bool)(d:AC)(n:Nat)(v:AC):Prop:=(n=0/\v=d)∨∃i,n=i+1/\P (CU g i) v
theorem Wh(W:Walks prog w A.in1 I fp wr n P St){g:Nat->Nat->Bool}(eG:CmpOf prog w A.in1 .Lt P g){S:AL}(iO:S∉fp)(d:AC) :
  ∀(k j:Nat) (s:AF) (B:Array AC) (c:Nat),n - j=k->j<=n->St j s.heap->bO P g j B ->
  s.heap.get? S=some { cls:=.type "list",dict:=none,data:=.seq B c,slots:=#[] } ->
  (∀v h' tk,VR P g d n v->(∀b o,b∉wr->b≠S->s.heap.get? b=some o->h'.get? b=some o)->R (.ok (.ret v)) { s with heap:=h',toks:=tk }) ->
  Dx (AW prog w) A (.builtin "min.loop" ⟨[.ref I,.none,.ref S],[(B8 "default",d)]⟩) R s:=by
 have iP:S∉wr:=λh=>iO (W.sub _ h)
 have Q:(toString "min"++toString ".loop" : String) = "min.loop":=by decide
 intro k
 induction k with
 | zero=>
  intro j s B c T hj U X H J;have e:j=n:=Nat.le_antisymm hj (Nat.le_of_sub_eq_zero T);subst e;refine Ia Xv ?_;rw[Et Dl _];refine AA (m:=seqItems? (.ref S)) (wpAny_seqItems H rfl ?_);refine AA (m:=tryCatch (Mz (.ref I)) _) (PB (W.done s _ _ U λh' tk G=>?_))
  rcases X with⟨h0,rfl⟩ | ⟨i,v,hi,rfl,N⟩
  ·exact AA (m:=rule _) (PD (AH (J d h' tk (.inl ⟨h0,rfl⟩) λb o C _ e=>G b o C e)))
  ·refine AA (m:=updateSeq S λ_=>#[]) (N4 (G S _ iP H) rfl (AA (Nv (AH ?_))))
   exact J v _ tk (.inr ⟨i,hi,N⟩) λb o C l e=>(EM _ _ (B2 l)).trans (G b o C e)
 | succ k ih=>
  intro j s B c T hj U X H J;have lt:j < n:=Nat.lt_of_sub_eq_succ T;refine Ia Xv ?_;rw[Et Dl _];refine AA (m:=seqItems? (.ref S)) (wpAny_seqItems H rfl ?_);refine AA (m:=tryCatch (Mz (.ref I)) _) (PB (W.item j s _ _ lt U λu h' tk Y fE G=>?_));have O:=G S _ iP H
  have put:∀(x:AC) (l:BY),P (CU g j) x->l=h'.update S (B4 λ_=>#[x,x])->Dx (AW prog w) A (.builtin "min.loop" ⟨[.ref I,.none,.ref S],[(B8 "default",d)]⟩) R { s with heap:=l,toks:=tk }:=λx l L e2=>by
   subst e2
   exact ih (j+1) _ #[x,x] _ (by omega) lt (W.frame _ _ _ fE λb hb o e=>(EM _ _ (λq:S=b=>iO (q▸hb))).trans e) (.inr ⟨j,x,rfl,rfl,L⟩) (Pa _ O rfl)
    λv Z gY hv dI=>J v Z gY hv λb o C l e=>dI b o C l ((EM _ _ (B2 l)).trans (G b o C e))
  rcases X with⟨rfl,rfl⟩ | ⟨i,v,rfl,rfl,N⟩
  ·refine AA (m:=updateSeq S λ_=>#[u,u]) (N4 O rfl ?_)
   rw[Q];exact AH ⟨HP Dl _,put u _ Y rfl⟩
  ·refine AA (m:=tryCatch (Sx [u,u] (richCompare .Lt u v >>= _)) _) (PB (DW (AA (eG (i+1) (CU g i) u v _ _ _ Y N ?_))))
   refine AA (DW (Bc (AA (Nv (AH ?_)))))
   cases hb:g (i+1) (CU g i)with
   | true=>
    have L:CU g (i+1)=i+1:=by unfold CU;rw[hb];rfl
    simp only[if_true];refine AA (N4 O rfl (AA (Nv ?_)));rw[Q];exact AH ⟨HP Dl _,put u _ (by rw[L];exact Y) rfl⟩
   | false=>
    have L:CU g (i+1)=CU g i:=by rw[show CU g (i+1)=if g (i+1) (CU g i)=true then i+1 else CU g i from rfl,hb];rfl
    simp only[BR,if_false];refine AA (Nv ?_);rw[Q];exact AH ⟨HP Dl _,ih (i+1+1) _ #[v,v] c (by omega) lt fE (.inr ⟨i+1,v,rfl,rfl,by rw[L];exact N⟩) O λv' Z gY hv dI=>J v' Z gY hv λb o C l e=>dI b o C l (G b o C e)⟩
theorem QJ{id:String}{b:Builtin}{args:List AC}{g:List (Str×AC)}{Q:AC->AF->Prop}(o:builtinKind id=none)(B:plainId id=true)(hb:entryFor table id=some b)(C:argsOk id ⟨args,g⟩)
  (l:Ac (AW prog w) A.in1 (b ⟨args,g⟩) (λfin s'=>match fin with
   | .done f=>(match(Except.ok f:M2)with | .ok (.ret v)=>Q v s' | .ok _=>False | .error e=>E e s')
   | .again m=>m.quiet=true/\Dx (AW prog w) A m (λr s'=>match r with | .ok (.ret v)=>Q v s' | .ok _=>False | .error e=>E e s') s') E s) :
  Ac (AW prog w) A (call (.builtin id) args g) Q E s:=by
 refine PF (codeAny_call_builtin B hb ?_);simp only[checkBuiltinCall,o]
 cases q:Manifest.signature? id with
 | none=>exact AH l
 | some j=>
  have e:Bind.checkArgs id j ⟨args,g⟩=pure ():=by simpa only[argsOk,q]using C
  simp only[e];exact AH l
theorem Sf(a d:AC):argsOk "min" ⟨[a],[(B8 "default",d)]⟩:=by unfold argsOk;kernel_rfl
theorem Sa{x d:AC}{Q:AC->AF->Prop}
  (h:Ac (AW prog w) A.in1 (Sw x) (λit g=>∃I fp wr n P St l,it=.ref I/\Walks prog w A.in1 I fp wr n P St/\St 0 g.heap/\(∀b∈fp,b < g.heap.objs.size)/\CmpOf prog w A.in1 .Lt P l /\
   ∀v h' tk,VR P l d n v->(∀b o,b∉wr->g.heap.get? b=some o->h'.get? b=some o)->Q v { g with heap:=h',toks:=tk }) E s) :
  Ac (AW prog w) A (call (.builtin "min") [x] [(B8 "default",d)]) Q E s:=by
 have B:(toString "min"++toString ".loop" : String) = "min.loop":=by decide
 refine QJ F.kind_min F.plain_min F.entry_min (Sf _ _) ?_;refine AA (m:=XX "min" ["key", "default"] 0 ⟨[],[(B8 "default",d)]⟩) (wpAny_of_eq (show _=pure [none,some d]from rfl) ?_);refine AA (AH (AA (CZ h (λit g j=>?_) λ_ _ e=>e)));obtain⟨I,fp,wr,n,P,St,l,rfl,W,C,G,H,J⟩:=j;refine AA (Bq ?_);rw[B];refine AH ⟨HP Dl _,Wh W H (λL=>Bx _ (G _ L)) d _ 0 _ #[] 0 rfl (CA _) (W.frame _ _ _ C λb _ o e=>AE _ e) (.inl ⟨rfl,rfl⟩) (AR _ rfl) λv h' tk N O=>?_⟩
 exact J v h' tk N λb o S e=>O b o S (Ak (AV e)) (AE _ e)
end
section
variable{X:Cx}{E:EW}{e:Expr}{m:ME}{ta:TA}{p pos vp kp:Pos}{j1:Nat}
def UK(ns:ZLi):V:=match Mu ltZ ns with
 | some b=>.int b
 | none=>.non
def Yy(ns:ZLi):D:=match Mu ltZ ns with
 | some b=>.int b
 | none=>.non
theorem Wg{ns:ZLi}{us:List AC}(l:BD (ns.map V.int) us){v:AC}(h:VR (λi v=>us[i]?=some v) (λi j=>decide (ns.getD i 0 < ns.getD j 0)) .none us.length v):RelV (UK ns) v:=by
 have g:=l.length;rw[AI]at g;unfold UK
 rcases h with⟨A,rfl⟩ | ⟨i,o,B⟩
 ·have:ns=[]:=List.length_eq_zero_iff.mp (g.trans A)
  subst this;rfl
 ·obtain⟨t,rfl⟩:=Kp l B
  cases hb:Mu ltZ ns with
  | none=>
   cases ns with
   | nil=>rw[<-g]at o;cases o
   | cons _ _=>cases hb
  | some b=>
   obtain⟨_,s⟩:=VJ ltZ hb
   have e:i=ns.length - 1:=by lia
   subst e;unfold ltZ at s;refine⟨t,?_⟩;rw[Fh,s];rfl
def tMD(ta:TA):TE:=λl H Q=>ta l H λvs g=>∃(a:AL) (j:ZLi),vs=[.ref a]/\g a=some (.lst (j.map V.int))/\Q (UK j) g
theorem WP(S:X.calm=true)(T:Gl X "min") (U:X.mg "min" = none) (Y:PA X [e] ta) (G:AX [e] X.env=[(false,Bt e X.env)]:=by rfl) :
  PE X (.Call (.Name "min" p) [e] [⟨some "default",.Constant .none j1 vp,kp⟩] pos) (tMD ta):=by
 intro J s L H Q I h;refine DK (Hi I T U Kh ?_ (by decide) (by decide));refine callWith_kw (thn (Y pos J s L H _ I h) λus Z ⟨vs,N,I1,r1,q1⟩=>?_) (by rw[G];rfl) (by rw[G];rfl) rfl rfl;obtain⟨a,O,rfl,hl,q⟩:=q1;obtain⟨u,rfl,ru⟩:=vals1 r1;cases ru;refine kws_cons ?_
 refine thn (T7 (X:=X) (j:=j1) (pos:=vp) J Z L N (λx l=>x=.non/\l=N) I1 ⟨rfl,rfl⟩) λv s2 ⟨x,l,B,r2,e1,e2⟩=>?_
 subst e1 e2;cases r2;refine kws_nil ?_;show Ac _ _ (call (.builtin "min") [.ref a] [(B8 "default",.none)]) _ _ _;have hh:=B.ok.hd S;obtain⟨b9,P,C,hz⟩:=B.list (.inl (.inl hl))
 have R:a < s2.heap.objs.size:=by obtain⟨o,q,_⟩:=C.isList;exact AV q
 refine Sa (Ls C.isList ?_);refine⟨_,_,_,_,_,_,_,rfl,Zv (A:=X.A.in1) hh _ a (Ak R) b9.toArray,⟨⟨_,AR _ rfl,rfl,rfl⟩,C.isList.push _⟩,bH R,CmpOf.ints_lt (λi=>O.getD i 0) (λi v g=>Kp P (by simpa using g)),λv h' tk g hk=>?_⟩;refine⟨UK O,l,B.kept (We hk),Wg P ?_,q⟩;rw[AY]at g
 rcases g with z | ⟨i,h1,h2⟩
 ·exact .inl z
 ·exact .inr ⟨i,h1,by simpa using h2⟩
def Ml(m:ME):ME:=λe S=>(m e S).bind λd g=>match d with
 | .ref n=>match g[n]? with
  | some (.lst j)=>match E3 j with
   | some l=>.ok (Yy l) g
   | none=>.bad
  | _=>.bad
 | _=>.bad
theorem Wv(C:X.calm=true)(G:Gl X "min") (g:X.mg "min" = none) (h:GE X E e m) (s:AX [e] X.env=[(false,Bt e X.env)]:=by rfl) :
  GE X E (.Call (.Name "min" p) [e] [⟨some "default",.Constant .none j1 vp,kp⟩] pos) (Ml m):=
 (WP C G g (Ec h Gy s) s).imp<|by
 rintro σ H Q ⟨I,l,S,J,L,g⟩
 refine⟨I,l,S,J,L,g.seq λd S1 g j N x O A P=>?_⟩
 cases d <;> first | exact g.elim | skip
 rename_i n
 cases P with
 | @ref _ a R=>
 obtain⟨o,T,U⟩:=A.there R;dsimp only at g;rw[T]at g
 cases o <;> first | exact g.elim | skip
 rename_i Y;dsimp only at g
 cases hb:E3 Y with
 | none=>rw[hb]at g;exact g.elim
 | some B=>
  rw[hb]at g;obtain⟨vs,Z,rr⟩:=U;have e2:=Hj hb;subst e2;have e3:=rr.ints;subst e3;refine⟨a,B,rfl,Z,g j N _ O A ?_⟩;unfold Yy UK;cases Mu ltZ B
  ·exact .non
  ·exact .int _
end
section
variable{P:Aq}{w:A9}{K:AB}{mg:Str->Option AC}{base:BY}
theorem Cp{x j}{st}{f}{fd}{N ps}{k n}(F:Fun K x j st f fd)(m:B9 N ps (A6 st))(C:ps.length=n){o}
  (G:∀(l:AC) (A:A4) (g:List Env) (s:AF) (H:Hp) (E:XK),De k (A.deeper (Fs j (A6 st) s.heap.objs.size f l))->(A.deeper (Fs j (A6 st) s.heap.objs.size f l)).units+64 < C9->N.Nodup ->
   GSs (Ov (CXG P w) P w K mg base N j (A6 st) f l A g s H E).q noE (Ef st) o) :
  EZ P w K mg base (CXG P w) (k+1) f fd ps (spM K n (Fe N.length o)):=W3 F m C λl A g s H E B=>G l A g s H E B B.units m.nd
end
open PySem.W (envX kla_fn kla_obj kla_callFunE kla_codeExpr)
section
variable{P:Aq}{w:A9}{K:AB}{mg:Str->Option AC}{base:BY}{A:A4}{outer:List Env}{s:AF}{H:Hp}{f c c':AL}{name qual x y:Str}{params:Jq}{body:Expr}{scope:Fd}{pm cJ u v:AC}{a b:V}{t:TE}{Q:VK}{E:XK}{k:Nat}
def Oj(P:Aq)(w:A9)(K:AB)(mg:Str->Option AC)(base:BY)(N:List Str)(qual:Str)(scope:Fd)(f:AL)(g:AC)(j:List (Str×AL))(A:A4)(outer:List Env)(s:AF)(H:Hp):Cx where
 prog:=P
 w:=w
 K:=K
 mg:=mg
 base:=base
 A:=A.deeper (envX qual scope s.heap.objs.size f g j)
 N:=N
 s₀:=s
 H₀:=H
 env:=envX qual scope s.heap.objs.size f g j
 outer:=outer
 stack:=envX qual scope s.heap.objs.size f g j :: outer
 ex:=[]
 fn:=λ_=>false
 calm:=true
 pn:=[]
 xe:=λ_ _=>False
structure RO(sc:Fd)(x y:Str):Prop where
 kind:sc.kind=.function
 co:sc.isCoroutine=false
 gen:sc.isGenerator=false
 nc:∀z∈sc.names,z.2≠.cell
 loc:sc.names.lookup y=some .local
 fre:sc.names.lookup x=some .free
 one:∀z,sc.names.lookup z=some .free->z=x
 ne:x≠y
theorem UY(g:Ll P w K mg base A outer s H)(R:De (k+1) A)(S:RO scope x y)(ho:s.heap.get? f=some (Ly name qual params body scope [(x,c)] pm c' cJ))(X:s.heap.CodeRec (.ref c') qual)
  (hb:JT (kla_fn name qual params body scope [(x,c)] pm (.ref c') cJ) ⟨[v],[]⟩=pure [(y,v)]) (T:s.heap.IsCell c (some u)) (Y:H c=none) (Z:RelV a u) (rv:RelV b v)
  (bu:PE (Oj P w K mg base [x,y] qual scope f (.ref c') [(x,c)] A outer s H) body t) (ht:t [some a,some b] H Q) :
  Dx (AW P w) A (.call (.ref f) ⟨[v],[]⟩) (CR (CXG P w) outer P w H s Q E) s:=by
 have N:s.heap.NoLimit:=g.mod.nolimit.keeps λb o e=>(g.bs b o e).1
 refine kla_callFunE R.depth ho rfl S.co S.gen rfl X ?_;rw[hb];refine AH (wpAny_newFunctionEnv S.nc (λz l=>by rw[Ah.mp l];exact S.loc) (λj dr kd=>?_) S.kind)
 have G:∀b o,s.heap.get? b=some o->j.get? b=some o:=λb o e=>kd.extBut b o (Ak (AV e)) (AE _ e)
 refine⟨N.keeps G,?_⟩;show Dx _ _ (.expr body (envX qual scope s.heap.objs.size f (.ref c') [(x,c)])) _ _
 have L:∀{z C},[(x,c)].lookup z=some C->z=x/\C=c:=λ{z C} e=>by
  rw[BM]at e;split at e
  ·rename_i q;cases e;exact⟨eq_of_beq q,rfl⟩
  ·cases e
 have O:∀b:AL,b∉(Oj P w K mg base [x,y] qual scope f (.ref c') [(x,c)] A outer s H).ex:=λb z=>zX (show b∈([]:List AL)from z) (by simp)
 have cT:c < s.heap.objs.size:=by obtain⟨o,e,_⟩:=T;exact AV e
 have U:j.IsCell c (some u):=by obtain⟨o,e,d⟩:=T;exact⟨o,G _ _ e,d⟩
 have I:Inv (Oj P w K mg base [x,y] qual scope f (.ref c') [(x,c)] A outer s H) [] [some a,some b] H { s with heap:=j,toks:=s.toks+1 }:=by
  refine⟨⟨g.mod,S.kind,rfl,rfl,AK _,λy z C B m=>(L B).1.trans (L m).1.symm,λz l=>?_,λz C q=>zX (show false=true from q) (by simp),λ_=>R.hd,O9 g.frames,.inr ⟨rfl,rfl⟩,λb z=>zX z (O b),g.bs,g.bsz,λb _ _=>O b,λb z=>zX z (O b),g.funs,g.frf⟩,
   rfl,g.bare,Un.kept G,⟨_,dr,λi z q B m h3=>?_⟩,λz C q=>?_,g.hok.fresh (AK _),λz C q=>?_,λp hp=>zX (show p∈([]:List (AL×Obj))from hp) (by simp),g.hok.kept G,rfl⟩
  ·have l:scope.names.lookup z=some .cell∨scope.names.lookup z=some .free:=l
   rcases l with l | l
   ·exact zX rfl (S.nc _ (Bj l))
   ·rw[S.one z l]
    exact⟨c,by show[(x,c)].lookup x=some c;simp⟩
  ·match i,B,m with
   | 0,B,m=>
    cases B;cases m;exact⟨u,Z,.inr ⟨.inr S.fre,c,by show[(x,c)].lookup x=some c;simp,U⟩⟩
   | 1,B,m=>
    cases B;cases m;exact⟨v,rv,.inl ⟨S.loc,by simp⟩⟩
   | i+2,B,m=>simp at m
  ·rw[(L q).2];exact⟨_,U⟩
  ·rw[(L q).2];exact Y
 refine kla_codeExpr (CZ (bu [] _ _ H Q I ht) (λr s' hs=>?_) λ_ _ z=>z.elim);obtain⟨v',H',J,rr,q⟩:=hs;exact⟨v',H',J.os,J.bare,J.base,J.hok,rr,q⟩
end
open PySem.W (envX kla_fn kla_obj kla_makeFunction kla_makeFunctionHit kla_eval CodeHd tabObj)
structure Oth(H H':Hp)(p:AL):Prop where
 same:∀a o,H a=some o->a≠p->H' a=some o
theorem Iq{a b:Int}{t u:Tok}{c:AC}:∀{l:List AC},Zw l->Zw (l++[.int a t,.int b u,c])
 | [],_=>trivial
 | .int _ _ :: .int _ _ :: _ :: r,h=>Iq (l:=r) h
section
variable{X:Cx}{ζ:List (AL×Obj)}{σ:St}{H:Hp}{s:AF}{c p:AL}{qual:Str}{params:Jq}{body:Expr}{scope:Fd}{pos:Pos}{dO:List (Str×AL)}{Q:AC->AF->Prop}
theorem Inv.tabled{h':BY}{tk:Nat}{ps more:Array AC}{c2:AL}{j:Obj}(I:Inv X ζ σ H s)(g:H p=some (.tbl ps))(k:∀b o,b≠p->s.heap.get? b=some o->h'.get? b=some o)(A:s.heap.objs.size<=c2)(B:h'.get? p=some (PH (ps++more)))(C:h'.get? c2=some j) :
  Inv X ζ σ (upd (upd H p (.tbl (ps++more))) c2 (.frz j (.own 0))) { s with heap:=h',toks:=tk }:=by
 have J:H c2=none:=I.hok.fresh A;have O:p < s.heap.objs.size:=I.hok.lt g
 have l:∀b o,s.heap.get? b=some o->b≠c2:=λb o e=>Ak (AQ (AV e) A)
 have m:∀{b},H b=none->b≠p:=λ{b} e z=>by subst z;rw[g]at e;cases e
 have E:∀{b o},H b=some o->b≠c2:=λ{b o} e z=>by subst z;rw[J]at e;cases e
 have same:∀b o,H b=some o->b≠p->upd (upd H p (.tbl (ps++more))) c2 (.frz j (.own 0)) b=some o:=λb o e hb=>by rw[BC (E e),BC hb];exact e
 refine I.un ⟨λb o e n _ _=>k b o (m n) e,λb o e n _ _=>⟨o.slots,k b o (m n) e⟩,λb o e n _=>by rw[BC (l b o e),BC (m n)];exact n,λb o e _=>?_,λb L e=>same b _ e λz=>(by subst z;rw[g]at e;cases e),λb o u e=>same b _ e λz=>(by subst z;rw[g]at e;cases e),λb P e=>?_⟩ λa o e=>?_
 ·by_cases hb:b=p
  ·exact⟨_,by rw[hb];exact B⟩
  ·exact⟨o,k b o hb e⟩
 ·by_cases hb:b=p
  ·subst hb
   rw[g]at e;cases e;exact⟨more,by rw[BC (E g),BE]⟩
  ·exact⟨#[],by rw[same b _ e hb];simp⟩
 ·by_cases G:a=c2
  ·subst G
   rw[BE]at e;cases e;exact⟨C,_,C⟩
  ·rw[BC G]at e
   by_cases hb:a=p
   ·subst hb
    rw[BE]at e;cases e;exact B
   ·rw[BC hb]at e
    refine(I.hok a o e).stay (λb u N q=>k b u ?_ q) (λb q=>same b _ q λz=>(by subst z;rw[g]at q;cases q)) λb L q=>same b _ q λz=>(by subst z;rw[g]at q;cases q)
    rcases N with rfl | z
    ·exact hb
    ·rintro rfl;rw[g]at z;cases z
theorem UX(I:Inv X ζ σ H s)(hT:IZ H p pos (X.env.qual++"<lambda>")) (T:X.env.code=.ref c) (C:CodeHd X.base c p) (B:X.base.BuiltinsAt X.mg p) (U:PM scope X.env=pure dO) (dD:defaultsOf params X.env=([],[]))
  (h:∀f c' g H' s',Inv X ζ σ H' s'->IZ H' p pos (X.env.qual++"<lambda>")->Oth H H' p->s.heap.objs.size<=f->H' f=none->s'.heap.get? f=some (Ly "<lambda>" (X.env.qual++"<lambda>") params body scope dO ((X.mg "__name__").getD .none) c' g) ->
   (∃j vs t,H' c'=some (.frz j (.own 0))/\j.data=.fields vs/\vs[1]?=some (.str (X.env.qual++"<lambda>") t))->Q (.ref f) s'):Ac (AW X.prog X.w) X.A (Bt (.Lambda params body scope pos) X.env) Q X.xe s:=by
 refine kla_eval dD ?_;obtain⟨G,J,l,hq⟩:=hT;have N:s.heap.get? p=some (PH G):=I.hok p _ J;have O:=I.mod.glob.keeps I.bk;obtain⟨bm,ob,b1,b2,b3,b4,b5,b6,b7,b8⟩:=B
 have ke:Ay≠p:=λq=>by
  obtain⟨o,es,ep,e,hd,_⟩:=O;rw[q,N]at e;cases e;cases hd
 have Y:s.heap.BuiltinsAt X.mg p:=⟨bm,ob,b1,b2,b3,b4,I.bk _ _ b5,b6,b7,b8⟩
 rcases hq with Z | ⟨m,o1,vs,t,hf,P,d1,d2⟩
 ·refine kla_makeFunction U I.ok.glob O T (C.keeps I.bk) N l Z ke Y λc' g h' tk hx L cf hJ kg=>?_
  obtain⟨c2,j,vs,t,e2,fU,hd,hv⟩:=hJ;cases e2;have E:=I.tabled (tk:=tk) J hx L kg fU
  have R:=E.kept (t':=tk) (h':=h'.push (Ly "<lambda>" (X.env.qual++"<lambda>") params body scope dO ((X.mg "__name__").getD .none) c' g)) λb o e=>AE _ e
  have kh:p≠c':=Ak (AQ (I.hok.lt J) L)
  have e3:(G++#[JS pos.line,JS pos.col,.ref c']).toList=G.toList++[JS pos.line,JS pos.col,.ref c']:=by simp
  refine h h'.objs.size c' g _ _ R ⟨_,by rw[BC kh,BE],?_,.inr ⟨c',j,vs,t,?_,BE,hd,hv⟩⟩ ⟨λa o e ha=>?_⟩ (HV (BU L cf)) (E.hok.fresh (AK _)) (AR _ rfl) ⟨j,vs,t,BE,hd,hv⟩
  ·rw[e3];exact Iq l
  ·rw[e3];exact codeAmong_snoc _ l Z
  ·rw[BC (λz=>by subst z;rw[I.hok.fresh L]at e;cases e),BC ha];exact e
 ·refine kla_makeFunctionHit U I.ok.glob O T (C.keeps I.bk) N l hf Y λg h' tk hk S=>?_
  have E:=I.kept (t':=tk) hk
  have R:=E.kept (t':=tk) (h':=h'.push (Ly "<lambda>" (X.env.qual++"<lambda>") params body scope dO ((X.mg "__name__").getD .none) m g)) λb o e=>AE _ e
  have eM:s.heap.get? m=some o1:=(I.hok m _ P).1;exact h h'.objs.size m g H _ R ⟨G,J,l,.inr ⟨m,o1,vs,t,hf,P,d1,d2⟩⟩ ⟨λa o e _=>e⟩ S (E.hok.fresh (AK _)) (AR _ rfl) ⟨o1,vs,t,P,d1,d2⟩
end
def Lj(H H':Hp):Prop:=∀a o,H a=some o->H' a=some o
theorem Lj.trans{H g H2:Hp}(a:Lj H g)(b:Lj g H2):Lj H H2:=λx o e=>b x o (a x o e)
def VU(X:Cx)(j:List (AL×Obj))(l:St)(H:Hp)(s:AC):Prop:=∀(v:AC) (m:AF) (g:Hp) (more:List (AL×Obj)),(∃i t,v=.int i t)->Inv X (j++more) l g m->Lj H g ->
 Ac (AW X.prog X.w) X.A.in1.in1 (call s [v]) (λr B=>∃k t o,r=.int k t/\Inv X (j++more) l o B/\Lj g o) (λ_ _=>False) m
structure QT(X:Cx)(ζ:List (AL×Obj))(b:AL):Prop where
 loc:b≠X.env.locals
 fs:b∉X.fs
 new:X.s₀.heap.objs.size<=b
 cel:∀x c,X.env.cells.lookup x=some c->c≠b
 pin:∀p∈X.pn++ζ,p.1≠b
section
variable{X:Cx}{ζ:List (AL×Obj)}{σ:St}{H:Hp}{s:AF}{a b:AL}
theorem Inv.ours(I:Inv X ζ σ H s)(h:s.heap.objs.size<=b):QT X ζ b:=
 ⟨λz=>by rw[z]at h;exact zX I.lt (Ew.mpr h),I.nofs h,Ai I.sz h,λx c e z=>by
  obtain⟨v,o,g,_⟩:=I.cell x c e;rw[z]at g
  exact zX (AV g) (Ew.mpr h),λp j z=>by
  have:=(I.pin p j).1;rw[z]at this
  exact zX (AV this) (Ew.mpr h)⟩
theorem Inv.less{l:List (AL×Obj)}(I:Inv X (ζ++l) σ H s):Inv X ζ σ H s:=I.pins_of λp g=>I.pin p (Az _ (Cg _ g))
theorem Inv.with1{q:AL×Obj}(I:Inv X ζ σ H s)(o:QT X ζ q.1)(g:s.heap.get? q.1=some q.2)(j:H q.1=none)(l:∀v,q.2.data≠.cell v):Inv X (ζ++[q]) σ H s:=I.pins_of λp m=>by
 rcases A1.mp m with z | z
 ·exact I.pin p (Az _ z)
 ·rw[Ah.mp z];exact⟨g,j,o.loc,o.fs,l⟩
theorem Inv.put1{h':BY}{t':Nat}(I:Inv X ζ σ H s)(o:QT X ζ b)(g:H b=none)(k:∀c u,c≠b->s.heap.get? c=some u->h'.get? c=some u):Inv X ζ σ H { s with heap:=h',toks:=t' }:=
 I.turned k g o.loc (.inr o.new) o.cel o.pin
theorem Inv.trackO{o:HO}(I:Inv X ζ σ H s)(ow:QT X ζ b)(j:H b=none)(ok:CT X.prog X.w (upd H b o) s.heap b o):Inv X ζ σ (upd H b o) s:=by
 have l:∀c u,H c=some u->c≠b:=λc u e z=>by rw[z,j]at e;cases e
 have keep:∀c u,H c=some u->upd H b o c=some u:=λc u e=>by rw[BC (l c u e)];exact e
 have:=I.step (H':=upd H b o) (h':=s.heap) (g':=s.gens) (d':=s.drawn) (t':=s.toks) (ch:=[b]) (λc g=>by rw[Ah.mp g];exact⟨.inr ow.new,ow.loc,ow.cel,ow.pin⟩) (λc u _ _ _ e _=>e) (λc u _ _ _ e _=>⟨u.slots,e⟩)
  (λc u g e n=>by rw[BC λz=>g (by simp[z])];exact n) (λc u _ e=>⟨u,e⟩) (λc A e=>keep c _ e) (λc u v e=>keep c _ e) (λc B e=>⟨#[],by rw[keep c _ e];simp⟩) (λm e=>e) (λc u e=>?_) I.bare
 ·exact this
 ·by_cases z:c=b
  ·subst z;rw[BE]at e;cases e;exact ok
  ·rw[BC z]at e
   exact(I.hok c u e).stay (λ_ _ _ q=>q) (λd q=>keep d _ q) λd A q=>keep d _ q
theorem ints_snoc{n:Int}{t:Tok}:∀{vs:List AC} {ns:ZLi},C7 vs ns->C7 (vs++[.int n t]) (ns++[n])
 | _,_,.nil=>.cons n t .nil
 | _,_,.cons m u h=>.cons m u (ints_snoc h)
theorem Rq{g:AL}{fv:AC}{vs:List AC}{e1:Nat}{P:PySem.Fin->AF->Prop}{E:AC->AF->Prop}(I:Inv X (ζ++[(a,BN "list" #[] e1)]++[(g,BN "list" #[] 0)]) σ H s) (kf:VU X ζ σ H fv) (hv:∀v∈vs,∃i t,v=Db i t) (iR:vs.length < 64)
  (L:QT X ζ a) (ok:QT X (ζ++[(a,BN "list" #[] e1)]) g)
  (h:∀H' s' out c,Inv X ζ σ H' s'->Lj H H'->s'.heap.get? a=some (BN "list" out c)->H' a=none->out.toList.Perm vs->P (.done (.ret .none)) s') :
  Ac (AW X.prog X.w) X.A.in1.in1 (ksk_rest a fv false vs.toArray e1 (.ref g)) P E s:=by
 have kj:g≠a:=λz=>ok.pin (a,BN "list" #[] e1) (by simp) z.symm
 have nc:∀(xs:Array AC) (n:Nat) v,(BN "list" xs n).data≠.cell v:=λ_ _ _ z=>nomatch z
 unfold ksk_rest;refine AA (PD ?_)
 first
  | rw[List.forIn_toArray]
  | (rw[<-Rc];simp only[List.toList_toArray])
  | rw[<-Rc]
 refine AA (ksk_fold (λi s'=>∃H' l e N,Inv X (ζ++[(a,BN "list" #[] e1)]++[(g,BN "list" l e)]) σ H' s'/\Lj H H'/\C7 l.toList N/\N.length=i) vs 0 s ⟨H,#[],0,[],I,λ_ _ e=>e,by simpa using C7.nil,rfl⟩ ?step ?done)
 case step=>
  rintro j x s' hx ⟨H',l,e,N,J,Q,R,hl⟩;have hj:j < vs.length:=(AD.mp hx).1
  have hz:l.size=j:=by
   have C:=R.length;rw[Aw]at C;omega
  refine AA (KJ (CZ (kf x s' H' ([(a,BN "list" #[] e1)]++[(g,BN "list" l e)]) (hv x (Bd hx)) (by rw[<-A0];exact J) Q) (λr S he=>?_) λ_ _ z=>z.elim));obtain⟨k,t,H2,rfl,U,hU⟩:=he;rw[<-A0]at U
  try dsimp only
  obtain⟨O,T,_⟩:=U.pin (g,BN "list" l e) (by simp)
  obtain⟨Y,dn⟩:∃Y,(S.heap.update g (B4 (·.push (.int k t)))).get? g=some (BN "list" (l.push (.int k t)) Y):=⟨_,N9 O (·.push (.int k t))⟩
  refine AA (HQ O rfl ?_ (by rw[JR];omega) (Ai (PV (Array.size_push ..)) (by rw[JR];omega)));have sb:=EO S.heap g (B4 (·.push (.int k t)))
  have J3:=(U.less).put1 (t':=S.toks) ok T (h':=S.heap.update g (B4 (·.push (.int k t)))) λc u B q=>(sb.2 c B).trans q
  refine AH ⟨rfl,H2,l.push (.int k t),Y,N++[k],J3.with1 ok dn T (nc _ _),Q.trans hU,?_,by rw[Ao,hl];simp⟩
  have ea:(l.push (Db k t)).toList=l.toList++[Db k t]:=by simp
  rw[ea];exact ints_snoc R
 case done=>
  rintro s' ⟨H',l,e,N,J,Q,R,hl⟩;obtain⟨O,T,_⟩:=J.pin (g,BN "list" l e) (by simp);obtain⟨na,cO,_⟩:=J.pin (a,BN "list" #[] e1) (by simp)
  try dsimp only
  refine AA (Lx O rfl ?_);obtain⟨m,F⟩:=J.fr
  have fresh:∀c,X.s₀.heap.objs.size<=c->X.base.get? c=none:=λc B=>Qb (Ai J.ok.bsz B)
  refine ksk_end_ (e:=e) (news:=(Ke X.base s'.heap X.env.locals).filter λp=>decide (p.1≠g)&&decide (p.1≠a)) F (λp G=>?_) kj (λp G=>?_) (λp G=>?_) R (by omega) iR λh' tk out c Z N' ko=>?_
  ·rcases A1.mp G with z | z
   ·exact UI p (BK.mp z).1
   ·rcases A7.mp z with rfl | z
    ·exact⟨O,ok.loc,fresh _ ok.new⟩
    ·rw[Ah.mp z]
     exact⟨na,L.loc,fresh _ L.new⟩
  ·have:=(BK.mp G).2
   simp only[Di,decide_eq_true_iff]at this;exact this.1
  ·have:=(BK.mp G).2
   simp only[Di,decide_eq_true_iff]at this;exact this.2
  ·have kept:∀b o,b≠X.env.locals->b≠g->b≠a->s'.heap.get? b=some o->h'.get? b=some o:=λb o C h2 h3 q=>by
    cases z:X.base.get? b with
    | some u=>
     have:=J.bk b u z;rw[q]at this;cases this;exact Z.keep b _ z
    | none=>exact(N' (b,o) (Aa _ (BK.mpr ⟨Of C z q,by simp[h2,h3]⟩))).1
   have nt:∀c u,H' c=some u->c≠X.env.locals/\c≠g/\c≠a:=λc u q=>⟨λz=>(by rw[z,J.free]at q;cases q),λz=>(by rw[z,T]at q;cases q),λz=>(by rw[z,cO]at q;cases q)⟩
   have J1:Inv X ζ σ H' { s' with heap:=h',toks:=tk }:=by
    refine((J.less).less).step (g':=s'.gens) (d':=s'.drawn) (t':=tk) (ch:=[g,a]) (λb hb=>?_) (λb o C _ B q _=>kept b o C (λz=>B (by simp[z])) (λz=>B (by simp[z])) q) (λb o C _ B q _=>⟨o.slots,kept b o C (λz=>B (by simp[z])) (λz=>B (by simp[z])) q⟩) (λ_ _ _ _ n=>n)
     (λb o B q=>?_) (λ_ _ q=>q) (λ_ _ _ q=>q) (λb ps q=>⟨#[],by rw[q];simp⟩) (λm' hm=>?_) (λb u q=>?_) J.bare
    ·rcases A7.mp hb with rfl | hb
     ·exact⟨.inr ok.new,ok.loc,ok.cel,λp G=>ok.pin p (by rw[<-A0];exact Cg _ G)⟩
     ·rw[Ah.mp hb]
      exact⟨.inr L.new,L.loc,L.cel,L.pin⟩
    ·by_cases z:b=X.env.locals
     ·obtain⟨o',_,_,df,_⟩:=Z.ns
      exact⟨o',by rw[z];exact df⟩
     ·exact⟨o,kept b o z (λz=>B (by simp[z])) (λz=>B (by simp[z])) q⟩
    ·rw[hm.eq_nsMap,<-F.ns.eq_nsMap];exact Z.ns
    ·refine(J.hok b u q).stay (λd v hd r=>?_) (λ_ z=>z) λ_ _ z=>z
     obtain⟨z1,z2,z3⟩:d≠X.env.locals/\d≠g/\d≠a:=by
      rcases hd with rfl | hd
      ·exact nt d u q
      ·exact nt d _ hd
     exact kept d v z1 z2 z3 r
   obtain⟨ps,p1,p2,_⟩:=ko;refine h H' _ out c J1 Q (N' _ Am).1 cO ?_;rw[p2];have:=p1.map Prod.snd;rw[VX (by omega)]at this;exact this
end
section
variable{X:Cx}{ζ:List (AL×Obj)}{σ:St}{H:Hp}{s:AF}
theorem SH{out vs:List AC}(g:out.Perm vs)(j:∀v∈vs,∃i t,v=Db i t):∃l:ZLi,BD (l.map V.int) out:=by
 have:∀out:List AC,(∀v∈out,∃i t,v=Db i t)->∃l:ZLi,BD (l.map V.int) out:=λout=>by
  induction out with
  | nil=>exact λ_=>⟨[],.nil⟩
  | cons v out m=>
   intro h
   obtain⟨l,o⟩:=m λu A=>h u (Aa _ A)
   obtain⟨i,t,rfl⟩:=h v Am;exact⟨i :: l,.cons ⟨t,rfl⟩ o⟩
 exact this out λv B=>j v (g.mem_iff.mp B)
theorem Ti{q r:AL}{n:Int}{t u v:Tok}{Q:AC->AF->Prop}(P:X.calm=true)(I:Inv X ζ σ H s)(kf:VU X ζ σ H (.ref q))(hr:IsRange s.heap r 0 n 1 t u v)(n0:0<=n)(iR:n < 64)
  (h:∀D H' s' (l:ZLi),Inv X ζ σ H' s'->Lj H H'->H D=none->H' D=some (.lst (l.map V.int))->l.length=n.toNat->Q (.ref D) s') :
  Ac (AW X.prog X.w) X.A (call (.builtin "sorted") [.ref r] [(B8 "key",.ref q)]) Q X.xe s:=by
 have hn:DZ 0 n 1=(n.toNat:Nat):=by rw[rangeSize_one];split <;> lia
 have hz:n.toNat<=sizeLine:=Ai (show n.toNat<=64 by lia) (by decide);refine call_function_entry_kw kind_sorted plain_sorted entry_sorted (ksk_s1 _ _) ?_;unfold Builtin.«sorted»;refine AA (m:=checkCount "sorted" 1 1 _) (AH (AA (Oz (A:=X.A.in1) (I.ok.hd P) hr (small_one (UV (by decide)) (Ul (by decide)) (UV (by lia)) (Ul (by lia))) hn (Ai (show n.toNat<=64 by lia) (by decide)) λg E B hk cR=>?_)));have C:B.size=n.toNat:=cR.1
 have N:∀v∈B.toList,∃i t,v=Db i t:=λv N=>by
  obtain⟨j,hj⟩:=List.getElem?_of_mem N;obtain⟨t,e⟩:=cR.2 j v (by simpa using hj);exact⟨_,t,e⟩
 have R:Inv X ζ σ H { s with heap:=g,toks:=E }:=I.kept hk
 have S:B.toList.length<=sizeLine:=by rw[Aw,C];exact hz
 refine AA (KI ?_ S)
 have I2:Inv X ζ σ H { s with heap:=g.push (BN "list" B.toList.toArray 0),toks:=E }:=R.kept λb o e=>AE _ e
 have G:(g.push (BN "list" B.toList.toArray 0)).get? g.objs.size=some (BN "list" B.toList.toArray 0):=AR _ rfl;have L:QT X ζ g.objs.size:=R.ours (AK _);have O:H g.objs.size=none:=R.hok.fresh (AK _);generalize hD:g.objs.size=D at G L O;refine AA (DW (wpAny_call_entry_kw slot_list_sort ⟨_,G,rfl⟩ bP ?body (ksk_l1 _ _)))
 case body=>
  show Ac (AW X.prog X.w) X.A.in1.in1 (Builtin.«list.sort» ⟨[.ref D],[(B8 "key",.ref q)]⟩) _ _ _;rw[ksk_t1];unfold ksk_tree;refine AA (Lx G rfl ?_);refine AA (HQ G rfl ?_ (by rw[AY];exact S) (CA _))
  obtain⟨T,eM⟩:∃T,((g.push (BN "list" B.toList.toArray 0)).update D (B4 λ_=>(#[]:Array AC))).get? D=some (BN "list" #[] T):=⟨_,N9 G λ_=>#[]⟩
  have sb:=EO (g.push (BN "list" B.toList.toArray 0)) D (B4 λ_=>(#[]:Array AC))
  have I3:=I2.put1 (t':=E) L O (h':=(g.push (BN "list" B.toList.toArray 0)).update D (B4 λ_=>(#[]:Array AC))) λc w P e=>(sb.2 c P).trans e
  refine AA (Ny eM rfl ?_);refine AA (wpAny_newTuple ?_ (by show B.toList.length<=_;exact S));refine AA (KI ?_ (CA _));refine DW ?_;dsimp only at I3 ⊢
  generalize (g.push (BN "list" B.toList.toArray 0)).update D (B4 λ_=>(#[]:Array AC))=U at *
  have nc:∀(xs:Array AC) (n:Nat) v,(BN "list" xs n).data≠.cell v:=λ_ _ _ z=>nomatch z
  have Y:=(I3.with1 (q:=(D,BN "list" #[] T)) L eM O (nc _ _)).kept (t':=E) (h':=U.push (BN "tuple" B.toList.toArray 0)) λb o e=>AE _ e
  have ok:=Y.ours (AK _);have gW:=Y.hok.fresh (AK _);have I5:=(Y.kept (t':=E) (h':=(U.push (BN "tuple" B.toList.toArray 0)).push (BN "list" #[] 0)) λb o e=>AE _ e).with1 (q:=((U.push (BN "tuple" B.toList.toArray 0)).objs.size,BN "list" #[] 0)) ok (AR _ rfl) gW (nc _ _)
  refine Rq I5 kf N (by rw[Aw,C];lia) L ok λH' s' out c J hE gu Z hp=>⟨_,rfl,AH ⟨_,rfl,?_⟩⟩
  obtain⟨l,hl⟩:=SH hp N
  have ln:l.length=n.toNat:=by
   have h1:=hl.length;have h2:=hp.length_eq
   have h3:B.toList.length=n.toNat:=by rw[Aw];exact C
   rw[AI]at h1;exact(h1.trans h2).trans h3
  have J2:=J.trackO (o:=.lst (l.map V.int)) L Z ⟨by rw[AI,ln];exact hz,out.toList,c,hl,by simpa using gu⟩;exact h D _ s' l J2 (λa o e=>by rw[BC λz=>(by subst z;rw[hE _ _ e]at Z;cases Z)];exact hE a o e) O BE ln
end
open PySem.W (envX kla_fn kla_obj CodeHd)
section
variable{X:Cx}{ζ:List (AL×Obj)}{σ:St}{H:Hp}{f c c':AL}{qual x y:Str}{params:Jq}{body:Expr}{scope:Fd}{pm cJ:AC}{k i:Nat}{cv:Int}{m:ME}
theorem Wm(S:RO scope x y)(P:De (k+3) X.A)(R:X.env.kindOf x=some .cell)(L:X.env.cells.lookup x=some c)(T:X.N[i]?=some x)(U:Vis X.env.scope x)(C:σ[i]?=some (some (.int cv)))
  (hb:∀v,JT (kla_fn "<lambda>" qual params body scope [(x,c)] pm (.ref c') cJ) ⟨[v],[]⟩=pure [(y,v)])
  (Y:∃s vs t,H c'=some (.frz s (.own 0))/\s.data=.fields vs/\vs[1]?=some (.str qual t))
  (Z:∀(g:AF) (B:Hp),PE (Oj X.prog X.w X.K X.mg X.base [x,y] qual scope f (.ref c') [(x,c)] X.A.in1.in1 X.stack g B) body (gE X.K noE m))
  (hm:∀j:Int,∃z:Int,m [sI cv,sI j] []=.ok (.int z) []) :
  VU X (ζ++[(f,Ly "<lambda>" qual params body scope [(x,c)] pm c' cJ)]) σ H (.ref f):=by
 rintro v g B more ⟨j,tj,rfl⟩ I hE;obtain⟨s,vs,t,h1,h2,h3⟩:=Y;have ho:=(I.pin (f,Ly "<lambda>" qual params body scope [(x,c)] pm c' cJ) (by simp)).1;have cp:g.heap.CodeRec (.ref c') qual:=⟨c',s,vs,t,rfl,(I.hok c' _ (hE _ _ h1)).1,h2,h3⟩;obtain⟨mm,_,hl⟩:=I.loc;obtain⟨u,ru,lk⟩:=hl i x _ T C U
 have cm:g.heap.IsCell c (some u):=by
  rcases lk with⟨z,_⟩ | ⟨_,c2,O,z2⟩
  ·rw[R]at z;cases z
  ·rw[L]at O;cases O;exact z2
 obtain⟨z,hz⟩:=hm j;refine PF (IM (UY (k:=k) (Q:=λr G=>r=.int z/\Lj B G) (E:=λ_ _ _=>False) (a:=.int cv) (b:=.int j) I.env0.in1.in1 P.in1.in1 S ho cp (hb _) cm (I.freeC x c L) ru ⟨tj,rfl⟩ (Z g B) ?_) λr s' l=>?_)
 ·refine⟨[],[sI cv,sI j],[],?_,⟨rfl,λ_ _ _ q=>by simp at q,λ_ _ _ q=>by simp at q⟩,?_⟩
  ·refine⟨rfl,λi d q=>?_⟩
   match i,q with
   | 0,q=>cases q;exact⟨_,rfl,.int _⟩
   | 1,q=>cases q;exact⟨_,rfl,.int _⟩
   | i+2,q=>simp at q
  ·rw[hz]
   intro ρ' H' xx le _ rr;cases rr;exact⟨rfl,λa o e=>(le.oth a o e λn=>by simp).1⟩
 ·cases r with
  | error e=>
   obtain⟨_,_,_,_,_,_,_,_,_,q⟩:=l;exact q.elim
  | ok fl=>
   cases fl with
   | ret w=>
    obtain⟨v',G,J,rv,rfl,hU⟩:=I.after l;obtain⟨t2,rfl⟩:=rv;exact⟨z,t2,G,rfl,J,hU⟩
   | next=>exact B3 l
   | brk=>exact B3 l
   | cont=>exact B3 l
end
section
variable{X:Cx}{a:Expr}{p p2 pos dk kp Gb:Pos}{ta:TA}{i k:Nat}{c cc tb:AL}{x y:Str}{params:Jq}{body:Expr}{scope:Fd}{m:ME}
def tRg(ta:TA):TE:=λj H Q=>ta j H λvs g=>∃n:Int,vs=[.int n]/\∀r,g r=none->Q (.ref r) (upd g r (.rng 0 n))
theorem aU(l:Gl X "range") (A:X.mg "range" = none) (B:PA X [a] ta) (C:AX [a] X.env=[(false,Bt a X.env)]:=by rfl):PE X (.Call (.Name "range" p2) [a] [] dk) (tRg ta):=by
 intro E s G H Q I J;refine Call_ (Hi I l A Xs (Cy (thn (B dk E s G H _ I J) λR S ⟨vs,L,g,N,O⟩=>?_) C rfl));obtain⟨j,e,q⟩:=O;subst e
 cases N with
 | cons r P=>
  cases P;obtain⟨t,rfl⟩:=r;refine call_range_1 ?_;exact⟨.ref _,upd L _ (.rng 0 j),g.laid (λb o e=>AE _ e) (AK _) ⟨_,_,_,AR _ rfl⟩,rfl,q _ (g.hok.fresh (AK _))⟩
theorem IZ.ext{H H':Hp}{p:AL}{pos:Pos}{qual:Str}(h:IZ H p pos qual)(e:Lj H H'):IZ H' p pos qual:=by
 obtain⟨g,j,l,s⟩:=h;refine⟨g,e _ _ j,l,s.imp id ?_⟩;rintro⟨c,o,vs,t,A,B,C⟩;exact⟨c,o,vs,t,A,e _ _ B,C⟩
def tSL(ta:TA)(i:Nat)(tb:AL)(Gb:Pos)(g:Str)(m:ME):TE:=λA H Q=>ta A H λvs o=>∃(r:AL) (n B:Int),vs=[.ref r]/\o r=some (.rng 0 n)/\0<=n/\n < 64/\A[i]?=some (some (.int B))/\(∀j:Int,∃z:Int,m [sI B,sI j] []=.ok (.int z) [])/\IZ o tb Gb g /\
 ∀(D:AL) (s:Hp) (l:ZLi),IZ s tb Gb g->Oth o s tb->o D=none->s D=some (.lst (l.map V.int))->l.length=n.toNat->Q (.ref D) s
theorem Py(hc:X.calm=true)(S:RO scope x y)(hr:De (k+3) X.A)(hg:Gl X "sorted") (hm:X.mg "sorted" = none) (ha:PA X [a] ta) (T:AX [a] X.env=[(false,Bt a X.env)])
  (hx:X.env.kindOf x=some .cell) (gf:X.env.cells.lookup x=some c) (hN:X.N[i]?=some x) (hv:Vis X.env.scope x) (cp:X.env.code=.ref cc) (C:CodeHd X.base cc tb) (B:X.base.BuiltinsAt X.mg tb)
  (cT:PM scope X.env=pure [(x,c)]) (dD:defaultsOf params X.env=([],[]))
  (hb:∀(g:AL) (j v:AC),JT (kla_fn "<lambda>" (X.env.qual++"<lambda>") params body scope [(x,c)] ((X.mg "__name__").getD .none) (.ref g) j) ⟨[v],[]⟩=pure [(y,v)])
  (bu:∀(f g:AL) (U:AF) (E:Hp),PE (Oj X.prog X.w X.K X.mg X.base [x,y] (X.env.qual++"<lambda>") scope f (.ref g) [(x,c)] X.A.in1.in1 X.stack U E) body (gE X.K noE m)) :
  PE X (.Call (.Name "sorted" p) [a] [⟨some "key",.Lambda params body scope Gb,kp⟩] pos) (tSL ta i tb Gb (X.env.qual++"<lambda>") m):=by
 intro ζ s σ H Q I h;refine DK (Hi I hg hm Jk ?_ (by decide) (by decide));refine callWith_kw (thn (ha pos ζ s σ H _ I h) λus U ⟨vs,E,Y,r1,q1⟩=>?_) (by rw[T];rfl) (by rw[T];rfl) rfl rfl;obtain⟨r,n,cv,rfl,Z,n0,G,L,hM,hT,q⟩:=q1;obtain⟨u,rfl,ru⟩:=vals1 r1;cases ru;refine kws_cons ?_
 refine UX Y hT cp C B cT dD λf g j H2 s2 I2 iS O cg eV kl km=>?_
 refine kws_nil ?_;show Ac _ _ (call (.builtin "sorted") [.ref r] [(B8 "key",.ref f)]) _ _ _
 have P:r≠tb:=λz=>by
  obtain⟨ps,e,_⟩:=hT;rw[<-z,Z]at e;cases e
 obtain⟨t,u,v,kn⟩:=I2.hok r _ (O.same _ _ Z P)
 have I3:=I2.with1 (q:=(f,Ly "<lambda>" (X.env.qual++"<lambda>") params body scope [(x,c)] ((X.mg "__name__").getD .none) g j)) (Y.ours cg) kl eV λ_ z=>nomatch z
 refine Ti hc I3 (Wm S hr hx gf hN hv L (hb g j) km (bu f g) hM) kn n0 G λD H' s' l J hE R hD hl=>?_
 refine⟨.ref D,H',J.less,rfl,q D H' l (iS.ext hE) ⟨λb o e hV=>hE _ _ (O.same _ _ e hV)⟩ ?_ hD hl⟩
 cases z:E D with
 | none=>rfl
 | some o=>
  by_cases e:D=tb
  ·obtain⟨ps,e2,_⟩:=iS
   rw[<-e,R]at e2;cases e2
  ·rw[O.same _ _ z e]at R
   cases R
end
def Xl(B:ME)(C:Nat)(g:ME)(tb:AL)(pos:Pos)(m:Str)(t j:Nat)(b:MS)(e:Lo)(S:Sto):Prop:=∃q,e[t]?=some (some (.ref q))/\S[q]?=some (.cod tb pos m)/\∃n A:Int,B e S=.ok (.int n) S/\0<=n/\n < 64/\e[C]?=some (some (.int A))/\(∀z:Int,∃w:Int,g [sI A,sI z] []=.ok (.int w) []) /\
 ∀l:ZLi,l.length=n.toNat->∃o s,b (e.set j (some (.ref S.length))) (S++[.lst (l.map D.int)])=.ok (.nx o) s/\(∀i d,i≠j->e[i]?=some (some d)->o[i]?=some (some d))/\o.length=e.length/\S.length<=s.length/\∀k,k < S.length->s[k]?=S[k]?
open Classical in
def Tl(m:ME)(o:Nat)(g:ME)(tb:AL)(pos:Pos)(l:Str)(t j:Nat)(b:MS):MS:=λe S=>if Xl m o g tb pos l t j b e S then .ok (.nx (e.set j none)) S else .bad
section
variable{K:AB}{ρ ρ2:List AL}{H H' H2:Hp}{S S':Sto}{e e':Lo}{σ σ':St}{tb dq:AL}{pos:Pos}{qual:Str}{l:ZLi}{j q:Nat}
theorem BQ.cod0(m:BQ K ρ S H)(o:S[q]?=some (.cod tb pos qual)):ρ[q]?=some tb/\IZ H tb pos qual:=by
 have s:q < ρ.length:=by rw[m.len];exact(AD.mp o).1
 have g:=A2 s;generalize ρ[q]=a at g;obtain⟨A,B⟩:=m.ob q _ _ o g;subst A;exact⟨g,B⟩
theorem BQ.lam(m:BQ K ρ S H)(L:S[q]?=some (.cod tb pos qual))(Q:IZ H' tb pos qual)(C:Oth H H' tb)(N:H dq=none)(R:H' dq=some (.lst (l.map V.int))):BQ K (ρ++[dq]) (S++[.lst (l.map D.int)]) H':=by
 obtain⟨O,ps,P,_⟩:=m.cod0 L
 have T:∀a E,H a=some (.tup E)->H' a=some (.tup E):=λa E e=>C.same _ _ e λz=>by rw[z,P]at e;cases e
 have U:∀a o u,H a=some (.frz o u)->H' a=some (.frz o u):=λa o u e=>C.same _ _ e λz=>by rw[z,P]at e;cases e
 have has:∀(n:Nat) a,ρ[n]?=some a->H a≠none:=λn a h=>by
  have G:n < S.length:=by rw[<-m.len];exact(AD.mp h).1
  exact(m.ob n _ a (A2 G) h).has
 have I:∀(n:Nat) a,ρ[n]?=some a->(ρ++[dq])[n]?=some a:=λn a h=>by rw[AN (AD.mp h).1];exact h
 have cut:∀(n:Nat) a,(ρ++[dq])[n]?=some a->ρ[n]?=some a∨(n=ρ.length/\a=dq):=λn a h=>by
  by_cases c:n < ρ.length
  ·rw[AN c]at h;exact .inl h
  ·rw[Ae (Ex c)]at h
   have X:=(AD.mp h).1;rw[DI]at X
   have A:n=ρ.length:=by lia
   subst A;rw[HS]at h;cases h;exact .inr ⟨rfl,rfl⟩
 refine⟨by rw[Ao,Ao,m.len];rfl,λi k a s A=>?_,λn o a s A=>?_⟩
 ·rcases cut i a s with g | ⟨g,J⟩ <;> rcases cut k a A with B | ⟨B,Y⟩
  ·exact m.nd i k a g B
  ·exact zX (Y▸N) (has i a g)
  ·exact zX (J▸N) (has k a B)
  ·rw[g,B]
 ·rcases cut n a A with g | ⟨g,J⟩
  ·have G:n < S.length:=by rw[<-m.len];exact(AD.mp g).1
   rw[AN G]at s
   by_cases z:n=q
   ·subst z
    rw[L]at s;cases s;rw[O]at g;cases g;exact⟨rfl,Q⟩
   ·have Z:a≠tb:=λy=>z (m.nd n q a g (by rw[y];exact O))
    have r:=m.ob n o a s g
    have hh:H' a=H a:=by
     cases q:H a with
     | none=>exact zX q r.has
     | some u=>exact C.same _ _ q Z
    exact(r.keep T U hh).mono' I
  ·subst g J
   rw[m.len,Ae (AK _),HS]at s;cases s;exact⟨_,R,Ab.of_ints l⟩
theorem UZ(s:BQ K ρ S H)(I:DF K ρ H e σ)(J:S[q]?=some (.cod tb pos qual))(A:Oth H H' tb)(L:H dq=none)(le:Le K (ρ++[dq]) H' ρ2 H2)(N:BQ K ρ2 S' H2)(C:DF K ρ2 H2 e' σ')
  (X:S.length<=S'.length) (O:∀k,k < S.length->S'[k]?=S[k]?) (P:∀i d,i≠j->e[i]?=some (some d)->e'[i]?=some (some d)) (Q:e'.length=e.length):Le K ρ H ρ H2/\BQ K ρ S H2/\DF K ρ H2 (e.set j none) σ':=by
 obtain⟨R,Y,E,_⟩:=s.cod0 J
 have g:∀(n:Nat) a,ρ[n]?=some a->ρ2[n]?=some a:=λn a h=>le.pre n a (by rw[AN (AD.mp h).1];exact h)
 refine⟨⟨λ_ _ h=>h,λa Z q=>le.tup _ _ (A.same _ _ q λz=>(by rw[z,E]at q;cases q)),λa o u q=>le.frz _ _ _ (A.same _ _ q λz=>(by rw[z,E]at q;cases q)),λa o y m=>⟨(le.oth a o (A.same _ _ y λz=>m q (by rw[z];exact R)) λn h=>?_).1,m⟩⟩,⟨s.len,s.nd,λn o a B G=>?_⟩,⟨?_,λi d h=>?_⟩⟩
 ·by_cases c:n < ρ.length
  ·rw[AN c]at h;exact m n h
  ·rw[Ae (Ex c)]at h
   have:=Bd h;rw[Ah.mp this,L]at y;cases y
 ·have m:n < S.length:=(AD.mp B).1
  exact(s.ob n o a B G).cut g (N.ob n o a (by rw[O n m];exact B) (g n a G))
 ·rw[Cb,<-Q];exact C.len
 ·by_cases z:i=j
  ·subst z
   rw[Ch]at h;simp at h
  ·rw[Ag (B2 z)]at h
   obtain⟨v0,_,T⟩:=I.at' i d h;obtain⟨v,U,r⟩:=C.at' i d (P i d z h);exact⟨v,U,T.cut g r⟩
end
section
variable{X:Cx}{a:Expr}{p p2 pos fF dk pos' Gb:Pos}{i j k t:Nat}{tb:AL}{pn:Str}{scope:Fd}{m mn:ME}{B:DM}{b:MS}{ks:List TD}
theorem Wr(hN:X.N.Nodup)(hj:X.N[j]?=some pn)(hp:Loc X.env.scope pn)
  (pe:PE X (.Call (.Name "sorted" p) [.Call (.Name "range" p2) [a] [] dk] ks pos) (tSL (Td (tRg (gA X.K noE (AS mn BA))) YF) i tb Gb (X.env.qual++"<lambda>") m)) (hB:GS X noE B b)
  (hs:DX (.Call (.Name "sorted" p) [.Call (.Name "range" p2) [a] [] dk] ks pos) (some (.Name pn pos')) fF.line X.env=pure false:=by rfl)
  (hf:X.fn pn=true∨X.env.scope.names.lookup pn=some .local:=by first | exact .inl rfl | exact .inr rfl | assumption) :
  GSs X noE [.Assign [.Name pn pos'] (.Call (.Name "sorted" p) [.Call (.Name "range" p2) [a] [] dk] ks pos) fF,B] (Tl mn i m tb Gb (X.env.qual++"<lambda>") t j b):=by
 intro ζ s O H D I ⟨ρ,e,S,hl,hS,P⟩;refine OW (Tz hN hj hp pe hs hf) (Qs hB) ζ s O H D I ?_;unfold Tl at P;split at P
 ·rename_i ok
  obtain⟨_,_,T,n,cv,hn,n0,U,ku,hg,hb⟩:=ok
  have kx:∀C H' E,Le X.K ρ H C H'->BQ X.K C S H'->DF X.K C H' (e.set j none) E->D.nx E H':=P
  show tSL (Td (tRg (gA X.K noE (AS mn BA))) YF) i tb Gb (X.env.qual++"<lambda>") m O H λv A=>gS X.K noE b D (O.set j (some v)) A
  have e1:AS mn BA e S=.ok [.int n] S:=by unfold AS;rw[hn];rfl
  refine⟨ρ,e,S,hl,hS,?_⟩;rw[e1];intro g A xs l1 Q r1
  obtain⟨v,_,rfl,r,Y⟩:∃v vs,xs=v :: vs/\BI X.K g A (.int n) v/\Ab X.K g A [] vs:=by
   cases r1 with
   | cons r Y=>exact⟨_,_,rfl,r,Y⟩
  cases Y;cases r;refine⟨n,rfl,λr hr=>?_⟩;obtain⟨ht,hT⟩:=Q.cod0 T
  have G:∀a o,A a=some o->upd A r (.rng 0 n) a=some o:=λa o q=>by rw[BC (CC q hr)];exact q
  have J:=hl.mono l1;obtain⟨vv,Z,hv2⟩:=J.at' i _ ku;cases hv2;refine⟨r,n,cv,rfl,BE,n0,U,Z,hg,hT.ext G,λq H' l hT' hO hq hq' hln=>?_⟩
  have fG:A q=none:=by
   by_cases z:q=r
   ·rw[z];exact hr
   ·rw[BC z]at hq;exact hq
  have R:Oth A H' tb:=⟨λa o w ei=>hO.same _ _ (G _ _ w) ei⟩;have s2:=Q.lam (l:=l) T hT' R fG hq';obtain⟨e',S',b1,b2,b3,b4,b5⟩:=hb l hln;have len:g.length=S.length:=Q.len
  have l2:DF X.K (g++[q]) H' (e.set j (some (.ref S.length))) (O.set j (some (.ref q))):=by
   refine⟨by rw[Cb,Cb];exact J.len,λk d L=>?_⟩
   by_cases z:k=j
   ·subst z
    rw[Ch]at L;simp at L;obtain⟨lt,rfl⟩:=L;refine⟨.ref q,by rw[Av (by rw[<-J.len];exact lt)],.ref ?_⟩;rw[<-len,Ae (AK _),HS];rfl
   ·rw[Ag (B2 z)]at L
    obtain⟨v,w1,w2⟩:=J.at' k d L;refine⟨v,by rw[Ag (B2 z)];exact w1,?_⟩;obtain⟨ps,q1,_⟩:=hT
    exact(w2.keep (λa xs w=>R.same _ _ w λz=>(by rw[z,q1]at w;cases w)) (λa o u w=>R.same _ _ w λz=>(by rw[z,q1]at w;cases w))).more λn a h=>by rw[AN (AD.mp h).1];exact h
  refine⟨g++[q],_,_,l2,s2,?_⟩;rw[b1];intro ρ2 H2 σ2 l3 s3 r3;obtain⟨w1,w2,w3⟩:=UZ Q J T R fG l3 s3 r3 b4 b5 b2 b3;exact kx g H2 σ2 (l1.trans w1) w2 w3
 ·exact P.elim
end
open PySem.W (CodeHd tabObj)
theorem Y2{g:Fd}{x y:Str}(j:g.kind=.function:=by rfl)(l:g.isCoroutine=false:=by rfl)(m:g.isGenerator=false:=by rfl)(o:∀z∈g.names,z.2≠.cell:=by decide +kernel)(s:g.names.lookup y=some .local:=by rfl)(A:g.names.lookup x=some .free:=by rfl)
  (B:∀z∈g.names,z.2=.free->z.1=x:=by decide +kernel) (C:x≠y:=by decide):RO g x y:=⟨j,l,m,o,s,A,λz E=>B _ (Bj E) rfl,C⟩
def V9(n t:Nat)(j:MS)(ds:List D)(S:Sto):Res D:=(okR (j ((Ck n ds).set t (some (.ref 0))) S)).bind λf g=>match f with
 | .rt d=>.ok d g
 | .nx _=>.ok .non g
 | _=>.bad
def spT(K:AB)(tb:AL)(pos:Pos)(lq:Str):Sp:=λvs H Q _=>∃(a:AL) (g:ZLi),vs=[.ref a]/\MR K H a (g.map V.int)/\g.length<=63/\IZ H tb pos lq/\∀j,Q (.bl true) j
section
variable{P:Aq}{w:A9}{K:AB}{mg:Str->Option AC}{base:BY}{X:Cx}{ζ:List (AL×Obj)}{σ:St}{H:Hp}{s:AF}
theorem Inv.ghost{t:Nat}{j:Str}{v:V}(I:Inv X ζ σ H s)(A:X.N[t]?=some j)(B:¬Vis X.env.scope j):Inv X ζ (σ.set t (some v)) H s:=by
 obtain⟨m,C,E⟩:=I.loc;refine⟨I.ok,I.os,I.bare,I.base,⟨m,C,λi x u g l o=>?_⟩,I.cell,I.free,I.freeC,I.pin,I.hok,by rw[Cb];exact I.len⟩
 by_cases z:i=t
 ·subst z
  rw[A]at g;cases g;exact zX o B
 ·rw[Ag (B2 z)]at l
  exact E i x u g l o
theorem ZP{x m tn lq:Str}{st:DM}{f cc tb:AL}{fd:EJ}{N:List Str}{k t:Nat}{pos:Pos}(F:Fun K x m st f fd)(Sc:B9 N ["script"] (A6 st)) (hT:N[t]?=some tn) (hv:¬Vis (A6 st) tn) (hc:fd.code=.ref cc) {O:MS}
  (bu:∀(A:A4) (g:List Env) (s:AF) (H:Hp) (E:XK),De k (A.deeper (Fs m (A6 st) s.heap.objs.size f (.ref cc)))->(A.deeper (Fs m (A6 st) s.heap.objs.size f (.ref cc))).units+64 < C9->N.Nodup ->
   GSs (Ov (CXG P w) P w K mg base N m (A6 st) f (.ref cc) A g s H E).q noE (Ef st) O)
  (good:∀ns:ZLi,ns.length<=63->∃R,V9 N.length t O [.fro (ns.map D.int)] [.cod tb pos lq]=.ok (.bl true) R) :
  EZ P w K mg base (CXG P w) (k+1) f fd ["script"] (spT K tb pos lq):=by
 obtain⟨oc,od,kV,doc,pm,an,br,ct,di,rfl,lk,cp⟩:=F.ex;obtain rfl:br=.ref cc:=hc
 refine Xi lk cp Sc (λvs H Q E h=>by obtain⟨a,ns,rfl,_⟩:=h;rfl) λA g s H vs Q E G h=>?_
 obtain⟨a,ns,rfl,hS,hl,hC,q⟩:=h;have hb:=bu A g s H E G G.units Sc.nd;have r:Ab K [tb] H [.fro (ns.map D.int)] [.ref a]:=.cons (.fro hS (Ab.of_ints ns)) .nil
 have rs:BQ K [tb] [.cod tb pos lq] H:=⟨rfl,λi j a B hj=>by
  have e1:=(AD.mp B).1;have e2:=(AD.mp hj).1;simp at e1 e2
  rw[e1,e2],λn o a L S=>by
  match n,L,S with
  | 0,L,S=>cases L;cases S;exact⟨rfl,hC⟩
  | n+1,L,S=>simp at L⟩
 have rl:DF K [tb] H ((Ck N.length [.fro (ns.map D.int)]).set t (some (.ref 0))) ((start N [.ref a]).set t (some (.ref tb))):=by
  have T:=Ku (N:=N) r;refine⟨by rw[Cb,Cb];exact T.len,λi d B=>?_⟩
  by_cases z:i=t
  ·subst z
   rw[Ch]at B;simp at B;obtain⟨lt,rfl⟩:=B;exact⟨.ref tb,by rw[Av (by rw[<-T.len];exact lt)],.ref rfl⟩
  ·rw[Ag (B2 z)]at B
   rw[Ag (B2 z)];exact T.at' i d B
 obtain⟨R,e⟩:=good ns hl;refine⟨λD σ H=>gS K noE O D (σ.set t (some (.ref tb))) H,λζ s' σ U D I q=>CZ (hb ζ s' _ U D ((I.ghost hT hv).with _) q) (λY s1 z=>?_) λe s1 z=>z.elim,[tb],_,_,rl,rs,?_⟩
 ·cases Y with
  | next=>obtain⟨l,C,J,z⟩:=z;exact⟨l,C,J.without,z⟩
  | brk=>obtain⟨l,C,J,z⟩:=z;exact⟨l,C,J.without,z⟩
  | cont=>obtain⟨l,C,J,z⟩:=z;exact⟨l,C,J.without,z⟩
  | ret u=>obtain⟨v,l,C,J,r,z⟩:=z;exact⟨v,l,C,J.without,r,z⟩
 ·unfold V9 at e
  cases G:O ((Ck N.length [.fro (ns.map D.int)]).set t (some (.ref 0))) [.cod tb pos lq]with
  | bad=>rw[G]at e;cases e
  | err c R=>rw[G]at e;cases e
  | ok Y R=>
   rw[G]at e
   cases Y with
   | nx Z=>cases e
   | rt d=>cases e;exact λρ' U x _ _ r=>by cases r;exact q U
   | bk Z=>cases e
   | ct Z=>cases e
   | ex c Z=>cases e
theorem SB{Y:Str->Option AC}{k:Nat}{Z a cc tb:AL}{fd:EJ}{x lq:Str}{pos:Pos}{s₁:AF}{vs:List AC}{ns:ZLi}
  (KX:K.In s₁.heap) (dr:s₁.heap.Ns Ay mg) (hb:s₁.heap.Ns IN Y) (gZ:∀x:Str,x≠"__name__"->Y x=Dy x) (hW:s₁.heap.NoLimit) (hg:s₁.gens = #[])
  (hC:CodeHd s₁.heap cc tb) (C:s₁.heap.get? tb=some (PH #[])) (gw:K.lookup tb=none)
  (hB:∃I ob,mg "__builtins__" = some (.ref I)/\I≠IN/\s₁.heap.get? I=some ob/\ob.cls=.type "module"/\ob.dict=some IN/\ob.data=.plain)
  (A:s₁.heap.get? a=some { cls:=.type "list",data:=.seq vs.toArray }) (hi:C7 vs ns) (hl:ns.length<=63) (hr:De k Lz)
  (F:∀base:BY,K.In base->base.Ns Ay mg->CodeHd base cc tb->base.BuiltinsAt mg tb->EZ P w K mg base (CXG P w) k Z fd [x] (spT K tb pos lq)) (fH:∀(s:AF) (u:AC),O8 s fd ⟨[u],[]⟩ [(x,u)]) :
  Dx (AW P w) Lz (.call (.ref Z) ⟨[.ref a],[]⟩) (λr s'=>r=.ok (.ret (.bool true))/\OldK s₁.heap s'.heap/\s'.os=s₁.os/\GU s'.gens) s₁:=by
 have rv:=MZ hi;have hX:=hi.length
 have iT:a≠tb:=λz=>by rw[z,C]at A;cases A
 have l:∀H:Hp,(∀b,b≠tb->H b=none∨∃o E,H b=some (.frz o (.lst E)))->H tb=some (.tbl #[])->MR K H a (ns.map V.int)->HOk P w H s₁.heap->(∀b,H b≠none->b=a∨b=tb)->(H a≠none->K.lookup a=none) ->
   Dx (AW P w) Lz (.call (.ref Z) ⟨[.ref a],[]⟩) (λr s'=>r=.ok (.ret (.bool true))/\OldK s₁.heap s'.heap/\s'.os=s₁.os/\GU s'.gens) s₁:=by
  intro H hO hZ hS J hA hK
  have R:∀{b:AL} {o:Obj},s₁.heap.get? b=some o->H b=none->(LW s₁.heap H).get? b=some o:=λe n=>Uk e n
  have free:∀{b:AL},b≠a->b≠tb->H b=none:=λ{b} G h2=>by
   cases q:H b with
   | none=>rfl
   | some u=>rcases hA b (by rw[q];simp)with z | z;exact zX z G;exact zX z h2
  have oth:∀{b:AL} {o:Obj},s₁.heap.get? b=some o->(∀E n,o.data≠.seq E n)->(∀E,o.data≠.fields E)->H b=none:=λ{b o} e d1 d2=>free (λz=>by
   rw[z,A]at e;cases e;exact d1 _ _ rfl) λz=>by rw[z,C]at e;cases e;exact d2 _ rfl
  have S:∀{b:AL} {m:Str->Option AC},s₁.heap.Ns b m->(LW s₁.heap H).Ns b m:=λ{b m} ⟨o,es,ep,e,d,r⟩=>⟨o,es,ep,R e (oth e (λ_ _ z=>by rw[d]at z;cases z) λ_ z=>by rw[d]at z;cases z),d,r⟩
  have iU:K.In (LW s₁.heap H):=λb o e=>R (KX b o e) (by
   by_cases G:b=tb
   ·rw[G,gw]at e;cases e
   ·cases q:H b with
    | none=>rfl
    | some u=>
     rcases hA b (by rw[q];simp)with z | z
     ·subst z;rw[hK (by rw[q];simp)]at e;cases e
     ·exact zX z G)
  have hM:Mod K mg (LW s₁.heap H):=⟨iU,S dr,⟨Y,S hb,gZ⟩,let ⟨mc,G,h2⟩:=hW;⟨mc,S G,h2⟩⟩
  have cp:CodeHd (LW s₁.heap H) cc tb:=by
   obtain⟨o,ws,L,tf,B,tg,kB,N,tt,e,T,r⟩:=hC;have ei:cc≠tb:=r.2.2.2.2.2.2.2;refine⟨o,ws,L,tf,B,tg,kB,N,tt,R e (free (λz=>?_) ei),T,r⟩;rw[z,A]at e;cases e;exact zX (Ei.inj T) (by decide)
  have hV:(LW s₁.heap H).BuiltinsAt mg tb:=by
   obtain⟨I,ob,b1,b2,b3,b4,b5,U⟩:=hB
   have n0:=oth b3 (λ_ _ z=>by rw[U]at z;cases z) λ_ z=>by rw[U]at z;cases z
   refine⟨I,ob,b1,b2,λz=>?_,λz=>?_,R b3 n0,b4,b5,U⟩
   ·obtain⟨o,es,ep,e,d,_⟩:=dr
    rw[<-z,b3]at e;cases e;rw[U]at d;cases d
   ·rw[z,hZ]at n0;cases n0
  have e0:Ll P w K mg (LW s₁.heap H) Lz [] s₁ H:=⟨rfl,hM,λb o e=>Wb e,PV (SJ _ _),trivial,λb hb=>zX (show b∈([]:List AL)from hb) (by simp),J,.of_eq hg⟩;have kC:IZ H tb pos lq:=⟨#[],hZ,trivial,.inl rfl⟩
  refine IM ((F _ iU (S dr) cp hV).run Lz [] s₁ H ⟨[.ref a],[]⟩ [.ref a] [.ref a] (λv _=>v=.bl true) (λ_ _ _=>False) hr e0 (fH s₁ (.ref a)) (.cons rfl .nil) ⟨a,ns,rfl,hS,hl,kC,λ_=>rfl⟩) λr s' h=>?_
  cases r with
  | error e=>exact(ZW h).elim
  | ok fl=>
   cases fl with
   | next=>exact B3 h
   | brk=>exact B3 h
   | cont=>exact B3 h
   | ret u=>
    obtain⟨v,H',os,O,un,fI,r',q⟩:=h;have q':v=.bl true:=q;subst q';obtain rfl:u=Ii true:=r'
    have kD:∀b:AL,b∉frs ([]:List Env):=λb z=>zX (show b∈([]:List AL)from z) (by simp)
    have Q:∀b o,b≠tb->s₁.heap.get? b=some o->s'.heap.get? b=some o:=λb o hb e=>by
     rcases hO b hb with z | ⟨ob,E,z⟩
     ·exact un.keep b o e z (kD b) (by simp)
     ·have z2:=un.frzs b ob _ z
      obtain⟨e1,_⟩:=J b _ z;obtain⟨T,_⟩:=fI b _ z2;rw[e]at e1;cases e1;exact T
    obtain⟨more,hm⟩:=un.tbls tb _ hZ;have ht:s'.heap.get? tb=some (PH (#[]++more)):=fI tb _ hm;refine⟨rfl,⟨λb o e=>?_,λb o e=>?_⟩,os,O⟩
    ·by_cases z:b=tb
     ·subst z
      rw[C]at e;cases e;exact .inr (.inl ⟨(hC.tab C).isCodeTable,rfl,#[],more,rfl,ht⟩)
     ·exact .inl (Q b o z e)
    ·by_cases z:b=tb
     ·subst z;exact⟨_,ht⟩
     ·exact⟨o,Q b o z e⟩
 cases hk:K.lookup a with
 | some o=>
  have e:=KX a o hk;rw[A]at e;cases e
  refine l (λb=>if b=tb then some (.tbl #[])else none) (λb hb=>.inl (qY hb)) (qX rfl) (.inr ⟨_,vs.toArray,_,hk,rfl,rfl,rfl,by rw[AY,hX];exact Ai hl (by decide),by simpa using rv⟩) (λb u z=>?_) (λb z=>?_) λz=>zX (qY iT) z
  ·by_cases hb:b=tb
   ·have j:=(qX hb).symm.trans z
    cases j;rw[hb];exact C
   ·have j:=(qY hb).symm.trans z
    cases j
  ·by_cases hb:b=tb
   ·exact .inr hb
   ·exact zX (qY hb) z
 | none=>
  refine l (λb=>if b=tb then some (.tbl #[])else if b=a then some (.frz { cls:=.type "list",data:=.seq vs.toArray } (.lst (ns.map V.int)))else none) (λb g=>?_) (qX rfl) (.inl ⟨{ cls:=.type "list",data:=.seq vs.toArray },(qY iT).trans (qX rfl)⟩) (λb u z=>?_) (λb z=>?_) λ_=>hk
  ·by_cases hb:b=a
   ·exact .inr ⟨_,_,(qY g).trans (qX hb)⟩
   ·exact .inl ((qY g).trans (qY hb))
  ·by_cases g:b=tb
   ·have j:=(qX g).symm.trans z
    cases j;rw[g];exact C
   ·by_cases hb:b=a
    ·have j:=((qY g).trans (qX hb)).symm.trans z
     cases j;subst hb;exact⟨A,by rw[AI];exact Ai hl (by decide),vs,_,rv,A⟩
    ·have j:=((qY g).trans (qY hb)).symm.trans z
     cases j
  ·by_cases g:b=tb
   ·exact .inr g
   ·by_cases hb:b=a
    ·exact .inl hb
    ·exact zX ((qY g).trans (qY hb)) z
theorem Yx{K:AB}{h:BY}{tb:AL}(X:K.In h)(g:h.get? tb=some (PH #[]))(j:Sz K=true):K.lookup tb=none:=by
 cases e:K.lookup tb with
 | none=>rfl
 | some o=>
  have q:=X _ _ e;rw[g]at q;cases q;have l:=HF.mp j _ (PySem.W.mem_of_lookupK e);exact zX (show false=true from l) AZ
theorem TL{l:PySem.W.OpenLaw}{k:Nat}{q:Aq}{j:List Str}{N:(Str->Option AC)->BY->Prop}{I:A9->BY->Prop}{d:DefRec}{K:Params->AB}{x lq:Str}{cc tb:AL}{pos:Pos}
  (O:l.most=some 63) (Q:d.params.defaults=[]) (R:De k Lz)
  (S:∀(w:A9) (h:BY),I w h->(K w.params).In h)
  (B:∀(w:A9) (h:BY),I w h->h.get? tb=some (PH #[])) (U:∀w:A9,PySem.W.codeHdIn (K w.params) cc tb=true) (Z:∀w:A9,Sz (K w.params)=true)
  (F:∀(w:A9) (mg:Str->Option AC) (C:AL) (h:BY),(K w.params).In h->h.Ns Ay mg->mg d.name=some (.ref C) ->
   ∃fd:EJ,(∀(s:AF) (u:AC),O8 s fd ⟨[u],[]⟩ [(x,u)]) /\
    ∀base:BY,(K w.params).In base->base.Ns Ay mg->CodeHd base cc tb->base.BuiltinsAt mg tb->EZ l.prog w (K w.params) mg base (CXG l.prog w) k C fd [x] (spT (K w.params) tb pos lq)) :
  PySem.W.WalkO q j N I l.row.toRowW d [] (λf vs=>RU f vs):=by
 refine Att.O1 O Q λw J L mg mb C o pm cd doc a vs ns G Y ho hd cp dU eh m A hg=>?_
 have E:=S w _ Y;obtain⟨fd,hb,hF⟩:=F w mg C _ E G.T.g dU;have B:=B w _ Y;exact SB E G.T.g G.T.b G.T.builtins G.T.nolimit hg (PySem.W.codeHd_of_K E (U w)) B (Yx E B (Z w)) G.T.bmain eh m A R hF hb
end
end L2
namespace L4
open L2
inductive Cel where
 | no | fz (o:Ob) | ow (i:Nat)
abbrev Fz:=Nat->Cel
inductive Sl where
 | u | v (d:D) | z (o:Ob) | y (o:Ob) | w (i:Nat) (o:Ob) | q (P:(Nat->Option Ob)->D->Prop)
def Sl.ok(S0:Sto)(F:Fz)(S:Sto):Sl->Option D->Prop
 | .u,_=>True
 | .v d,x=>x=some d
 | .z o,x=>∃n,x=some (.ref n)/\F n=.fz o
 | .y o,x=>∃n,x=some (.ref n)/\F n=.fz o/\S0.length<=n
 | .w i o,x=>∃n,x=some (.ref n)/\F n=.ow i/\S[n]?=some o
 | .q P,x=>∃d,x=some d/\∀L:Nat->Option Ob,(∀n o,F n=.fz o->L n=some o)->P L d
structure Vs(S0:Sto)(A:List Sl)(e:Lo)(F:Fz)(S:Sto):Prop where
 kp:Keeps S0 S
 fz:∀n o,F n=.fz o->S[n]?=some o
 ow:∀n i,F n=.ow i->S0.length<=n/\n < S.length
 hi:∀n,S.length<=n->F n=.no
 sl:∀(i:Nat) (a:Sl),A[i]?=some a->∃x,e[i]?=some x/\a.ok S0 F S x
def Fle(F g:Fz):Prop:=∀n o,F n=.fz o->g n=.fz o
theorem Fle.refl(F:Fz):Fle F F:=λ_ _ h=>h
theorem Fle.trans(a:Fle F G)(b:Fle G H):Fle F H:=λn o h=>b n o (a n o h)
def LY(F:Fz)(S g:Sto):Fz:=λn=>if n < S.length then F n else match g[n]? with
 | some o=>.fz o
 | none=>.no
section
variable{S0 S S':Sto}{A B:List Sl}{e:Lo}{F:Fz}{α β γ ρ σ τ:Type}
theorem Ho(h:n < S.length):LY F S S' n=F n:=qX h
theorem U1(h:S.length<=n)(ho:S'[n]?=some o):LY F S S' n=.fz o:=by
 unfold LY;rw[qY (Ew.mpr h),ho]
theorem En(h:S[n]?=some o):n < S.length:=(AD.mp h).1
theorem Sl.mono{S0:Sto}{F l:Fz}{S S':Sto}{a:Sl}{x:Option D}(h:a.ok S0 F S x)(m:∀n o,F n=.fz o->l n=.fz o)(C:∀n i o,F n=.ow i->S[n]?=some o->l n=.ow i/\S'[n]?=some o):a.ok S0 l S' x:=by
 cases a with
 | u=>trivial
 | v d=>exact h
 | z o=>obtain⟨n,g,j⟩:=h;exact⟨n,g,m _ _ j⟩
 | y o=>obtain⟨n,g,j,s⟩:=h;exact⟨n,g,m _ _ j,s⟩
 | w i o=>obtain⟨n,g,j,s⟩:=h;exact⟨n,g,C _ _ _ j s⟩
 | q P=>obtain⟨d,g,j⟩:=h;exact⟨d,g,λL E=>j L λn o q=>E n o (m n o q)⟩
theorem Vs.fle(h:Vs S0 A e F S)(S':Sto):Fle F (LY F S S'):=λn o q=>by rw[Ho (En (h.fz n o q))];exact q
theorem Vs.grow(h:Vs S0 A e F S)(k:Keeps S S'):Vs S0 A e (LY F S S') S':=by
 refine⟨h.kp.trans k,λn o q=>?_,λn i q=>?_,λn j=>?_,λi a m=>?_⟩
 ·unfold LY at q
  split at q
  ·rename_i j
   rw[k.2 n j];exact h.fz n o q
  ·cases g:S'[n]? with
   | none=>rw[g]at q;cases q
   | some s=>rw[g]at q;cases q;rfl
 ·unfold LY at q
  split at q
  ·exact⟨(h.ow n i q).1,AQ (h.ow n i q).2 k.1⟩
  ·cases g:S'[n]? with
   | none=>rw[g]at q;cases q
   | some s=>rw[g]at q;cases q
 ·unfold LY
  rw[qY (Ew.mpr (Ai k.1 j)),Ba j]
 ·obtain⟨x,C,E⟩:=h.sl i a m
  exact⟨x,C,Sl.mono E (h.fle S') λn i o G l=>⟨by rw[Ho (En l)];exact G,by rw[k.2 n (En l)];exact l⟩⟩
theorem Vs.cons(h:Vs S0 A e F S)(g:a.ok S0 F S x):Vs S0 (a :: A) (x :: e) F S:=
 ⟨h.kp,h.fz,h.ow,h.hi,λi b hb=>by
  cases i with
  | zero=>cases hb;exact⟨x,rfl,g⟩
  | succ i=>exact h.sl i b hb⟩
theorem Vs.set(h:Vs S0 A e F S)(i:Nat)(g:a.ok S0 F S x):Vs S0 (A.set i a) (e.set i x) F S:=
 ⟨h.kp,h.fz,h.ow,h.hi,λj b hb=>by
  by_cases c:i=j
  ·subst c
   rw[Ch]at hb;rw[qX rfl]at hb;split at hb
   ·rename_i l
    cases hb;obtain⟨y,m,_⟩:=h.sl i (A[i]) (A2 l);exact⟨x,by rw[Ch];rw[qX rfl,qX (AD.mp m).1],g⟩
   ·cases hb
  ·rw[Ag c]at hb ⊢
   exact h.sl j b hb⟩
inductive Wk:List Sl->List Sl->Prop where
 | nil:Wk [] []
 | same {a:Sl} {A B:List Sl}:Wk A B->Wk (a :: A) (a :: B)
 | drop {a:Sl} {A B:List Sl}:Wk A B->Wk (a :: A) (.u :: B)
 | less {o:Ob} {A B:List Sl}:Wk A B->Wk (.y o :: A) (.z o :: B)
theorem Wk.at:∀{A B:List Sl},Wk A B->∀(i:Nat) (b:Sl),B[i]?=some b->∃a,A[i]?=some a/\(b=.u∨b=a∨∃o,a=.y o/\b=.z o)
 | _,_,.nil,i,b,h=>by simp at h
 | _,_,.same w,0,b,h=>by cases h;exact⟨_,rfl,.inr (.inl rfl)⟩
 | _,_,.less w,0,b,h=>by cases h;exact⟨_,rfl,.inr (.inr ⟨_,rfl,rfl⟩)⟩
 | _,_,.less w,i+1,b,h=>Wk.at w i b h
 | _,_,.drop w,0,b,h=>by cases h;exact⟨_,rfl,.inl rfl⟩
 | _,_,.same w,i+1,b,h=>Wk.at w i b h
 | _,_,.drop w,i+1,b,h=>Wk.at w i b h
theorem Wk.refl:∀A:List Sl,Wk A A
 | []=>.nil
 | _ :: A=>.same (Wk.refl A)
theorem Vs.weak(h:Vs S0 A e F S)(w:Wk A B):Vs S0 B e F S:=⟨h.kp,h.fz,h.ow,h.hi,λi b hb=>by
 obtain⟨a,l,m⟩:=w.at i b hb;obtain⟨x,g,j⟩:=h.sl i a l
 rcases m with rfl | rfl | ⟨o,rfl,rfl⟩
 ·exact⟨x,g,trivial⟩
 ·exact⟨x,g,j⟩
 ·obtain⟨n,s,C,_⟩:=j
  exact⟨x,g,n,s,C⟩⟩
def Sl.oth(i:Nat):Sl->Bool
 | .w k _=>!(Nat.beq k i)
 | _=>true
theorem Yl(h:((A.set i .u).all (Sl.oth i))=true)(l:j≠i)(m:A[j]?=some (.w k o)):k≠i:=by
 have s:(A.set i .u)[j]?=some (.w k o):=by rw[Ag (B2 l)];exact m
 have:=HF.mp h _ (Bd s);intro e;subst e;have g:(!(Nat.beq k k))=true:=this;rw[Nat.beq_refl]at g;cases g
theorem Vs.put(h:Vs S0 A e F S)(I:((A.set i .u).all (Sl.oth i))=true)(Q:A[i]?=some (.w i o))(J:e[i]?=some (some (.ref n)))(l:F n=.ow i):Vs S0 (A.set i (.w i E)) e F (S.set n E):=by
 have G:=h.ow n i l;refine⟨h.kp.set G.1 E,λk q s=>?_,λk j q=>by rw[Cb];exact h.ow k j q,λk H=>h.hi k (by rw[Cb]at H;exact H),λj b hb=>?_⟩
 ·have:n≠k:=λc=>by subst c;rw[l]at s;cases s
  rw[Ag this];exact h.fz k q s
 ·by_cases c:i=j
  ·subst c
   rw[Ch]at hb;rw[qX rfl]at hb;split at hb
   ·cases hb
    exact⟨_,J,n,rfl,l,by rw[Ch];rw[qX rfl,qX G.2]⟩
   ·cases hb
  ·rw[Ag c]at hb
   obtain⟨x,L,g⟩:=h.sl j b hb;refine⟨x,L,?_⟩
   cases b with
   | u=>trivial
   | v d=>exact g
   | z q=>exact g
   | y q=>exact g
   | q P=>exact g
   | w k q=>
    obtain⟨m,N,C,O⟩:=g;refine⟨m,N,C,?_⟩
    have:n≠m:=λz=>by
     subst z;rw[l]at C;cases C;exact Yl I (λz=>c z.symm) hb rfl
    rw[Ag this];exact O
theorem Vs.own(h:Vs S0 A e F S)(k:Keeps S S'){i n:Nat}{o:Ob}(s:S.length<=n)(ho:S'[n]?=some o):∃F',Vs S0 (A.set i (.w i o)) (e.set i (some (.ref n))) F' S'/\Fle F F':=by
 have g:=h.grow k;have E:=En ho
 have G:Fle F (λj=>if j=n then Cel.ow i else LY F S S' j):=λj q l=>by
  have:j≠n:=λc=>by subst c;exact zX (En (h.fz _ _ l)) (Ew.mpr s)
  show(if j=n then Cel.ow i else _)=_;rw[qY this];exact h.fle S' _ _ l
 refine⟨λj=>if j=n then .ow i else LY F S S' j,(Vs.set (a:=.w i o) (x:=some (.ref n)) ⟨g.kp,λj q l=>?_,λj q l=>?_,λj H=>?_,λj b hb=>?_⟩ i ⟨n,rfl,qX rfl,ho⟩),G⟩
 ·split at l
  ·cases l
  ·exact g.fz j q l
 ·split at l
  ·rename_i c;subst c;exact⟨Ai h.kp.1 s,E⟩
  ·exact g.ow j q l
 ·have:j≠n:=λc=>by subst c;exact zX E (Ew.mpr H)
  show(if j=n then Cel.ow i else _)=_;rw[qY this];exact g.hi j H
 ·obtain⟨x,J,L⟩:=h.sl j b hb
  refine⟨x,J,Sl.mono L G λm j q N I=>?_⟩;have C:=En I
  have:m≠n:=λc=>by subst c;exact zX C (Ew.mpr s)
  refine⟨?_,by rw[k.2 m C];exact I⟩;show(if m=n then Cel.ow i else _)=_;rw[qY this,Ho C];exact N
abbrev Rk(α:Type):=α->Sto->D->Sto->Prop
def rV(enc:α->D):Rk α:=λv _ d _=>d=enc v
def rO(ob:α->Ob):Rk α:=λv _ d S=>∃n,d=.ref n/\S[n]?=some (ob v)
def rN(ob:α->Ob):Rk α:=λv S0 d S=>∃n,d=.ref n/\S0.length<=n/\S[n]?=some (ob v)
def VE(A:List Sl)(m:ME)(R:Rk α)(p:Option α):Prop:=∀v,p=some v->∀S0 e F S,Vs S0 A e F S->∃d S',m e S=.ok d S'/\Keeps S S'/\R v S d S'
def VB(A:List Sl)(t:MT)(p:Option Bool):Prop:=∀v,p=some v->∀S0 e F S,Vs S0 A e F S->∃S',t e S=.ok v S'/\Keeps S S'
def VL(A:List Sl)(ml:ML)(enc:α->D)(p:Option (List α)):Prop:=∀v,p=some v->∀S0 e F S,Vs S0 A e F S->∃S',ml e S=.ok (v.map enc) S'/\Keeps S S'
def VK(A:List Sl)(j:MI)(enc:α->D)(p:Option (List α)):Prop:=∀v,p=some v->∀S0 e F S,Vs S0 A e F S->∃w S',j e S=.ok w S'/\Keeps S S'/\∀g,Keeps S' g->w g=some (v.map enc)
def VI(A:List Sl)(l:MI)(enc:α->D)(p:Option (List α)):Prop:=∀v,p=some v->∀S0 e F S,Vs S0 A e F S->∃w S',l e S=.ok w S'/\Keeps S S'/\∀g j,Fle (LY F S S') g->(∀n o,g n=.fz o->j[n]?=some o)->w j=some (v.map enc)
theorem VI.k(h:VI A o enc p):VK A o enc p:=λv s S0 e F S j=>by
 obtain⟨w,S',C,l,E⟩:=h v s S0 e F S j;have g:=j.grow l;exact⟨w,S',C,l,λm k=>E _ m (g.fle m) (g.grow k).fz⟩
def eT(enc:α->D)(l:List α):D:=.tup (l.map enc)
def eF(l:ZLi):D:=.fro (l.map D.int)
def oL(enc:α->D)(l:List α):Ob:=.lst (l.map enc)
theorem X5(h:VE A m R p)(i:∀v S d S',R v S d S'->R' v S d S'):VE A m R' p:=λv g S0 e F S j=>by
 obtain⟨d,S',l,o,s⟩:=h v g S0 e F S j;exact⟨d,S',l,o,i _ _ _ _ s⟩
theorem HY(h:VE A m (rN ob) p):VE A m (rO ob) p:=X5 h λv S d S' ⟨n,g,_,j⟩=>⟨n,g,j⟩
theorem BV(h:A[i]?=some (.v (enc v))):VE A (AG i) (rV enc) (some v):=λ_ g S0 e F S j=>by
 cases g;obtain⟨x,l,m⟩:=j.sl i _ h;cases m;exact⟨_,S,by unfold AG;rw[l],Keeps.refl S,rfl⟩
theorem Hu(h:A[i]?=some (.z (ob v))):VE A (AG i) (rO ob) (some v):=λ_ j S0 e F S g=>by
 cases j;obtain⟨x,l,n,rfl,m⟩:=g.sl i _ h;exact⟨_,S,by unfold AG;rw[l],Keeps.refl S,n,rfl,g.fz _ _ m⟩
theorem KR(h:A[i]?=some (.y (ob v))):VE A (AG i) (rO ob) (some v):=λ_ j S0 e F S g=>by
 cases j;obtain⟨x,l,n,rfl,m,_⟩:=g.sl i _ h;exact⟨_,S,by unfold AG;rw[l],Keeps.refl S,n,rfl,g.fz _ _ m⟩
theorem Qi(h:A[i]?=some (.w k (ob v))):VE A (AG i) (rO ob) (some v):=λ_ g S0 e F S j=>by
 cases g;obtain⟨x,l,n,rfl,o,m⟩:=j.sl i _ h;exact⟨_,S,by unfold AG;rw[l],Keeps.refl S,n,rfl,m⟩
theorem Rf(h:d=enc v):VE A (mC d) (rV enc) (some v):=λ_ g S0 e F S j=>by
 cases g;exact⟨d,S,rfl,Keeps.refl S,h⟩
theorem BZ(h:p.bind q=some v):∃x,p=some x/\q x=some v:=Option.bind_eq_some_iff.mp h
theorem OH{f:D->D->Sto->Res D}{a b:ME}{l:α->D}{m:β->D}{o:γ->D}{s:Option α}{C:Option β}{g:α->β->Option γ}(I:VE A a (rV l) s)(hb:VE A b (rV m) C)
  (J:∀x y z S,g x y=some z->f (l x) (m y) S=.ok (o z) S):VE A (m2 f a b) (rV o) (s.bind λx=>C.bind λy=>g x y):=λv j S0 e F S E=>by
 obtain⟨x,L,j⟩:=BZ j;obtain⟨y,N,O⟩:=BZ j;obtain⟨d1,P,Q,G,rfl⟩:=I x L S0 e F S E;obtain⟨d2,H,R,T,rfl⟩:=hb y N S0 e _ P (E.grow G);exact⟨_,H,BB Q R (J x y v H O),G.trans T,rfl⟩
theorem X3{f:D->D->Sto->Res D}{a b:ME}{l:α->D}{ob:β->Ob}{m:γ->D}{o:Option α}{s:Option β}{g:α->β->Option γ}(H:VE A a (rV l) o)(hb:VE A b (rO ob) s)
  (I:∀x y z S (n:Nat),S[n]?=some (ob y)->g x y=some z->f (l x) (.ref n) S=.ok (m z) S):VE A (m2 f a b) (rV m) (o.bind λx=>s.bind λy=>g x y):=λv j S0 e F S C=>by
 obtain⟨x,J,j⟩:=BZ j;obtain⟨y,L,N⟩:=BZ j;obtain⟨d1,O,P,E,rfl⟩:=H x J S0 e F S C;obtain⟨d2,G,Q,R,n,rfl,T⟩:=hb y L S0 e _ O (C.grow E);exact⟨_,G,BB P Q (I x y v G n T N),E.trans R,rfl⟩
theorem X8{f:D->D->Sto->Res D}{a b:ME}{ob:α->Ob}{l:β->D}{m:γ->D}{o:Option α}{s:Option β}{g:α->β->Option γ}(I:VE A a (rO ob) o)(hb:VE A b (rV l) s)
  (J:∀x y z S (n:Nat),S[n]?=some (ob x)->g x y=some z->f (.ref n) (l y) S=.ok (m z) S):VE A (m2 f a b) (rV m) (o.bind λx=>s.bind λy=>g x y):=λv j S0 e F S C=>by
 obtain⟨x,L,j⟩:=BZ j;obtain⟨y,N,O⟩:=BZ j;obtain⟨d1,P,Q,E,n,rfl,R⟩:=I x L S0 e F S C;obtain⟨d2,G,T,H,rfl⟩:=hb y N S0 e _ P (C.grow E);exact⟨_,G,BB Q T (J x y v G n (H.at R) O),E.trans H,rfl⟩
theorem NA(h:VE A m (rV D.bl) p):VB A (mB m) p:=λv g S0 e F S j=>by
 obtain⟨d,S',l,o,rfl⟩:=h v g S0 e F S j;exact⟨S',IF l,o⟩
theorem TW(h:VE A m (rV D.bl) p):VB A (R9 m) p:=λv g S0 e F S j=>by
 obtain⟨d,S',l,o,rfl⟩:=h v g S0 e F S j;refine⟨S',?_,o⟩;unfold R9;rw[l];rfl
theorem Vy:VB A Gg (some true):=λv g S0 e F S j=>by cases g;exact⟨S,rfl,Keeps.refl S⟩
theorem Pk(h:VB A t p):VB A (MJ t) (p.bind λb=>some (!b)):=λv g S0 e F S j=>by
 obtain⟨x,l,m⟩:=BZ g;cases m;obtain⟨S',o,s⟩:=h x l S0 e F S j;exact⟨S',UG o,s⟩
theorem Z9(h:VB A t p)(s:VB A u q):VB A (mOr t u) (p.bind λb=>if b=true then some true else q):=λv C S0 e F S j=>by
 obtain⟨x,E,l⟩:=BZ C;obtain⟨m,o,g⟩:=h x E S0 e F S j
 cases x with
 | false=>
  obtain⟨G,H,I⟩:=s v l S0 e _ m (j.grow g);exact⟨G,(P0 o).trans H,g.trans I⟩
 | true=>cases l;exact⟨m,Ym o,g⟩
theorem Ts:∀(v:α) (S S1:Sto) (d:D) (S':Sto),S.length<=S1.length->rV enc v S1 d S'->rV enc v S d S':=λ_ _ _ _ _ _ h=>h
inductive Fw(ρ σ:Type) where
 | rt (r:ρ) | nx (s:σ) | bk (s:σ) | ct (s:σ)
def VG(S0:Sto)(F:Fz)(S':Sto)(R:Rk ρ)(B:σ->List Sl)(g:Fl):Fw ρ σ->Prop
 | .nx s=>∃j l,g=.nx j/\Vs S0 (B s) j l S'/\Fle F l
 | .ct s=>∃j l,g=.ct j/\Vs S0 (B s) j l S'/\Fle F l
 | .bk s=>∃j l,g=.bk j/\Vs S0 (B s) j l S'/\Fle F l
 | .rt r=>∃d,g=.rt d/\R r S0 d S'/\Keeps S0 S'
def VS(A:List Sl)(b:MS)(R:Rk ρ)(p:Option (Fw ρ σ))(B:σ->List Sl):Prop:=∀f,p=some f->∀S0 e F S,Vs S0 A e F S->∃g S',b e S=.ok g S'/\VG S0 F S' R B g f
noncomputable def FY(p:Option (Fw ρ σ))(q:σ->Option (Fw ρ τ)):Option (Fw ρ τ):=match p with
 | some (.nx s)=>q s
 | some (.rt r)=>some (.rt r)
 | _=>none
theorem VG.up{S0:Sto}{F G:Fz}{S':Sto}{R:Rk ρ}{B:σ->List Sl}{g:Fl}{f:Fw ρ σ}(l:Fle F G)(h:VG S0 G S' R B g f):VG S0 F S' R B g f:=by
 cases f with
 | rt r=>exact h
 | nx s=>obtain⟨j,m,o,C,E⟩:=h;exact⟨j,m,o,C,l.trans E⟩
 | bk s=>obtain⟨j,m,o,C,E⟩:=h;exact⟨j,m,o,C,l.trans E⟩
 | ct s=>obtain⟨j,m,o,C,E⟩:=h;exact⟨j,m,o,C,l.trans E⟩
theorem FG{a b:MS}{R:Rk ρ}{p:Option (Fw ρ σ)}{q:σ->Option (Fw ρ τ)}{B:σ->List Sl}{C:τ->List Sl}(G:VS A a R p B)(hb:∀s,VS (B s) b R (q s) C):VS A (BL a b) R (FY p q) C:=λf l S0 e F S H=>by
 cases p with
 | none=>cases l
 | some w=>
  obtain⟨g,o,E,j⟩:=G _ rfl S0 e F S H
  cases w with
  | nx s=>
   obtain⟨I,J,rfl,j,m⟩:=j;obtain⟨L,N,O,P⟩:=hb s f l S0 I J o j;exact⟨L,N,(BF E).trans O,P.up m⟩
  | rt r=>
   cases l;obtain⟨d,rfl,j,m⟩:=j;exact⟨_,o,Pv E,d,rfl,j,m⟩
  | bk s=>cases l
  | ct s=>cases l
theorem Qg{R:Rk ρ}{B:σ->List Sl}{s:σ}(w:Wk A (B s)):VS A sNx R (some (.nx s)) B:=λf g S0 e F S j=>by
 cases g;exact⟨_,S,rfl,e,F,rfl,j.weak w,Fle.refl F⟩
noncomputable def UO(g:σ->τ)(p:Option (Fw ρ σ)):Option (Fw ρ τ):=match p with
 | some (.nx s)=>some (.nx (g s))
 | some (.rt r)=>some (.rt r)
 | some (.bk s)=>some (.bk (g s))
 | some (.ct s)=>some (.ct (g s))
 | none=>none
theorem Pc{b:MS}{R:Rk ρ}{p:Option (Fw ρ σ)}{g:σ->τ}{B:σ->List Sl}{C:τ->List Sl}(h:VS A b R p B)(w:∀s,Wk (B s) (C (g s))):VS A b R (UO g p) C:=λf l S0 e F S I=>by
 cases p with
 | none=>cases l
 | some x=>
  obtain⟨g,G,H,j⟩:=h _ rfl S0 e F S I
  cases x with
  | nx s=>cases l;obtain⟨m,o,rfl,j,E⟩:=j;exact⟨_,G,H,m,o,rfl,j.weak (w s),E⟩
  | rt r=>cases l;exact⟨_,G,H,j⟩
  | bk s=>cases l;obtain⟨m,o,rfl,j,E⟩:=j;exact⟨_,G,H,m,o,rfl,j.weak (w s),E⟩
  | ct s=>cases l;obtain⟨m,o,rfl,j,E⟩:=j;exact⟨_,G,H,m,o,rfl,j.weak (w s),E⟩
theorem M7(h:VE A m (rV enc) p):VS A (Bp i m) R (p.bind λv=>some (.nx v)) (λv=>A.set i (.v (enc v))):=λf j S0 e F S g=>by
 obtain⟨v,l,o⟩:=BZ j;cases o;obtain⟨d,S',s,C,rfl⟩:=h v l S0 e F S g;exact⟨_,S',Cc s,_,_,rfl,(g.grow C).set i rfl,g.fle S'⟩
theorem Qe(h:VE A m (rN ob) p):VS A (Bp i m) R (p.bind λv=>some (.nx v)) (λv=>A.set i (.y (ob v))):=λf l S0 e F S g=>by
 obtain⟨v,o,s⟩:=BZ l;cases s;obtain⟨d,S',C,E,n,rfl,j,G⟩:=h v o S0 e F S g;exact⟨_,S',Cc C,_,_,rfl,(g.grow E).set (a:=.y (ob v)) i ⟨n,rfl,U1 j G,Ai g.kp.1 j⟩,g.fle S'⟩
theorem Vk(h:VE A m (rN ob) p):VS A (Bp i m) R (p.bind λv=>some (.nx v)) (λv=>A.set i (.w i (ob v))):=λf j S0 e F S g=>by
 obtain⟨v,l,o⟩:=BZ j;cases o;obtain⟨d,S',s,C,n,rfl,E,G⟩:=h v l S0 e F S g;obtain⟨H,I,J⟩:=g.own C (i:=i) E G;exact⟨_,S',Cc s,_,H,rfl,I,J⟩
theorem HX{m:ME}{enc:ρ->D}{p:Option ρ}{B:σ->List Sl}(h:VE A m (rV enc) p):VS A (E0 m) (rV enc) (p.bind λv=>some (.rt v)) B:=λf j S0 e F S g=>by
 obtain⟨v,l,o⟩:=BZ j;cases o;obtain⟨d,S',s,C,rfl⟩:=h v l S0 e F S g;exact⟨_,S',He s,_,rfl,rfl,g.kp.trans C⟩
theorem Qh{t:MT}{a b:MS}{R:Rk ρ}{pt:Option Bool}{p q:Option (Fw ρ σ)}{B:σ->List Sl}(H:VB A t pt)(I:VS A a R p B)(hb:VS A b R q B):VS A (sIf t a b) R (pt.bind λc=>if c=true then p else q) B:=λf J S0 e F S j=>by
 obtain⟨c,L,C⟩:=BZ J;obtain⟨l,E,G⟩:=H c L S0 e F S j
 cases c with
 | true=>
  obtain⟨g,m,o,s⟩:=I f C S0 e _ l (j.grow G);exact⟨g,m,(FP E).trans o,s.up (j.fle l)⟩
 | false=>
  obtain⟨g,m,o,s⟩:=hb f C S0 e _ l (j.grow G);exact⟨g,m,(FP E).trans o,s.up (j.fle l)⟩
def XJ(l:List α)(x:α):Option (List α):=if l.length < 1000000 then some (l++[x])else none
def W5(l k:List α):Option (List α):=if l.length+k.length<=1000000 then some (l++k)else none
theorem au(h:n < 1000000):n < sizeLine:=AQ h (by decide)
theorem az(h:n<=1000000):n<=sizeLine:=Ai h (by decide)
theorem X0(hi:A[i]?=some (.w i (oL enc l)))(h:VE A m (rV enc) p)(H:((A.set i .u).all (Sl.oth i))=true) :
  VS A (C4 (FO (AG i) m)) R (p.bind λv=>(XJ l v).bind λj=>some (.nx j)) (λj=>A.set i (.w i (oL enc j))):=λf I S0 e F S o=>by
 obtain⟨v,J,g⟩:=BZ I;obtain⟨j,g,L⟩:=BZ g;cases L;unfold XJ at g;split at g
 ·rename_i N
  cases g;obtain⟨x,C,n,rfl,O,s⟩:=o.sl i _ hi;obtain⟨d,S',P,E,rfl⟩:=h v J S0 e F S o;have Q:=o.grow E;have G:=IW (mo:=AG i) (e:=e) (S:=S) (S1:=S) (n:=n) (by unfold AG;rw[C]) s P (E.at s) (by rw[AI];exact au N);rw[show l.map enc++[enc v]=(l++[v]).map enc by simp]at G;exact⟨_,_,Fn G,e,_,rfl,Q.put H hi C (by rw[Ho (En s)];exact O),o.fle S'⟩
 ·cases g
def VT(g:MG)(enc:α->D)(t:α->List Sl->List Sl):Prop:=∀x S0 A e F S,Vs S0 A e F S->∃j,g (enc x) e S=.ok j S/\Vs S0 (t x A) j F S
theorem Qd:VT (tgN i) enc (λx A=>A.set i (.v (enc x))):=λx S0 A e F S g=>⟨_,rfl,g.set (a:=.v (enc x)) i rfl⟩
def IE:List α->σ->(σ->α->Option (Fw ρ σ))->Option (Fw ρ σ)
 | [],s,_=>some (.nx s)
 | x :: l,s,q=>match q s x with
  | some (.nx g)=>IE l g q
  | some (.ct g)=>IE l g q
  | some (.bk g)=>some (.nx g)
  | some (.rt r)=>some (.rt r)
  | none=>none
theorem Vl{enc:α->D}{g:MG}{t:α->List Sl->List Sl}{b:MS}{R:Rk ρ}{q:σ->α->Option (Fw ρ σ)}{B:σ->List Sl}(hg:VT g enc t)(hb:∀s x,VS (t x (B s)) b R (q s x) B){w:MP}{S0:Sto}{X:Fz}{j:List α}
  (hw:∀Y Z,Fle X Y->(∀n o,Y n=.fz o->Z[n]?=some o)->w Z=some (j.map enc)):∀(l:List α) (k:Nat),j.drop k=l->∀(s:σ) (f:Fw ρ σ),IE l s q=some f->∀e F S,Vs S0 (B s) e F S->Fle X F->∃h S',HJ w g b (l.length) k e S=.ok h S'/\VG S0 X S' R B h f:=by
 intro l
 induction l with
 | nil=>
  intro k Q s f C e F S O E;cases C
  have:j.length<=k:=by
   have:=congrArg GP Q;rw[HD,HW]at this
   lia
  refine⟨_,S,?_,e,F,rfl,O,E⟩;unfold HJ;rw[hw F S E O.fz];dsimp only;rw[Ba (by rw[AI];exact this)]
 | cons x l ih=>
  intro k Q s f C e F S O E
  have hx:j[k]?=some x:=by
   have:=congrArg (λz=>z[0]?) Q;rw[Fg]at this;simpa using this
  have cS:j.drop (k+1)=l:=by
   have G:j.drop (k+1)=(j.drop k).drop 1:=by rw[MX]
   exact G.trans (congrArg (List.drop 1) Q)
  obtain⟨G,g1,T⟩:=hg x S0 _ e F S O
  have run:∀h S',b G S=.ok h S'->HJ w g b ((x :: l).length) k e S=(match h with
    | .nx m=>HJ w g b l.length (k+1) m S'
    | .ct m=>HJ w g b l.length (k+1) m S'
    | .bk m=>.ok (.nx m) S'
    | .rt d=>.ok (.rt d) S'
    | .ex c m=>.ok (.ex c m) S'):=λh S' fc=>by
   show HJ w g b (l.length+1) k e S=_
   conv=>lhs;unfold HJ
   rw[hw F S E O.fz];dsimp only;rw[Ad,hx];dsimp only[Zn];rw[g1];dsimp only[Res.bind];rw[fc]
   all_goals (cases h <;> rfl)
  unfold IE at C;split at C
  ·rename_i U H
   obtain⟨h,I,J,m,P,rfl,L,N⟩:=hb s x _ H S0 G F S T;rw[run _ _ J];exact ih (k+1) cS U f C m P I L (E.trans N)
  ·rename_i U H
   obtain⟨h,I,J,m,P,rfl,L,N⟩:=hb s x _ H S0 G F S T;rw[run _ _ J];exact ih (k+1) cS U f C m P I L (E.trans N)
  ·rename_i U H
   cases C;obtain⟨h,I,J,m,P,rfl,L,N⟩:=hb s x _ H S0 G F S T;rw[run _ _ J];exact⟨_,I,rfl,m,P,rfl,L,E.trans N⟩
  ·rename_i r H
   cases C;obtain⟨h,I,J,d,rfl,L,N⟩:=hb s x _ H S0 G F S T;rw[run _ _ J];exact⟨_,I,rfl,d,rfl,L,N⟩
  ·cases C
theorem TM{enc:α->D}{o:MI}{g:MG}{t:α->List Sl->List Sl}{b:MS}{R:Rk ρ}{p:Option (List α)}{q:σ->α->Option (Fw ρ σ)}{B:σ->List Sl}{s0:σ}(hi:VI A o enc p)(G:VT g enc t)(w0:Wk A (B s0))(hb:∀s x,VS (t x (B s)) b R (q s x) B) :
  VS A (Gw o g b) R (p.bind λl=>IE l s0 q) B:=λf H S0 e F S m=>by
 obtain⟨l,I,J⟩:=BZ H;obtain⟨w,j,L,N,C⟩:=hi l I S0 e F S m;have E:=m.grow N
 have O:CS w j=l.length:=by unfold CS;rw[C _ j (Fle.refl _) E.fz];exact AI _
 obtain⟨h,P,Q,T⟩:=Vl G hb C l 0 rfl s0 f J e _ j (E.weak w0) (Fle.refl _);refine⟨h,P,?_,T.up (m.fle j)⟩;rw[G6 L,O];exact Q
noncomputable def Lc(c:α->Option Bool)(m:α->Option β):List α->Option (List β)
 | []=>some []
 | x :: l=>(c x).bind λb=>if b=true then(m x).bind λy=>(Lc c m l).bind λg=>some (y :: g)else Lc c m l
def FW(l:List α)(c:α->Option Bool)(m:α->Option β):Option (List β):=if l.length<=1000000 then Lc c m l else none
theorem TN{enc:α->D}{H:β->D}{g:MG}{P:List (Option D)->Prop}{T:α->List Sl}{c:MT}{m:ME}{X:α->Option Bool}{Y:α->Option β}
  (hg:∀x S0 e F S o,P o->Vs S0 A e F S->∃C,g (enc x) (o++e) S=.ok (C++e) S/\P C/\Vs S0 (T x) (C++e) F S)
  (hc:∀x,VB (T x) c (X x)) (hm:∀x,VE (T x) m (rV H) (Y x)) {w:MP} {S0:Sto} {e:Lo} {j:List α} {S1:Sto} (hf:j.length<=1000000) (hw:∀Z,Keeps S1 Z->w Z=some (j.map enc)) :
  ∀(l:List α) (k:Nat),j.drop k=l->∀(r:List β),Lc X Y l=some r->∀o F S s,P o->Vs S0 A e F S->Keeps S1 S->s.length<=k->∃S',Dv w g c m l.length k (o++e) S s=.ok (s++r.map H) S'/\Keeps S S':=by
 intro l
 induction l with
 | nil=>
  intro k I r J o F S s hp N G ha;cases J
  have:j.length<=k:=by
   have:=congrArg GP I;rw[HD,HW]at this
   lia
  refine⟨S,?_,Keeps.refl S⟩;unfold Dv;rw[hw S G];dsimp only;rw[Ba (by rw[AI];exact this),Jn,Bz]
 | cons x l ih=>
  intro k I r J o F S s hp N G ha
  have hx:j[k]?=some x:=by
   have:=congrArg (λz=>z[0]?) I;rw[Fg]at this;simpa using this
  have cS:j.drop (k+1)=l:=by
   have e1:j.drop (k+1)=(j.drop k).drop 1:=by rw[MX]
   exact e1.trans (congrArg (List.drop 1) I)
  have kE:k < j.length:=(AD.mp hx).1;obtain⟨C,g1,g2,g3⟩:=hg x S0 e F S o hp N;unfold Lc at J;obtain⟨b,h1,L⟩:=BZ J;obtain⟨S2,h3,E⟩:=hc x b h1 S0 _ F S g3;have cK:=N.grow E
  show ∃S',Dv w g c m (l.length+1) k (o++e) S s=_/\_
  conv=>arg 1;ext S';arg 1;lhs;unfold Dv
  rw[hw S G];dsimp only;rw[Ad,hx];dsimp only[Zn];rw[qX (BU ha (au (AQ kE hf))),g1];dsimp only[okR,Res.bind];rw[h3];dsimp only[okR,Res.bind]
  cases b with
  | true=>
   rw[qX rfl]at L ⊢;obtain⟨y,h5,h6⟩:=BZ L;obtain⟨ys,kF,h7⟩:=BZ h6;cases h7;obtain⟨d,S3,h8,O,rfl⟩:=hm x y h5 S0 _ _ S2 (g3.grow E);rw[h8];obtain⟨Q,R,U⟩:=ih (k+1) cS ys kF C _ S3 (s++[H y]) g2 (cK.grow O) (G.trans (E.trans O)) (by rw[Ao,DI];lia);refine⟨Q,?_,(E.trans O).trans U⟩;show Dv w g c m l.length (k+1) (C++e) S3 (s++[H y])=_;rw[R,A0];rfl
  | false=>
   rw[qY AZ]at L ⊢;obtain⟨Q,R,U⟩:=ih (k+1) cS r L C _ S2 s g2 cK (G.trans E) (by lia);exact⟨Q,R,E.trans U⟩
theorem Vq{enc:α->D}{E:β->D}{n:Nat}{G:MI}{g:MG}{P:List (Option D)->Prop}{T:α->List Sl}{c:MT}{m:ME}{p:Option (List α)}{H:α->Option Bool}{I:α->Option β}(hi:VK A G enc p)(O:P (BH n none))
  (Q:∀x S0 e F S j,P j->Vs S0 A e F S->∃s,g (enc x) (j++e) S=.ok (s++e) S/\P s/\Vs S0 (T x) (s++e) F S)
  (R:∀x,VB (T x) c (H x)) (U:∀x,VE (T x) m (rV E) (I x)):VL A (Em n G g c m) E (p.bind λl=>FW l H I):=λr X S0 e F S J=>by
 obtain⟨l,Y,o⟩:=BZ X;obtain⟨w,C,Z,L,N⟩:=hi l Y S0 e F S J;unfold FW at o;split at o
 ·rename_i hl
  have i0:=J.grow L;obtain⟨S2,h6,h7⟩:=TN Q R U hl N l 0 rfl r o _ _ C [] O i0 (Keeps.refl _) (AK _);refine⟨S2,?_,L.trans h7⟩;rw[Kc Z,show CS w C=l.length by unfold CS;rw[N C (Keeps.refl _)];exact AI _];exact h6
 ·cases o
theorem GY{enc:α->D}{j:β->D}{o:MI}{c:MT}{m:ME}{p:Option (List α)}{s:α->Option Bool}{C:α->Option β}(hi:VK A o enc p)(E:∀x,VB (.v (enc x) :: A) c (s x))(G:∀x,VE (.v (enc x) :: A) m (rV j) (C x)) :
  VL A (Em 1 o (tgN 0) c m) j (p.bind λl=>FW l s C):=
 Vq (P:=λg=>∃z,g=[z]) hi ⟨none,rfl⟩ (λx S0 e F S g H I=>by
  obtain⟨z,rfl⟩:=H
  exact⟨[some (enc x)],rfl,⟨_,rfl⟩,I.cons (a:=.v (enc x)) rfl⟩) E G
theorem Go(h:VL A ml enc p):VE A (D7 ml) (rN (oL enc)) p:=λv j S0 e F S l=>by
 obtain⟨S',m,g⟩:=h v j S0 e F S l;exact⟨_,_,Jd m,g.trans (Keeps.app _ _),_,rfl,g.1,B1 _ _⟩
inductive Ar where
 | v (d:D) | z (o:Ob) | q (P:(Nat->Option Ob)->D->Prop)
def Ar.ok(S:Sto):Ar->D->Prop
 | .v d,x=>x=d
 | .z o,x=>∃n,x=.ref n/\S[n]?=some o
 | .q P,x=>∀L:Nat->Option Ob,(∀n o,S[n]?=some o->L n=some o)->P L x
def Ar.sl:Ar->Sl
 | .v d=>.v d
 | .z o=>.z o
 | .q P=>.q P
def IL(S:Sto):List Ar->List D->Prop
 | [],[]=>True
 | a :: as,d :: g=>a.ok S d/\IL S as g
 | _,_=>False
theorem IL.len:∀{as:List Ar} {ds:List D},IL S as ds->ds.length=as.length
 | [],[],_=>rfl
 | _ :: as,_ :: ds,h=>by rw[Al,Al,IL.len h.2]
 | [],_ :: _,h=>h.elim
 | _ :: _,[],h=>h.elim
theorem IL.at:∀{as:List Ar} {ds:List D},IL S as ds->∀(i:Nat) (a:Ar),as[i]?=some a->∃d,ds[i]?=some d/\a.ok S d
 | [],[],_,i,a,h=>by simp at h
 | b :: as,d :: ds,h,0,a,q=>by cases q;exact⟨d,rfl,h.1⟩
 | b :: as,d :: ds,h,i+1,a,q=>IL.at h.2 i a q
 | [],_ :: _,h,_,_,_=>h.elim
 | _ :: _,[],h,_,_,_=>h.elim
def VF(f:List D->Sto->Res D)(as:List Ar)(R:Rk α)(p:Option α):Prop:=∀v,p=some v->∀S g,IL S as g->∃d S',f g S=.ok d S'/\Keeps S S'/\R v S d S'
def VA(A:List Sl)(ml:ML)(p:Option γ)(j:γ->List Ar):Prop:=∀v,p=some v->∀S0 e F S,Vs S0 A e F S->∃g S',ml e S=.ok g S'/\Keeps S S'/\IL S' (j v) g
theorem Pl:VA A BA (some ()) (λ_=>[]):=λv g S0 e F S j=>⟨[],S,rfl,Keeps.refl S,trivial⟩
theorem TX(h:VE A m (rV enc) p)(l:VA A ml q o):VA A (AS m ml) (p.bind λx=>q.bind λy=>some (x,y)) (λz=>.v (enc z.1) :: o z.2):=λv s S0 e F S g=>by
 obtain⟨x,C,E⟩:=BZ s;obtain⟨y,G,H⟩:=BZ E;cases H;obtain⟨d,I,J,j,rfl⟩:=h x C S0 e F S g;obtain⟨Q,L,N,O,P⟩:=l y G S0 e _ I (g.grow j);exact⟨_,L,By J N,j.trans O,rfl,P⟩
theorem X9(h:VE A m (rO ob) p)(o:VA A ml q s):VA A (AS m ml) (p.bind λx=>q.bind λy=>some (x,y)) (λz=>.z (ob z.1) :: s z.2):=λv C S0 e F S g=>by
 obtain⟨x,E,G⟩:=BZ C;obtain⟨y,H,I⟩:=BZ G;cases I;obtain⟨d,J,L,j,n,rfl,N⟩:=h x E S0 e F S g;obtain⟨R,O,P,l,Q⟩:=o y H S0 e _ J (g.grow j);exact⟨_,O,By L P,j.trans l,⟨n,rfl,l.at N⟩,Q⟩
theorem M9(m:VA A ml p g)(o:∀z,VF f (g z) R (q z))(s:∀z,(g z).length=n)(C:∀v S S1 d S',S.length<=S1.length->R v S1 d S'->R v S d S'):VE A (Bs n f ml) R (p.bind q):=λv E S0 e F S G=>by
 obtain⟨z,H,I⟩:=BZ E;obtain⟨J,S1,L,j,l⟩:=m z H S0 e F S G;obtain⟨d,N,O,P,Q⟩:=o z v I S1 J l;exact⟨d,N,(DE L (l.len.trans (s z))).trans O,j.trans P,C _ _ _ _ _ j.1 Q⟩
def Fo(S:Sto):Fz:=λn=>match S[n]? with
 | some o=>.fz o
 | none=>.no
theorem Vs.start(h:IL S as ds):Vs S (as.map Ar.sl++BH (n - as.length) .u) (Ck n ds) (Fo S) S:=by
 refine⟨Keeps.refl S,λn o q=>?_,λn i q=>?_,λn s=>by unfold Fo;rw[Ba s],λi a g=>?_⟩
 ·unfold Fo at q
  split at q
  ·rename_i N C;cases q;exact C
  ·cases q
 ·unfold Fo at q
  split at q <;> cases q
 ·unfold Ck
  by_cases c:i < as.length
  ·rw[AN (by rw[AI];exact c),Ad]at g
   rw[AN (by rw[AI,h.len];exact c),Ad]
   cases j:as[i]? with
   | none=>rw[j]at g;cases g
   | some b=>
    rw[j]at g;cases g;obtain⟨d,E,l⟩:=h.at i b j;refine⟨some d,by rw[E];rfl,?_⟩
    cases b with
    | v x=>exact congrArg some l
    | z o=>obtain⟨m,G,H⟩:=l;exact⟨m,congrArg some G,by unfold Fo;rw[H]⟩
    | q P=>exact⟨d,rfl,λL I=>l L λn o q=>I n o (by unfold Fo;rw[q])⟩
  ·rw[Ae (by rw[AI];lia)]at g
   rw[AI,CG]at g;split at g
   ·rename_i J
    cases g;refine⟨none,?_,trivial⟩;rw[Ae (by rw[AI,h.len];lia),AI,h.len,CG,qX J]
   ·cases g
def Pz(p:Option (Fw ρ σ)):Option ρ:=match p with
 | some (.rt r)=>some r
 | _=>none
end
section
variable{S0 S S':Sto}{A:List Sl}{α β γ δ:Type}
section
variable{a b:ME}{pa pb:Option Int}
theorem TV(g:VE A a (rV D.int) pa)(hb:VE A b (rV D.int) pb):VE A (m2 Dd a b) (rV D.int) (pa.bind λx=>pb.bind λy=>some (x+y)):=OH g hb λx y z S h=>by cases h;rfl
def R7(x y:Int):Option Int:=if 0 < y then some (x % y)else none
theorem Pi(g:VE A a (rV D.int) pa)(hb:VE A b (rV D.int) pb):VE A (m2 Cm a b) (rV D.int) (pa.bind λx=>pb.bind λy=>R7 x y):=OH g hb λx y z S h=>by
 unfold R7 at h;split at h
 ·rename_i j;cases h;exact C0 j
 ·cases h
theorem Vx{pa pb}(o:VE A a (rV D.bl) pa)(hb:VE A b (rV D.bl) pb):VE A (Oh a b) (rV D.bl) (pa.bind λx=>if x=true then pb else some false):=λv s S0 e F S j=>by
 obtain⟨x,B,l⟩:=BZ s;obtain⟨d,S',m,g,rfl⟩:=o x B S0 e F S j
 cases x with
 | true=>
  obtain⟨d,C,E,G,rfl⟩:=hb v l S0 e _ S' (j.grow g);exact⟨_,C,by unfold Oh;rw[m];exact E,g.trans G,rfl⟩
 | false=>cases l;exact⟨_,S',by unfold Oh;rw[m];rfl,g,rfl⟩
theorem Vt{pa}(g:VE A a (rV D.bl) pa):VE A (Qy a) (rV D.bl) (pa.bind λx=>some (!x)):=λv j S0 e F S l=>by
 obtain⟨x,m,o⟩:=BZ j;cases o;obtain⟨d,S',s,B,rfl⟩:=g x m S0 e F S l;exact⟨_,S',by unfold Qy;rw[s];rfl,B,rfl⟩
end
def EqN(n:Nat)(enc:α->D)[DecidableEq α]:Prop:=∀x y,eqP n (enc x) (enc y)=some (decide (x=y))
def NL(enc:α->D):Prop:=∀x S,Je (enc x) S=none
theorem E9:EqN n D.int:=λx y=>by
 have:IV (.int x) (.int y)=some (decide (x=y)):=rfl
 cases n <;> exact this
theorem UH:NL D.int:=λ_ _=>rfl
section
variable{a b:ME}{enc:α->D}[DecidableEq α]
theorem ZU(h:EqN 8 enc)(n:NL enc)(neg:Bool)(x y:α)(S:Sto):eqD neg (enc x) (enc y) S=.ok (.bl (if neg then !decide (x=y)else decide (x=y))) S:=by
 unfold eqD eqB;rw[n x S,n y S];dsimp only;rw[h x y]
theorem XY(h:EqN 8 enc)(n:NL enc)(g:VE A a (rV enc) j)(hb:VE A b (rV enc) l):VE A (m2 (eqD true) a b) (rV D.bl) (j.bind λx=>l.bind λy=>some (!decide (x=y))):=OH g hb λx y z S q=>by cases q;exact ZU h n true x y S
theorem O2(h:EqN 8 enc)(x:α):∀l:List α,IK (enc x) (l.map enc)=some (decide (x∈l))
 | []=>by simp[IK]
 | y :: l=>by
  rw[Au];unfold IK;rw[h y x,O2 h x l]
  by_cases c:y=x
  ·subst c;simp
  ·have:¬x=y:=λz=>c z.symm
   simp[c,this]
theorem QA(h:EqN 8 enc)(neg:Bool)(x:α){l:List α}{d:D}{S:Sto}(g:Fx d S=some (l.map enc)):inA neg (enc x) d S=.ok (.bl (if neg then !decide (x∈l)else decide (x∈l))) S:=by
 show G1 (inD neg (enc x) d S) _=_
 have e:inD neg (enc x) d S=.ok (.bl (if neg then !decide (x∈l)else decide (x∈l))) S:=by
  unfold inD;rw[g];dsimp only;rw[O2 h]
 rw[e];rfl
theorem X4{g:Option (List α)}(h:EqN 8 enc)(j:VE A a (rV enc) m)(hb:VE A b (rV (eT enc)) g):VE A (m2 (inA false) a b) (rV D.bl) (m.bind λx=>g.bind λl=>some (decide (x∈l))):=OH j hb λx l z S q=>by cases q;exact QA h false x rfl
theorem M8{g:Option (List α)}(h:EqN 8 enc)(j:VE A a (rV enc) m)(hb:VE A b (rV (eT enc)) g):VE A (m2 (inA true) a b) (rV D.bl) (m.bind λx=>g.bind λl=>some (!decide (x∈l))):=OH j hb λx l z S q=>by cases q;exact QA h true x rfl
theorem TU{g:Option (List α)}(h:EqN 8 enc)(j:VE A a (rV enc) m)(hb:VE A b (rO (oL enc)) g):VE A (m2 (inA false) a b) (rV D.bl) (m.bind λx=>g.bind λl=>some (decide (x∈l))):=X3 j hb λx l z S n o q=>by cases q;exact QA h false x (CM o)
theorem ZT(h:EqN n enc):∀l k:List α,eqL (eqP n) (l.map enc) (k.map enc)=some (decide (l=k)):=by
 intro l
 induction l with
 | nil=>intro k;cases k <;> rfl
 | cons x l g=>
  intro k
  cases k with
  | nil=>rfl
  | cons y k=>
   rw[Au,Au];unfold eqL;rw[h x y,g k]
   by_cases c:x=y <;> by_cases d:l=k <;> simp[c,d]
theorem SR(h:EqN 8 enc)(neg:Bool)(g:S[n]?=some (oL enc l))(j:S[m]?=some (oL enc k)):eqD neg (.ref n) (.ref m) S=.ok (.bl (if neg then !decide (l=k)else decide (l=k))) S:=by
 unfold eqD eqB;rw[Ga g,Ga j];dsimp only;rw[AI,AI]
 by_cases c:l.length=k.length
 ·rw[qX c,ZT h]
 ·rw[qY c,wY λz=>c (by rw[z])]
theorem Z8{f:D->D->Sto->Res D}{l:β->Ob}{ob:γ->Ob}{o:δ->D}{s:Option β}{B:Option γ}{g:β->γ->Option δ}(I:VE A a (rO l) s)(hb:VE A b (rO ob) B)
  (J:∀x y z S (n m:Nat),S[n]?=some (l x)->S[m]?=some (ob y)->g x y=some z->f (.ref n) (.ref m) S=.ok (o z) S):VE A (m2 f a b) (rV o) (s.bind λx=>B.bind λy=>g x y):=λv j S0 e F S C=>by
 obtain⟨x,L,j⟩:=BZ j;obtain⟨y,N,O⟩:=BZ j;obtain⟨d1,P,Q,E,n,rfl,R⟩:=I x L S0 e F S C;obtain⟨d2,G,T,H,m,rfl,U⟩:=hb y N S0 e _ P (C.grow E);exact⟨_,G,BB Q T (J x y v G n m (H.at R) U O),E.trans H,rfl⟩
theorem X6{g j:Option (List α)}(h:EqN 8 enc)(l:VE A a (rO (oL enc)) g)(hb:VE A b (rO (oL enc)) j):VE A (m2 (eqD false) a b) (rV D.bl) (g.bind λx=>j.bind λy=>some (decide (x=y))):=Z8 l hb λx y z S n m o s q=>by cases q;exact SR h false o s
end
section
variable{a b m mo:ME}
theorem XH(l:List α)(i:Int)(f:α->β):atI (l.map f) i=(atI l i).map f:=by
 unfold atI;rw[AI]
 cases ixN l.length i with
 | none=>rfl
 | some j=>show(l.map f)[j]?=(l[j]?).map f;rw[Ad]
theorem P8(g:Fx d S=some (l.map enc))(h:atI l i=some x):ixA d (.int i) S=.ok (enc x) S:=by
 show G1 (ixD d (.int i) S) _=_
 have:ixD d (.int i) S=.ok (enc x) S:=by
  unfold ixD;rw[g];dsimp only;rw[XH,h];rfl
 rw[this];rfl
theorem Pj(g:VE A a (rO (oL enc)) j)(hb:VE A b (rV D.int) pi):VE A (m2 ixA a b) (rV enc) (j.bind λl=>pi.bind λi=>atI l i):=X8 g hb λl i z S n o q=>P8 (CM o) q
theorem Vu(g:VE A a (rV (eT enc)) j):VE A (D1 a) (rV D.int) (j.bind λl=>some (l.length:Int)):=λv o S0 e F S s=>by
 obtain⟨l,B,C⟩:=BZ o;cases C;obtain⟨d,S',E,G,rfl⟩:=g l B S0 e F S s;exact⟨_,S',(F6 (ds:=l.map enc) E rfl).trans (by rw[AI]),G,rfl⟩
theorem Qk(g:VE A a (rO (oL enc)) j):VE A (D1 a) (rV D.int) (j.bind λl=>some (l.length:Int)):=λv o S0 e F S s=>by
 obtain⟨l,B,C⟩:=BZ o;cases C;obtain⟨d,S',E,G,n,rfl,H⟩:=g l B S0 e F S s;exact⟨_,S',(F6 (ds:=l.map enc) E (CM H)).trans (by rw[AI]),G,rfl⟩
theorem LU:∀ns:ZLi,E3 (ns.map D.int)=some ns
 | []=>rfl
 | x :: ns=>by rw[Au];unfold E3;rw[LU ns];rfl
theorem JZ(g:VE A a (rO (oL enc)) pl):VE A (EU a) (rV (eT enc)) pl:=λl j S0 e F S o=>by
 obtain⟨d,S',s,B,n,rfl,C⟩:=g l j S0 e F S o;exact⟨_,S',Ip s (CM C),B,rfl⟩
theorem Vo(g:VE A a (rO (oL enc)) pl):VL A (Og a) enc pl:=λl j S0 e F S o=>by
 obtain⟨d,S',s,B,n,rfl,C⟩:=g l j S0 e F S o;exact⟨S',aK s (CM C),B⟩
theorem RJ:∀l:List Bool,QM (l.map D.bl)=some l
 | []=>rfl
 | x :: l=>by rw[Au];unfold QM;rw[RJ l];rfl
theorem X7{g}(h:VL A ml D.bl g):VE A (mQ XN ml) (rV D.bl) (g.bind λl=>some (l.any id)):=λv j S0 e F S o=>by
 obtain⟨l,s,B⟩:=BZ j;cases B;obtain⟨S',C,E⟩:=h l s S0 e F S o;refine⟨_,S',YS C ?_,E,rfl⟩;unfold XN XC;rw[RJ]
theorem Pd:VL A BA enc (some []):=λv g S0 e F S j=>by cases g;exact⟨S,rfl,Keeps.refl S⟩
theorem Vp(h:VE A m (rV enc) p)(o:VL A ml enc s):VL A (AS m ml) enc (p.bind λx=>s.bind λl=>some (x :: l)):=λv B S0 e F S g=>by
 obtain⟨x,C,E⟩:=BZ B;obtain⟨l,G,H⟩:=BZ E;cases H;obtain⟨d,I,J,j,rfl⟩:=h x C S0 e F S g;obtain⟨L,N,O⟩:=o l G S0 e _ I (g.grow j);exact⟨L,By J N,j.trans O⟩
def QG(l:List α):Option (List α):=if l.length<=1000000 then some l else none
theorem Kl(h:VL A ml enc j):VL A (C3 ml) enc (j.bind QG):=λv o S0 e F S s=>by
 obtain⟨l,B,g⟩:=BZ o;unfold QG at g;split at g
 ·rename_i C
  cases g;obtain⟨S',E,G⟩:=h _ B S0 e F S s;refine⟨S',?_,G⟩;unfold C3;rw[E];dsimp only[Res.bind];rw[qX (by rw[AI];exact az C)]
 ·cases g
theorem Vw(E:VE A a (rO (oL enc)) G)(hb:VE A b (rO (oL enc)) pk):VE A (m2 Dd a b) (rN (oL enc)) (G.bind λl=>pk.bind λk=>W5 l k):=λv j S0 e F S B=>by
 obtain⟨x,H,j⟩:=BZ j;obtain⟨y,I,g⟩:=BZ j;obtain⟨d1,J,L,o,n,rfl,N⟩:=E x H S0 e F S B;obtain⟨d2,C,O,s,m,rfl,P⟩:=hb y I S0 e _ J (B.grow o);unfold W5 at g;split at g
 ·rename_i Q
  cases g;refine⟨_,_,BB L O (d:=.ref C.length) (S3:=C++[oL enc (x++y)]) ?_,(o.trans s).trans (Keeps.app _ _),_,rfl,(o.trans s).1,B1 _ _⟩;unfold Dd;dsimp only;rw[s.at N,P];unfold oL;dsimp only;rw[qX (by rw[AI,AI];exact az Q),Ca]
 ·cases g
def VO(A:List Sl)(mo:MO)(p:Option (Option Int)):Prop:=∀v,p=some v->∀S0 e F S,Vs S0 A e F S->∃S',mo e S=.ok v S'/\Keeps S S'
theorem Vn:VO A LI (some none):=λv g S0 e F S j=>by cases g;exact⟨S,rfl,Keeps.refl S⟩
theorem Vm(h:VE A m (rV D.int) pi):VO A (Hg m) (pi.bind λi=>some (some i)):=λv g S0 e F S j=>by
 obtain⟨x,l,o⟩:=BZ g;cases o;obtain⟨d,S',s,B,rfl⟩:=h x l S0 e F S j;exact⟨S',by unfold Hg;rw[s];rfl,B⟩
theorem U6(l:List α)(f:α->β)(lo hi:Option Int):JF (l.map f) lo hi=(JF l lo hi).map f:=by
 unfold JF;rw[AI,<-List.map_drop,<-Xu]
theorem Vv(E:VE A a (rO (oL enc)) G)(H:VO A mlo I)(J:VO A mhi ph):VE A (LL a mlo mhi) (rN (oL enc)) (G.bind λl=>I.bind λx=>ph.bind λy=>some (JF l x y)):=λv g S0 e F S s=>by
 obtain⟨l,L,g⟩:=BZ g;obtain⟨x,N,g⟩:=BZ g;obtain⟨y,O,P⟩:=BZ g;cases P;obtain⟨d1,Q,R,j,n,rfl,T⟩:=E l L S0 e F S s;obtain⟨U,X,o⟩:=H x N S0 e _ Q (s.grow j);obtain⟨B,Y,C⟩:=J y O S0 e _ U ((s.grow j).grow o);refine⟨.ref B.length,B++[oL enc (JF l x y)],?_,((j.trans o).trans C).trans (Keeps.app _ _),_,rfl,((j.trans o).trans C).1,B1 _ _⟩;unfold LL;rw[R];dsimp only[Res.bind];rw[X];dsimp only;rw[Y];dsimp only;unfold NG;dsimp only;rw[Ga ((o.trans C).at T)];show Res.ok _ (B++[Ob.lst (JF (l.map enc) x y)])=_;rw[U6];rfl
theorem Ko{g}(o:VE A a (rO (oL D.int)) g):VE A (C2 a) (rN (oL D.int)) (g.bind λl=>some (Dr l)):=λv s S0 e F S B=>by
 obtain⟨l,C,E⟩:=BZ s;cases E;obtain⟨d,S',G,j,n,rfl,H⟩:=o l C S0 e F S B;refine⟨_,_,Hv G (IU H) (es:=(Dr l).map D.int) ?_,j.trans (Keeps.app _ _),_,rfl,j.1,B1 _ _⟩;unfold II;rw[LU]
theorem Kn(g:VE A a (rV (eT enc)) pl):VI A (FQ a) enc pl:=λl j S0 e F S o=>by
 obtain⟨d,S',s,B,rfl⟩:=g l j S0 e F S o;exact⟨_,S',Oo (xs:=l.map enc) s,B,λ_ _ _ _=>rfl⟩
noncomputable def MC(lo:Int)(n:Nat):ZLi:=(A8 n).map λi:Nat=>lo+i
def Pw(j:Int):Option ZLi:=if -1000000<=j/\j<=1000000 then some (MC 0 j.toNat)else none
theorem YQ(lo:Int)(n:Nat):Cr lo n=(MC lo n).map D.int:=by
 unfold Cr MC;rw[B7];rfl
theorem MY(s:VE A a (rV D.int) pi):VI A (iR1 (AS a BA)) D.int (pi.bind Pw):=λl B S0 e F S C=>by
 obtain⟨j,E,g⟩:=BZ B;obtain⟨d,S',G,H,rfl⟩:=s j E S0 e F S C;unfold Pw at g;split at g
 ·rename_i o
  cases g;exact⟨_,S',LV (j:=j) (By G rfl) o.1 o.2,H,λ_ _ _ _=>congrArg some (YQ _ _)⟩
 ·cases g
end
end
section
variable{α ρ σ:Type}
theorem FX:FY (some (.nx s)) q=q s:=rfl
theorem VH:FY (some (.rt r)) q=some (.rt r):=rfl
theorem NW:UO (ρ:=ρ) g (some (.nx s))=some (.nx (g s)):=rfl
theorem U0(I:List α->σ->Prop)(R:ρ->Prop)(B:I [] s0)(h:∀g x s,x∈l->g++[x] <+: l->I g s->(∃s',q s x=some (.nx s')/\I (g++[x]) s')∨∃r,q s x=some (.rt r)/\R r):(∃s,IE l s0 q=some (.nx s)/\I l s)∨∃r,IE l s0 q=some (.rt r)/\R r:=by
 have j:∀(r g:List α) (s:σ),l=g++r->I g s->(∃s',IE r s q=some (.nx s')/\I l s')∨∃y,IE r s q=some (.rt y)/\R y:=by
  intro r
  induction r with
  | nil=>intro g s e m;rw[Bz]at e;subst e;exact .inl ⟨s,rfl,m⟩
  | cons x r C=>
   intro g s e m
   rcases h g x s (by rw[e];simp) ⟨r,by rw[e];simp⟩ m with⟨s',o,A⟩ | ⟨y,o,A⟩
   ·have E:IE (x :: r) s q=IE r s' q:=by
     conv=>lhs;unfold IE
     rw[o]
    rw[E];exact C (g++[x]) s' (by rw[e];simp) A
   ·refine .inr ⟨y,?_,A⟩
    unfold IE;rw[o]
 exact j l [] s0 rfl B
theorem U9(s:∀x∈l,c x=some (P x))(A:∀x∈l,P x=true->m x=some (f x)):Lc c m l=some ((l.filter P).map f):=by
 induction l with
 | nil=>rfl
 | cons x l g=>
  have g:=g (λy j=>s y (Aa _ j)) λy j=>A y (Aa _ j)
  unfold Lc;rw[s x Am];show(if P x=true then _ else _)=_
  cases o:P x with
  | true=>
   rw[qX rfl,A x Am o,g,List.filter_cons_of_pos o];rfl
  | false=>
   rw[qY AZ,g,List.filter_cons_of_neg (by rw[o];exact AZ)]
theorem Oy(g:l.length<=1000000)(j:∀x∈l,c x=some (P x))(o:∀x∈l,P x=true->m x=some (f x)):FW l c m=some ((l.filter P).map f):=by
 unfold FW;rw[qX g,U9 j o]
theorem SX(g:l.length<=1000000)(j:∀x∈l,m x=some (f x)):FW l (λ_=>some true) m=some (l.map f):=by
 rw[Oy (P:=λ_=>true) g (λ_ _=>rfl) λx o _=>j x o,List.filter_eq_self.mpr λ_ _=>rfl]
theorem HA(g:l.length<=1000000)(j:∀x∈l,c x=some (P x)):FW l c (λx=>some x)=some (l.filter P):=by
 rw[Oy (f:=λx=>x) g j λx m _=>rfl,Zp]
theorem XI(h:l.length < 1000000):XJ l x=some (l++[x]):=qX h
theorem W4(h:l.length+k.length<=1000000):W5 l k=some (l++k):=qX h
theorem bI:QG ([]:List α)=some []:=rfl
theorem few1(a:α):QG [a]=some [a]:=qX (by simp)
theorem Qp(g:-1000000<=j)(l:j<=1000000):Pw j=some (MC 0 j.toNat):=qX ⟨g,l⟩
theorem K9(lo:Int)(n:Nat):(MC lo n).length=n:=by unfold MC;rw[AI,List.length_range]
theorem QN(j:0<=i)(m:i < l.length):∃x,atI l i=some x/\l[i.toNat]?=some x:=by
 have g:i.toNat < l.length:=by lia
 exact⟨l[i.toNat],QO j (A2 g),A2 g⟩
theorem XG(h:atI l i=some x):x∈l:=by
 unfold atI at h;obtain⟨j,_,g⟩:=BZ h;exact Bd g
theorem RM(k:Int)(h:l≠[]):∃x,atI l (k % (l.length:Int))=some x/\x∈l:=by
 have j:0 < (l.length:Int):=by have:=Ra.mpr h;lia
 obtain⟨x,g,_⟩:=QN (l:=l) (i:=k % (l.length:Int)) (Br _ (by lia)) (Be _ j);exact⟨x,g,XG g⟩
theorem NV(h:0 < y):R7 x y=some (x % y):=qX h
theorem Tp{lo:Int}{n:Nat}{g:ZLi}{x:Int}(h:g++[x] <+: MC lo n):x=lo+g.length/\g.length < n:=by
 have j:=h.length_le;rw[Ao,DI,K9]at j;obtain⟨r,l⟩:=h;have:=congrArg (λz=>z[g.length]?) l;simp only[A0,Ae (AK _),HS]at this;rw[show([x]++r)[0]?=some x from rfl]at this;unfold MC at this;rw[Ad,Bk (by lia)]at this;simp only[S8,N0]at this;exact⟨this,by lia⟩
theorem NT[DecidableEq α]:∀{l k:List α},l.Nodup->(∀x∈l,x∈k)->l.length<=k.length
 | [],_,_,_=>CA _
 | x :: l,k,m,h=>by
  have g:=h x Am;obtain⟨o,s⟩:=D0.mp m
  have:=NT (l:=l) (k:=k.erase x) s λy j=>(List.mem_erase_of_ne (λz:y=x=>o (by rw[<-z];exact j))).mpr (h y (Aa _ j))
  rw[List.length_erase_of_mem g]at this;have:=List.length_pos_of_mem g;rw[Al]
  lia
def Ok(p:Option α)(P:α->Prop):Prop:=∃v,p=some v/\P v
def OkF(p:Option (Fw ρ σ))(N:σ->Prop)(R:ρ->Prop):Prop:=(∃s,p=some (.nx s)/\N s)∨∃r,p=some (.rt r)/\R r
theorem OkF.nx(h:N s):OkF (some (.nx s)) N R:=.inl ⟨s,rfl,h⟩
theorem OkF.rt(h:R r):OkF (some (.rt r)) N R:=.inr ⟨r,rfl,h⟩
theorem OkF.seq(h:OkF p N R)(g:∀s,N s->OkF (q s) N' R):OkF (FY p q) N' R:=by
 rcases h with⟨s,rfl,h⟩ | ⟨r,rfl,h⟩
 ·exact g s h
 ·exact .inr ⟨r,rfl,h⟩
theorem OkF.for(I:List α->σ->Prop)(j:I [] s0)(h:∀g x s,x∈l->g++[x] <+: l->I g s->OkF (q s x) (I (g++[x])) R):OkF (IE l s0 q) (I l) R:=U0 I R j h
theorem OkF.out(h:OkF p (λ_=>False) R):Ok (Pz p) R:=by
 rcases h with⟨s,rfl,h⟩ | ⟨r,rfl,h⟩
 ·exact h.elim
 ·exact⟨r,rfl,h⟩
end
section
variable{ρ σ:Type}
theorem OG{n:Nat}{b:MS}{as:List Ar}{R:Rk ρ}{p:Option (Fw ρ σ)}{B:σ->List Sl}(h:VS (as.map Ar.sl++BH (n - as.length) .u) b R p B):VF (Fe n b) as R (Pz p):=λv j S E m=>by
 cases p with
 | none=>cases j
 | some x=>
  obtain⟨g,o,A,l⟩:=h _ rfl S _ _ S (Vs.start m)
  cases x with
  | rt r=>cases j;obtain⟨d,rfl,l,C⟩:=l;exact⟨d,o,_root_.M.FN A,C,l⟩
  | nx s=>cases j
  | bk s=>cases j
  | ct s=>cases j
theorem XZ(j:VE A a (rV enc) p)(l:∀x S,tyD (enc x) S=some T)(hb:isB t T=some r):VE A (_root_.M.mIs (isB t) (λ_=>none) a) (rV D.bl) (p.bind λ_=>some r):=λv m o e F S s=>by
 obtain⟨x,B,C⟩:=BZ m;cases C;obtain⟨d,g,E,G,rfl⟩:=j x B o e F S s;exact⟨_,g,_root_.M.a6 E (l x g) hb,G,rfl⟩
end
def hb(g x:Int):Bool:=Builtin.bitAnd (g / 2 ^ x.toNat) 1 != 0
abbrev HL:=List ZPi
abbrev QL:=List (Int×Bool)
section
abbrev w0(T:Int->ZLi)(j g:Int):ZLi:=(T g).filter (hb j)
def MOn(T:Int->ZLi)(g:Int)(P:Int->Prop)(H:HL):Prop:=(∀x,P x->∀a,Fu H x=some a->x∈w0 T g a)/\∀x y a,P x->P y->Fu H x=some a->Fu H y=some a->x=y
abbrev sn(Q:QL)(x:Int):Prop:=(Fu Q x).isSome=true
def Good(T:Int->ZLi)(j:Int)(H:HL)(g:Int)(Q:QL)(H':HL):Prop:=
 (∀x,sn Q x->Fu H' x=Fu H x)/\(MOn T j (λx=>¬sn Q x) H->(∀x,¬sn Q x->Fu H x≠some g)->MOn T j (λx=>¬sn Q x) H'/\∀a,(∃x,¬sn Q x/\Fu H' x=some a)↔a=g∨∃x,¬sn Q x/\Fu H x=some a)
end
section
variable{S0 S:Sto}{A:List Sl}{e:Lo}{F:Fz}{α:Type}{enc:α->D}{cP:List (List α)}{i:Nat}
def Nst(enc:α->D)(cP:List (List α))(L:Nat->Option Ob)(d:D):Prop:=∃n g,d=.ref n/\L n=some (oL D.ref g)/\g.length=cP.length/\∀(k:Nat) (j:List α),cP[k]?=some j->∃m,g[k]?=some m/\L m=some (oL enc j)
def loF(F:Fz):Nat->Option Ob:=λn=>match F n with
 | .fz o=>some o
 | _=>none
theorem Y1(h:F n=.fz o):loF F n=some o:=by unfold loF;rw[h]
theorem UU(h:loF F n=some o):F n=.fz o:=by
 unfold loF at h;split at h
 ·rename_i j g;cases h;exact g
 ·cases h
theorem Vs.nst(j:Vs S0 A e F S)(h:A[i]?=some (.q (Nst enc cP))):∃n g,e[i]?=some (some (.ref n))/\F n=.fz (oL D.ref g)/\g.length=cP.length/\∀(k:Nat) (xs:List α),cP[k]?=some xs->∃m,g[k]?=some m/\F m=.fz (oL enc xs):=by
 obtain⟨x,l,d,rfl,s⟩:=j.sl i _ h
 obtain⟨n,g,rfl,B,C,E⟩:=s (loF F) λn o q=>Y1 q
 exact⟨n,g,l,UU B,C,λk xs G=>let ⟨m,H,I⟩:=E k xs G;⟨m,H,UU I⟩⟩
theorem RL(o:g.length=cP.length)(h:atI cP k=some xs):∃j:Nat,cP[j]?=some xs/\∀m,g[j]?=some m->atI g k=some m:=by
 unfold atI at h ⊢;rw[o]
 cases l:ixN cP.length k with
 | none=>rw[l]at h;cases h
 | some j=>rw[l]at h;exact⟨j,h,λm s=>s⟩
theorem X2(h:A[i]?=some (.q (Nst enc cP)))(hb:VE A b (rV D.int) pi):VE A (m2 ixA (AG i) b) (rO (oL enc)) (pi.bind λk=>atI cP k):=λv s S0 e F S g=>by
 obtain⟨k,B,C⟩:=BZ s;obtain⟨n,E,G,H,I,J⟩:=g.nst h;obtain⟨d,L,N,o,rfl⟩:=hb k B S0 e F S g;obtain⟨j,O,P⟩:=RL I C;obtain⟨m,Q,R⟩:=J j v O
 have T:AG i e S=.ok (.ref n) S:=by unfold AG;rw[G]
 exact⟨.ref m,L,BB T N (P8 (enc:=D.ref) (l:=E) (CM (o.at (g.fz _ _ H))) (P m Q)),o,m,rfl,o.at (g.fz _ _ R)⟩
theorem X1(h:A[i]?=some (.q (Nst enc cP)))(hb:VE A b (rV D.int) pi):VI A (FQ (m2 ixA (AG i) b)) enc (pi.bind λk=>atI cP k):=λv B S0 e F S g=>by
 obtain⟨k,C,E⟩:=BZ B;obtain⟨n,G,H,I,J,L⟩:=g.nst h;obtain⟨d,N,O,o,rfl⟩:=hb k C S0 e F S g;obtain⟨j,P,Q⟩:=RL J E;obtain⟨m,R,s⟩:=L j v P
 have T:AG i e S=.ok (.ref n) S:=by unfold AG;rw[H]
 have U:=BB T O (P8 (enc:=D.ref) (l:=G) (CM (o.at (g.fz _ _ I))) (Q m R));exact⟨_,N,Hk U (o.at (g.fz _ _ s)),o,λY Z X h=>ER (h m _ (X _ _ (by rw[Ho (En (g.fz _ _ s))];exact s)))⟩
theorem va_q(h:A[i]?=some (.q (Nst enc cP)))(l:VA A ml q m):VA A (AS (AG i) ml) (q.bind λy=>some (cP,y)) (λz=>.q (Nst enc z.1) :: m z.2):=λv s S0 e F S g=>by
 obtain⟨y,B,C⟩:=BZ s;cases C;obtain⟨x,E,d,rfl,G⟩:=g.sl i _ h;obtain⟨O,H,I,j,J⟩:=l y B S0 e F S g;exact⟨_,H,By (show AG i e S=.ok d S by unfold AG;rw[E]) I,j,λL N=>G L λn o q=>N n o (j.at (g.fz _ _ q)),J⟩
theorem Qj(h:A[i]?=some (.q (Nst enc cP))):VE A (D1 (AG i)) (rV D.int) (some (cP.length:Int)):=λv j S0 e F S g=>by
 cases j;obtain⟨n,l,m,o,s,B⟩:=g.nst h;exact⟨_,S,(F6 (ds:=l.map D.ref) (show AG i e S=.ok (.ref n) S by unfold AG;rw[m]) (CM (g.fz _ _ o))).trans (by rw[AI,s]),Keeps.refl S,rfl⟩
end
section
def UL(l:ZLi):Option Int:=Mu ltZ l
end
end L4
namespace M
open L2
def top(i:Nat):DM:=Xt.main.body.getD i (.Pass ⟨0,0,0,0⟩)
structure Wd where
 Web:AL
 tb:AL
def Wd.excs(W:Wd):List AL:=[]
abbrev FL:DM:=top 7
abbrev FK:DM:=top 8
abbrev IR:DM:=Wq (top 6) 0
abbrev Gs:DM:=top 10
abbrev FM:DM:=top 12
abbrev Gv:DM:=top 13
abbrev Gt:DM:=top 14
abbrev Hb:DM:=top 15
abbrev Ha:DM:=top 16
abbrev Fy:DM:=top 17
abbrev Gu:DM:=top 18
abbrev D5:DM:=top 20
abbrev F0:DM:=top 21
abbrev OQ:DM:=top 22
def Ld(W:Wd):MS:=
  (BL (Bp 2 US)
  (BL (Gw (FQ (AG 1)) (HZ 2 (Cz (tgN 3) (Cz (tgN 4) IH)))
  (BL (Bp 5 (IC (AS (mQ Mi (AS (AG 3) (AS (AG 4) BA))) (AS (mQ Mj (AS (AG 3) (AS (AG 4) BA))) BA))))
  (BL (sIf (mB (m2 (eqD false) (m2 ixA (AG 5) (mC (.int 0))) (m2 ixA (AG 5) (mC (.int 1))))) OR sNx)
  (BL (sIf (mOr (mB (m2 ltD (m2 ixA (AG 5) (mC (.int 0))) (mC (.int 0)))) (mB (m2 geD (m2 ixA (AG 5) (mC (.int 1))) (AG 0)))) OR sNx)
  (BL (sIf (mB (m2 (inA false) (AG 5) (AG 2))) OR sNx)
  (K0 (AG 2) (AG 5) (mC (.bl true))))))))
  (E0 (EU (C2 (AG 2))))))
def EB(W:Wd):List D->Sto->Res D:=Fe 6 (Ld W)
def Hr(W:Wd):MS:=
  (BL (Bp 2 (D7 (Em 1 (iR1 (AS (AG 0) BA)) (tgN 0) Gg (D7 (C3 BA)))))
  (BL (Gw (FQ (AG 1)) (HZ 2 (Cz (tgN 3) (Cz (tgN 4) IH)))
  (BL (C4 (FO (m2 ixA (AG 2) (AG 3)) (AG 4)))
  (C4 (FO (m2 ixA (AG 2) (AG 4)) (AG 3)))))
  (E0 (EU (D7 (Em 1 (FQ (AG 2)) (tgN 0) Gg (EU (C2 (AG 0)))))))))
def EA(W:Wd):List D->Sto->Res D:=Fe 5 (Hr W)
def Lg(W:Wd):MS:=
  (BL (sIf (MJ (mB (m3 leD leD (mC (.int 1)) (AG 1) (mC (.int 60))))) OR sNx)
  (BL (Mc W.Web "places" (AG 0) (AG 1))
  (BL (Mc W.Web "ties" (AG 0) (Bs 2 (EB W) (AS (AG 1) (AS (AG 2) BA))))
  (Mc W.Web "near_sets" (AG 0) (Bs 2 (EA W) (AS (AG 1) (AS (UR W.Web "ties" (AG 0)) BA)))))))
def FU(W:Wd):List D->Sto->Res D:=Fe 3 (Lg W)
def ED(W:Wd):MS:=
  (E0 (Ml (D7 (Em 1 (FQ (AG 1)) (tgN 0) (mB (m2 (inA true) (AG 0) (AG 3))) (AG 0)))))
def CY(W:Wd):List D->Sto->Res D:=Fe 3 (ED W)
def FZ(W:Wd):MS:=
  (BL (sIf (mB (m2 ltD (AG 1) (D1 (AG 0)))) (E0 (m2 ixA (AG 0) (AG 1))) sNx)
  (E0 (mC (.int 0))))
def EC(W:Wd):List D->Sto->Res D:=Fe 2 (FZ W)
def JH(W:Wd):MS:=
  (BL (Bp 2 (m2 Cm (m2 LJ (m2 Dd (m2 Cm (AG 0) (mC (.int 2147483647))) (AG 1)) (mC (.int 48271))) (mC (.int 2147483647))))
  (E0 (m2 Cm (m2 LJ (AG 2) (AG 2)) (mC (.int 2147483629)))))
def Bw(W:Wd):List D->Sto->Res D:=Fe 3 (JH W)
def HB(W:Wd):MS:=
  (E0 (Oh (M.mIs (isB "int") (λ_=>none) (AG 0)) (Qy (M.mIs (isB "bool") (λ_=>none) (AG 0)))))
def G7(W:Wd):List D->Sto->Res D:=Fe 1 (HB W)
def Jy(W:Wd):MS:=
  (BL (Bp 2 (D7 (C3 (AS (D1 (AG 0)) BA))))
  (BL (Gw (iR1 (AS (mC (.int 24)) BA)) (tgN 3)
  (BL (Bp 4 (KY (AG 0) (Hg (m2 Dd (AG 1) (AG 3))) LI (Hg (mC (.int 24)))))
  (sIf (mB (m2 (eqD true) (AG 4) (D7 (C3 BA)))) (C4 (FO (AG 2) (P6 (AG 4)))) sNx)))
  (E0 (AG 2))))
def Fm(W:Wd):List D->Sto->Res D:=Fe 5 (Jy W)
def Jx(W:Wd):MS:=
  (BL (Bp 3 (D7 (C3 BA)))
  (BL (Bp 4 (mC (.int 0)))
  (BL (Gw (iR2 (AS (mC (.int 1)) (AS (AG 1) BA))) (tgN 5)
  (Gw (iR1 (AS (AG 5) BA)) (tgN 6)
  (BL (Bp 7 (m2 ixA (AG 0) (m2 Cm (AG 4) (D1 (AG 0)))))
  (BL (Bp 4 (m2 Dd (AG 4) (mC (.int 1))))
  (sIf (mB (m2 ltD (m2 Cm (Bs 2 (Bw W) (AS (AG 7) (AS (m2 Dd (m2 LJ (mC (.int 7)) (AG 6)) (m2 LJ (mC (.int 61)) (AG 5))) BA))) (mC (.int 6))) (AG 2))) (C4 (FO (AG 3) (IC (AS (AG 6) (AS (AG 5) BA))))) sNx)))))
  (E0 (AG 3)))))
def Fk(W:Wd):List D->Sto->Res D:=Fe 8 (Jx W)
def Eg(W:Wd):MS:=
  (BL (Bp 2 (D7 (C3 BA)))
  (BL (Gw (iR1 (AS (D1 (AG 0)) BA)) (tgN 3)
  (sIf (mB (m2 (eqD false) (m2 Cm (Bs 2 (Bw W) (AS (AG 1) (AS (AG 3) BA))) (mC (.int 2))) (mC (.int 0)))) (C4 (FO (AG 2) (m2 ixA (AG 0) (AG 3)))) (C4 (FO (AG 2) (IC (AS (m2 ixA (m2 ixA (AG 0) (AG 3)) (mC (.int 1))) (AS (m2 ixA (m2 ixA (AG 0) (AG 3)) (mC (.int 0))) BA)))))))
  (BL (sIf (mB (m2 (eqD false) (m2 Cm (AG 1) (mC (.int 2))) (mC (.int 1)))) (C4 (UQ (AG 2))) sNx)
  (E0 (AG 2)))))
def Cd(W:Wd):List D->Sto->Res D:=Fe 4 (Eg W)
def JG(W:Wd):MS:=
  (BL (Bp 2 (D7 (Em 1 (iR1 (AS (AG 1) BA)) (tgN 0) Gg (D7 (C3 BA)))))
  (BL (Gw (FQ (AG 0)) (HZ 2 (Cz (tgN 3) (Cz (tgN 4) IH)))
  (BL (C4 (FO (m2 ixA (AG 2) (AG 3)) (AG 4)))
  (C4 (FO (m2 ixA (AG 2) (AG 4)) (AG 3)))))
  (E0 (D7 (Em 1 (FQ (AG 2)) (tgN 0) Gg (C2 (AG 0)))))))
def E8(W:Wd):List D->Sto->Res D:=Fe 5 (JG W)
def EE(W:Wd):MS:=
  (BL (Bp 2 (D7 (C3 BA)))
  (BL (Gw (iR1 (AS (D1 (AG 0)) BA)) (tgN 3)
  (BL (Bp 4 (m2 Cm (m2 Dd (AG 1) (AG 3)) (D1 (AG 0))))
  (sIf (MJ (mB (mQ XN (Og (D7 (Em 1 (FQ (m2 ixA (AG 0) (AG 4))) (tgN 0) Gg (m2 (inA false) (AG 0) (AG 3)))))))) (C4 (FO (AG 2) (AG 4))) sNx)))
  (E0 (EU (C2 (AG 2))))))
def DD(W:Wd):List D->Sto->Res D:=Fe 5 (EE W)
def GC(W:Wd):MS:=
  (BL (Gw (iR1 (AS (m2 Dd (D1 (AG 2)) (mC (.int 1))) BA)) (tgN 5)
  (BL (Bp 6 (Bs 3 (CY W) (AS (AG 0) (AS (AG 2) (AS (AG 3) BA)))))
  (BL (Bp 7 (D7 (Em 1 (FQ (AG 2)) (tgN 0) (mB (m2 (inA true) (AG 0) (AG 4))) (AG 0))))
  (BL (sIf (mOr (MJ (R9 (Bs 1 (G7 W) (AS (AG 6) BA)))) (mB (m2 (eqD true) (AG 6) (m2 ixA (AG 7) (mC (.int 0)))))) (E0 (mC (.bl false))) sNx)
  (BL (Bp 8 (D7 (Em 1 (FQ (AG 3)) (tgN 0) (mB (m2 (inA false) (AG 0) (m2 ixA (AG 2) (AG 7)))) (AG 0))))
  (BL (sIf (mB (m2 (eqD false) (AG 8) (D7 (C3 BA)))) (E0 (mC (.bl true))) sNx)
  (BL (Bp 9 (m2 ixA (AG 8) (m2 Cm (m2 ixA (AG 4) (m2 Cm (AG 5) (D1 (AG 4)))) (D1 (AG 8)))))
  (BL (sIf (mB (m2 (inA false) (AG 9) (AG 2))) (E0 (mC (.bl false))) sNx)
  (Bp 3 (EU (C2 (m2 Dd (D7 (Em 1 (FQ (AG 3)) (tgN 0) (mB (m2 (eqD true) (AG 0) (AG 10))) (AG 0))) (D7 (C3 (AS (AG 6) BA)))))))))))))))
  (E0 (mC (.bl false))))
def Ee(W:Wd):List D->Sto->Res D:=Fe 10 (GC W)
def Gb:Pos:=⟨127,41,127,78⟩
def lq:Str:=(Fs "law" (A6 OQ) 0 0 .none).qual++"<lambda>"
def VM(W:Wd):MS:=
  (BL (Bp 1 (Bs 2 (EC W) (AS (AG 0) (AS (mC (.int 0)) BA))))
  (BL (Bp 2 (m2 Dd (mC (.int 1)) (m2 Cm (AG 1) (mC (.int 14)))))
  (BL (Bp 3 (m2 Dd (mC (.int 1)) (m2 Cm (m2 E4 (AG 1) (mC (.int 5))) (mC (.int 6)))))
  (BL (sIf (mB (m2 (eqD false) (m2 Cm (m2 E4 (AG 1) (mC (.int 14))) (mC (.int 8))) (mC (.int 3)))) (BL (Bp 2 (m2 Dd (mC (.int 15)) (m2 Cm (m2 E4 (AG 1) (mC (.int 112))) (mC (.int 26)))))
  (Bp 3 (m2 Dd (mC (.int 1)) (m2 Cm (m2 E4 (AG 1) (mC (.int 5))) (mC (.int 2)))))) sNx)
  (BL (Bp 4 (Bs 2 (Fm W) (AS (AG 0) (AS (mC (.int 1)) BA))))
  (BL (Bp 5 (Bs 3 (Fk W) (AS (AG 4) (AS (AG 2) (AS (AG 3) BA)))))
  (BL (Bp 6 (LM W.Web 3 (FU W) (AS (AG 2) (AS (Bs 2 (Cd W) (AS (AG 5) (AS (AG 1) BA))) BA))))
  (BL (Bp 7 (Bs 2 (E8 W) (AS (AG 5) (AS (AG 2) BA))))
  (BL (Bp 8 (Bs 2 (DD W) (AS (AG 7) (AS (m2 Cm (m2 E4 (AG 1) (mC (.int 7))) (AG 2)) BA))))
  (BL (sIf (mOr (mB (m2 (Ug true) (Bs 3 (CY W) (AS (AG 6) (AS (AG 8) (AS (AG 8) BA)))) (mC .non))) (mB (m2 (Ug true) (Bs 3 (CY W) (AS (AG 6) (AS (IC BA) (AS (AG 8) BA)))) (mC .non)))) (E0 (mC (.bl false))) sNx)
  (BL (sIf (mB (m2 ltD (D1 (AG 8)) (mC (.int 2)))) (E0 (mC (.bl true))) sNx)
  (BL (Gw (FQ (AG 4)) (tgN 9)
  (BL (Bp 10 (m2 Dd (mC (.int 1)) (m2 Cm (AG 9) (m2 V5 (D1 (AG 8)) (mC (.int 1))))))
  (Tl (AG 2) 9 (Bs 2 (Bw W) (AS (AG 0) (AS (AG 1) BA))) W.tb Gb lq 12 11 (sIf (MJ (R9 (Bs 5 (Ee W) (AS (AG 6) (AS (AG 7) (AS (AG 8) (AS (EU (C2 (LL (AG 11) LI (Hg (AG 10))))) (AS (AG 4) BA)))))))) (E0 (mC (.bl false))) sNx))))
  (E0 (mC (.bl true)))))))))))))))
def Q9(W:Wd):List D->Sto->Res D:=V9 13 12 (VM W)
set_option genInjectivity false in
structure Txt(K:AB)(mg:Str->Option AC)(W:Wd) where
 d_checked_ties:Dfn K mg "checked_ties" "checked_ties" FL ["places", "ties"]
 d_near_sets_of:Dfn K mg "near_sets_of" "near_sets_of" FK ["places", "ties"]
 d_Web_init:Mtd K "__init__" "Web.__init__" IR ["self", "places", "ties"]
 d_apart_call:Dfn K mg "apart_call" "apart_call" Gs ["web", "some", "standing"]
 d__law_cell_at:Dfn K mg "_law_cell_at" "_law_cell_at" FM ["script", "k"]
 d__law_mixed:Dfn K mg "_law_mixed" "_law_mixed" Gv ["cell", "salt"]
 d__law_whole:Dfn K mg "_law_whole" "_law_whole" Gt ["found"]
 d__law_pool:Dfn K mg "_law_pool" "_law_pool" Hb ["script", "start"]
 d__law_ties:Dfn K mg "_law_ties" "_law_ties" Ha ["pool", "many", "thick"]
 d__law_turned:Dfn K mg "_law_turned" "_law_turned" Fy ["ties", "cell"]
 d__law_nears:Dfn K mg "_law_nears" "_law_nears" Gu ["ties", "many"]
 d__law_apart_from:Dfn K mg "_law_apart_from" "_law_apart_from" D5 ["nears", "start"]
 d__law_played:Dfn K mg "_law_played" "_law_played" F0 ["web", "nears", "some", "standing", "pool"]
 d_law:Dfn K mg "law" "law" OQ ["script"]
 c_Web:Own K mg "Web" W.Web d_Web_init.f
 n_Web_places:Fa K W.Web "places"
 n_Web_ties:Fa K W.Web "ties"
 n_Web_near_sets:Fa K W.Web "near_sets"
 b_any:mg "any" = none
 b_bool:mg "bool" = none
 b_int:mg "int" = none
 b_isinstance:mg "isinstance" = none
 b_len:mg "len" = none
 b_max:mg "max" = none
 b_min:mg "min" = none
 b_range:mg "range" = none
 b_sorted:mg "sorted" = none
 b_sum:mg "sum" = none
 b_tuple:mg "tuple" = none
 g_MOST_PLACES:∃tk,mg "MOST_PLACES" = some (.int 60 tk)
section
variable{P:Aq}{w:A9}{K:AB}{mg:Str->Option AC}{base:BY}{W:Wd}
theorem J9:B9 ["places", "ties", "found", "one", "other", "tie"] ["places", "ties"] (A6 FL):=Ix
theorem KF(T:Txt K mg W):EZ P w K mg base (CXG P w) 1 T.d_checked_ties.f T.d_checked_ties.fd ["places", "ties"] (spM K 2 (EB W)):=by
 refine Cp (k:=0) T.d_checked_ties.F J9 rfl λ_ _ _ _ _ _ l g j=>?_
 exact(Af (Ct 2 j Ux)
  (Af (F8 (good_none rfl).own rfl (FR (AJ (pv 1))) (QD rfl (Ge (Da 3 j) (Ge (Da 4 j) Nf)))
  (Af (Ct 5 j (Ng (Aj (Ww rfl rfl T.b_min (Aj (AJ (pv 3)) (Aj (AJ (pv 4)) BJ))) (Aj (Wx rfl rfl T.b_max (Aj (AJ (pv 3)) (Aj (AJ (pv 4)) BJ))) BJ))))
  (Af (Eo (DQ (OZ g) (Du g (AJ (pv 5)) ge_int) (Du g (AJ (pv 5)) ge_int) (Dm _)) (A5 JA) Ci)
  (Af (Eo (Y9 (Um (DQ Qv (Du g (AJ (pv 5)) ge_int) ge_int (Dm _)) (QB (DQ ah (Du g (AJ (pv 5)) ge_int) (AJ (pv 0)) (Dm _))))) (A5 JA) Ci)
  (Af (Eo (Uo g (AJ (pv 5)) (AJ (pv 2))) (A5 JA) Ci)
  (A5 (Ws (BU (Nat.add_le_add_left (by decide:1<=64) _) g) (AJ (pv 2)) (AJ (pv 5)) JE rfl)))))))
  (A5 (Co (Gf rfl T.b_tuple (FC rfl rfl T.b_sorted (AJ (pv 2))))))))
theorem J8:B9 ["places", "ties", "rows", "one", "other"] ["places", "ties"] (A6 FK):=Ix
theorem KD(T:Txt K mg W):EZ P w K mg base (CXG P w) 1 T.d_near_sets_of.f T.d_near_sets_of.fd ["places", "ties"] (spM K 2 (EA W)):=by
 refine Cp (k:=0) T.d_near_sets_of.F J8 rfl λ_ _ _ _ _ _ l j g=>?_
 exact(Af (Ka (i:=2) (own:=["place"]) (N':=["place", "·1", "·2", "·3", "·4", "·5"]) rfl rfl g rfl (by first | exact Lm rfl | exact Jl rfl) (FA (by kernel_rfl)) (EX rfl T.b_range (Aj (AJ (pv 0)) BJ)) (λ_ _ _ _ _ _=>(Da 0 (by decide +kernel:(["place", "·1", "·2", "·3", "·4", "·5"]:List Str).Nodup))) (λ_ _ _ _ _ _=>Hl) (λ_ _ _ _ _ _=>(D9 (G5 BJ))))
  (Af (F8 (good_none rfl).own rfl (FR (AJ (pv 1))) (QD rfl (Ge (Da 3 g) (Ge (Da 4 g) Nf)))
  (Af (Ed (DV (Du j (AJ (pv 2)) (AJ (pv 3))) (AJ (pv 4))))
  (A5 (Ed (DV (Du j (AJ (pv 2)) (AJ (pv 4))) (AJ (pv 3)))))))
  (A5 (Co (Gf rfl T.b_tuple (D9 (JB (own:=["row"]) (N':=["row", "·1", "·2", "·3", "·4", "·5"]) rfl (FA (by kernel_rfl)) (FR (AJ (pv 2))) (λ_ _ _ _ _ _=>(Da 0 (by decide +kernel:(["row", "·1", "·2", "·3", "·4", "·5"]:List Str).Nodup))) (λ_ _ _ _ _ _=>Hl) (λ_ _ _ _ _ _=>(Gf rfl T.b_tuple (FC rfl rfl T.b_sorted (AJ (pv 0))))))))))))
theorem OP:B9 ["self", "places", "ties"] ["self", "places", "ties"] (A6 IR):=Ix
theorem OY(T:Txt K mg W):EZ P w K mg base (CXG P w) 2 T.d_Web_init.f T.d_Web_init.fd ["self", "places", "ties"] (spM K 3 (FU W)):=by
 refine Cp (k:=1) T.d_Web_init.F OP rfl λ_ _ _ _ _ _ g j l=>?_
 exact(Af (Eo (Nc (Uq Xc Xc ge_int (AJ (pv 1)) (Uw rfl T.g_MOST_PLACES.choose_spec))) (A5 JA) Ci)
  (Af (QC T.c_Web.cl T.n_Web_places (AJ (pv 0)) (AJ (pv 1)) rfl)
  (Af (QC T.c_Web.cl T.n_Web_ties (AJ (pv 0)) (gcl T.d_checked_ties (KF T) g (Aj (AJ (pv 1)) (Aj (AJ (pv 2)) BJ))) rfl)
  (A5 (QC T.c_Web.cl T.n_Web_near_sets (AJ (pv 0)) (gcl T.d_near_sets_of (KD T) g (Aj (AJ (pv 1)) (Aj (ZJ T.c_Web.cl T.n_Web_ties (AJ (pv 0)) rfl) BJ))) rfl)))))
theorem L7:B9 ["web", "some", "standing"] ["web", "some", "standing"] (A6 Gs):=Ix
theorem F4(T:Txt K mg W):EZ P w K mg base (CXG P w) 1 T.d_apart_call.f T.d_apart_call.fd ["web", "some", "standing"] (spM K 3 (CY W)):=by
 refine Cp (k:=0) T.d_apart_call.F L7 rfl λ_ _ _ _ _ _ j g l=>?_
 exact(A5 (Co (Wv rfl rfl T.b_min (D9 (JB (own:=["place"]) (N':=["place", "·1", "·2", "standing"]) rfl (FA (by kernel_rfl)) (FR (AJ (pv 1))) (λ_ _ _ _ _ _=>(Da 0 (by decide +kernel:(["place", "·1", "·2", "standing"]:List Str).Nodup))) (λ_ _ _ _ _ _=>(JC (Oq g (AJ (pv 0)) (AJ (pv 3))))) (λ_ _ _ _ _ _=>(AJ (pv 0))))))))
theorem KA:B9 ["script", "k"] ["script", "k"] (A6 FM):=Ix
theorem KG(T:Txt K mg W):EZ P w K mg base (CXG P w) 1 T.d__law_cell_at.f T.d__law_cell_at.fd ["script", "k"] (spM K 2 (EC W)):=by
 refine Cp (k:=0) T.d__law_cell_at.F KA rfl λ_ _ _ _ _ _ j g l=>?_
 exact(Af (Eo (DQ Qv (AJ (pv 1)) (FT rfl T.b_len (AJ (pv 0))) (Dm _)) (A5 (Co (Du g (AJ (pv 0)) (AJ (pv 1))))) Ci)
  (A5 (Co ge_int)))
theorem MA:B9 ["cell", "salt", "mixed"] ["cell", "salt"] (A6 Gv):=Ix
theorem F5(T:Txt K mg W):EZ P w K mg base (CXG P w) 1 T.d__law_mixed.f T.d__law_mixed.fd ["cell", "salt"] (spM K 2 (Bw W)):=by
 refine Cp (k:=0) T.d__law_mixed.F MA rfl λ_ _ _ _ _ _ j l g=>?_
 exact(Af (Ct 2 g (BO DP (BO NQ (BO E1 (BO DP (AJ (pv 0)) ge_int) (AJ (pv 1))) ge_int) ge_int))
  (A5 (Co (BO DP (BO NQ (AJ (pv 2)) (AJ (pv 2))) ge_int))))
theorem L8:B9 ["found"] ["found"] (A6 Gt):=Ix
theorem MD(T:Txt K mg W):EZ P w K mg base (CXG P w) 1 T.d__law_whole.f T.d__law_whole.fd ["found"] (spM K 1 (G7 W)):=by
 refine Cp (k:=0) T.d__law_whole.F L8 rfl λ_ _ _ _ _ _ g j l=>?_
 exact(A5 (Co (L2.ZN (Uv (c:=.ty "int") (cv:=.type "int") (λ_ r=>r) Wp rfl T.b_isinstance (AJ (pv 0)) (Qt rfl T.b_int bX rfl)) (ZH (ZI (Uv (c:=.ty "bool") (cv:=.type "bool") (λ_ r=>r) Ui rfl T.b_isinstance (AJ (pv 0)) (Qt rfl T.b_bool bY rfl)))))))
theorem NK:B9 ["script", "start", "pool", "k", "more"] ["script", "start"] (A6 Hb):=Ix
theorem NP(T:Txt K mg W):EZ P w K mg base (CXG P w) 1 T.d__law_pool.f T.d__law_pool.fd ["script", "start"] (spM K 2 (Fm W)):=by
 refine Cp (k:=0) T.d__law_pool.F NK rfl λ_ _ _ _ _ _ l j g=>?_
 exact(Af (Ct 2 g (D9 (G5 (Aj (FT rfl T.b_len (AJ (pv 0))) BJ))))
  (Af (F8 (good_none rfl).own rfl (EX rfl T.b_range (Aj ge_int BJ)) (Da 3 g)
  (Af (Ct 4 g (SN (AJ (pv 0)) (Nd (BO E1 (AJ (pv 1)) (AJ (pv 3)))) Q4 (Nd ge_int)))
  (A5 (Eo (DQ (UC j) (AJ (pv 4)) (D9 (G5 BJ)) (Dm _)) (A5 (Ed (DV (AJ (pv 2)) (ZG rfl rfl T.b_sum (AJ (pv 4)))))) Ci))))
  (A5 (Co (AJ (pv 2))))))
theorem NJ:B9 ["pool", "many", "thick", "ties", "at", "other", "one", "cell"] ["pool", "many", "thick"] (A6 Ha):=Ix
theorem NO(T:Txt K mg W):EZ P w K mg base (CXG P w) 2 T.d__law_ties.f T.d__law_ties.fd ["pool", "many", "thick"] (spM K 3 (Fk W)):=by
 refine Cp (k:=1) T.d__law_ties.F NJ rfl λ_ _ _ _ _ _ j l g=>?_
 exact(Af (Ct 3 g (D9 (G5 BJ)))
  (Af (Ct 4 g ge_int)
  (Af (F8 (good_none rfl).own rfl (SM rfl T.b_range (Aj ge_int (Aj (AJ (pv 1)) BJ))) (Da 5 g)
  (A5 (F8 (good_none rfl).own rfl (EX rfl T.b_range (Aj (AJ (pv 5)) BJ)) (Da 6 g)
  (Af (Ct 7 g (Du l (AJ (pv 0)) (BO DP (AJ (pv 4)) (FT rfl T.b_len (AJ (pv 0))))))
  (Af (Ct 4 g (BO E1 (AJ (pv 4)) ge_int))
  (A5 (Eo (DQ Qv (BO DP (gcl T.d__law_mixed (F5 T) j (Aj (AJ (pv 7)) (Aj (BO E1 (BO NQ ge_int (AJ (pv 6))) (BO NQ ge_int (AJ (pv 5)))) BJ))) ge_int) (AJ (pv 2)) (Dm _)) (A5 (Ed (DV (AJ (pv 3)) (Ng (Aj (AJ (pv 6)) (Aj (AJ (pv 5)) BJ)))))) Ci)))))))
  (A5 (Co (AJ (pv 3)))))))
theorem Ky:B9 ["ties", "cell", "told", "k"] ["ties", "cell"] (A6 Fy):=Ix
theorem LD(T:Txt K mg W):EZ P w K mg base (CXG P w) 2 T.d__law_turned.f T.d__law_turned.fd ["ties", "cell"] (spM K 2 (Cd W)):=by
 refine Cp (k:=1) T.d__law_turned.F Ky rfl λ_ _ _ _ _ _ l g j=>?_
 exact(Af (Ct 2 j (D9 (G5 BJ)))
  (Af (F8 (good_none rfl).own rfl (EX rfl T.b_range (Aj (FT rfl T.b_len (AJ (pv 0))) BJ)) (Da 3 j)
  (A5 (Eo (DQ (OZ g) (BO DP (gcl T.d__law_mixed (F5 T) l (Aj (AJ (pv 1)) (Aj (AJ (pv 3)) BJ))) ge_int) ge_int (Dm _)) (A5 (Ed (DV (AJ (pv 2)) (Du g (AJ (pv 0)) (AJ (pv 3)))))) (A5 (Ed (DV (AJ (pv 2)) (Ng (Aj (Du g (Du g (AJ (pv 0)) (AJ (pv 3))) ge_int) (Aj (Du g (Du g (AJ (pv 0)) (AJ (pv 3))) ge_int) BJ)))))))))
  (Af (Eo (DQ (OZ g) (BO DP (AJ (pv 1)) ge_int) ge_int (Dm _)) (A5 (Ed (QF (AJ (pv 2))))) Ci)
  (A5 (Co (AJ (pv 2)))))))
theorem L9:B9 ["ties", "many", "nears", "one", "other"] ["ties", "many"] (A6 Gu):=Ix
theorem MF(T:Txt K mg W):EZ P w K mg base (CXG P w) 1 T.d__law_nears.f T.d__law_nears.fd ["ties", "many"] (spM K 2 (E8 W)):=by
 refine Cp (k:=0) T.d__law_nears.F L9 rfl λ_ _ _ _ _ _ l j g=>?_
 exact(Af (Ka (i:=2) (own:=["place"]) (N':=["place", "·1", "·2", "·3", "·4", "·5"]) rfl rfl g rfl (by first | exact Lm rfl | exact Jl rfl) (FA (by kernel_rfl)) (EX rfl T.b_range (Aj (AJ (pv 1)) BJ)) (λ_ _ _ _ _ _=>(Da 0 (by decide +kernel:(["place", "·1", "·2", "·3", "·4", "·5"]:List Str).Nodup))) (λ_ _ _ _ _ _=>Hl) (λ_ _ _ _ _ _=>(D9 (G5 BJ))))
  (Af (F8 (good_none rfl).own rfl (FR (AJ (pv 0))) (QD rfl (Ge (Da 3 g) (Ge (Da 4 g) Nf)))
  (Af (Ed (DV (Du j (AJ (pv 2)) (AJ (pv 3))) (AJ (pv 4))))
  (A5 (Ed (DV (Du j (AJ (pv 2)) (AJ (pv 4))) (AJ (pv 3)))))))
  (A5 (Co (D9 (JB (own:=["some"]) (N':=["some", "·1", "·2", "·3", "·4", "·5"]) rfl (FA (by kernel_rfl)) (FR (AJ (pv 2))) (λ_ _ _ _ _ _=>(Da 0 (by decide +kernel:(["some", "·1", "·2", "·3", "·4", "·5"]:List Str).Nodup))) (λ_ _ _ _ _ _=>Hl) (λ_ _ _ _ _ _=>(FC rfl rfl T.b_sorted (AJ (pv 0))))))))))
theorem IQ:B9 ["nears", "start", "some", "k", "place"] ["nears", "start"] (A6 D5):=Ix
theorem IS(T:Txt K mg W):EZ P w K mg base (CXG P w) 1 T.d__law_apart_from.f T.d__law_apart_from.fd ["nears", "start"] (spM K 2 (DD W)):=by
 refine Cp (k:=0) T.d__law_apart_from.F IQ rfl λ_ _ _ _ _ _ l j g=>?_
 exact(Af (Ct 2 g (D9 (G5 BJ)))
  (Af (F8 (good_none rfl).own rfl (EX rfl T.b_range (Aj (FT rfl T.b_len (AJ (pv 0))) BJ)) (Da 3 g)
  (Af (Ct 4 g (BO DP (BO E1 (AJ (pv 1)) (AJ (pv 3))) (FT rfl T.b_len (AJ (pv 0)))))
  (A5 (Eo (Nc (ZA (ZM rfl rfl T.b_any (D9 (JB (own:=["other"]) (N':=["other", "·1", "·2", "some", "·4", "·5"]) rfl (FA (by kernel_rfl)) (FR (Du j (AJ (pv 0)) (AJ (pv 4)))) (λ_ _ _ _ _ _=>(Da 0 (by decide +kernel:(["other", "·1", "·2", "some", "·4", "·5"]:List Str).Nodup))) (λ_ _ _ _ _ _=>Hl) (λ_ _ _ _ _ _=>(bE j (AJ (pv 0)) (AJ (pv 3))))))))) (A5 (Ed (DV (AJ (pv 2)) (AJ (pv 4))))) Ci))))
  (A5 (Co (Gf rfl T.b_tuple (FC rfl rfl T.b_sorted (AJ (pv 2))))))))
theorem Kz:B9 ["web", "nears", "some", "standing", "pool", "turn", "call", "open_ones", "movers", "gone"] ["web", "nears", "some", "standing", "pool"] (A6 F0):=Ix
theorem LF(T:Txt K mg W):EZ P w K mg base (CXG P w) 2 T.d__law_played.f T.d__law_played.fd ["web", "nears", "some", "standing", "pool"] (spM K 5 (Ee W)):=by
 refine Cp (k:=1) T.d__law_played.F Kz rfl λ_ _ _ _ _ _ l g j=>?_
 exact(Af (F8 (good_none rfl).own rfl (EX rfl T.b_range (Aj (BO E1 (FT rfl T.b_len (AJ (pv 2))) ge_int) BJ)) (Da 5 j)
  (Af (Ct 6 j (gcl T.d_apart_call (F4 T) l (Aj (AJ (pv 0)) (Aj (AJ (pv 2)) (Aj (AJ (pv 3)) BJ)))))
  (Af (Ka (i:=7) (own:=["place"]) (N':=["place", "·1", "·2", "·3", "standing", "·5", "·6", "·7", "·8", "·9", "·10"]) rfl rfl j rfl (by first | exact Lm rfl | exact Jl rfl) (FA (by kernel_rfl)) (FR (AJ (pv 2))) (λ_ _ _ _ _ _=>(Da 0 (by decide +kernel:(["place", "·1", "·2", "·3", "standing", "·5", "·6", "·7", "·8", "·9", "·10"]:List Str).Nodup))) (λ_ _ _ _ _ _=>(JC (Oq g (AJ (pv 0)) (AJ (pv 4))))) (λ_ _ _ _ _ _=>(AJ (pv 0))))
  (Af (Eo (Y9 (Um (Nc (Op (gcl T.d__law_whole (MD T) l (Aj (AJ (pv 6)) BJ)))) (QB (DQ (UC g) (AJ (pv 6)) (Du g (AJ (pv 7)) ge_int) (Dm _))))) (A5 (Co JE)) Ci)
  (Af (Ka (i:=8) (own:=["place"]) (N':=["place", "·1", "nears", "·3", "·4", "·5", "·6", "call", "·8", "·9", "·10"]) rfl rfl j rfl (by first | exact Lm rfl | exact Jl rfl) (FA (by kernel_rfl)) (FR (AJ (pv 3))) (λ_ _ _ _ _ _=>(Da 0 (by decide +kernel:(["place", "·1", "nears", "·3", "·4", "·5", "·6", "call", "·8", "·9", "·10"]:List Str).Nodup))) (λ_ _ _ _ _ _=>(JC (Uo g (AJ (pv 0)) (Du g (AJ (pv 2)) (AJ (pv 7)))))) (λ_ _ _ _ _ _=>(AJ (pv 0))))
  (Af (Eo (DQ (OZ g) (AJ (pv 8)) (D9 (G5 BJ)) (Dm _)) (A5 (Co JE)) Ci)
  (Af (Ct 9 j (Du g (AJ (pv 8)) (BO DP (Du g (AJ (pv 4)) (BO DP (AJ (pv 5)) (FT rfl T.b_len (AJ (pv 4))))) (FT rfl T.b_len (AJ (pv 8))))))
  (Af (Eo (Uo g (AJ (pv 9)) (AJ (pv 2))) (A5 (Co JE)) Ci)
  (A5 (Ct 3 j (Gf rfl T.b_tuple (FC rfl rfl T.b_sorted (BO E1 (D9 (JB (own:=["place"]) (N':=["place", "·1", "·2", "·3", "·4", "·5", "·6", "·7", "·8", "·9", "gone"]) rfl (FA (by kernel_rfl)) (FR (AJ (pv 3))) (λ_ _ _ _ _ _=>(Da 0 (by decide +kernel:(["place", "·1", "·2", "·3", "·4", "·5", "·6", "·7", "·8", "·9", "gone"]:List Str).Nodup))) (λ_ _ _ _ _ _=>(JC (DQ (UC g) (AJ (pv 0)) (AJ (pv 10)) (Dm _)))) (λ_ _ _ _ _ _=>(AJ (pv 0))))) (D9 (G5 (Aj (AJ (pv 6)) BJ))))))))))))))))
  (A5 (Co JE)))
theorem YL:B9 ["script", "first", "many", "thick", "pool", "ties", "web", "nears", "some", "cell", "guards", "places", "·t"] ["script"] (A6 OQ):=Ix
theorem Yt{cc:AL}(T:Txt K mg W)(l:T.d_law.fd.code=.ref cc)(C:PySem.W.CodeHd base cc W.tb)(B:base.BuiltinsAt mg W.tb)(good:∀ns:ZLi,ns.length<=63->∃o,Q9 W [.fro (ns.map D.int)] [.cod W.tb Gb lq]=.ok (.bl true) o):EZ P w K mg base (CXG P w) 5 T.d_law.f T.d_law.fd ["script"] (spT K W.tb Gb lq):=by
 refine ZP (k:=4) (t:=12) T.d_law.F YL rfl (by unfold Vis;decide +kernel) l (λ_ _ _ _ _ j s g=>?_) good
 exact(Af (Ct 1 g (gcl T.d__law_cell_at (KG T) j (Aj (AJ (pv 0)) (Aj ge_int BJ))))
  (Af (Ct 2 g (BO E1 ge_int (BO DP (AJ (pv 1)) ge_int)))
  (Af (Ct 3 g (BO E1 ge_int (BO DP (BO Iw (AJ (pv 1)) ge_int) ge_int)))
  (Af (Eo (DQ (OZ s) (BO DP (BO Iw (AJ (pv 1)) ge_int) ge_int) ge_int (Dm _)) (Af (Ct 2 g (BO E1 ge_int (BO DP (BO Iw (AJ (pv 1)) ge_int) ge_int)))
  (A5 (Ct 3 g (BO E1 ge_int (BO DP (BO Iw (AJ (pv 1)) ge_int) ge_int))))) Ci)
  (Af (Ct 4 g (gcl T.d__law_pool (NP T) j (Aj (AJ (pv 0)) (Aj ge_int BJ))))
  (Af (Ct 5 g (gcl T.d__law_ties (NO T) j (Aj (AJ (pv 4)) (Aj (AJ (pv 2)) (Aj (AJ (pv 3)) BJ)))))
  (Af (Ct 6 g (Wy T.c_Web.mk' (OY T) (good_none rfl).pass (j.mono (by decide)) rfl T.c_Web.m T.d_Web_init.b (Aj (AJ (pv 2)) (Aj (gcl T.d__law_turned (LD T) j (Aj (AJ (pv 5)) (Aj (AJ (pv 1)) BJ))) BJ))))
  (Af (Ct 7 g (gcl T.d__law_nears (MF T) j (Aj (AJ (pv 5)) (Aj (AJ (pv 2)) BJ))))
  (Af (Ct 8 g (gcl T.d__law_apart_from (IS T) j (Aj (AJ (pv 7)) (Aj (BO DP (BO Iw (AJ (pv 1)) ge_int) (AJ (pv 2))) BJ))))
  (Af (Eo (Y9 (Um (DQ Qu (gcl T.d_apart_call (F4 T) j (Aj (AJ (pv 6)) (Aj (AJ (pv 8)) (Aj (AJ (pv 8)) BJ)))) Uu (Dm _)) (QB (DQ Qu (gcl T.d_apart_call (F4 T) j (Aj (AJ (pv 6)) (Aj (Ng BJ) (Aj (AJ (pv 8)) BJ)))) Uu (Dm _))))) (A5 (Co JE)) Ci)
  (Af (Eo (DQ Qv (FT rfl T.b_len (AJ (pv 8))) ge_int (Dm _)) (A5 (Co JE)) Ci)
  (Af (F8 (good_none rfl).own rfl (FR (AJ (pv 4))) (Da 9 g)
  (Af (Ct 10 g (BO E1 ge_int (BO DP (AJ (pv 9)) (BO Yu (FT rfl T.b_len (AJ (pv 8))) ge_int))))
  (Wr g rfl (.inl rfl) (Py (k:=1) rfl (Y2) j rfl T.b_sorted (Ec (aU rfl T.b_range (Aj (AJ (pv 2)) BJ)) Gy) rfl rfl rfl rfl (.inr (.inl rfl)) rfl C B rfl rfl (λ_ _ _=>rfl) λ_ _ _ _=>gcl T.d__law_mixed (F5 T) (j.in1.in1.deeper _) (Aj (AJ (pv 0)) (Aj (AJ (pv 1)) BJ))) (Eo (Nc (Op (gcl T.d__law_played (LF T) j (Aj (AJ (pv 6)) (Aj (AJ (pv 7)) (Aj (AJ (pv 8)) (Aj (Gf rfl T.b_tuple (FC rfl rfl T.b_sorted (Ut (AJ (pv 11)) Q4 (Nd (AJ (pv 10)))))) (Aj (AJ (pv 4)) BJ)))))))) (A5 (Co JE)) Ci))))
  (A5 (Co JE))))))))))))))
end
open L2
open Srt (ltL)
def pairD(x:Int×Int):D:=.tup [.int x.1,.int x.2]
noncomputable def nrm(x:Int×Int):Int×Int:=(if x.2 < x.1 then x.2 else x.1,if x.2 > x.1 then x.2 else x.1)
def NM(x:Int×Int):ZLi:=[x.1,x.2]
def Iz(x:Int×Int):List Key:=[.inl x.1,.inl x.2]
theorem Om{x y:Int×Int}(h:Iz x=Iz y):x=y:=by
 unfold Iz at h;simp at h;exact Prod.ext h.1 h.2
theorem G4:∀ns:ZLi,E3 (ns.map D.int)=some ns
 | []=>rfl
 | n :: ns=>by
  rw[Au];unfold E3;rw[G4 ns];rfl
theorem K8:∀g:List ZLi,(∀r∈g,r≠[])->Mf (g.map KB)=some g
 | [],_=>rfl
 | [] :: g,h=>zX rfl (h [] Am)
 | (n :: l) :: g,h=>by
  rw[Au];unfold KB Mf;rw[G4,show XV (λr:ZLi=>D.tup (r.map D.int)) g=g.map KB from rfl,K8 g λr j=>h r (Aa _ j)]
theorem Ps(g:List ZLi)(h:∀r∈g,r≠[]):II (g.map KB)=some ((Ir g).map KB):=by
 unfold II
 cases g with
 | nil=>simp[E3,Ir]
 | cons r g=>
  have:E3 ((r :: g).map KB)=none:=rfl;rw[this,K8 _ h]
theorem Kw(ns:ZLi):II (ns.map D.int)=some ((Dr ns).map D.int):=by
 unfold II;rw[G4]
def Hh(ps:List ZPi):List (List Key×D):=ps.map λx=>(Iz (nrm x),.bl true)
theorem UN(ps:List ZPi)(x:Int×Int):(Fu (Hh ps) (Iz (nrm x))).isSome=decide (nrm x∈ps.map nrm):=by
 unfold Fu Hh
 induction ps with
 | nil=>rfl
 | cons y ps g=>
  rw[Au,CH]
  by_cases e:Iz (nrm y)=Iz (nrm x)
  ·rw[wX e]
   simp[Om e]
  ·rw[wY e]
   have j:nrm x≠nrm y:=λz=>e (by rw[z])
   simp only[Au,A7,j,false_or];exact g
theorem UM(ps:List ZPi)(x:Int×Int)(h:nrm x∉ps.map nrm):LA (Hh ps) (Iz (nrm x)) (.bl true)=Hh (ps++[x]):=by
 unfold LA;rw[qY]
 ·simp[Hh]
 ·intro z
  obtain⟨y,g,e⟩:=VZ.mp z;obtain⟨a,j,rfl⟩:=Cf.mp g;exact h (by rw[<-Om (of_decide_eq_true e)];exact RY j)
theorem a8{S:Sto}{n:Nat}{g:List (List Key×D)}{x:Int×Int}(h:S[n]?=some (.dT g))(neg:Bool):inA neg (pairD x) (.ref n) S=.ok (.bl (if neg then !(Fu g (Iz x)).isSome else(Fu g (Iz x)).isSome)) S:=by
 show G1 (inD neg (pairD x) (.ref n) S) (Jh neg (pairD x) (.ref n) S)=_
 have e:inD neg (pairD x) (.ref n) S=.bad:=by
  unfold inD Fx;dsimp only;rw[h]
 have j:SV (.ref n) (pairD x) S=some (Fu g (Iz x)):=by
  unfold SV pairD;dsimp only;rw[h];rfl
 rw[e];show Jh neg (pairD x) (.ref n) S=_;unfold Jh;rw[j]
theorem U5{mo j mv:ME}{e:Lo}{S:Sto}{d:Nat}{g:List (List Key×D)}{x:Int×Int}{v:D}(l:mv e S=.ok v S)(ho:mo e S=.ok (.ref d) S)(hi:j e S=.ok (pairD x) S)(h:S[d]?=some (.dT g))(m:g.length < sizeLine) :
  K0 mo j mv e S=.ok (.nx e) (S.set d (.dT (LA g (Iz x) v))):=by
 unfold K0;rw[l];dsimp only[Res.lift];rw[ho];dsimp only[Res.lift];rw[hi];dsimp only[Res.lift]
 have:W8 (.ref d) (pairD x) v S=some (S.set d (.dT (LA g (Iz x) v))):=by
  unfold W8 pairD;dsimp only;rw[h];show(if g.length < sizeLine then some (S.set d (.dT (LA g (Iz x) v)))else none)=_;rw[qX m]
 rw[this]
theorem ix0(x:Int×Int)(S:Sto):ixA (pairD x) (.int 0) S=.ok (.int x.1) S:=rfl
theorem ix1(x:Int×Int)(S:Sto):ixA (pairD x) (.int 1) S=.ok (.int x.2) S:=rfl
def Fit(p:Int)(x:Int×Int):Prop:=(nrm x).1≠(nrm x).2/\0<=(nrm x).1/\(nrm x).2 < p
abbrev ZZ(W:Wd):MS:=BL (Bp 5 (IC (AS (mQ Mi (AS (AG 3) (AS (AG 4) BA))) (AS (mQ Mj (AS (AG 3) (AS (AG 4) BA))) BA))))
  (BL (sIf (mB (m2 (eqD false) (m2 ixA (AG 5) (mC (.int 0))) (m2 ixA (AG 5) (mC (.int 1))))) OR sNx)
  (BL (sIf (mOr (mB (m2 ltD (m2 ixA (AG 5) (mC (.int 0))) (mC (.int 0)))) (mB (m2 geD (m2 ixA (AG 5) (mC (.int 1))) (AG 0)))) OR sNx)
  (BL (sIf (mB (m2 (inA false) (AG 5) (AG 2))) OR sNx)
  (K0 (AG 2) (AG 5) (mC (.bl true))))))
theorem NS{t:MT}{a:MS}{e:Lo}{S:Sto}(h:t e S=.ok false S):sIf t a sNx e S=.ok (.nx e) S:=(FP (a:=a) (b:=sNx) h).trans rfl
theorem Tc{W:Wd}{p:Int}{t:D}{n:Nat}{S:Sto}{x:Int×Int}{z5:Option D}{ps:List ZPi}(g:S[n]?=some (.dT (Hh ps)))(l:ps.length<=100000)(m:Fit p x)(j:nrm x∉ps.map nrm) :
  ZZ W [sI p,some t,sR n,sI x.1,sI x.2,z5] S=oN [sI p,some t,sR n,sI x.1,sI x.2,some (pairD (nrm x))] (S.set n (.dT (Hh (ps++[x])))):=by
 have o:Bp 5 (IC (AS (mQ Mi (AS (AG 3) (AS (AG 4) BA))) (AS (mQ Mj (AS (AG 3) (AS (AG 4) BA))) BA))) [sI p,some t,sR n,sI x.1,sI x.2,z5] S =
   oN [sI p,some t,sR n,sI x.1,sI x.2,some (pairD (nrm x))] S:=
  Cc (i:=5) (ND (ds:=[.int (nrm x).1,.int (nrm x).2]) (By (YS (ds:=[.int x.1,.int x.2]) (S1:=S) rfl rfl) (By (YS (ds:=[.int x.1,.int x.2]) (S1:=S) rfl rfl) rfl)) (by simp))
 obtain⟨s,A,B⟩:=m;refine(BF o).trans ((BF (NS (IF (BB (BB rfl rfl (ix0 _ _)) (BB rfl rfl (ix1 _ _)) (Ni (wY s)))))).trans ((BF (NS ((P0 (IF (BB (BB rfl rfl (ix0 _ _)) rfl (LO (wY (by omega)))))).trans (IF (BB (BB rfl rfl (ix1 _ _)) rfl (ZO (wY (by omega)))))))).trans ((BF (NS (IF (BB rfl rfl ?_)))).trans ?_)))
 ·rw[a8 g,UN,wY j]
  rfl
 ·rw[U5 (x:=nrm x) rfl rfl rfl g (by unfold Hh;rw[AI];exact BU l (by decide)),UM _ _ j]
theorem SI{m:ME}{e:Lo}{S S1:Sto}{d:D}{xs:List D}(h:m e S=.ok d S1)(g:FH d S1=some xs):FQ m e S=.ok (FH d) S1:=by
 unfold FQ;rw[h];dsimp only[Res.bind];rw[g]
def Df(p:Int)(ps:List ZPi):Prop:=(∀x∈ps,Fit p x)/\(ps.map nrm).Nodup
theorem Df.snoc{p:Int}{ps:List ZPi}{x:Int×Int}:Df p (ps++[x])↔Df p ps/\Fit p x/\nrm x∉ps.map nrm:=by
 unfold Df;rw[Ca,Jm]
 constructor
 ·rintro⟨j,l,o,m⟩
  exact⟨⟨λy g=>j y (by simp[g]),l⟩,j x (by simp),λz=>m _ z _ (by simp) rfl⟩
 ·rintro⟨⟨j,l⟩,o,m⟩
  refine⟨λy g=>?_,l,by simp,λa s b hb e=>?_⟩
  ·rcases A1.mp g with g | g
   ·exact j y g
   ·rw[Ah.mp g];exact o
  ·simp at hb
   subst hb;subst e;exact m s
theorem Df.take{p:Int}{ps:List ZPi}(h:Df p ps)(i:Nat):Df p (ps.take i):=by
 refine⟨λx g=>h.1 x (List.mem_of_mem_take g),?_⟩;rw[Xu];exact h.2.sublist (TB _ _)
theorem take_snoc{g:Type}{l:List g}{i:Nat}{x:g}(h:l[i]?=some x):l.take (i+1)=l.take i++[x]:=by
 rw[GM,h];rfl
theorem Nn(W:Wd){p:Int}{d:D}{S:Sto}{ps:List ZPi}(A:∀j,Keeps S j->FH d j=some (ps.map pairD))(H:ps.length<=100000)(C:Df p ps) :
  ∃l z4 z5,Gw (FQ (AG 1)) (HZ 2 (Cz (tgN 3) (Cz (tgN 4) IH))) (ZZ W) [sI p,some d,sR S.length,none,none,none] (S++[.dT []])=oN [sI p,some d,sR S.length,l,z4,z5] (S++[.dT (Hh ps)]):=by
 rw[G6 (SI (m:=AG 1) (d:=d) (S1:=S++[.dT []]) rfl (A _ (Keeps.app _ _)))]
 obtain⟨f,j,h,l,z4,z5,rfl,rfl⟩:=Hm (v:=FH d) (g:=HZ 2 (Cz (tgN 3) (Cz (tgN 4) IH))) (b:=ZZ W) (xs:=ps.map pairD) (e:=[sI p,some d,sR S.length,none,none,none]) (S:=S++[.dT []]) (λi e j=>(∃l z4 z5,e=[sI p,some d,sR S.length,l,z4,z5])/\j=S++[.dT (Hh (ps.take i))]) (λf j=>∃l z4 z5,f=.nx [sI p,some d,sR S.length,l,z4,z5]/\j=S++[.dT (Hh ps)]) ⟨⟨none,none,none,rfl⟩,by simp[Hh]⟩ (by rintro i e j ⟨_,rfl⟩;exact A _ (Keeps.app _ _))
  (by
   rintro i y e j o ⟨⟨l,z4,z5,rfl⟩,rfl⟩;rw[Ad]at o
   cases s:ps[i]? with
   | none=>rw[s]at o;cases o
   | some x=>
    rw[s]at o;cases o;have I:=(AD.mp s).1;have B:=C.take (i+1);rw[take_snoc s]at B;obtain⟨_,E,G⟩:=Df.snoc.mp B;refine⟨[sI p,some d,sR S.length,sI x.1,sI x.2,z5],_,rfl,_,_,Tc (W:=W) (p:=p) (t:=d) (z5:=z5) (x:=x) (B1 S (.dT (Hh (ps.take i)))) (by rw[CP];omega) E G,⟨_,_,_,rfl⟩,?_⟩;rw[take_snoc s]
    simp)
  (by
   rintro e j ⟨⟨l,z4,z5,rfl⟩,rfl⟩;rw[AI,Er]
   exact⟨_,_,_,rfl,rfl⟩)
 exact⟨l,z4,z5,h⟩
def Gr(ps:List ZPi):List ZLi:=Ir (ps.map λx=>NM (nrm x))
theorem No(W:Wd){p:Int}{d:D}{S:Sto}{ps:List ZPi}(g:∀S',Keeps S S'->FH d S'=some (ps.map pairD))(j:ps.length<=100000)(l:Df p ps) :
  ∃S',EB W [.int p,d] S=.ok (.tup ((Gr ps).map KB)) S'/\Keeps S S':=by
 obtain⟨o,s,A,B⟩:=Nn W g j l
 ·have C:F7 (.ref S.length) (S++[.dT (Hh ps)])=some ((ps.map λx=>NM (nrm x)).map KB):=by
   unfold F7;dsimp only;rw[B1];dsimp only;unfold Hh;rw[B7,B7];rfl
  have E:=Hv (m:=AG 2) (e:=[sI p,some d,sR S.length,o,s,A]) (S:=S++[.dT (Hh ps)]) rfl C (Ps _ (by intro r G;obtain⟨x,_,rfl⟩:=Cf.mp G;simp[NM]));refine⟨S++[.dT (Hh ps)]++[.lst ((Gr ps).map KB)],FN ?_,(Keeps.app S _).trans (Keeps.app _ _)⟩;refine CD (BF (e:=[sI p,some d,none,none,none,none]) (e1:=[sI p,some d,sR S.length,none,none,none]) (S:=S) (S1:=S++[.dT []]) rfl) ?_;refine CD (BF B) ?_;exact He (Ip E (CM (B1 _ _)))
open L2
noncomputable def Bf(ts:List ZPi)(x:Nat):ZLi:=ts.flatMap λt=>(if t.1=(x:Int)then[t.2]else[])++(if t.2=(x:Int)then[t.1]else[])
theorem Js(ts:List ZPi)(t:Int×Int)(x:Nat):Bf (ts++[t]) x=Bf ts x++((if t.1=(x:Int)then[t.2]else[])++(if t.2=(x:Int)then[t.1]else[])):=by
 unfold Bf;rw[List.flatMap_append];simp
def Dc(p:Nat)(F:Nat->ZLi):Sto:=(A8 p).map λx=>Ob.lst ((F x).map D.int)
def CN(k p:Nat):List D:=(A8 p).map λx=>D.ref (k+x)
def stN(S:Sto)(p:Nat)(F:Nat->ZLi):Sto:=S++Dc p F++[.lst (CN S.length p)]
theorem ES(p:Nat)(F:Nat->ZLi):(Dc p F).length=p:=by simp[Dc]
theorem NE(S:Sto)(p:Nat)(F:Nat->ZLi):(stN S p F).length=S.length+p+1:=by simp[stN,ES];lia
theorem FB(S:Sto)(p:Nat)(F:Nat->ZLi):Keeps S (stN S p F):=(Keeps.app S _).trans (Keeps.app _ _)
theorem FI(S:Sto)(p:Nat)(F:Nat->ZLi):(stN S p F)[S.length+p]?=some (.lst (CN S.length p)):=by
 have:S.length+p=(S++Dc p F).length:=by simp[ES]
 unfold stN;rw[this];exact B1 _ _
theorem Fj(S:Sto){p a:Nat}(F:Nat->ZLi)(h:a < p):(stN S p F)[S.length+a]?=some (.lst ((F a).map D.int)):=by
 unfold stN;rw[A0,Ae (by lia),AN (by rw[ES];lia),show S.length+a - S.length=a by lia];unfold Dc;rw[Ad,Bk h];rfl
theorem Qo(S:Sto){p a:Nat}(F:Nat->ZLi)(g:ZLi)(h:a < p):(stN S p F).set (S.length+a) (.lst (g.map D.int))=stN S p (λx=>if x=a then g else F x):=by
 apply GR
 intro j
 by_cases e:S.length+a=j
 ·subst e
  rw[Av (by rw[NE];lia),Fj _ _ h,qX rfl]
 ·rw[Ag e]
  by_cases l:j < S.length
  ·rw[(FB S p F).2 j l,(FB S p _).2 j l]
  by_cases m:j - S.length < p
  ·have o:j=S.length+(j - S.length):=by lia
   rw[o,Fj S F m,Fj S _ m,qY (by lia)]
  by_cases s:j=S.length+p
  ·subst s
   rw[FI,FI]
  ·rw[Ba (by rw[NE];lia),Ba (by rw[NE];lia)]
theorem Q1{S:Sto}{p a:Nat}(F:Nat->ZLi)(h:a < p):ixA (.ref (S.length+p)) (.int a) (stN S p F)=.ok (.ref (S.length+a)) (stN S p F):=by
 show G1 (ixD _ _ _) _=_;have g:Fx (.ref (S.length+p)) (stN S p F)=some (CN S.length p):=CM (FI S p F)
 have j:atI (CN S.length p) (a:Int)=some (.ref (S.length+a)):=by
  unfold atI ixN;rw[show(CN S.length p).length=p by simp[CN],qX (by lia),qX (by lia)];simp only[BG,DR];unfold CN;rw[Ad,Bk h];rfl
 have:ixD (.ref (S.length+p)) (.int a) (stN S p F)=.ok (.ref (S.length+a)) (stN S p F):=by
  unfold ixD;rw[g];dsimp only;rw[j]
 rw[this];rfl
theorem Tg(S:Sto):∀p:Nat,S++Dc (p+1) (λ_=>[])=S++Dc p (λ_=>[])++[.lst []]:=λp=>by
 unfold Dc;rw[Ln,Ca,A0];rfl
theorem Me{p:Nat}(E:p<=60){mp:ME}{e:Lo}{S:Sto}(C:mp e S=.ok (.int p) S) :
  Em 1 (iR1 (AS mp BA)) (tgN 0) Gg (D7 (C3 BA)) e S=.ok (CN S.length p) (S++Dc p λ_=>[]):=by
 have s:iR1 (AS mp BA) e S=.ok (D4 (Cr 0 p)) S:=by
  have:=LV (ml:=AS mp BA) (e:=e) (S:=S) (S1:=S) (j:=p) (By C rfl) (by lia) (by lia);simpa using this
 obtain⟨r,S1,A,o,⟨z,_⟩,rfl,rfl⟩:=Nk (v:=D4 (Cr 0 p)) (g:=tgN 0) (c:=Gg) (m:=D7 (C3 BA)) (xs:=Cr 0 p) (e:=none :: e) (S:=S)
  (λi o B l=>(∃z,o=z :: e)/\B=S++Dc i (λ_=>[])/\l=CN S.length i)
  ⟨⟨none,rfl⟩,by simp[Dc],rfl⟩ (λ_ _ _ _ _=>rfl)
  (by
   rintro i d o B l hd ⟨⟨z,rfl⟩,rfl,rfl⟩;obtain⟨s,rfl⟩:=Hd hd;refine⟨by simp[CN];exact BU (m:=60) (by lia) (by decide),some (.int (0+i)) :: e,_,rfl,true,_,rfl,.inl ⟨rfl,.ref (S++Dc i λ_=>[]).length,_,rfl,⟨_,rfl⟩,(Tg S i).symm,?_⟩⟩;unfold CN;rw[Ln,Ca,Ao,ES]
   rfl)
 rw[GZ]at A;exact(Kc s).trans A
abbrev Mv:MS:=BL (C4 (FO (m2 ixA (AG 2) (AG 3)) (AG 4))) (C4 (FO (m2 ixA (AG 2) (AG 4)) (AG 3)))
def In(p:Nat)(t:Int×Int):Prop:=0<=t.1/\t.1 < p/\0<=t.2/\t.2 < p/\t.1≠t.2
theorem Md{p:Nat}{S:Sto}{F:Nat->ZLi}{t:Int×Int}{g d1:D}(j:In p t)(G:∀x,(F x).length < 200000) :
  Mv [some g,some d1,sR (S.length+p),sI t.1,sI t.2] (stN S p F)=.ok (.nx [some g,some d1,sR (S.length+p),sI t.1,sI t.2])
   (stN S p λx=>F x++((if t.1=(x:Int)then[t.2]else[])++(if t.2=(x:Int)then[t.1]else[]))):=by
 obtain⟨a,m⟩:∃a:Nat,t.1=a:=⟨t.1.toNat,by have:=j.1;lia⟩
 obtain⟨b,hb⟩:∃b:Nat,t.2=b:=⟨t.2.toNat,by have:=j.2.2.1;lia⟩
 obtain⟨_,o,_,L,H⟩:=j
 have I:a≠b:=λe=>H (by rw[m,hb,e])
 rw[m,hb]
 have s:∀x,((F x).map D.int).length < sizeLine:=λx=>by rw[AI];exact Z0 (G x) (by decide)
 have A:=IW (mo:=m2 ixA (AG 2) (AG 3)) (ma:=AG 4) (e:=[some g,some d1,sR (S.length+p),sI a,sI b]) (S:=stN S p F) (S1:=stN S p F) (S2:=stN S p F) (n:=S.length+a) (y:=.int b) (BB rfl rfl (Q1 F (by lia))) (Fj S F (by lia)) rfl (Fj S F (by lia)) (s a);rw[show(F a).map D.int++[D.int b]=(F a++[(b:Int)]).map D.int by simp,Qo S F _ (by lia)]at A
 have B:(stN S p λx=>if x=a then F a++[(b:Int)]else F x)[S.length+b]?=some (.lst ((F b).map D.int)):=by
  rw[Fj S _ (by lia),qY (B2 I)]
 have C:=IW (mo:=m2 ixA (AG 2) (AG 4)) (ma:=AG 3) (e:=[some g,some d1,sR (S.length+p),sI a,sI b]) (S:=stN S p λx=>if x=a then F a++[(b:Int)]else F x) (S1:=stN S p λx=>if x=a then F a++[(b:Int)]else F x) (S2:=stN S p λx=>if x=a then F a++[(b:Int)]else F x) (n:=S.length+b) (y:=.int a) (BB rfl rfl (Q1 _ (by lia))) B rfl B (s b);rw[show(F b).map D.int++[D.int a]=(F b++[(a:Int)]).map D.int by simp,Qo S _ _ (by lia)]at C;unfold Mv;rw[BF (Fn A),Fn C]
 congr 2
 funext x
 by_cases l:x=b
 ·subst l
  have:¬((a:Int)=(x:Int)):=by lia
  simp[this]
 ·by_cases E:x=a
  ·subst E
   have:¬((b:Int)=(x:Int)):=by lia
   simp[l,this]
  ·have J:¬((a:Int)=(x:Int)):=by lia
   have o:¬((b:Int)=(x:Int)):=by lia
   simp[l,E,J,o]
theorem IT(ts:List ZPi)(x:Nat):(Bf ts x).length<=2 * ts.length:=by
 unfold Bf
 induction ts with
 | nil=>simp
 | cons t ts g=>
  rw[List.flatMap_cons,Ao,Al]
  have:((if t.1=(x:Int)then[t.2]else[])++(if t.2=(x:Int)then[t.1]else[])).length<=2:=by split <;> split <;> simp
  lia
def Pt(p:Nat)(ts:List ZPi):List D:=(A8 p).map λx=>.tup ((Dr (Bf ts x)).map D.int)
theorem Wf(W:Wd){p:Nat}(I:p<=60){ts:List ZPi}(J:∀t∈ts,In p t)(L:ts.length<=90000)(S:Sto) :
  ∃S',EA W [.int p,.tup (ts.map pairD)] S=.ok (.tup (Pt p ts)) S'/\Keeps S S':=by
 have E:=Cc (i:=2) (Jd (Me I (mp:=AG 0) (e:=[sI p,some (.tup (ts.map pairD)),none,none,none]) (S:=S) rfl));have N:(S++Dc p λ_=>[])++[.lst (CN S.length p)]=stN S p (Bf []):=rfl
 have O:(S++Dc p λ_=>[]).length=S.length+p:=by simp[ES]
 rw[N,O]at E
 obtain⟨f,S1,P,⟨j,l,rfl⟩,rfl⟩:=Hm (v:=D4 (ts.map pairD)) (g:=HZ 2 (Cz (tgN 3) (Cz (tgN 4) IH))) (b:=Mv) (xs:=ts.map pairD) (e:=[sI p,some (.tup (ts.map pairD)),sR (S.length+p),none,none]) (S:=stN S p (Bf []))
  (λi e S'=>(∃j l,e=[sI p,some (.tup (ts.map pairD)),sR (S.length+p),j,l])/\S'=stN S p (Bf (ts.take i)))
  (λf S'=>(∃j l,f=.nx [sI p,some (.tup (ts.map pairD)),sR (S.length+p),j,l])/\S'=stN S p (Bf ts))
  ⟨⟨none,none,rfl⟩,rfl⟩ (λ_ _ _ _=>rfl)
  (by
   rintro i y e S' s ⟨⟨j,l,rfl⟩,rfl⟩;rw[Ad]at s
   cases A:ts[i]? with
   | none=>rw[A]at s;cases s
   | some t=>
    rw[A]at s;cases s;refine⟨[sI p,some (.tup (ts.map pairD)),sR (S.length+p),sI t.1,sI t.2],_,rfl,_,_,Md (J t (Bd A)) (λx=>?_),⟨_,_,rfl⟩,?_⟩
    ·have:=IT (ts.take i) x
     rw[CP]at this;exact BU (Ai this (Nat.mul_le_mul_left 2 (Ai (Vd _ _) L))) (by decide)
    ·rw[take_snoc A,show Bf (ts.take i++[t])=_ from funext λx=>Js _ _ x])
  (by
   rintro e S' ⟨⟨j,l,rfl⟩,rfl⟩;rw[AI,Er]
   exact⟨⟨_,_,rfl⟩,rfl⟩)
 have Q:=(G6 (g:=HZ 2 (Cz (tgN 3) (Cz (tgN 4) IH))) (b:=Mv) (Oo (m:=AG 1) (e:=[sI p,some (.tup (ts.map pairD)),sR (S.length+p),none,none]) (S:=stN S p (Bf [])) (S1:=stN S p (Bf [])) (xs:=ts.map pairD) rfl)).trans P
 obtain⟨r,R,T,B,⟨z,_⟩,K,rfl⟩:=Nk (v:=FH (.ref (S.length+p))) (g:=tgN 0) (c:=Gg) (m:=EU (C2 (AG 0))) (xs:=CN S.length p) (e:=[none,sI p,some (.tup (ts.map pairD)),sR (S.length+p),j,l]) (S:=stN S p (Bf ts))
  (λi B S' o=>(∃z,B=[z,sI p,some (.tup (ts.map pairD)),sR (S.length+p),j,l])/\Keeps (stN S p (Bf ts)) S'/\o=(A8 i).map λx=>.tup ((Dr (Bf ts x)).map D.int))
  ⟨⟨none,rfl⟩,.refl _,rfl⟩ (λi B S' o h=>ER (h.2.1.at (FI S p _)))
  (by
   rintro i d B S' o hd ⟨⟨z,rfl⟩,K,rfl⟩
   have G:i < p:=by
    have:=(AD.mp hd).1;simpa[CN]using this
   unfold CN at hd;rw[Ad,Bk G]at hd;cases hd;have C:F7 (.ref (S.length+i)) S'=some ((Bf ts i).map D.int):=IU (K.at (Fj S _ G));have U:=Hv (m:=AG 0) (e:=[sR (S.length+i),sI p,some (.tup (ts.map pairD)),sR (S.length+p),j,l]) (S:=S') (S1:=S') rfl C (Kw _);refine⟨by simp;exact BU (m:=60) (by lia) (by decide),[sR (S.length+i),sI p,some (.tup (ts.map pairD)),sR (S.length+p),j,l],_,rfl,true,_,rfl,.inl ⟨rfl,_,_,Ip U (CM (B1 _ _)),⟨_,rfl⟩,K.trans (Keeps.app _ _),?_⟩⟩;rw[Ln,Ca]
   rfl)
 have H:=(Kc (n:=1) (g:=tgN 0) (c:=Gg) (m:=EU (C2 (AG 0))) (Hk (m:=AG 2) (e:=[sI p,some (.tup (ts.map pairD)),sR (S.length+p),j,l]) (S:=stN S p (Bf ts)) (S1:=stN S p (Bf ts)) rfl (FI S p _))).trans T;rw[show(CN S.length p).length=p by simp[CN]]at H;refine⟨R++[.lst (Pt p ts)],FN ?_,((FB S p _).trans K).trans (Keeps.app _ _)⟩;unfold Hr;refine CD (BF E) ?_;refine CD (BF Q) ?_;exact He (Ip (Jd H) (CM (B1 _ _)))
open L2
open Srt (ltL)
def toP(r:ZLi):Int×Int:=(r.getD 0 0,r.getD 1 0)
def Fv(ps:List ZPi):List ZPi:=(Gr ps).map toP
theorem Kt{ps:List ZPi}{r:ZLi}(h:r∈Gr ps):∃x∈ps,r=NM (nrm x):=by
 have:=(FJ _).mem_iff.mp h;obtain⟨x,g,rfl⟩:=Cf.mp this;exact⟨x,g,rfl⟩
theorem Rj(ps:List ZPi):(Fv ps).map NM=Gr ps:=by
 unfold Fv;rw[B7]
 conv=>rhs;rw[<-QZ (Gr ps)]
 refine FF λr g=>?_
 obtain⟨x,_,rfl⟩:=Kt g;rfl
theorem Pp(ps:List ZPi):(Gr ps).map KB=(Fv ps).map pairD:=by
 rw[<-Rj,B7];rfl
theorem Ta{ps:List ZPi}{t:Int×Int}(h:t∈Fv ps):∃x∈ps,t=nrm x:=by
 obtain⟨r,g,rfl⟩:=Cf.mp h;obtain⟨x,j,rfl⟩:=Kt g;exact⟨x,j,rfl⟩
theorem Rm(ps:List ZPi):(Fv ps).Perm (ps.map nrm):=by
 unfold Fv Gr;have:=(FJ (ps.map λx=>NM (nrm x))).map toP;refine this.trans ?_;rw[B7];exact Qa rfl
theorem Yv(x:Int×Int):(nrm x).1<=(nrm x).2:=by
 unfold nrm;dsimp only
 split <;> split <;> lia
theorem Fit.in{p:Nat}{x:Int×Int}(h:Fit p x):In p (nrm x):=by
 obtain⟨g,j,l⟩:=h;have:=Yv x;exact⟨j,by lia,by lia,l,g⟩
theorem aj:¬(("places" : Str) = "ties"):=by decide +kernel
theorem ak:¬(("places" : Str) = "near_sets"):=by decide +kernel
theorem ai:¬(("ties" : Str) = "near_sets"):=by decide +kernel
theorem put2(a b:D):KC "ties" b [(("places" : Str),a)]=([("places",a),("ties",b)]:List (Str×D)):=by
 show(if ("places" : Str) = "ties" then _ else _)=_;rw[qY aj];rfl
theorem put3(a b c:D):KC "near_sets" c [(("places" : Str),a),("ties",b)]=([("places",a),("ties",b),("near_sets",c)]:List (Str×D)):=by
 show(if ("places" : Str) = "near_sets" then _ else _)=_;rw[qY ak]
 have:KC "near_sets" c [(("ties" : Str),b)]=([("ties",b),("near_sets",c)]:List (Str×D)):=by
  show(if ("ties" : Str) = "near_sets" then _ else _)=_;rw[qY ai];rfl
 rw[this]
theorem Y0(a b:D):([("places",a),("ties",b)]:List (Str×D)).lookup ("ties" : Str)=some b:=by
 rw[BM,show(("ties" : Str)=="places")=false by decide +kernel];dsimp only;rw[BM,show(("ties" : Str)=="ties")=true by decide +kernel]
theorem XA(W:Wd)(ns:ZLi)(k:Nat)(S:Sto):∃h:Int,EC W [.fro (ns.map D.int),.int k] S=.ok (.int h) S:=by
 by_cases g:k < ns.length
 ·refine⟨ns[k],FN ?_⟩
  unfold FZ;have t:mB (m2 ltD (AG 1) (D1 (AG 0))) (Ck 2 [.fro (ns.map D.int),.int k]) S=.ok true S:=IF (BB rfl (F6 (d:=.fro (ns.map D.int)) rfl rfl) (LO (wX (by simp;omega))));refine Pv (CD (FP t) ?_);rw[qX rfl];refine He (BB rfl rfl (Q2 (ds:=ns.map D.int) rfl (by lia) ?_));simp[g]
 ·refine⟨0,FN ?_⟩
  unfold FZ;have t:mB (m2 ltD (AG 1) (D1 (AG 0))) (Ck 2 [.fro (ns.map D.int),.int k]) S=.ok false S:=IF (BB rfl (F6 (d:=.fro (ns.map D.int)) rfl rfl) (LO (wY (by simp;lia))));refine CD (BF (CD (FP t) rfl)) ?_;rfl
theorem NU{i j:Int}{S:Sto}(h:-1000000000000<=j)(g:j<=1000000000000):LJ (.int i) (.int j) S=.ok (.int (i * j)) S:=by
 show(if Sj i j then _ else _)=_;rw[qX (.inr ⟨Int.lt_of_lt_of_le (by decide) h,TH g (by decide)⟩)]
theorem LK(W:Wd)(c s:Int):∃v:Int,0<=v/\v < 2147483629/\∀S,Bw W [.int c,.int s] S=.ok (.int v) S:=by
 have j:=Br ((c % 2147483647+s) * 48271) (show(2147483647:Int)≠0 by decide);have l:=Be ((c % 2147483647+s) * 48271) (show(0:Int) < 2147483647 by decide);refine⟨(c % 2147483647+s) * 48271 % 2147483647 * ((c % 2147483647+s) * 48271 % 2147483647) % 2147483629,Br _ (by decide),Be _ (by decide),λS=>FN ?_⟩;unfold JH
 have g:Bp 2 (m2 Cm (m2 LJ (m2 Dd (m2 Cm (AG 0) (mC (.int 2147483647))) (AG 1)) (mC (.int 48271))) (mC (.int 2147483647))) (Ck 3 [.int c,.int s]) S=oN [sI c,sI s,sI ((c % 2147483647+s) * 48271 % 2147483647)] S:=
  Cc (i:=2) (BB (BB (BB (BB rfl rfl (C0 (by decide))) rfl rfl) rfl (NU (by decide) (by decide))) rfl (C0 (by decide)))
 rw[BF g]
 generalize (c % 2147483647+s) * 48271 % 2147483647=m at *
 exact He (BB (BB rfl rfl (NU (by lia) (by lia))) rfl (C0 (by decide)))
abbrev Xj:MS:=BL (Bp 4 (KY (AG 0) (Hg (m2 Dd (AG 1) (AG 3))) LI (Hg (mC (.int 24)))))
  (sIf (mB (m2 (eqD true) (AG 4) (D7 (C3 BA)))) (C4 (FO (AG 2) (P6 (AG 4)))) sNx)
theorem YI{m:ME}{e:Lo}{S S1:Sto}{n:Nat}{ns:ZLi}(h:m e S=.ok (.ref n) S1)(g:S1[n]?=some (.lst (ns.map D.int))):P6 m e S=.ok (.int (V3 ns)) S1:=by
 unfold P6;rw[h];dsimp only[Res.bind];rw[Ga g];dsimp only;rw[G4]
theorem Rw{S:Sto}{ns ps:ZLi}{n:Nat}{s k:Int}{z4:Option D}(H:S[n]?=some (.lst (ps.map D.int)))(N:ps.length<=1000) :
  ∃(m:Sto) (z:Option D) (B:ZLi),Xj [sF ns,sI s,sR n,sI k,z4] S=oN [sF ns,sI s,sR n,sI k,z] m/\m[n]?=some (.lst (B.map D.int))/\ps.length<=B.length/\B.length<=ps.length+1/\S.length<=m.length/\∀j,j < S.length->j≠n->m[j]?=S[j]?:=by
 have O:n < S.length:=(AD.mp H).1
 have o:Bp 4 (KY (AG 0) (Hg (m2 Dd (AG 1) (AG 3))) LI (Hg (mC (.int 24)))) [sF ns,sI s,sR n,sI k,z4] S=oN [sF ns,sI s,sR n,sI k,sR S.length] (S++[.lst ((pickG ns (some (s+k)) none (some 24)).map D.int)]):=by
  refine Cc (i:=4) ?_;rw[<-Rx];rfl
 generalize pickG ns (some (s+k)) none (some 24)=g at o;have C:=B1 S (.lst (g.map D.int));have I:Keeps S (S++[.lst (g.map D.int)]):=Keeps.app _ _
 have P:(S++[Ob.lst (g.map D.int)]).length=S.length+1:=by simp
 generalize S++[Ob.lst (g.map D.int)]=S1 at o C I P
 have t:mB (m2 (eqD true) (AG 4) (D7 (C3 BA))) [sF ns,sI s,sR n,sI k,sR S.length] S1=.ok (!g.isEmpty) (S1++[.lst []]):=by
  refine IF (BB (S2:=S1++[.lst []]) rfl rfl ?_);rw[ZS true ((Keeps.app S1 _).at C) (B1 _ _)];simp
 have l:Keeps S (S1++[.lst []]):=I.trans (Keeps.app _ _);have J:=(Keeps.app S1 [.lst []]).at C;generalize S1++[Ob.lst []]=S2 at t l J;have E:=l.at H;have A:=FP (a:=C4 (FO (AG 2) (P6 (AG 4)))) (b:=sNx) t
 cases L:g.isEmpty with
 | true=>
  rw[L]at A;refine⟨S2,_,ps,(BF o).trans (A.trans rfl),E,AK _,RW _,l.1,λj G _=>l.2 j G⟩
 | false=>
  rw[L]at A;have Q:=IW (mo:=AG 2) (ma:=P6 (AG 4)) (e:=[sF ns,sI s,sR n,sI k,sR S.length]) (S:=S2) (n:=n) (S1:=S2) (S2:=S2) rfl E (YI rfl J) E (by rw[AI];exact BU N (by decide));refine⟨_,_,ps++[V3 g],(BF o).trans (A.trans (Fn Q)),?_,by simp,by simp,by simpa using l.1,λj G R=>?_⟩
  ·rw[Av (AQ O l.1),Ca]
   rfl
  ·rw[Ag (B2 R)]
   exact l.2 j G
theorem WI(W:Wd)(ns:ZLi)(S:Sto):∃(l:Sto) (ps:ZLi),Fm W [.fro (ns.map D.int),.int 1] S=.ok (.ref S.length) l/\Keeps S l/\l[S.length]?=some (.lst (ps.map D.int))/\1<=ps.length/\ps.length<=25:=by
 have E:Bp 2 (D7 (C3 (AS (D1 (AG 0)) BA))) (Ck 5 [.fro (ns.map D.int),.int 1]) S=oN [sF ns,sI 1,sR S.length,none,none] (S++[.lst ([(ns.length:Int)].map D.int)]):=by
  refine Cc (i:=2) (Jd ?_);unfold C3;rw[By (r:=BA) (F6 (d:=.fro (ns.map D.int)) (S1:=S) rfl rfl) rfl,AI];rfl
 obtain⟨f,S1,A,⟨m,z4,rfl⟩,K,ps,o,G,H⟩:=Hm (v:=D4 (Cr 0 24)) (g:=tgN 3) (b:=Xj) (xs:=Cr 0 24) (e:=[sF ns,sI 1,sR S.length,none,none]) (S:=S++[.lst ([(ns.length:Int)].map D.int)])
  (λi e l=>(∃m z4,e=[sF ns,sI 1,sR S.length,m,z4])/\Keeps S l/\∃ps:ZLi,l[S.length]?=some (.lst (ps.map D.int))/\1<=ps.length/\ps.length<=i+1)
  (λf l=>(∃m z4,f=.nx [sF ns,sI 1,sR S.length,m,z4])/\Keeps S l/\∃ps:ZLi,l[S.length]?=some (.lst (ps.map D.int))/\1<=ps.length/\ps.length<=25)
  ⟨⟨none,none,rfl⟩,Keeps.app _ _,[(ns.length:Int)],B1 _ _,by simp,by simp⟩ (λ_ _ _ _=>rfl)
  (by
   rintro i d e l hd ⟨⟨m,z4,rfl⟩,K,ps,o,A,B⟩;obtain⟨P,rfl⟩:=Hd hd;obtain⟨Q,z,I,J,L,R,T,N,O⟩:=Rw (S:=l) (ns:=ns) (s:=1) (k:=0+i) (z4:=z4) o (by lia)
   exact⟨_,_,rfl,_,_,J,⟨_,_,rfl⟩,⟨Ai K.1 N,λj C=>(O j (AQ C K.1) (by lia)).trans (K.2 j C)⟩,I,L,by lia,by lia⟩)
  (by
   rintro e l ⟨⟨m,z4,rfl⟩,K,ps,o,A,B⟩;rw[GZ]at B
   exact⟨⟨_,_,rfl⟩,K,ps,o,A,by omega⟩)
 refine⟨S1,ps,FN ?_,K,o,G,H⟩;unfold Jy;rw[BF E];refine CD (BF ((G6 (LV (j:=24) rfl (by lia) (by lia))).trans A)) ?_;rfl
open L2
def Ep(o j:Nat)(ts:List ZPi):Prop:=(∀x∈ts,0<=x.1/\x.1 < x.2/\(x.2 < o∨x.2=o/\x.1 < j))/\ts.Nodup
theorem Ep.nil(o j:Nat):Ep o j []:=⟨λ_ h=>zX h Es,MV⟩
theorem Ep.skip{o j:Nat}{ts:List ZPi}(h:Ep o j ts):Ep o (j+1) ts:=⟨λx g=>by
 obtain⟨l,m,s⟩:=h.1 x g;refine⟨l,m,?_⟩
 lia,h.2⟩
theorem Ep.add{o j:Nat}{ts:List ZPi}(h:Ep o j ts)(m:j < o):Ep o (j+1) (ts++[((j:Int),(o:Int))]):=by
 refine⟨λx g=>?_,?_⟩
 ·rcases A1.mp g with g | g
  ·exact h.skip.1 x g
  ·rw[Ah.mp g]
   dsimp only
   lia
 ·rw[Jm]
  refine⟨h.2,by simp,λx g y l e=>?_⟩;rw[Ah.mp l]at e;subst e;have:=(h.1 _ g).2.2;dsimp only at this
  lia
theorem Ep.next{o:Nat}{ts:List ZPi}(h:Ep o o ts):Ep (o+1) 0 ts:=⟨λx g=>by
 obtain⟨j,l,m⟩:=h.1 x g;refine⟨j,l,?_⟩
 lia,h.2⟩
theorem UE{x:Int×Int}(h:x.1 < x.2):nrm x=x:=by
 unfold nrm;rw[qY (by lia),qX (by omega)]
theorem Ep.nrm{o j:Nat}{ts:List ZPi}(h:Ep o j ts):ts.map M.nrm=ts:=by
 conv=>rhs;rw[<-QZ ts]
 exact FF λx g=>UE (h.1 x g).2.1
theorem Ep.fit{p:Nat}{ts:List ZPi}(h:Ep p 0 ts):Df p ts:=by
 refine⟨λx g=>?_,by rw[h.nrm];exact h.2⟩;obtain⟨l,j,m⟩:=h.1 x g;unfold Fit;rw[UE j]
 lia
theorem Kd(S:Sto)(o g:Ob):(S++[o]).set S.length g=S++[g]:=by simp
abbrev RK(W:Wd):MS:=BL (Bp 7 (m2 ixA (AG 0) (m2 Cm (AG 4) (D1 (AG 0)))))
  (BL (Bp 4 (m2 Dd (AG 4) (mC (.int 1))))
  (sIf (mB (m2 ltD (m2 Cm (Bs 2 (Bw W) (AS (AG 7) (AS (m2 Dd (m2 LJ (mC (.int 7)) (AG 6)) (m2 LJ (mC (.int 61)) (AG 5))) BA))) (mC (.int 6))) (AG 2))) (C4 (FO (AG 3) (IC (AS (AG 6) (AS (AG 5) BA))))) sNx))
theorem Rn(W:Wd){S:Sto}{a:Nat}{g:ZLi}{d1:D}{th at_:Int}{o j:Nat}{z7:Option D}{ts:List ZPi}(H:S[a]?=some (.lst (g.map D.int)))(P:1<=g.length)(ho:o<=1000)(I:j < o)(A:Ep o j ts)(J:ts.length<=90000) :
  ∃(c:Int) (m:List ZPi),RK W [sR a,some d1,sI th,sR S.length,sI at_,sI o,sI j,z7] (S++[.lst (ts.map pairD)])=oN [sR a,some d1,sI th,sR S.length,sI (at_+1),sI o,sI j,sI c] (S++[.lst (m.map pairD)])/\Ep o (j+1) m/\m.length<=ts.length+1:=by
 have B:=(Keeps.app S [.lst (ts.map pairD)]).at H;have L:=Br at_ (show(g.length:Int)≠0 by lia);have Q:=Be at_ (show(0:Int) < g.length by lia)
 have N:(at_ % g.length).toNat < g.length:=by lia
 have s:Bp 7 (m2 ixA (AG 0) (m2 Cm (AG 4) (D1 (AG 0)))) [sR a,some d1,sI th,sR S.length,sI at_,sI o,sI j,z7] (S++[.lst (ts.map pairD)])=.ok (.nx [sR a,some d1,sI th,sR S.length,sI at_,sI o,sI j,some (.int g[(at_ % g.length).toNat])]) (S++[.lst (ts.map pairD)]):=by
  refine Cc (i:=7) (BB rfl (BB rfl (F6 (d:=.ref a) rfl (CM B)) (C0 (by rw[AI];lia))) (Uf B (by rw[AI];exact L) ?_));rw[AI,Ad,A2 N];rfl
 generalize g[(at_ % g.length).toNat]=c at s;have C:Bp 4 (m2 Dd (AG 4) (mC (.int 1))) [sR a,some d1,sI th,sR S.length,sI at_,sI o,sI j,sI c] (S++[.lst (ts.map pairD)])=oN [sR a,some d1,sI th,sR S.length,sI (at_+1),sI o,sI j,sI c] (S++[.lst (ts.map pairD)]):=rfl;obtain⟨v,_,_,O⟩:=LK W c (7 * j+61 * o)
 have t:mB (m2 ltD (m2 Cm (Bs 2 (Bw W) (AS (AG 7) (AS (m2 Dd (m2 LJ (mC (.int 7)) (AG 6)) (m2 LJ (mC (.int 61)) (AG 5))) BA))) (mC (.int 6))) (AG 2)) [sR a,some d1,sI th,sR S.length,sI (at_+1),sI o,sI j,sI c] (S++[.lst (ts.map pairD)])=.ok (decide (v % 6 < th)) (S++[.lst (ts.map pairD)]):=
  IF (BB (BB ((DE (ds:=[.int c,.int (7 * j+61 * o)]) (S1:=S++[.lst (ts.map pairD)]) (By rfl (By (BB (BB rfl rfl (NU (by lia) (by lia))) (BB rfl rfl (NU (by lia) (by lia))) rfl) rfl)) rfl).trans (O _)) rfl (C0 (by decide))) rfl (LO rfl))
 have l:=FP (a:=C4 (FO (AG 3) (IC (AS (AG 6) (AS (AG 5) BA))))) (b:=sNx) t
 by_cases E:v % 6 < th
 ·rw[wX E,qX rfl]at l
  have G:=IW (mo:=AG 3) (ma:=IC (AS (AG 6) (AS (AG 5) BA))) (e:=[sR a,some d1,sI th,sR S.length,sI (at_+1),sI o,sI j,sI c]) (S:=S++[.lst (ts.map pairD)]) (n:=S.length) (S1:=S++[.lst (ts.map pairD)]) (S2:=S++[.lst (ts.map pairD)]) (y:=pairD ((j:Int),(o:Int))) rfl (B1 _ _) (ND (ds:=[.int j,.int o]) rfl (by simp)) (B1 _ _) (by rw[AI];exact BU J (by decide));rw[Kd,show ts.map pairD++[pairD ((j:Int),(o:Int))]=(ts++[((j:Int),(o:Int))]).map pairD by simp]at G;exact⟨c,_,((BF s).trans (BF C)).trans (l.trans (Fn G)),A.add I,by simp⟩
 ·rw[wY E,qY AZ]at l
  exact⟨c,ts,((BF s).trans (BF C)).trans (l.trans rfl),A.skip,by lia⟩
theorem Tb(W:Wd){S:Sto}{a:Nat}{A:ZLi}{d1:D}{th at_:Int}{o:Nat}{z6 z7:Option D}{ts:List ZPi}(H:S[a]?=some (.lst (A.map D.int)))(I:1<=A.length)(ho:o<=1000)(J:Ep o 0 ts)(Q:ts.length<=80000) :
  ∃(at':Int) (s m:Option D) (l:List ZPi),Gw (iR1 (AS (AG 5) BA)) (tgN 6) (RK W) [sR a,some d1,sI th,sR S.length,sI at_,sI o,z6,z7] (S++[.lst (ts.map pairD)])=oN [sR a,some d1,sI th,sR S.length,sI at',sI o,s,m] (S++[.lst (l.map pairD)])/\Ep (o+1) 0 l/\l.length<=ts.length+o:=by
 obtain⟨f,S1,L,at',s,m,l,rfl,rfl,B,C⟩:=Hm (v:=D4 (Cr 0 o)) (g:=tgN 6) (b:=RK W) (xs:=Cr 0 o) (e:=[sR a,some d1,sI th,sR S.length,sI at_,sI o,z6,z7]) (S:=S++[.lst (ts.map pairD)])
  (λi e E=>∃(at':Int) (s m:Option D) (l:List ZPi),e=[sR a,some d1,sI th,sR S.length,sI at',sI o,s,m]/\E=S++[.lst (l.map pairD)]/\Ep o i l/\l.length<=ts.length+i)
  (λf E=>∃(at':Int) (s m:Option D) (l:List ZPi),f=.nx [sR a,some d1,sI th,sR S.length,sI at',sI o,s,m]/\E=S++[.lst (l.map pairD)]/\Ep o o l/\l.length<=ts.length+o)
  ⟨at_,z6,z7,ts,rfl,rfl,J,AK _⟩ (λ_ _ _ _=>rfl)
  (by
   rintro i d e E hd ⟨at',s,m,l,rfl,rfl,B,C⟩;obtain⟨G,rfl⟩:=Hd hd;obtain⟨c,N,O,P,R⟩:=Rn W (d1:=d1) (th:=th) (at_:=at') (z7:=m) H I ho G B (by lia);refine⟨[sR a,some d1,sI th,sR S.length,sI at',sI o,sI i,m],_,?_,_,_,O,_,_,_,N,rfl,rfl,P,by lia⟩;show Res.ok [sR a,some d1,sI th,sR S.length,sI at',sI o,sI (0+(i:Int)),m] _=_
   rw[PZ])
  (by
   rintro e E ⟨at',s,m,l,rfl,rfl,B,C⟩;rw[GZ]at B C
   exact⟨_,_,_,l,rfl,rfl,B,C⟩)
 have G:iR1 (AS (AG 5) BA) [sR a,some d1,sI th,sR S.length,sI at_,sI o,z6,z7] (S++[.lst (ts.map pairD)])=.ok (D4 (Cr 0 o)) (S++[.lst (ts.map pairD)]):=by
  have:=LV (ml:=AS (AG 5) BA) (e:=[sR a,some d1,sI th,sR S.length,sI at_,sI o,z6,z7]) (S:=S++[.lst (ts.map pairD)]) (S1:=S++[.lst (ts.map pairD)]) (j:=o) rfl (by lia) (by lia);simpa using this
 exact⟨at',s,m,l,(G6 G).trans L,B.next,C⟩
theorem Oi(W:Wd){S:Sto}{a m:Nat}{B:ZLi}(th:Int)(J:S[a]?=some (.lst (B.map D.int)))(L:1<=B.length)(T:1<=m)(U:m<=60) :
  ∃ts:List ZPi,Fk W [.ref a,.int m,.int th] S=.ok (.ref S.length) (S++[.lst (ts.map pairD)])/\Ep m 0 ts/\ts.length<=3600:=by
 obtain⟨f,S1,N,at',E,s,A,l,rfl,rfl,C,H⟩:=Hm (v:=D4 (Cr 1 (m - 1))) (g:=tgN 5) (b:=Gw (iR1 (AS (AG 5) BA)) (tgN 6) (RK W)) (xs:=Cr 1 (m - 1)) (e:=[sR a,sI m,sI th,sR S.length,sI 0,none,none,none]) (S:=S++[.lst []])
  (λi e G=>∃(at':Int) (E s A:Option D) (l:List ZPi),e=[sR a,sI m,sI th,sR S.length,sI at',E,s,A]/\G=S++[.lst (l.map pairD)]/\Ep (1+i) 0 l/\l.length<=60 * i)
  (λf G=>∃(at':Int) (E s A:Option D) (l:List ZPi),f=.nx [sR a,sI m,sI th,sR S.length,sI at',E,s,A]/\G=S++[.lst (l.map pairD)]/\Ep m 0 l/\l.length<=3600)
  ⟨0,none,none,none,[],rfl,rfl,Ep.nil _ _,by simp⟩ (λ_ _ _ _=>rfl)
  (by
   rintro i d e G hd ⟨at',E,s,A,l,rfl,rfl,C,H⟩;obtain⟨I,rfl⟩:=Hd hd;obtain⟨O,X,Y,P,Q,R,Z⟩:=Tb W (d1:=.int m) (th:=th) (at_:=at') (o:=1+i) (z6:=s) (z7:=A) J L (by lia) C (by lia);refine⟨[sR a,sI m,sI th,sR S.length,sI at',sI ((1+i:Nat):Int),s,A],_,?_,_,_,Q,_,_,_,_,P,rfl,rfl,R,by lia⟩;show Res.ok [sR a,sI m,sI th,sR S.length,sI at',sI (1+(i:Int)),s,A] _=_;rw[Int.natCast_add]
   rfl)
  (by
   rintro e G ⟨at',E,s,A,l,rfl,rfl,C,H⟩;rw[GZ]at C H;rw[show 1+(m - 1)=m by lia]at C
   exact⟨_,_,_,_,l,rfl,rfl,C,by lia⟩)
 have I:iR2 (AS (mC (.int 1)) (AS (AG 1) BA)) [sR a,sI m,sI th,sR S.length,sI 0,none,none,none] (S++[.lst []])=.ok (D4 (Cr 1 (m - 1))) (S++[.lst []]):=by
  have:=Y8 (ml:=AS (mC (.int 1)) (AS (AG 1) BA)) (e:=[sR a,sI m,sI th,sR S.length,sI 0,none,none,none]) (S:=S++[.lst []]) (S1:=S++[.lst []]) (i:=1) (j:=m) rfl (by lia) (by lia) (by lia) (by lia);rw[this,show((m:Int) - 1).toNat=m - 1 by lia]
 refine⟨l,FN ?_,C,H⟩;unfold Jx;refine CD (BF (e:=Ck 8 [.ref a,.int m,.int th]) (e1:=[sR a,sI m,sI th,sR S.length,none,none,none,none]) (S1:=S++[.lst []]) rfl) ?_;refine CD (BF (e1:=[sR a,sI m,sI th,sR S.length,sI 0,none,none,none]) (S1:=S++[.lst []]) rfl) ?_;refine CD (BF ((G6 I).trans N)) ?_;rfl
open L2
open Srt (ltL)
theorem UF(x:Int×Int):nrm (x.2,x.1)=nrm x:=by
 unfold nrm;dsimp only
 congr 1
 ·split <;> split <;> lia
 ·split <;> split <;> lia
theorem YR{mo:ME}{e:Lo}{S S1:Sto}{n:Nat}{xs:List D}(h:mo e S=.ok (.ref n) S1)(g:S1[n]?=some (.lst xs)):UQ mo e S=.ok .non (S1.set n (.lst xs.reverse)):=by
 unfold UQ;rw[h];dsimp only[Res.bind]
 have:atL (.ref n) S1=some (n,xs):=by unfold atL;dsimp only;rw[g]
 rw[this]
abbrev VN(W:Wd):MS:=sIf (mB (m2 (eqD false) (m2 Cm (Bs 2 (Bw W) (AS (AG 1) (AS (AG 3) BA))) (mC (.int 2))) (mC (.int 0)))) (C4 (FO (AG 2) (m2 ixA (AG 0) (AG 3)))) (C4 (FO (AG 2) (IC (AS (m2 ixA (m2 ixA (AG 0) (AG 3)) (mC (.int 1))) (AS (m2 ixA (m2 ixA (AG 0) (AG 3)) (mC (.int 0))) BA)))))
theorem Rh(W:Wd){S:Sto}{t i:Nat}{c:Int}{ts us:List ZPi}{x:Int×Int}(s:S[t]?=some (.lst (ts.map pairD)))(A:ts[i]?=some x)(B:us.length<=90000) :
  ∃y:Int×Int,nrm y=nrm x/\VN W [sR t,sI c,sR S.length,sI i] (S++[.lst (us.map pairD)])=oN [sR t,sI c,sR S.length,sI i] (S++[.lst ((us++[y]).map pairD)]):=by
 have C:=(Keeps.app S [.lst (us.map pairD)]).at s;obtain⟨v,_,_,E⟩:=LK W c i
 have G:mB (m2 (eqD false) (m2 Cm (Bs 2 (Bw W) (AS (AG 1) (AS (AG 3) BA))) (mC (.int 2))) (mC (.int 0))) [sR t,sI c,sR S.length,sI i] (S++[.lst (us.map pairD)])=.ok (decide (v % 2=0)) (S++[.lst (us.map pairD)]):=
  IF (BB (BB ((DE (ds:=[.int c,.int i]) (S1:=S++[.lst (us.map pairD)]) rfl rfl).trans (E _)) rfl (C0 (by decide))) rfl (Ni rfl))
 have l:m2 ixA (AG 0) (AG 3) [sR t,sI c,sR S.length,sI i] (S++[.lst (us.map pairD)])=.ok (pairD x) (S++[.lst (us.map pairD)]):=BB rfl rfl (Uf C (by lia) (by rw[Ad,DR,A];rfl));have j:=FP (a:=C4 (FO (AG 2) (m2 ixA (AG 0) (AG 3)))) (b:=C4 (FO (AG 2) (IC (AS (m2 ixA (m2 ixA (AG 0) (AG 3)) (mC (.int 1))) (AS (m2 ixA (m2 ixA (AG 0) (AG 3)) (mC (.int 0))) BA))))) G
 have m:(us.map pairD).length < sizeLine:=by rw[AI];exact BU B (by decide)
 by_cases o:v % 2=0
 ·rw[wX o,qX rfl]at j
  have g:=IW (mo:=AG 2) (ma:=m2 ixA (AG 0) (AG 3)) (e:=[sR t,sI c,sR S.length,sI i]) (S:=S++[.lst (us.map pairD)]) (n:=S.length) (S1:=S++[.lst (us.map pairD)]) (S2:=S++[.lst (us.map pairD)]) rfl (B1 _ _) l (B1 _ _) m;rw[Kd,show us.map pairD++[pairD x]=(us++[x]).map pairD by simp]at g;exact⟨x,rfl,j.trans (Fn g)⟩
 ·rw[wY o,qY AZ]at j
  have g:=IW (mo:=AG 2) (ma:=IC (AS (m2 ixA (m2 ixA (AG 0) (AG 3)) (mC (.int 1))) (AS (m2 ixA (m2 ixA (AG 0) (AG 3)) (mC (.int 0))) BA))) (e:=[sR t,sI c,sR S.length,sI i]) (S:=S++[.lst (us.map pairD)]) (n:=S.length) (S1:=S++[.lst (us.map pairD)]) (S2:=S++[.lst (us.map pairD)]) (y:=pairD (x.2,x.1)) rfl (B1 _ _) (ND (ds:=[.int x.2,.int x.1]) (By (BB l rfl (ix1 _ _)) (By (BB l rfl (ix0 _ _)) rfl)) (by simp)) (B1 _ _) m;rw[Kd,show us.map pairD++[pairD (x.2,x.1)]=(us++[(x.2,x.1)]).map pairD by simp]at g;exact⟨(x.2,x.1),UF x,j.trans (Fn g)⟩
theorem Rg(W:Wd){S:Sto}{t:Nat}{ts:List ZPi}(c:Int)(C:S[t]?=some (.lst (ts.map pairD)))(P:ts.length<=80000) :
  ∃us:List ZPi,Cd W [.ref t,.int c] S=.ok (.ref S.length) (S++[.lst (us.map pairD)])/\(us.map nrm).Perm (ts.map nrm)/\us.length=ts.length:=by
 obtain⟨f,S1,J,l,us,rfl,rfl,m,o⟩:=Hm (v:=D4 (Cr 0 ts.length)) (g:=tgN 3) (b:=VN W) (xs:=Cr 0 ts.length) (e:=[sR t,sI c,sR S.length,none]) (S:=S++[.lst []])
  (λi e s=>∃(l:Option D) (us:List ZPi),e=[sR t,sI c,sR S.length,l]/\s=S++[.lst (us.map pairD)]/\us.map nrm=(ts.take i).map nrm/\us.length=i)
  (λf s=>∃(l:Option D) (us:List ZPi),f=.nx [sR t,sI c,sR S.length,l]/\s=S++[.lst (us.map pairD)]/\us.map nrm=ts.map nrm/\us.length=ts.length)
  ⟨none,[],rfl,rfl,rfl,rfl⟩ (λ_ _ _ _=>rfl)
  (by
   rintro i d e s hd ⟨l,us,rfl,rfl,m,o⟩;obtain⟨B,rfl⟩:=Hd hd;have E:ts[i]?=some ts[i]:=A2 B;obtain⟨y,L,N⟩:=Rh W (c:=c) (us:=us) C E (by lia);refine⟨[sR t,sI c,sR S.length,sI i],_,?_,_,_,N,_,us++[y],rfl,rfl,?_,by simp[o]⟩
   ·show Res.ok ([sR t,sI c,sR S.length,sI (0+(i:Int))]:Lo) _=_
    rw[PZ]
   ·rw[take_snoc E,Ca,Ca,m]
    simp[L])
  (by
   rintro e s ⟨l,us,rfl,rfl,m,o⟩;rw[GZ]at m o;rw[Er]at m
   exact⟨_,us,rfl,rfl,m,o⟩)
 have B:iR1 (AS (D1 (AG 0)) BA) [sR t,sI c,sR S.length,none] (S++[.lst []])=.ok (D4 (Cr 0 ts.length)) (S++[.lst []]):=by
  have:=LV (ml:=AS (D1 (AG 0)) BA) (e:=[sR t,sI c,sR S.length,none]) (S:=S++[.lst []]) (S1:=S++[.lst []]) (j:=((ts.map pairD).length:Nat)) (By (F6 (d:=.ref t) rfl (CM ((Keeps.app S _).at C))) rfl) (by lia) (by rw[AI];lia);rw[AI]at this;simpa using this
 have Q:Cd W [.ref t,.int c] S=Fe 4 (Eg W) [.ref t,.int c] S:=rfl
 have G:∀(b:MS),BL (Bp 2 (D7 (C3 BA))) (BL (Gw (iR1 (AS (D1 (AG 0)) BA)) (tgN 3) (VN W)) b) (Ck 4 [.ref t,.int c]) S=b [sR t,sI c,sR S.length,l] (S++[.lst (us.map pairD)]):=λb=>by
  refine CD (BF (e1:=[sR t,sI c,sR S.length,none]) (S1:=S++[.lst []]) rfl) ?_;exact BF ((G6 B).trans J)
 have O:mB (m2 (eqD false) (m2 Cm (AG 1) (mC (.int 2))) (mC (.int 1))) [sR t,sI c,sR S.length,l] (S++[.lst (us.map pairD)])=.ok (decide (c % 2=1)) (S++[.lst (us.map pairD)]):=IF (BB (BB rfl rfl (C0 (by decide))) rfl (Ni rfl));have A:=FP (a:=C4 (UQ (AG 2))) (b:=sNx) O
 by_cases H:c % 2=1
 ·rw[wX H,qX rfl]at A
  have I:=YR (mo:=AG 2) (e:=[sR t,sI c,sR S.length,l]) (S:=S++[.lst (us.map pairD)]) rfl (B1 _ _);rw[Kd,<-VY]at I;refine⟨us.reverse,FN ?_,?_,by rw[RZ];exact o⟩
  ·unfold Eg
   rw[G];refine CD (BF (A.trans (Fn I))) ?_;rfl
  ·rw[VY,m]
   exact List.reverse_perm _
 ·rw[wY H,qY AZ]at A
  refine⟨us,FN ?_,by rw[m],o⟩;unfold Eg;rw[G];refine CD (BF (A.trans rfl)) ?_;rfl
theorem Tj{l l':List ZLi}(h:l.Perm l'):Ir l=Ir l':=Mb ((FJ l).trans (h.trans (FJ l').symm)) (Kv l) (Kv l')
theorem V0{ps qs:List ZPi}(h:(ps.map nrm).Perm (qs.map nrm)):Fv ps=Fv qs:=by
 unfold Fv Gr;have:=h.map NM;rw[B7,B7]at this;rw[show(λx=>NM (nrm x))=NM∘nrm from rfl,Tj this]
theorem Df.of{p:Int}{ps g:List ZPi}(h:(ps.map nrm).Perm (g.map nrm))(f:Df p g):Df p ps:=by
 refine⟨λx j=>?_,h.nodup_iff.mpr f.2⟩;obtain⟨y,l,e⟩:=Cf.mp (h.mem_iff.mp (RY j));have:=f.1 y l;unfold Fit at this ⊢;rw[<-e];exact this
open L2
def nr(ts:List ZPi)(x:Nat):ZLi:=Dr (Bf ts x)
theorem P2{ts:List ZPi}{x:Nat}{z:Int}:z∈nr ts x↔((x:Int),z)∈ts∨(z,(x:Int))∈ts:=by
 unfold nr;rw[(CB _).mem_iff];unfold Bf;rw[List.mem_flatMap]
 constructor
 ·rintro⟨t,g,h⟩
  rcases A1.mp h with h | h
  ·split at h
   ·rename_i e
    rw[Ah.mp h,<-e];exact .inl g
   ·cases h
  ·split at h
   ·rename_i e
    rw[Ah.mp h,<-e];exact .inr g
   ·cases h
 ·rintro(h | h)
  ·exact⟨_,h,Cg _ (by simp)⟩
  ·exact⟨_,h,Az _ (by simp)⟩
theorem Wc{ts:List ZPi}{x y:Nat}:(y:Int)∈nr ts x↔(x:Int)∈nr ts y:=by
 rw[P2,P2];exact Or.comm
theorem Yw(ts:List ZPi)(x:Nat):(nr ts x).length<=2 * ts.length:=by
 unfold nr;rw[(CB _).length_eq];exact IT ts x
def Hx(S:Sto)(n o:Nat)(ts:List ZPi):Prop:=∃g:List Nat,S[n]?=some (.lst (g.map D.ref))/\g.length=o/\∀x,x < o->∃r,g[x]?=some r/\S[r]?=some (.lst ((nr ts x).map D.int))
theorem Hx.keeps{S g:Sto}{n o:Nat}{ts:List ZPi}(h:Hx S n o ts)(k:Keeps S g):Hx g n o ts:=by
 obtain⟨j,l,m,s⟩:=h
 exact⟨j,k.at l,m,λx A=>by
  obtain⟨r,B,C⟩:=s x A
  exact⟨r,B,k.at C⟩⟩
theorem UJ(W:Wd){S:Sto}{t o:Nat}{ts:List ZPi}(L:S[t]?=some (.lst (ts.map pairD)))(X:Ep o 0 ts)(ho:o<=60)(hl:ts.length<=40000) :
  ∃n j,E8 W [.ref t,.int o] S=.ok (.ref n) j/\Keeps S j/\Hx j n o ts:=by
 have N:=Cc (i:=2) (Jd (Me ho (mp:=AG 1) (e:=[sR t,sI o,none,none,none]) (S:=S) rfl));have Y:(S++Dc o λ_=>[])++[.lst (CN S.length o)]=stN S o (Bf []):=rfl
 have Z:(S++Dc o λ_=>[]).length=S.length+o:=by simp[ES]
 rw[Y,Z]at N
 obtain⟨f,S1,h1,⟨l,s,rfl⟩,rfl⟩:=Hm (v:=FH (.ref t)) (g:=HZ 2 (Cz (tgN 3) (Cz (tgN 4) IH))) (b:=Mv) (xs:=ts.map pairD) (e:=[sR t,sI o,sR (S.length+o),none,none]) (S:=stN S o (Bf []))
  (λi e j=>(∃l s,e=[sR t,sI o,sR (S.length+o),l,s])/\j=stN S o (Bf (ts.take i)))
  (λf j=>(∃l s,f=.nx [sR t,sI o,sR (S.length+o),l,s])/\j=stN S o (Bf ts))
  ⟨⟨none,none,rfl⟩,rfl⟩ (by rintro i e j ⟨_,rfl⟩;exact ER ((FB S o _).at L))
  (by
   rintro i y e j E ⟨⟨l,s,rfl⟩,rfl⟩;rw[Ad]at E
   cases B:ts[i]? with
   | none=>rw[B]at E;cases E
   | some x=>
    rw[B]at E;cases E
    have kH:In o x:=by
     obtain⟨G,H,g3⟩:=X.1 x (Bd B);exact⟨by omega,by lia,by lia,by lia,by lia⟩
    refine⟨[sR t,sI o,sR (S.length+o),sI x.1,sI x.2],_,rfl,_,_,Md kH (λz=>?_),⟨_,_,rfl⟩,?_⟩
    ·have:=IT (ts.take i) z
     rw[CP]at this
     lia
    ·rw[take_snoc B,show Bf (ts.take i++[x])=_ from funext λz=>Js _ _ z])
  (by
   rintro e j ⟨⟨l,s,rfl⟩,rfl⟩;rw[AI,Er]
   exact⟨⟨_,_,rfl⟩,rfl⟩)
 have a2:=(G6 (g:=HZ 2 (Cz (tgN 3) (Cz (tgN 4) IH))) (b:=Mv) (Hk (m:=AG 0) (e:=[sR t,sI o,sR (S.length+o),none,none]) (S:=stN S o (Bf [])) (S1:=stN S o (Bf [])) rfl ((FB S o _).at L))).trans h1
 obtain⟨r,S2,q1,I,⟨z,_⟩,K,A,rfl,O,P⟩:=Nk (v:=FH (.ref (S.length+o))) (g:=tgN 0) (c:=Gg) (m:=C2 (AG 0)) (xs:=CN S.length o) (e:=[none,sR t,sI o,sR (S.length+o),l,s]) (S:=stN S o (Bf ts))
  (λi I j C=>(∃z,I=[z,sR t,sI o,sR (S.length+o),l,s])/\Keeps (stN S o (Bf ts)) j/\∃A:List Nat,C=A.map D.ref/\A.length=i/\∀x,x < i->∃r,A[x]?=some r/\j[r]?=some (.lst ((nr ts x).map D.int)))
  ⟨⟨none,rfl⟩,.refl _,[],rfl,rfl,λx B=>zX B (Nat.not_lt_zero _)⟩ (λi I j C h=>ER (h.2.1.at (FI S o _)))
  (by
   rintro i d I j C hd ⟨⟨z,rfl⟩,K,A,rfl,Q,k3⟩
   have R:i < o:=by
    have:=(AD.mp hd).1;simpa[CN]using this
   unfold CN at hd;rw[Ad,Bk R]at hd;cases hd;have J:F7 (.ref (S.length+i)) j=some ((Bf ts i).map D.int):=IU (K.at (Fj S _ R));have hs:=Hv (m:=AG 0) (e:=[sR (S.length+i),sR t,sI o,sR (S.length+o),l,s]) (S:=j) (S1:=j) rfl J (Kw _);have T:=Keeps.app j [.lst ((Dr (Bf ts i)).map D.int)];refine⟨by rw[AI];exact BU (show A.length<=1000 by lia) (by decide),[sR (S.length+i),sR t,sI o,sR (S.length+o),l,s],_,rfl,true,_,rfl,.inl ⟨rfl,_,_,hs,⟨_,rfl⟩,K.trans T,A++[j.length],by simp,by simp[Q],λx B=>?_⟩⟩
   by_cases c:x < i
   ·obtain⟨r,G,H⟩:=k3 x c
    exact⟨r,by rw[AN (by lia)];exact G,T.at H⟩
   ·have:x=A.length:=by lia
    subst this
    exact⟨j.length,by simp,by rw[Q];exact B1 _ _⟩)
 rw[show(CN S.length o).length=o by simp[CN]]at O P;have a3:=Jd ((Kc (n:=1) (g:=tgN 0) (c:=Gg) (m:=C2 (AG 0)) (Hk (m:=AG 2) (e:=[sR t,sI o,sR (S.length+o),l,s]) (S:=stN S o (Bf ts)) (S1:=stN S o (Bf ts)) rfl (FI S o _))).trans q1);have U:=Keeps.app S2 [.lst (A.map D.ref)];refine⟨_,_,FN ?_,((FB S o _).trans K).trans U,A,B1 _ _,O,λx B=>?_⟩
 ·unfold JG
  refine CD (BF N) ?_;refine CD (BF a2) ?_;exact He a3
 ·obtain⟨r,G,H⟩:=P x B
  exact⟨r,G,U.at H⟩
open L2 L4
def IB(W:Wd)(w:Nat×List ZPi):Ob:=.ins W.Web [("places",.int w.1),("ties",.tup (w.2.map pairD)),("near_sets",.tup (Pt w.1 w.2))]
section
variable{W:Wd}{b:ME}{p:Option (Nat×List ZPi)}
theorem Xz(W:Wd){p:Nat}(h1:1<=p)(O:p<=60){d:D}{S:Sto}{ps:List ZPi}(P:∀g,Keeps S g->FH d g=some (ps.map pairD))(H:ps.length<=90000)(I:Df p ps){e:Lo}{ml:ML}{S0:Sto}(Q:ml e S0=.ok [.int p,d] S) :
  ∃g,LM W.Web 3 (FU W) ml e S0=.ok (.ref S.length) g/\Keeps S g/\g[S.length]?=some (IB W (p,Fv ps)):=by
 have R:MJ (mB (m3 leD leD (mC (.int 1)) (AG 1) (mC (.int 60)))) [sR S.length,sI p,some d] (S++[.ins W.Web []])=.ok false (S++[.ins W.Web []]):=
  UG (b:=true) (IF (aq (S3:=S++[.ins W.Web []]) rfl rfl (UW (wX (by lia))) rfl (UW (wX (by lia)))))
 have T:(S++[Ob.ins W.Web []])[S.length]?=some (.ins W.Web []):=B1 _ _;have e1:=NH (C:=W.Web) (f:="places") (mo:=AG 0) (mv:=AG 1) (e:=[sR S.length,sI p,some d]) (S:=S++[.ins W.Web []]) (v:=.int p) rfl rfl T (by decide);have j:Keeps S ((S++[Ob.ins W.Web []]).set S.length (.ins W.Web (KC "places" (.int p) []))):=(Keeps.app S _).set (AK _) _;generalize l:(S++[Ob.ins W.Web []]).set S.length (.ins W.Web (KC "places" (.int p) []))=S1 at e1 j
 have J:S1[S.length]?=some (.ins W.Web [("places",.int p)]):=by rw[<-l];exact Av (by simp)
 obtain⟨m,L,o⟩:=No W (p:=p) (d:=d) (S:=S1) (ps:=ps) (λg k=>P g (j.trans k)) (Ai H (by decide)) I;rw[Pp]at L;have s:=NH (C:=W.Web) (f:="ties") (mo:=AG 0) (mv:=Bs 2 (EB W) (AS (AG 1) (AS (AG 2) BA))) (e:=[sR S.length,sI p,some d]) (S:=S1) ((DE rfl rfl).trans L) rfl (o.at J) (by simp);have A:Keeps S (m.set S.length (.ins W.Web (KC "ties" (.tup ((Fv ps).map pairD)) [("places",.int p)]))):=(j.trans o).set (AK _) _;rw[put2]at s A;have U:S.length < m.length:=(AD.mp (o.at J)).1;generalize B:m.set S.length (.ins W.Web [("places",.int p),("ties",.tup ((Fv ps).map pairD))])=S3 at s A
 have E:S3[S.length]?=some (.ins W.Web [("places",.int p),("ties",.tup ((Fv ps).map pairD))]):=by rw[<-B];exact Av U
 obtain⟨X,Y,G⟩:=Wf W O (ts:=Fv ps) (λt Z=>by
  obtain⟨x,hx,rfl⟩:=Ta Z
  exact(I.1 x hx).in) (by rw[(Rm ps).length_eq,AI];exact H) S3
 have N:=NH (C:=W.Web) (f:="near_sets") (mo:=AG 0) (mv:=Bs 2 (EA W) (AS (AG 1) (AS (UR W.Web "ties" (AG 0)) BA))) (e:=[sR S.length,sI p,some d]) (S:=S3)
  ((DE (By (S1:=S3) rfl (By (ZQ rfl E (Y0 _ _)) rfl)) rfl).trans Y) rfl (G.at E) (by simp)
 have i7:S.length < X.length:=(AD.mp (G.at E)).1;rw[put3]at N;refine⟨_,Wi Q rfl (YN (e:=[sR S.length,sI p,some d]) ?_),(A.trans G).set (AK _) _,Av i7⟩;unfold Lg;refine CD (BF (e:=[sR S.length,sI p,some d]) (e1:=[sR S.length,sI p,some d]) (S1:=S++[.ins W.Web []]) (CD (FP R) rfl)) ?_;rw[BF e1,BF s];exact N
end
end M
namespace L4
open L2
theorem TR{A:List Sl}{m:ME}{p:Option ZLi}(h:VE A m (rO (oL D.int)) p):VE A (Ml m) (rV D.int) (p.bind UL):=λv j o e F S s=>by
 obtain⟨l,B,g⟩:=BZ j;obtain⟨d,C,E,G,n,rfl,H⟩:=h l B o e F S s;refine⟨_,C,?_,G,rfl⟩;unfold Ml;rw[E];dsimp only[Res.bind];rw[H];unfold oL;dsimp only;rw[LU];dsimp only;unfold Yy;unfold UL at g;rw[g]
theorem TQ{A:List Sl}{m:ME}(h:VE A m (rO (oL D.int)) (some [])):VE A (Ml m) (rV λ_:Unit=>D.non) (some ()):=λv C g e F S j=>by
 obtain⟨d,l,o,s,n,rfl,B⟩:=h [] rfl g e F S j;refine⟨_,l,?_,s,rfl⟩;unfold Ml;rw[o];dsimp only[Res.bind];rw[B];rfl
end L4
namespace M
open L2 L4
def E6(o:(Nat×List ZPi))(j:ZLi)(l:ZLi):Option (Fw Int Unit):=
 ((FW j (λg=>some (!decide (g∈l))) (λg=>some g)).bind UL).bind λm=>some (.rt m)
def E7(g:(Nat×List ZPi))(j:ZLi)(l:ZLi):Option Int:=Pz (E6 g j l)
theorem NB(W:Wd)(g:(Nat×List ZPi))(j:ZLi)(l:ZLi):VF (CY W) [.z ((IB W) g),.v ((eT D.int) j),.v ((eT D.int) l)] (rV D.int) (E7 g j l):=by
 refine OG (n:=3) (b:=ED W) (p:=E6 g j l) (B:=λ_=>[]) ?_;show VS [.z ((IB W) g),.v ((eT D.int) j),.v ((eT D.int) l)] _ _ _ _;unfold ED E6;exact(HX (TR (HY (Go (GY (VI.k (Kn (BV rfl))) (λm=>(NA (M8 E9 (BV rfl) (BV rfl)))) (λm=>(BV rfl)))))))
def Gx(j:Int):Option (Fw Bool Unit):=
 (if true=true then some (!false)else some false).bind λg=>some (.rt g)
def Gz(g:Int):Option Bool:=Pz (Gx g)
theorem NC(W:Wd)(g:Int):VF (G7 W) [.v (D.int g)] (rV D.bl) (Gz g):=by
 refine OG (n:=1) (b:=HB W) (p:=Gx g) (B:=λ_=>[]) ?_;show VS [.v (D.int g)] _ _ _ _;unfold HB Gx;exact(HX (Vx (XZ (t:="int") (r:=true) (T:="int") (BV rfl) (λ_ _=>rfl) (by decide +kernel)) (Vt (XZ (t:="bool") (r:=false) (T:="int") (BV rfl) (λ_ _=>rfl) (by decide +kernel)))))
def DC(g:(List ZLi))(s:Int):Option (Fw ZLi Unit):=
 FY (((some []).bind QG).bind λA=>some (.nx A)) λB=>FY (((some (g.length:Int)).bind Pw).bind λC=>IE C B λ(j:ZLi) E=>FY ((R7 (s+E) (g.length:Int)).bind λl=>some (.nx l)) λm=>UO (λG=>G) (((((atI g m).bind λH=>FW H (λo=>some true) (λo=>some (decide (o∈j)))).bind λI=>some (I.any id)).bind λJ=>some (!J)).bind λL=>if L=true then UO (λN=>N) ((XJ j m).bind λO=>some (.nx O))else some (.nx j))) λP=>some (.rt (Dr P))
def D6(g:(List ZLi))(j:Int):Option ZLi:=Pz (DC g j)
theorem Io(W:Wd)(g:(List ZLi))(j:Int):VF (DD W) [.q (Nst D.int g),.v (D.int j)] (rV (eT D.int)) (D6 g j):=by
 refine OG (n:=5) (b:=EE W) (p:=DC g j) (B:=λ_=>[]) ?_;show VS [.q (Nst D.int g),.v (D.int j),.u,.u,.u] _ _ _ _;unfold EE DC;exact(FG (Vk (Go (Kl Pd))) (λl=>(FG (TM (s0:=l) (B:=(λ(m:ZLi)=>[.q (Nst D.int g),.v (D.int j),.w 2 ((oL D.int) m),.u,.u])) (MY (Qj rfl)) Qd (.refl _) (λE o=>(FG (M7 (Pi (TV (BV rfl) (BV rfl)) (Qj rfl))) (λs=>(Pc (Qh (B:=(λ(A:ZLi)=>[.q (Nst D.int g),.v (D.int j),.w 2 ((oL D.int) A),.v (D.int o),.v (D.int s)])) (Pk (NA (X7 (Vo (HY (Go (GY (VI.k (X1 rfl (BV rfl))) (λC=>Vy) (λC=>(TU E9 (BV rfl) (Qi rfl)))))))))) (Pc (X0 rfl (BV rfl) rfl) (λG=>(.refl _))) (Qg (.refl _))) (λH=>(.same (.same (.same (.drop (.drop .nil))))))))))) (λI=>(HX (JZ (HY (Ko (Qi rfl)))))))))
def Eb(E:(Nat×List ZPi))(G:(List ZLi))(g:ZLi)(H:ZLi)(B:ZLi):Option (Fw Bool Unit):=
 FY (((some ((g.length:Int)+(1:Int))).bind Pw).bind λI=>IE I H λ(j:ZLi) J=>FY ((E7 E g j).bind λL=>some (.nx L)) λl=>FY ((FW g (λm=>some (!decide (m∈j))) (λm=>some m)).bind λN=>some (.nx N)) λO=>FY ((((Gz l).bind λP=>some (!P)).bind λQ=>if Q=true then some true else(atI O (0:Int)).bind λR=>some (!decide (l=R))).bind λS=>if S=true then some (.rt false)else some (.nx ())) λ_=>FY ((FW j (λo=>(atI G l).bind λT=>some (decide (o∈T))) (λo=>some o)).bind λU=>some (.nx U)) λs=>FY ((((some []).bind QG).bind λX=>some (decide (s=X))).bind λY=>if Y=true then some (.rt true)else some (.nx ())) λ_=>FY (((((R7 J (B.length:Int)).bind λZ=>atI B Z).bind λl8=>R7 l8 (s.length:Int)).bind λl9=>atI s l9).bind λlb=>some (.nx lb)) λC=>FY (if (decide (C∈g))=true then some (.rt false)else some (.nx ())) λ_=>UO (λj3=>j3) ((((FW j (λA=>some (!decide (A=C))) (λA=>some A)).bind λlg=>((some (l :: [])).bind QG).bind λlh=>W5 lg lh).bind λlj=>some (Dr lj)).bind λll=>some (.nx ll))) λlp=>some (.rt false)
def F3(g:(Nat×List ZPi))(j:(List ZLi))(l:ZLi)(m:ZLi)(o:ZLi):Option Bool:=Pz (Eb g j l m o)
theorem L5(W:Wd)(g:(Nat×List ZPi))(j:(List ZLi))(l:ZLi)(o:ZLi)(m:ZLi):VF (Ee W) [.z ((IB W) g),.q (Nst D.int j),.v ((eT D.int) l),.v ((eT D.int) o),.z ((oL D.int) m)] (rV D.bl) (F3 g j l o m):=by
 refine OG (n:=10) (b:=GC W) (p:=Eb g j l o m) (B:=λ_=>[]) ?_;show VS [.z ((IB W) g),.q (Nst D.int j),.v ((eT D.int) l),.v ((eT D.int) o),.z ((oL D.int) m),.u,.u,.u,.u,.u] _ _ _ _;unfold GC Eb;exact(FG (TM (s0:=o) (B:=(λ(I:ZLi)=>[.z ((IB W) g),.q (Nst D.int j),.v ((eT D.int) l),.v ((eT D.int) I),.z ((oL D.int) m),.u,.u,.u,.u,.u])) (MY (TV (Vu (BV rfl)) (Rf rfl))) Qd (.refl _) (λs A=>(FG (M7 (M9 (X9 (Hu rfl) (TX (BV rfl) (TX (BV rfl) Pl))) (λC=>NB W C.1 C.2.1 C.2.2.1) (λ_=>rfl) Ts)) (λE=>(FG (Qe (Go (GY (VI.k (Kn (BV rfl))) (λJ=>(NA (M8 E9 (BV rfl) (BV rfl)))) (λJ=>(BV rfl))))) (λG=>(FG (Qh (B:=(λ(_:Unit)=>[.z ((IB W) g),.q (Nst D.int j),.v ((eT D.int) l),.v ((eT D.int) s),.z ((oL D.int) m),.v (D.int A),.v (D.int E),.y ((oL D.int) G),.u,.u])) (Z9 (Pk (TW (M9 (TX (BV rfl) Pl) (λL=>NC W L.1) (λ_=>rfl) Ts))) (NA (XY E9 UH (BV rfl) (Pj (KR rfl) (Rf rfl))))) (HX (Rf rfl)) (Qg (.refl _))) (λ_=>(FG (Qe (Go (GY (VI.k (Kn (BV rfl))) (λN=>(NA (TU E9 (BV rfl) (X2 rfl (BV rfl))))) (λN=>(BV rfl))))) (λH=>(FG (Qh (B:=(λ(_:Unit)=>[.z ((IB W) g),.q (Nst D.int j),.v ((eT D.int) l),.v ((eT D.int) s),.z ((oL D.int) m),.v (D.int A),.v (D.int E),.y ((oL D.int) G),.y ((oL D.int) H),.u])) (NA (X6 E9 (KR rfl) (HY (Go (Kl Pd))))) (HX (Rf rfl)) (Qg (.refl _))) (λ_=>(FG (M7 (Pj (KR rfl) (Pi (Pj (Hu rfl) (Pi (BV rfl) (Qk (Hu rfl)))) (Qk (KR rfl))))) (λO=>(FG (Qh (B:=(λ(_:Unit)=>[.z ((IB W) g),.q (Nst D.int j),.v ((eT D.int) l),.v ((eT D.int) s),.z ((oL D.int) m),.v (D.int A),.v (D.int E),.y ((oL D.int) G),.y ((oL D.int) H),.v (D.int O)])) (NA (X4 E9 (BV rfl) (BV rfl))) (HX (Rf rfl)) (Qg (.refl _))) (λ_=>(Pc (M7 (JZ (HY (Ko (HY (Vw (HY (Go (GY (VI.k (Kn (BV rfl))) (λP=>(NA (XY E9 UH (BV rfl) (BV rfl)))) (λP=>(BV rfl))))) (HY (Go (Kl (Vp (BV rfl) Pd)))))))))) (λQ=>(.same (.same (.same (.same (.same (.drop (.drop (.drop (.drop (.drop .nil)))))))))))))))))))))))))))) (λR=>(HX (Rf rfl))))
theorem R8{x:Int}{l:ZLi}(h:(x :: l).Pairwise (· < ·)):UL (x :: l)=some x:=by
 have g:∀l:ZLi,(∀y∈l,x < y)->l.foldl (λm y=>if ltZ y m=true then y else m) x=x:=λl=>by
  induction l with
  | nil=>exact λ_=>rfl
  | cons y l o=>
   intro h;have j:=h y Am;rw[List.foldl_cons,qY (by unfold ltZ;rw[wY (by lia)];exact AZ)]
   exact o λz s=>h z (Aa _ s)
 show some _=_;rw[g l λy j=>(Su.mp h).1 y j]
structure Apt(nears:List ZLi)(ap:ZLi):Prop where
 up:ap.Pairwise (· < ·)
 rg:∀x∈ap,0<=x/\x < nears.length
 no:∀x∈ap,∀y∈ap,∀l,nears[x.toNat]?=some l->y∉l
theorem Ks{l:ZLi}(h:l.Pairwise (· < ·)):l.Nodup:=h.imp λz q=>by lia
theorem T1{w:Nat×List ZPi}{nears:List ZLi}{ap st j:ZLi}(h:Apt nears ap)(hl:ap.length<=1000)(hs:st.length < ap.length)(J:1<=j.length):F3 w nears ap st j=some true:=by
 unfold F3 Eb;rw[show((some ((ap.length:Int)+1)).bind Pw)=some (MC 0 (ap.length+1)) by rw[BG,Qp (by lia) (by lia),show((ap.length:Int)+1).toNat=ap.length+1 by lia]];simp only[BG]
 suffices Q:Ok _ (λr=>r=true) by obtain⟨v,e,rfl⟩:=Q;exact e
 refine OkF.out (OkF.seq (OkF.for (R:=λr=>r=true) (λA s=>s.length<=st.length/\A.length<=(ap.filter λx=>decide (x∈s)).length) ⟨AK _,CA _⟩ ?step) ?fin)
 case fin=>
  rintro s ⟨h1,S⟩
  have h3:(ap.filter λx=>decide (x∈s)).length<=s.length:=NT ((Ks h.up).sublist Ie) λx m=>of_decide_eq_true (BK.mp m).2
  rw[K9]at S
  lia
 case step=>
  rintro A t s ht du ⟨i1,i2⟩
  obtain⟨c,op,E⟩:∃c op,(ap.filter λx=>!decide (x∈s))=c :: op:=by
   cases e:(ap.filter λx=>!decide (x∈s))with
   | cons c op=>exact⟨c,op,rfl⟩
   | nil=>
    have:=NT (Ks h.up) (k:=s) λx m=>by
     have z:=O6.mp e x m;simp at z;exact z
    lia
  have T:(c :: op).Pairwise (· < ·):=E▸h.up.sublist Ie
  have B:c∈ap/\c∉s:=by
   have:=BK.mp (E▸Am:c∈ap.filter λx=>!decide (x∈s));simpa using this
  have L:FW ap (λG=>some (!decide (G∈s))) (λG=>some G)=some (c :: op):=(HA (P:=λx=>!decide (x∈s)) (by lia) λ_ _=>rfl).trans (by rw[E])
  have U:E7 w ap s=some c:=by
   unfold E7 E6;rw[L];show Pz ((UL (c :: op)).bind _)=_;rw[R8 T];rfl
  obtain⟨o,X,Y⟩:=QN (l:=nears) (i:=c) (h.rg c B.1).1 (h.rg c B.1).2
  have Z:FW s (λH=>(atI nears c).bind λi9=>some (decide (H∈i9))) (λH=>some H)=some (s.filter λx=>decide (x∈o)):=HA (P:=λx=>decide (x∈o)) (by lia) λx _=>by rw[X];rfl
  have e4:Gz c=some true:=rfl;rw[U,L];simp only[BG,FX,e4,Z];rw[show atI (c :: op) 0=some c from QO (by decide) rfl];simp only[BG,decide_true,N2,BR,if_false,FX,bI]
  by_cases C:s.filter (λx=>decide (x∈o))=[]
  ·rw[C]
   refine .inr ⟨true,?_,rfl⟩;simp only[decide_true,if_true,VH]
  ·rw[wY C]
   simp only[BR,if_false,FX];obtain⟨pv,q1,_⟩:=RM (l:=j) t (by intro z;rw[z]at J;exact zX J (by decide));obtain⟨g,q2,hg⟩:=RM (l:=s.filter λx=>decide (x∈o)) pv C
   have lA:0 < ((s.filter λx=>decide (x∈o)).length:Int):=by have:=Ra.mpr C;lia
   rw[NV (by lia)];simp only[BG,q1];rw[NV lA];simp only[BG,q2,FX];obtain⟨g1,g2⟩:=BK.mp hg
   have N:g∉ap:=λz=>h.no c B.1 g z o Y (of_decide_eq_true g2)
   rw[wY N];simp only[BR,if_false,FX];rw[HA (P:=λx=>!decide (x=g)) (by lia) λ_ _=>rfl]
   have dX:(s.filter λx=>!decide (x=g)).length < s.length:=by
    have:=List.length_filter_lt_length_iff_exists (p:=λx=>!decide (x=g)) (l:=s);exact this.mpr ⟨g,g1,by simp⟩
   simp only[BG,few1];rw[W4 (by simp;lia)];simp only[BG,NW];refine .inl ⟨_,rfl,?_,?_⟩
   ·rw[(CB _).length_eq]
    simp
    lia
   ·rw[Ao,DI]
    have dH:c :: (ap.filter λx=>decide (x∈s)) ⊆ ap.filter λx=>decide (x∈Dr (s.filter (λx=>!decide (x=g))++[c])):=λx m=>by
     rcases A7.mp m with rfl | m
     ·exact BK.mpr ⟨B.1,wX ((CB _).mem_iff.mpr (by simp))⟩
     ·obtain⟨O,I⟩:=BK.mp m
      have I:=of_decide_eq_true I;refine BK.mpr ⟨O,wX ((CB _).mem_iff.mpr (Cg _ (BK.mpr ⟨I,?_⟩)))⟩;rw[wY (λz:x=g=>N (z▸O))];rfl
    have:=NT (l:=c :: (ap.filter λx=>decide (x∈s))) (D0.mpr ⟨λz=>B.2 (of_decide_eq_true (BK.mp z).2),(Ks h.up).sublist Ie⟩) λx m=>dH m
    rw[Al]at this
    lia
theorem ao{l:ZLi}(h:l.Nodup):(Dr l).Pairwise (· < ·):=by
 have g:=OO l;have j:(Dr l).Nodup:=(CB l).nodup_iff.mpr h
 exact(g.and j).imp λ{a b} z=>by have:=z.1;have:=z.2;lia
theorem Qw{s k m:Int}(g:0<=s)(j:s < m)(l:0<=k)(o:k < m):(s+k) % m=if s+k < m then s+k else s+k - m:=by
 split
 ·exact Va (by lia) (by lia)
 ·rw[<-Int.sub_emod_right];exact Va (by lia) (by lia)
theorem XM{nears:List ZLi}{s:Int}(hn:1<=nears.length)(B:nears.length<=1000)(S:0<=s)(T:s < nears.length)(hk:∀l∈nears,l.length<=10000)
  (sy:∀(x y:Nat) E U,nears[x]?=some E->nears[y]?=some U->(y:Int)∈E->(x:Int)∈U) (ir:∀(x:Nat) E,nears[x]?=some E->(x:Int)∉E) :
  ∃A,D6 nears s=some A/\Apt nears A/\A.length<=nears.length:=by
 unfold D6 DC;rw[show((some (nears.length:Int)).bind Pw)=some (MC 0 nears.length)from(Qp (by lia) (by lia)).trans (by rw[DR])];simp only[BG,bI,FX]
 suffices hh:Ok _ (λA=>Apt nears A/\A.length<=nears.length) by obtain⟨v,e,N⟩:=hh;exact⟨v,e,N⟩
 refine OkF.out (OkF.seq (OkF.for (R:=λA=>Apt nears A/\A.length<=nears.length) (λg so=>so.Nodup/\so.length<=g.length/\(∀x∈so,∃j:Int,0<=j/\j < g.length/\x=(s+j) % nears.length)/\∀x∈so,∀y∈so,∀l,nears[x.toNat]?=some l->y∉l)
  ⟨MV,AK _,λ_ z=>zX z Es,λ_ z=>zX z Es⟩ ?step) λj5 ⟨J,O,C,L⟩=>?fin)
 case fin=>
  rw[K9]at O C;refine OkF.rt ⟨⟨ao J,λx o=>?_,λx o y P=>L x ((CB _).mem_iff.mp o) y ((CB _).mem_iff.mp P)⟩,by rw[(CB _).length_eq];exact O⟩;obtain⟨j,_,_,rfl⟩:=C x ((CB _).mem_iff.mp o);exact⟨Br _ (by lia),Be _ (by lia)⟩
 case step=>
  rintro g k so cS hp ⟨J,O,C,L⟩;obtain⟨X,el⟩:=Tp hp;rw[PZ]at X;subst X;have Y:0<=(s+(g.length:Int)) % (nears.length:Int):=Br _ (by lia);have lB:(s+(g.length:Int)) % (nears.length:Int) < nears.length:=Be _ (by lia)
  have ie:(s+(g.length:Int)) % (nears.length:Int)∉so:=λz=>by
   obtain⟨j,Q,j1,e⟩:=C _ z;rw[Qw S T (by lia) (by lia),Qw S T Q (by lia)]at e
   split at e <;> split at e <;> lia
  rw[NV (by lia)];simp only[BG,FX]
  generalize N:(s+(g.length:Int)) % (nears.length:Int)=v at *
  obtain⟨G,e1,H⟩:=QN (l:=nears) (i:=v) Y lB;rw[e1];simp only[BG];rw[SX (f:=λx=>decide (x∈so)) (Ai (hk G (Bd H)) (by decide)) λ_ _=>rfl];simp only[BG]
  have skip:∀x∈so,∃j:Int,0<=j/\j < (g++[(g.length:Int)]).length/\x=(s+j) % nears.length:=λx o=>by
   obtain⟨j,Q,j1,e⟩:=C x o;exact⟨j,Q,by rw[Ao];simp;lia,e⟩
  cases I:(G.map λx=>decide (x∈so)).any id with
  | true=>
   simp only[N2,BR,if_false,NW];exact OkF.nx ⟨J,by rw[Ao];lia,skip,L⟩
  | false=>
   simp only[Bool.not_false,if_true];rw[XI (by lia)];simp only[BG,NW]
   have Z:∀x∈G,x∉so:=λx o z=>by
    have:=Jp.mp I (decide (x∈so)) (Cf.mpr ⟨x,o,rfl⟩);rw[wX z]at this;exact this rfl
   refine OkF.nx ⟨Jm.mpr ⟨J,by simp,λa ha b hb z=>?_⟩,by simp;lia,λx o=>?_,λx o y P l B=>?_⟩
   ·rw[Ah]at hb
    exact ie (by rw[<-hb,<-z];exact ha)
   ·rcases A1.mp o with o | o
    ·exact skip x o
    ·rw[Ah]at o
     exact⟨g.length,by lia,by rw[Ao];simp;lia,by rw[o,N]⟩
   ·have rg:∀z∈so,0<=z:=λz hz=>by
     obtain⟨j,_,_,rfl⟩:=C z hz;exact Br _ (by lia)
    have vv:((v.toNat:Nat):Int)=v:=Dk Y
    rcases A1.mp o with m | m <;> rcases A1.mp P with hy1 | hy1
    ·exact L x m y hy1 l B
    ·rw[Ah]at hy1
     subst hy1;intro z;have xx:((x.toNat:Nat):Int)=x:=Dk (rg x m);have:=sy x.toNat y.toNat l G B H (by rw[vv];exact z);rw[xx]at this;exact Z x this m
    ·rw[Ah]at m
     subst m;rw[H]at B;cases B
     exact λz=>Z y z hy1
    ·rw[Ah]at m hy1
     subst m hy1;rw[H]at B;cases B;intro z;exact ir _ G H (by rw[vv];exact z)
theorem SO(W:Wd){S:Sto}{t m:Nat}{ts:List ZPi}{c:Int}(o:S[t]?=some (.lst (ts.map pairD)))(s:1<=m)(A:m<=60)(B:Df m ts)(C:ts.length<=80000){e:Lo}{mp mt:ME}{mc:ML}(E:mp e S=.ok (.int m) S)(G:AS mt mc e S=.ok [.ref t,.int c] S) :
  ∃q g,LM W.Web 3 (FU W) (AS mp (AS (Bs 2 (Cd W) (AS mt mc)) BA)) e S=.ok (.ref q) g/\Keeps S g/\g[q]?=some (IB W (m,Fv ts)):=by
 obtain⟨j,H,l,J⟩:=Rg W c o C;obtain⟨g,I,K,hw⟩:=Xz W (p:=m) (d:=.ref S.length) (S:=S++[.lst (j.map pairD)]) (ps:=j) s A (λg k=>ER (k.at (B1 _ _))) (by lia) (B.of l) (ml:=AS mp (AS (Bs 2 (Cd W) (AS mt mc)) BA)) (e:=e) (S0:=S) (By E (By ((DE G rfl).trans H) rfl));rw[V0 l]at hw;exact⟨_,g,I,(Keeps.app _ _).trans K,hw⟩
theorem UD{S:Sto}{n o:Nat}{ts:List ZPi}(h:Hx S n o ts)(L:Nat->Option Ob)(j:∀n o,S[n]?=some o->L n=some o):Nst D.int ((A8 o).map (nr ts)) L (.ref n):=by
 obtain⟨l,m,s,A⟩:=h;refine⟨n,l,rfl,j _ _ m,by simp[s],λk E g=>?_⟩;rw[Ad]at g
 by_cases c:k < o
 ·rw[Bk c]at g
  cases g;obtain⟨r,B,C⟩:=A k c;exact⟨r,B,j _ _ C⟩
 ·rw[Ba (by simp;lia)]at g
  cases g
theorem Im(W:Wd){w:Nat×List ZPi}{a s:ZLi}(h:∀x∈a,x∈s)(j:a.length<=1000000):VF (CY W) [.z (IB W w),.v (eT D.int a),.v (eT D.int s)] (rV λ_:Unit=>D.non) (some ()):=by
 refine OG (n:=3) (b:=ED W) (p:=some (.rt ())) (B:=λ_:Unit=>[]) ?_;show VS [.z (IB W w),.v (eT D.int a),.v (eT D.int s)] _ _ _ _;unfold ED;have e:FW a (λg=>some (!decide (g∈s))) (λg=>some g)=some []:=(HA (P:=λx=>!decide (x∈s)) j λ_ _=>rfl).trans (congrArg some (O6.mpr λx l=>by rw[wX (h x l)];exact AZ));refine HX (p:=some ()) (TQ ?_);rw[<-e];exact HY (Go (GY (VI.k (Kn (BV rfl))) (λg=>(NA (M8 E9 (BV rfl) (BV rfl)))) (λg=>(BV rfl))))
def Li(S:Sto):List Sl->Lo->Prop
 | [],_=>True
 | a :: A,x :: e=>a.ok S (Fo S) S x/\Li S A e
 | _ :: _,[]=>False
theorem Li.at{S:Sto}:∀{A:List Sl} {e:Lo},Li S A e->∀(i:Nat) (a:Sl),A[i]?=some a->∃x,e[i]?=some x/\a.ok S (Fo S) S x
 | _ :: _,_ :: _,h,0,_,q=>by cases q;exact⟨_,rfl,h.1⟩
 | _ :: _,_ :: _,h,i+1,a,q=>Li.at h.2 i a q
theorem JK{S:Sto}{n:Nat}{o:Ob}(h:S[n]?=some o):Fo S n=.fz o:=by unfold Fo;rw[h]
theorem Li.vs{S:Sto}{A:List Sl}{e:Lo}(h:Li S A e):Vs S A e (Fo S) S:=by
 refine⟨Keeps.refl _,λn o q=>?_,λn i q=>?_,λn g=>by unfold Fo;rw[Ba g],h.at⟩
 ·unfold Fo at q
  split at q
  ·rename_i l j;cases q;exact j
  ·cases q
 ·unfold Fo at q
  split at q <;> cases q
theorem bM{g j:Type}(a:g)(f:g->Option j):(some a).bind f=f a:=CD (b:=id (f a)) rfl (Eq.refl _)
abbrev EL(ns:ZLi)(h m th:Int)(g t q j:Nat)(l:ZLi)(x9 x10 o:Option D):Lo:=[sF ns,sI h,sI m,sI th,sR g,sR t,sR q,sR j,some (eT D.int l),x9,x10,o,sR 0]
abbrev Nq(W:Wd):MS:=sIf (MJ (R9 (Bs 5 (Ee W) (AS (AG 6) (AS (AG 7) (AS (AG 8) (AS (EU (C2 (LL (AG 11) LI (Hg (AG 10))))) (AS (AG 4) BA)))))))) (E0 (mC (.bl false))) sNx
structure At(W:Wd)(S:Sto)(m:Nat)(pl q nn:Nat)(us:List ZPi)(pool:ZLi):Prop where
 cod:S[0]?=some (.cod W.tb Gb lq)
 pool:S[pl]?=some (oL D.int pool)
 web:S[q]?=some (IB W (m,Fv us))
 near:Hx S nn m us
theorem At.keeps{W:Wd}{S g:Sto}{m j q l:Nat}{us:List ZPi}{pool:ZLi}(a:At W S m j q l us pool)(k:Keeps S g):At W g m j q l us pool:=⟨k.at a.cod,k.at a.pool,k.at a.web,a.near.keeps k⟩
section
variable{W:Wd}{ns:ZLi}{h th:Int}{m pl t q nn:Nat}{us:List ZPi}{pool ap:ZLi}
theorem YB{S:Sto}{x9:Option D}{g:Int}{l:ZLi}(a:At W S m pl q nn us pool)(s:Apt ((A8 m).map (nr us)) ap)(B:ap.length<=1000)(C:0<=g)(N:g < ap.length)(E:1<=pool.length) :
  ∃S',Nq W (EL ns h m th pl t q nn ap x9 (some (.int g)) (some (.ref S.length))) (S++[.lst (l.map D.int)])=.ok (.nx (EL ns h m th pl t q nn ap x9 (some (.int g)) (some (.ref S.length)))) S'/\Keeps S S':=by
 have k:=Keeps.app S [.lst (l.map D.int)];have b:=a.keeps k
 have G:Li (S++[.lst (l.map D.int)]) [.u,.u,.u,.u,.z (oL D.int pool),.u,.z (IB W (m,Fv us)),.q (Nst D.int ((A8 m).map (nr us))),.v (eT D.int ap),.u,.v (.int g),.z (oL D.int l),.u] (EL ns h m th pl t q nn ap x9 (some (.int g)) (some (.ref S.length))):=
  ⟨trivial,trivial,trivial,trivial,⟨pl,rfl,JK b.pool⟩,trivial,⟨q,rfl,JK b.web⟩,⟨.ref nn,rfl,λL H=>UD b.near L λn o z=>H n o (JK z)⟩,rfl,trivial,rfl,⟨S.length,rfl,JK (B1 _ _)⟩,trivial,trivial⟩
 have v:=Pk (TW (M9 (A:=[.u,.u,.u,.u,.z (oL D.int pool),.u,.z (IB W (m,Fv us)),.q (Nst D.int ((A8 m).map (nr us))),.v (eT D.int ap),.u,.v (.int g),.z (oL D.int l),.u]) (n:=5) (X9 (Hu (i:=6) (ob:=IB W) (v:=(m,Fv us)) rfl) (va_q (i:=7) rfl (TX (BV (i:=8) (enc:=eT D.int) (v:=ap) rfl) (TX (JZ (HY (Ko (HY (Vv (Hu (i:=11) (ob:=oL D.int) (v:=l) rfl) Vn (Vm (BV (i:=10) (enc:=D.int) (v:=g) rfl))))))) (X9 (Hu (i:=4) (ob:=oL D.int) (v:=pool) rfl) Pl))))) (λj=>L5 W j.1 j.2.1 j.2.2.1 j.2.2.2.1 j.2.2.2.2.1) (λ_=>rfl) Ts))
 have I:(Dr (JF l none (some g))).length < ap.length:=by
  rw[(CB _).length_eq];unfold JF;rw[CP,HT.Tn,Nat.sub_zero,<-Dk C,HT.V8]
  lia
 obtain⟨S',c,J⟩:=v false (by
  simp only[bM];rw[T1 s B I E,bM]
  rfl) _ _ _ _ G.vs
 exact⟨S',(FP c).trans (qY AZ),k.trans J⟩
abbrev VP(W:Wd):MS:=BL (Bp 10 (m2 Dd (mC (.int 1)) (m2 Cm (AG 9) (m2 V5 (D1 (AG 8)) (mC (.int 1))))))
  (Tl (AG 2) 9 (Bs 2 (Bw W) (AS (AG 0) (AS (AG 1) BA))) W.tb Gb lq 12 11 (Nq W))
theorem ZX{S:Sto}{c:Int}{x10:Option D}(a:At W S m pl q nn us pool)(j:Apt ((A8 m).map (nr us)) ap)(E:m<=60)(o:ap.length<=1000)(G:2<=ap.length)(s:1<=pool.length) :
  VP W (EL ns h m th pl t q nn ap (some (.int c)) x10 none) S=.ok (.nx (EL ns h m th pl t q nn ap (some (.int c)) (some (.int (1+c % ((ap.length:Int) - 1)))) none)) S:=by
 have A:Bp 10 (m2 Dd (mC (.int 1)) (m2 Cm (AG 9) (m2 V5 (D1 (AG 8)) (mC (.int 1))))) (EL ns h m th pl t q nn ap (some (.int c)) x10 none) S=.ok (.nx (EL ns h m th pl t q nn ap (some (.int c)) (some (.int (1+c % ((ap.length:Int) - 1)))) none)) S:=by
  refine Cc (i:=10) (BB (S1:=S) (S2:=S) (x:=.int 1) rfl (BB (S1:=S) (S2:=S) (x:=.int c) (y:=.int ((ap.length:Int) - 1)) rfl (BB (S1:=S) (S2:=S) (x:=.int ap.length) (y:=.int 1) ?_ rfl rfl) (C0 (by lia))) rfl);have:=F6 (m:=AG 8) (e:=EL ns h m th pl t q nn ap (some (.int c)) x10 none) (S:=S) (S1:=S) (d:=eT D.int ap) (ds:=ap.map D.int) rfl rfl;rw[AI]at this;exact this
 refine(BF A).trans ?_;generalize H:1+c % ((ap.length:Int) - 1)=g;have I:0<=c % ((ap.length:Int) - 1):=Br _ (by lia);have J:c % ((ap.length:Int) - 1) < (ap.length:Int) - 1:=Be _ (by lia)
 have ok:Xl (AG 2) 9 (Bs 2 (Bw W) (AS (AG 0) (AS (AG 1) BA))) W.tb Gb lq 12 11 (Nq W) (EL ns h m th pl t q nn ap (some (.int c)) (some (.int g)) none) S:=by
  refine⟨0,rfl,a.cod,m,c,rfl,by lia,by lia,rfl,λz=>?_,λl _=>?_⟩
  ·obtain⟨v,_,_,e⟩:=LK W c z
   exact⟨v,(DE (ds:=[.int c,.int z]) (S1:=[]) rfl rfl).trans (e [])⟩
  ·obtain⟨B,e,k⟩:=YB (ns:=ns) (h:=h) (th:=th) (t:=t) (x9:=some (.int c)) (l:=l) a j o (show 0<=g by lia) (show g < ap.length by lia) s
   refine⟨_,B,e,λi d C hd=>?_,rfl,k.1,k.2⟩;show((EL ns h m th pl t q nn ap (some (.int c)) (some (.int g)) none).set 11 (some (.ref S.length)))[i]?=_;rw[Ag (B2 C)];exact hd
 unfold Tl;rw[qX ok];rfl
theorem Yz{S:Sto}{x9 x10:Option D}(a:At W S m pl q nn us pool)(B:Apt ((A8 m).map (nr us)) ap)(C:m<=60)(E:ap.length<=1000)(G:2<=ap.length)(H:1<=pool.length) :
  ∃e,Gw (FQ (AG 4)) (tgN 9) (VP W) (EL ns h m th pl t q nn ap x9 x10 none) S=.ok (.nx e) S:=by
 obtain⟨f,l,e,o,j,rfl,rfl⟩:=Hm (v:=FH (.ref pl)) (g:=tgN 9) (b:=VP W) (xs:=pool.map D.int) (e:=EL ns h m th pl t q nn ap x9 x10 none) (S:=S)
  (λ_ e l=>∃o j,e=EL ns h m th pl t q nn ap o j none/\l=S) (λf l=>∃o j,f=.nx (EL ns h m th pl t q nn ap o j none)/\l=S) ⟨x9,x10,rfl,rfl⟩
  (λ_ _ l ⟨_,_,_,z⟩=>by rw[z];exact ER a.pool)
  (by
   rintro i d e l hd ⟨o,j,s,A⟩
   subst s;rw[A];obtain⟨c,_,rfl⟩:=Cf.mp (Bd hd)
   exact⟨EL ns h m th pl t q nn ap (some (.int c)) j none,S,rfl,_,_,ZX a B C E G H,_,_,rfl,rfl⟩)
  (λe l ⟨o,j,s,A⟩=>⟨o,j,by rw[s],A⟩)
 exact⟨_,(G6 (Hk (n:=pl) rfl a.pool)).trans e⟩
end
theorem Q3{t:MT}{a r:MS}{e:Lo}{S S1:Sto}(h:t e S=.ok false S1):BL (sIf t a sNx) r e S=r e S1:=BF ((FP h).trans (qY AZ))
theorem good(W:Wd)(ns:ZLi)(dr:ns.length<=63):∃S',Q9 W [.fro (ns.map D.int)] [.cod W.tb Gb lq]=.ok (.bl true) S':=by
 generalize I:[Ob.cod W.tb Gb lq]=S0
 have lD:S0[0]?=some (.cod W.tb Gb lq):=by rw[<-I];rfl
 obtain⟨h,hc⟩:=XA W ns 0 S0
 obtain⟨m,th,J,hm,s4⟩:∃(m:Nat) (th:Int),1<=m/\m<=40/\sIf (mB (m2 (eqD false) (m2 Cm (m2 E4 (AG 1) (mC (.int 14))) (mC (.int 8))) (mC (.int 3)))) (BL (Bp 2 (m2 Dd (mC (.int 15)) (m2 Cm (m2 E4 (AG 1) (mC (.int 112))) (mC (.int 26)))))
   (Bp 3 (m2 Dd (mC (.int 1)) (m2 Cm (m2 E4 (AG 1) (mC (.int 5))) (mC (.int 2)))))) sNx [sF ns,sI h,sI (1+h % 14),sI (1+h / 5 % 6),none,none,none,none,none,none,none,none,sR 0] S0
   = oN [sF ns,sI h,sI m,sI th,none,none,none,none,none,none,none,none,sR 0] S0:=by
  have C:mB (m2 (eqD false) (m2 Cm (m2 E4 (AG 1) (mC (.int 14))) (mC (.int 8))) (mC (.int 3))) [sF ns,sI h,sI (1+h % 14),sI (1+h / 5 % 6),none,none,none,none,none,none,none,none,sR 0] S0=.ok (decide (h / 14 % 8=3)) S0:=IF (BB (BB (BB rfl rfl (Hn (by decide) (by decide))) rfl (C0 (by decide))) rfl (Ni rfl));have N:0<=h % 14:=Br _ (by decide);have b2:h % 14 < 14:=Be _ (by decide);have b3:0<=h / 112 % 26:=Br _ (by decide);have b4:h / 112 % 26 < 26:=Be _ (by decide)
  by_cases c:h / 14 % 8=3
  ·rw[wX c]at C
   refine⟨(15+h / 112 % 26).toNat,1+h / 5 % 2,by lia,by lia,(FP C).trans ((qX rfl).trans ((BF (Cc (i:=2) (BB rfl (BB (BB rfl rfl (Hn (by decide) (by decide))) rfl (C0 (by decide))) rfl))).trans ((Cc (i:=3) (BB rfl (BB (BB rfl rfl (Hn (by decide) (by decide))) rfl (C0 (by decide))) rfl)).trans ?_)))⟩;rw[Dk (by lia)];rfl
  ·rw[wY c]at C
   refine⟨(1+h % 14).toNat,1+h / 5 % 6,by lia,by lia,(FP C).trans ((qY AZ).trans ?_)⟩;rw[Dk (by lia)];rfl
 obtain⟨S1,pool,q1,K1,N,p1,p2⟩:=WI W ns S0;obtain⟨j,q2,O,l2⟩:=Oi W th N p1 J (by lia:m<=60);have K2:=Keeps.app S1 [.lst (j.map pairD)];obtain⟨q,S3,q3,P,w3⟩:=SO W (c:=h) (B1 S1 (.lst (j.map pairD))) J (by lia:m<=60) O.fit (by lia) (e:=[sF ns,sI h,sI m,sI th,sR S0.length,sR S1.length,none,none,none,none,none,none,sR 0]) (mp:=AG 2) (mt:=AG 5) (mc:=AS (AG 1) BA) rfl rfl;have t3:=P.at (B1 S1 (.lst (j.map pairD)));obtain⟨E,S4,q4,Q,n4⟩:=UJ W t3 O (by lia) (by lia);have lE:Keeps S0 S4:=K1.trans (K2.trans (P.trans Q));have a4:At W S4 m S0.length q E j pool:=⟨lE.at lD,(K2.trans (P.trans Q)).at N,Q.at w3,n4⟩
 have g:((A8 m).map (nr j)).length=m:=by simp
 have o:∀(x:Nat) A,((A8 m).map (nr j))[x]?=some A->A=nr j x:=λx A e=>by
  rw[Ad]at e
  by_cases c:x < m
  ·rw[Bk c]at e;cases e;rfl
  ·rw[Ba (by simp;lia)]at e;cases e
 have g9:0<=h / 7 % (m:Int):=Br _ (by lia);have i0:h / 7 % (m:Int) < m:=Be _ (by lia)
 obtain⟨ap,e5,hA,lF⟩:=XM (nears:=(A8 m).map (nr j)) (s:=h / 7 % (m:Int)) (by rw[g];exact J) (by rw[g];lia) g9 (by rw[g];exact i0) (λl hl=>by
   obtain⟨x,_,rfl⟩:=Cf.mp hl;have:=Yw j x
   lia) (λx y A ly R e2 hy=>by
   rw[o x A R]at hy;rw[o y ly e2]
   exact Wc.mp hy) (λx A R hx=>by
   rw[o x A R]at hx
   have T:∀z∈j,z.1 < z.2:=λz hz=>(O.1 z hz).2.1
   rcases P2.mp hx with z | z <;> exact zX (T _ z) (by simp))
 rw[g]at lF;obtain⟨d5,S5,c5,K5,U⟩:=Io W ((A8 m).map (nr j)) (h / 7 % (m:Int)) _ e5 S4 [.ref E,.int (h / 7 % (m:Int))] ⟨λL hL=>UD n4 L hL,rfl,trivial⟩;have U:d5=eT D.int ap:=U;subst U;have X:=a4.keeps K5;obtain⟨d6,B,c6,K6,Y⟩:=Im W (w:=(m,Fv j)) (a:=ap) (s:=ap) (λ_ z=>z) (by lia) () rfl S5 [.ref q,eT D.int ap,eT D.int ap] ⟨⟨q,rfl,X.web⟩,rfl,rfl,trivial⟩;have Y:d6=.non:=Y;subst Y;obtain⟨d7,S7,c7,K7,Z⟩:=Im W (w:=(m,Fv j)) (a:=[]) (s:=ap) (λ_ z=>nomatch z) (by simp) () rfl B [.ref q,eT D.int [],eT D.int ap] ⟨⟨q,rfl,K6.at X.web⟩,rfl,rfl,trivial⟩;have Z:d7=.non:=Z;subst Z;have a7:=X.keeps (K6.trans K7)
 let G:Lo:=EL ns h m th S0.length S1.length q E ap none none none
 have ig:mOr (mB (m2 (Ug true) (Bs 3 (CY W) (AS (AG 6) (AS (AG 8) (AS (AG 8) BA)))) (mC .non))) (mB (m2 (Ug true) (Bs 3 (CY W) (AS (AG 6) (AS (IC BA) (AS (AG 8) BA)))) (mC .non))) G S5=.ok false S7:=
  (P0 (S1:=B) (IF (BB (S1:=B) (S2:=B) (x:=.non) (y:=.non) ((DE (ds:=[.ref q,eT D.int ap,eT D.int ap]) (S1:=S5) rfl rfl).trans c6) rfl rfl))).trans (IF (BB (S1:=S7) (S2:=S7) (x:=.non) (y:=.non) ((DE (ds:=[.ref q,eT D.int [],eT D.int ap]) (S1:=B) (By rfl (By (ND (ds:=[]) rfl (by simp)) rfl)) rfl).trans c7) rfl rfl))
 have H:mB (m2 ltD (D1 (AG 8)) (mC (.int 2))) G S7=.ok (decide ((ap.length:Int) < 2)) S7:=by
  have:=F6 (m:=AG 8) (e:=G) (S:=S7) (S1:=S7) (d:=eT D.int ap) (ds:=ap.map D.int) rfl rfl;rw[AI]at this;exact IF (BB (S1:=S7) (S2:=S7) this rfl (LO rfl))
 have body:∃S',VM W ((Ck 13 [.fro (ns.map D.int)]).set 12 (some (.ref 0))) S0=.ok (.rt (.bl true)) S':=by
  have pre:∀{r:MS},BL (Bp 1 (Bs 2 (EC W) (AS (AG 0) (AS (mC (.int 0)) BA))))
   (BL (Bp 2 (m2 Dd (mC (.int 1)) (m2 Cm (AG 1) (mC (.int 14)))))
   (BL (Bp 3 (m2 Dd (mC (.int 1)) (m2 Cm (m2 E4 (AG 1) (mC (.int 5))) (mC (.int 6)))))
   (BL (sIf (mB (m2 (eqD false) (m2 Cm (m2 E4 (AG 1) (mC (.int 14))) (mC (.int 8))) (mC (.int 3)))) (BL (Bp 2 (m2 Dd (mC (.int 15)) (m2 Cm (m2 E4 (AG 1) (mC (.int 112))) (mC (.int 26)))))
   (Bp 3 (m2 Dd (mC (.int 1)) (m2 Cm (m2 E4 (AG 1) (mC (.int 5))) (mC (.int 2)))))) sNx)
   (BL (Bp 4 (Bs 2 (Fm W) (AS (AG 0) (AS (mC (.int 1)) BA))))
   (BL (Bp 5 (Bs 3 (Fk W) (AS (AG 4) (AS (AG 2) (AS (AG 3) BA)))))
   (BL (Bp 6 (LM W.Web 3 (FU W) (AS (AG 2) (AS (Bs 2 (Cd W) (AS (AG 5) (AS (AG 1) BA))) BA))))
   (BL (Bp 7 (Bs 2 (E8 W) (AS (AG 5) (AS (AG 2) BA))))
   (BL (Bp 8 (Bs 2 (DD W) (AS (AG 7) (AS (m2 Cm (m2 E4 (AG 1) (mC (.int 7))) (AG 2)) BA)))) r)))))))) ((Ck 13 [.fro (ns.map D.int)]).set 12 (some (.ref 0))) S0=r G S5:=λ{r}=>by
   refine(BF (Cc (i:=1) ((DE (ds:=[.fro (ns.map D.int),.int 0]) (S1:=S0) rfl rfl).trans hc))).trans ?_;refine(BF (Cc (i:=2) (BB (S1:=S0) (S2:=S0) rfl (BB (x:=.int h) rfl rfl (C0 (by decide))) rfl))).trans ?_;refine(BF (Cc (i:=3) (BB (S1:=S0) (S2:=S0) rfl (BB (BB (x:=.int h) rfl rfl (Hn (by decide) (by decide))) rfl (C0 (by decide))) rfl))).trans ?_;refine(BF s4).trans ?_;refine(BF (Cc (i:=4) ((DE (ds:=[.fro (ns.map D.int),.int 1]) (S1:=S0) rfl rfl).trans q1))).trans ?_;refine(BF (Cc (i:=5) ((DE (ds:=[.ref S0.length,.int m,.int th]) (S1:=S1) rfl rfl).trans q2))).trans ?_;refine(BF (Cc (i:=6) q3)).trans ?_;refine(BF (Cc (i:=7) ((DE (ds:=[.ref S1.length,.int m]) (S1:=S3) rfl rfl).trans q4))).trans ?_;exact BF (Cc (i:=8) ((DE (ds:=[.ref E,.int (h / 7 % (m:Int))]) (S1:=S4) (By rfl (By (BB (S1:=S4) (S2:=S4) (BB (x:=.int h) rfl rfl (Hn (by decide) (by decide))) rfl (C0 (by lia))) rfl)) rfl).trans c5))
  unfold VM;rw[pre];refine⟨S7,?_⟩;refine(Q3 ig).trans ?_
  by_cases c:(ap.length:Int) < 2
  ·rw[wX c]at H
   exact Pv ((FP H).trans ((qX rfl).trans (He rfl)))
  ·rw[wY c]at H
   obtain⟨e9,q9⟩:=Yz (ns:=ns) (h:=h) (th:=th) (t:=S1.length) (x9:=none) (x10:=none) a7 hA (by lia) (by lia) (by lia) p1;exact(Q3 H).trans ((BF q9).trans (He rfl))
 obtain⟨S',e⟩:=body;refine⟨S',?_⟩;unfold Q9 V9;rw[e];rfl
end M
structure PySem.W.Fast:Prop where(tw7391246881396423882 tw6309153762633864277 tw9129505604764140499 tw2989971596863144463 tw7191076611973217605 tw11998435823389024234 tw10015427245564646841 tw3059421031732066155 tw10785290392012489052 tw2438787602689542109 tw6538130612322658370 tw18222373825558497554 tw8313216592787029782 tw5378178352251254457 tw11830304594788912489 tw2056721854278240553 tw5114736369922466602 tw16739029225149660920 tw9577952118501657023 tw2856602185371251124 tw17830653127785819819 tw12533209248017762280 tw13296692088993305625 tw8576023388647251672 tw12262917964475077767 tw4078849747678258163 tw1638951442530041528 tw3821250143265386029 tw1050241303879474170 tw5335183636745807606 tw15484772450176420089 tw15437354876681368068 tw4703884343039609587 tw12250391401555433094 tw13797126404285015577 tw16314572247652238069 tw14282199177537223068 tw17772304514818669437 tw1657176971014419865 tw5552870435824776686 tw15014958247828385735 tw17048519459572745171 tw8006825661028716983 tw17098485810605523080 tw14391672412847889086 tw3603944027797282343 tw1701612369890189094 tw12454367514082304162 tw6234199575539754191 tw5565989648393168340 tw10948039534513557624 tw5059777925889397242 tw13780598964839864555 tw7950624614890310403:True)
namespace M
open L2 PySem.W
theorem Zb{l:OpenLaw}{w:A9}{K:Frag}{h:BY}{j:Str->Option AC}{m:AL}(X:K.In h)(G:h.Ns Ay j)(C:j "law" = some (.ref m))
  {E H I J L N O P Q R S U Y o g tb:AL} {A:Tok}
  (o_Web:ClsAt K "Web" g)
  (d1:Fp K "checked_ties" FL E)
  (d2:Fp K "near_sets_of" FK H)
  (d4:Fp K "apart_call" Gs J)
  (d5:Fp K "_law_cell_at" FM L)
  (d6:Fp K "_law_mixed" Gv N)
  (d7:Fp K "_law_whole" Gt O)
  (d8:Fp K "_law_pool" Hb P)
  (d9:Fp K "_law_ties" Ha Q)
  (d10:Fp K "_law_turned" Fy R)
  (d11:Fp K "_law_nears" Gu S)
  (d12:Fp K "_law_apart_from" D5 U)
  (d13:Fp K "_law_played" F0 Y)
  (d14:Fp K "law" OQ o)
  (d3:VQ K g "__init__" "Web.__init__" IR I)
  (n_Web_places:findIn K (.ref g) "places" = some none)
  (n_Web_ties:findIn K (.ref g) "ties" = some none)
  (n_Web_near_sets:findIn K (.ref g) "near_sets" = some none)
  (z_any:M0 K Ay "any" = some none)
  (z_bool:M0 K Ay "bool" = some none)
  (z_int:M0 K Ay "int" = some none)
  (z_isinstance:M0 K Ay "isinstance" = some none)
  (z_len:M0 K Ay "len" = some none)
  (z_max:M0 K Ay "max" = some none)
  (z_min:M0 K Ay "min" = some none)
  (z_range:M0 K Ay "range" = some none)
  (z_sorted:M0 K Ay "sorted" = some none)
  (z_sum:M0 K Ay "sum" = some none)
  (z_tuple:M0 K Ay "tuple" = some none)
  (g_MOST_PLACES:M0 K Ay "MOST_PLACES" = some (some (.int 60 A)))
  : ∃(W:Wd) (T:Txt K j W),m=T.d_law.f/\W.tb=tb/\∀(s:AF) (v:AC),O8 s T.d_law.fd ⟨[v],[]⟩ [("script",v)]:=by
 obtain⟨B,_,_,_,_,_,_,_,_,_,l,c,k⟩:=d14;have F:=Uz (st:=OQ) l c k
 let W:Wd:=⟨g,tb⟩
 let T:Txt K j W:={
  d_checked_ties:=mkD X G d1 (bd2 λ_ _ _ _ _ _ _ _ _ _=>rfl)
  d_near_sets_of:=mkD X G d2 (bd2 λ_ _ _ _ _ _ _ _ _ _=>rfl)
  d_Web_init:=mkM d3 (bd3 λ_ _ _ _ _ _ _ _ _ _ _=>rfl)
  d_apart_call:=mkD X G d4 (bd3 λ_ _ _ _ _ _ _ _ _ _ _=>rfl)
  d__law_cell_at:=mkD X G d5 (bd2 λ_ _ _ _ _ _ _ _ _ _=>rfl)
  d__law_mixed:=mkD X G d6 (bd2 λ_ _ _ _ _ _ _ _ _ _=>rfl)
  d__law_whole:=mkD X G d7 (bd1 λ_ _ _ _ _ _ _ _ _=>rfl)
  d__law_pool:=mkD X G d8 (bd2 λ_ _ _ _ _ _ _ _ _ _=>rfl)
  d__law_ties:=mkD X G d9 (bd3 λ_ _ _ _ _ _ _ _ _ _ _=>rfl)
  d__law_turned:=mkD X G d10 (bd2 λ_ _ _ _ _ _ _ _ _ _=>rfl)
  d__law_nears:=mkD X G d11 (bd2 λ_ _ _ _ _ _ _ _ _ _=>rfl)
  d__law_apart_from:=mkD X G d12 (bd2 λ_ _ _ _ _ _ _ _ _ _=>rfl)
  d__law_played:=mkD X G d13 (bd5 λ_ _ _ _ _ _ _ _ _ _ _ _ _=>rfl)
  d_law:=⟨o,_,F,F.binds ((bd1 λ_ _ _ _ _ _ _ _ _=>rfl) _ _),mg_of X G B⟩
  c_Web:=mkO X G o_Web d3
  n_Web_places:=n_Web_places
  n_Web_ties:=n_Web_ties
  n_Web_near_sets:=n_Web_near_sets
  b_any:=DL X G z_any
  b_bool:=DL X G z_bool
  b_int:=DL X G z_int
  b_isinstance:=DL X G z_isinstance
  b_len:=DL X G z_len
  b_max:=DL X G z_max
  b_min:=DL X G z_min
  b_range:=DL X G z_range
  b_sorted:=DL X G z_sorted
  b_sum:=DL X G z_sum
  b_tuple:=DL X G z_tuple
  g_MOST_PLACES:=⟨A,mg_of X G g_MOST_PLACES⟩ }
 refine⟨W,T,?_,rfl,λs v=>.of_eq rfl⟩;have e:=C.symm.trans (mg_of X G B);cases e;rfl
theorem walk{l:OpenLaw}{q:Aq}{g:List Str}{I:(Str->Option AC)->BY->Prop}{o:A9->BY->Prop}{d:DefRec}{K:Params->Frag}{cc tb:AL}(J:l.most=some 63)(L:d.params.defaults=[])
  (N:∀(w:A9) (h:BY),o w h->(K w.params).In h) (O:∀(w:A9) (h:BY),o w h->h.get? tb=some (PH #[])) (P:∀w:A9,codeHdIn (K w.params) cc tb=true) (Q:∀w:A9,tabIn (K w.params) d.name=some (cc,tb)) (R:∀w:A9,noTabs (K w.params)=true)
  (F:∀(w:A9) (j:Str->Option AC) (m:AL) (h:BY),(K w.params).In h->h.Ns Ay j->j d.name=some (.ref m) ->
   ∃(W:Wd) (T:Txt (K w.params) j W),m=T.d_law.f/\W.tb=tb/\∀(s:AF) (v:AC),O8 s T.d_law.fd ⟨[v],[]⟩ [("script",v)])
  (good:∀(W:Wd) (ns:ZLi),ns.length<=63->∃S,Q9 W [.fro (ns.map D.int)] [.cod W.tb Gb lq]=.ok (.bl true) S) :
  WalkO q g I o l.row.toRowW d [] (λf vs=>RU f vs):=
 L2.TL (k:=5) (x:="script") J L ⟨rfl,by decide,by decide⟩ N O P R (λw j m h A G E=>by
  obtain⟨W,T,e,U,hb⟩:=F w j m h A G E;subst e;subst U;obtain⟨Z,od,kV,X,pm,an,br,ct,di,lU,Y,_⟩:=T.d_law.F.ex
  exact⟨T.d_law.fd,hb,λH _ _ C B=>Yt T (law_code A G (Q w) E (A _ _ Y) rfl) C B (good W)⟩)
end M
open PySem.W
set_option maxRecDepth 100000 in
set_option maxHeartbeats 0 in
theorem PySem.Challenge.cw_guardround_k45_whole_calls_from_a_set_ap_holds : PySem.Challenge.rw_guardround_k45_whole_calls_from_a_set_ap.Holds := by
 w_on;o_law;k_head;(case hw=>w_witness2)
 k_fill
 refine M.walk (l:=Dj) (cc:=159) (tb:=155) rfl rfl (λw h Y=>by first | exact kIn_of Y | exact km_in_of Y) (λw h Y=>km_tabs_of Y _ (by simp)) (λw=>by kernel_rfl) (λw=>by kernel_rfl) (λw=>by kernel_rfl) ?F M.good
 case F=>
  intro w mg fa h KX G dU;refine' M.Zb (tb:=155) (l:=Dj) (w:=w) KX G dU ?o_Web ?d1 ?d2 ?d4 ?d5 ?d6 ?d7 ?d8 ?d9 ?d10 ?d11 ?d12 ?d13 ?d14 ?d3 ?n_Web_places ?n_Web_ties ?n_Web_near_sets ?z_any ?z_bool ?z_int ?z_isinstance ?z_len ?z_max ?z_min ?z_range ?z_sorted ?z_sum ?z_tuple ?g_MOST_PLACES
  (case o_Web=>exact⟨by k_is,by k_is,by k_is,by k_is,by k_is,by k_is,by k_is⟩)
  (case d1 | d2 | d4 | d5 | d6 | d7 | d8 | d9 | d10 | d11 | d12 | d13 | d14=>exact⟨by k_is,_,_,_,_,_,_,_,_,_,by k_is,by k_is,by k_is⟩)
  (case d3=>exact⟨by k_is,by k_is,_,_,_,_,_,_,_,_,_,by k_is,by k_is,by k_is⟩)
  (case n_Web_places | n_Web_ties | n_Web_near_sets | z_any | z_bool | z_int | z_isinstance | z_len | z_max | z_min | z_range | z_sorted | z_sum | z_tuple | g_MOST_PLACES=>k_is)
#print axioms PySem.Challenge.cw_guardround_k45_whole_calls_from_a_set_ap_holds
