import PyProof.Rows.All
import Wide.All
import OpenK.AllK
import Wide.FinOn
import Lean
import PyProof.EqAt
import PyProof.EqKinds
import PyProof.TupleCall
import PyProof.ExcBaseAll.ValueError
import PyProof.NsDelKeeps
import PyProof.NeKinds
import PyProof.Rows.SortShell
import PyProof.Rows.FStr
import PyProof.FString
import PyProof.ExcAttrAll.ValueError
import PyProof.ExcArgsOwn
import PyProof.Rows.SortRuns
import PyProof.TupleIter
import PyProof.Dict
import KE.KDictSum
import PyProof.Rows.SetFrom
import PyProof.SetRoads
import PyProof.Rows.Range3
import PyProof.WalksMore
import PyProof.TupleOfSeq
import PyProof.EnumMake
import PyProof.SliceList
import PyProof.MinMaxWalk
import PyProof.Rows.EnumRows
import PyProof.WalkInts
import PyProof.Rows.SeqCalls
import KE.KRevIter
import PyProof.CollectIter
import PyProof.TupleOfGen
import PyProof.Rows.FactsT2
import PyProof.ListRange
import PyProof.Rows.CallKwBuiltin
import PyProof.ZipIter
import PyProof.Rows.ZipGen
import PyProof.Rows.RuleM_int
import PyProof.Rows.AssignMoreSeq
import PySem.Challenge.RW_guardround_k05_whole_webs_within
set_option Elab.async false
set_option linter.all false
set_option maxRecDepth 100000
set_option maxHeartbeats 8000000
theorem qX{c:Prop}{h:Decidable c}(hc:c){α:Sort u}{t e:α}:ite c t e=t:=if_pos hc
theorem qY{c:Prop}{h:Decidable c}(hc:Not c){α:Sort u}{t e:α}:ite c t e=e:=if_neg hc
theorem wX{p:Prop}[i:Decidable p](h:p):decide p=true:=decide_eq_true h
theorem wY{p:Prop}[i:Decidable p](h:Not p):decide p=false:=decide_eq_false h
theorem zX{a b:Prop}(h:a)(n:Not a):b:=absurd h n
noncomputable section
open Array renaming append_assoc->UT,getD_eq_getD_getElem?->De,getElem?_eq_getElem->OY,getElem?_eq_some_iff->Dt,getElem?_setIfInBounds_ne->Li,length_toList->BX,mem_extract_iff_getElem->MR,mem_of_getElem?->CG,mem_toList_iff->BI,perm_iff_toList_perm->Ds,toList->bF,toList_append->A4,toList_map->Hl,toList_modify->TB,toList_push->HN,toList_reverse->Dr,toList_setIfInBounds->N9
open Array.Perm renaming refl->Ku
open Bool renaming and_eq_true->CN,eq_iff_iff->YW,false_eq_true->Bp,false_ne_true->AS,false_or->bE,not_eq_true'->Vv,not_false->OX,not_true->Hg,true_and->bD
open Eq renaming trans->J7
open False renaming elim->DC
open ForInStep renaming yield->FO
open Int renaming emod_lt_of_pos->B6,emod_nonneg->Cc,le_refl->Nz,toNat_natCast->A5,toNat_of_nonneg->Ci
open List renaming all_cons->bC,all_eq_true->IH,all_map->dj,any_cons->FY,any_eq_true->MQ,any_toArray->IG,append_assoc->Az,append_nil->BE,drop_drop->OV,drop_eq_getElem_cons->HM,drop_eq_nil_of_le->Rc,ext_getElem?->Lg,extract->Lf,filterMap_cons->J6,filter_append->Vh,filter_eq_self->UQ,find?_cons->BO,foldl_append->Vr,forIn_cons->YV,forIn_nil->aO,getD_eq_getElem?_getD->Gw,getElem?_append_left->AV,getElem?_append_right->As,getElem?_drop->Eb,getElem?_eq_getElem->BC,getElem?_eq_none->CH,getElem?_eq_none_iff->D7,getElem?_eq_some_iff->AE,getElem?_map->Ae,getElem?_range->Bw,getElem?_replicate->CY,getElem?_set->HV,getElem?_set_ne->Ay,getElem?_set_self->A3,getElem?_take_of_lt->QF,getElem_of_mem->UP,getElem_toArray->Sz,length->DQ,length_append->Ac,length_cons->Au,length_drop->Cq,length_erase_of_mem->QE,length_filter_le->JI,length_map->AF,length_nil->EZ,length_pos_of_mem->Rb,length_replicate->JH,length_set->GH,length_singleton->A9,length_take->CM,lookup->Fh,lookup_cons->Bj,map->OU,mapM_toArray->Vq,map_append->Br,map_congr_left->BY,map_cons->Ap,map_id->Mn,map_map->A7,map_nil->IV,map_take->bB,mem_append->A2,mem_append_left->BJ,mem_append_right->A8,mem_cons->A6,mem_cons_of_mem->Aa,mem_cons_self->Al,mem_filter->B5,mem_filterMap->Vg,mem_iff_getElem->Sy,mem_map->BH,mem_of_getElem?->Av,mem_range->Jb,mem_reverse->YJ,mem_singleton->Af,mergeSort_perm->UO,nodup_append->Dg,nodup_cons->C5,nodup_nil->Ja,not_mem_nil->IF,of_mem_zip->Ny,pairwise_append->BN,pairwise_cons->Vf,pairwise_iff_getElem->HK,pairwise_map->CC,pairwise_mergeSort->QN,pairwise_reverse->JG,pairwise_singleton->Ed,perm_append_comm->Ru,range->Bo,range'->d8,range_succ->Nx,range_succ_eq_map->IU,replicate->BG,singleton_append->FN,size_toArray->Ai,take_add_one->HU,take_append_drop->FM,take_length->FV,take_of_length_le->DR,take_sublist->Vp,zipIdx_cons->YI,zipIdx_nil->YU
open List.Pairwise renaming imp_of_mem->d9,nil->OW
open List.Perm renaming append_left->Hk,append_right->N7,of_eq->S6
open Nat renaming add_le_add_left->KC,add_zero->Rs,le_of_eq->Rr,le_of_lt->IY,le_of_not_lt->Mm,le_refl->AO,le_succ->Nv,le_trans->Ao,lt_irrefl->DD,lt_of_le_of_lt->BV,lt_of_lt_of_le->Ab,lt_succ_of_lt->Hf,lt_succ_self->CO,lt_trans->d7,lt_trichotomy->YH,min_le_right->Ml,ne_of_gt->L5,ne_of_lt->Am,not_lt->Kz,not_lt_zero->JF,sub_self->L3,succ_ne_self->YT,zero_add->E7,zero_le->Cp
open Nat.succ renaming inj->J5
open Ne renaming symm->Bm
open Option renaming bind_eq_some_iff->O8,bind_some->AJ,getD_none->Ve,getD_some->Vd,isSome_map->Kt,map->di,map_some->Vo
open Option.some renaming inj->Bc
open Or renaming inl->Nu,inr->Ld
open Prod renaming ext->JZ
open PyProof.Rows renaming AllBare->Go,IntsAre->Dh,IsTup->dm,Keyed->Ag,SortKind->EF,SortSt->BA,Subscript_->az,arrOf->AQ,boot_isinstance->gY,boot_max->gX,boot_min->Mj,boot_range->ay,boot_sorted->gW,boot_tuple->L1,bubble->ax,callWith_builtin1->gR,callWith_type1->B1,elem'_eq->YQ,envOfC->Jm,failedOf->Gq,firstOfTuple'->UL,general'->Rh,listUpdate_at->UK,ltAt'->dc,mirror->Hi,mirror_perm->QC,pairsOf->IT,pendingOf->AR,reverseSlice'->MP,reverseSlice'_eq->JQ,seqEpoch_at->YO,seqObj->G8,slot_tuple_getitem->EN,sortedHeap->av,subscriptTail->UI,subscriptTail_builtinR->Vl,tuples'->dZ,wpS_bind->AL,wpS_forRange->Bi,wpS_get->FW,wpS_modify->Cn,wpS_mono->Ca,wpS_pure->AM
open PyProof.Rows.IsTup renaming new->Vt
open PyProof.Rows.SortSt renaming mk'->FF
open PySem renaming Addr->AH,Around->Aw,BindsTo->Rf,CmpOp->Rv,DictEntry->Lh,FuncData->C6,GenState->K0,Heap->BW,IsEnum->PB,IsPart->O9,IsRange->dn,ItemsOf->dk,Keyword->Jo,Model->Rt,NameKind->N6,Paired->E6,PassesOwn->Lc,Program->Ah,Result->Vn,Scope->Gs,Shared->AD,Stmt->Cw,Value->AB,Within->QM,World->A1,again->Vb,argBest->HR,assign->Rj,assignEach->E5,atKey->Ri,attributeBase->Ex,backTo->C4,backToKw->YR,behindInMarks->CW,binaryOp->Cv,bindC->Va,bindL->VZ,bootBuiltins->FX,boot_len->YS,builtinsNs->aw,cLine->D6,call->UM,callerA->N3,cellsFrom->dy,codeAny->HQ,codeAny_builtin->QJ,codeAny_mono->N2,compareOp->Bb,concat_meets->Vm,eval->Bx,firstArgMember->Kx,foldedSetIterable->D5,getItem->Lb,holding->de,isTrue->Rg,keywordEach->QD,letOwnedTupleGo->J4,mainGlobals->An,mem_of_lookup->DK,model->AT,noFill_tuple_add->O5,noteFrame->VY,pyNext->O4,rawInt->DW,relabel->HP,seq_tuple_add->UJ,setField->YN,sizeLine_eq->Kw,sliceBounds->Gp,slot_list_getitem->db,standAt->da,starEach->AU,subscripted->QB,swapsWith->EX,sysModules->C3,truthy->au,tupleKind->O3,tupleKind_room_in1->Hh,valueAt->N1,wpAny->Ad,wpAny_Call_Name_kw->E4,wpAny_Call_method_late->Vk,wpAny_Dict_empty->dw,wpAny_Name->aq,wpAny_assign_Name->dY,wpAny_attempt->MN,wpAny_bind->AC,wpAny_callSpecial?_slot->Cm,wpAny_call_entry->C0,wpAny_comprehension_free->UH,wpAny_dictEntries->N0,wpAny_dictEpoch->QI,wpAny_eqBool_int->dv,wpAny_execs_cons->du,wpAny_execs_nil->J3,wpAny_field->Cb,wpAny_fieldsOf->Kv,wpAny_holding->MM,wpAny_isInstance->dr,wpAny_isOneOf_keyiter->J8,wpAny_isTrue_Compare1->YE,wpAny_loadPart'->G7,wpAny_mono->E3,wpAny_newObj_type->BU,wpAny_of_eq->YM,wpAny_passesOwn->Dq,wpAny_pure->AN,wpAny_pyIter_enum->IS,wpAny_pyIter_list->dX,wpAny_pyIter_tuple->E2,wpAny_rule->ap,wpAny_setField->EE,wpAny_truthy_bool->Ck,wpAny_typeNameOfWhole_keyiter->Dc,wpAny_typeNameOf_keyiter->Ew,wpAny_typeOf->Vj
open PySem.Around renaming under->QH,under_plainId->JJ
open PySem.Builtin.Dict renaming dictSlotNone->gc,showsAll->Mo
open PySem.Builtin.Dict_items renaming ownsTuple->IW
open PySem.Builtin.List renaming listExtendWith->gb,listItems->Gx
open PySem.Builtin.Range renaming rangeSize->CI,small->E1
open PySem.Builtin.Slice renaming sliceAdjust->FZ,sliceApplied->KD,sliceFields->eG,slicePartIndex->eE,slicePlaces->Da
open PySem.Builtin.SmallTypes renaming nextOf->DN
open PySem.Builtin.Tuple renaming tupleExact->CD,tupleItemsOf->eD
open PySem.Calls renaming Name_function_global->N8,callWith_builtin->QP,evalArgs_plain->JS,spliced_cons->US,spliced_nil->K5
open PySem.Challenge renaming pw_guardround_k05_whole_webs_within->bA,rw_guardround_k05_whole_webs_within->Ez
open PySem.CmpOf renaming ints_lt->aS
open PySem.Code renaming frames->eC,isFrame->Re
open PySem.Data renaming cell->YK,fields->S9
open PySem.EntryCells renaming newEntry->PF
open PySem.F renaming args_dict_keyiterator_next_1->JR,args_object_init_2->Vu,args_tuple_add_2->HA,args_tuple_iterator_next_1->PD,called_tuple->QO,entry_dict_keyiterator_next->JY,entry_tuple_add->HS,entry_tuple_iterator_next->QG,plain_list_iadd->aR,plain_tuple_new->aQ,slot_dict_iter->O7,slot_dict_keyiterator_next->B4,slot_enumerate_next->Vi,slot_tuple_add->Hj,slot_tuple_index->N5,slot_tuple_iterator_next->D8
open PySem.Heap renaming ExtBut->S8,SameBut->DT,get?_none_of_le->S7,get?_push_of_some->AI,get?_push_size->AX,get?_update_ne->UR,get?_update_other->DS,get?_update_self->Dd,lt_size->AW,size_push->E0
open PySem.Heap.IsSliceOf renaming new->dq
open PySem.Heap.SameBut renaming refl->gZ,update->E8
open PySem.IsRange renaming new->aP
open PySem.NameKind renaming free->Gv
open PySem.Obj renaming cls_mapFields->He,data_mapFields->Bq,isFreed_of_fields->Df,mapFields->CQ,mapSeq->HB
open PySem.Paired renaming length->DA,snoc->Ra
open PySem.SeqAt.RcAt renaming tuples->dz
open PySem.Str renaming empty->RX,ofString->Gr
open PySem.Value renaming bool->N4,bytes->dh,float->Ro,int->Lx,isInt->dg,isStrOf->aL,none->BL,ref->Ax,str->Lw,type->EY
open PySem.W renaming Frag->AA,callWith_K->Rq,cellsFrom_some->O6,clsIn->YG,codeIn->Mi,emptyDict->CA,excIn->YF,findIn->By,fnOf->Fj,handedIn->UN,hasDictIn->KB,hideAll->IE,hideAll_get->RZ,hideAll_none->IX,instObj->Cz,kdu_collect->RY,keepIn->Ec,kia_one->B0,kitOne->Mh,kitx_dict->Sx,kitx_list->Sw,lookIn->Mg,makesIn->Vc,methodObj->KA,mg_none_of->GP,mg_of->GF,mroIn->G9,nsOkIn->Mf,of_hideAll->Jn,plainGet->Ky,plainOver->Sv,specialIn->J9,tail_of_in->Rp,takerIn->L0,takesIn->Lz
open PySem.W.Looks renaming here->d6
open PySem.W.WData renaming int->gN
open PySem.W.WShape renaming has->df
open PySem.Within renaming cons->gP
open Std.Legacy.Range renaming forIn_eq_forIn_range'->aN,size->aM
open Sum renaming inl->B9,inr->Ly
open Sum.inl renaming inj->QK
open True renaming intro->CZ
namespace L2
open PySem PySem.Spec PyProof.Rows
abbrev Key:=Sum Int Str
def Om:Key->AB->Bool
 | .inl k,v=>dg k v
 | .inr x,v=>aL x v
def keyH (w:A1):Key->Int
 | .inl k=>hashInt k
 | .inr x=>hashStr w x
theorem Ch:∀ {k:Key} {v:AB},Om k v=true->(∃i t,k=B9 i/\v=Lx i t)∨(∃x t,k=Ly x/\v=Lw x t)
 | .inl i,v,h=>by
  obtain ⟨t,e⟩:=AB.isInt_shape (k:=i) (v:=v) h;exact .inl ⟨i,t,rfl,e⟩
 | .inr x,v,h=>by
  obtain ⟨t,e⟩:=AB.isStrOf_shape (x:=x) (v:=v) h;exact .inr ⟨x,t,rfl,e⟩
theorem Ux (i:Int) (t:Tok):Om (.inl i) (.int i t)=true:=by simp [Om,dg]
theorem Uw (x:Str) (t:Tok):Om (.inr x) (.str x t)=true:=by simp [Om,aL]
theorem cn (a b:Int):decide ((B9 a:Key)=B9 b)=(a==b):=by
 by_cases e:a=b
 ·subst e;simp
 ·have h:¬(B9 a:Key)=B9 b:=λq=>e (QK q)
  rw [wY h];exact (beq_eq_false_iff_ne.mpr e).symm
theorem cj (a b:Str):decide ((Ly a:Key)=Ly b)=decide (a=b):=by
 by_cases e:a=b
 ·subst e;simp
 ·have h:¬(Ly a:Key)=Ly b:=λq=>e (Ly.inj q)
  rw [wY h,wY e]
theorem cm (a:Int) (b:Str):decide ((B9 a:Key)=Ly b)=false:=wY (λq=>nomatch q)
theorem ck (a:Str) (b:Int):decide ((Ly a:Key)=B9 b)=false:=wY (λq=>nomatch q)
def C1 (prog:Ah) (w:A1):PySem.KeyKind prog w Key where
 is:=Om
 hash:=keyH w
 inj:=λv a b ha hb=>by
  rcases Ch ha with ⟨i,t,rfl,rfl⟩ | ⟨x,t,rfl,rfl⟩
  ·rcases Ch hb with ⟨j,u,rfl,e⟩ | ⟨y,u,rfl,e⟩
   ·injection e with e1 _;rw [e1]
   ·exact nomatch e
  ·rcases Ch hb with ⟨j,u,rfl,e⟩ | ⟨y,u,rfl,e⟩
   ·exact nomatch e
   ·injection e with e1 _;rw [e1]
 byValue:=λk v h=>by
  rcases Ch h with ⟨i,t,rfl,rfl⟩ | ⟨x,t,rfl,rfl⟩ <;> rfl
 pyHash:=λhv h=>by
  rcases Ch hv with ⟨i,t,rfl,rfl⟩ | ⟨x,t,rfl,rfl⟩
  ·exact wpAny_pyHash_int h
  ·exact wpAny_pyHash_str h
 eqBool:=λhu hv h=>by
  rcases Ch hu with ⟨i,t,rfl,rfl⟩ | ⟨x,t,rfl,rfl⟩
  ·rcases Ch hv with ⟨j,u,rfl,rfl⟩ | ⟨y,u,rfl,rfl⟩
   ·rw [cn] at h;exact dv h
   ·rw [cm] at h;exact SeqAt.EqAt.int_str i t y u _ _ _ _ h
  ·rcases Ch hv with ⟨j,u,rfl,rfl⟩ | ⟨y,u,rfl,rfl⟩
   ·rw [ck] at h;exact SeqAt.EqAt.str_int x t j u _ _ _ _ h
   ·rw [cj] at h;exact wpAny_eqBool_str h
 «strs»:=λk x t v h=>by
  rcases Ch h with ⟨i,u,rfl,e⟩ | ⟨y,u,rfl,e⟩
  ·exact nomatch e
  ·injection e with e1 _
   subst e1
   cases v <;> rfl
theorem Q0 (prog:Ah) (w:A1) (i:Int) (t:Tok):(C1 prog w).is (.inl i) (.int i t)=true:=Ux i t
theorem Qz (prog:Ah) (w:A1) (x:Str) (t:Tok):(C1 prog w).is (.inr x) (.str x t)=true:=Uw x t
inductive V where
 | non | bl (b:Bool) | int (i:Int) | str (x:Str) | byt (b:Array UInt8) | flt (b:UInt64) | ref (a:AH) | ty (n:String)
 deriving DecidableEq
def RelV:V->AB->Prop
 | .non,u=>u=BL
 | .bl b,u=>u=N4 b
 | .int i,u=>∃t,u=Lx i t
 | .str x,u=>∃t,u=Lw x t
 | .byt b,u=>∃t,u=dh b t
 | .flt b,u=>∃t,u=Ro b t
 | .ref a,u=>u=Ax a
 | .ty n,u=>u=EY n
abbrev Bh:List V->List AB->Prop:=E6 RelV
theorem Bh.length {xs:List V} {us:List AB} (r:Bh xs us):xs.length=us.length:=DA r
theorem Bh.get:∀ {xs:List V} {us:List AB} {i:Nat} {x:V},Bh xs us->xs[i]?=some x->∃u,us[i]?=some u/\RelV x u
 | _,_,_,_,.nil,e=>by simp at e
 | _,_,0,_,.cons r _,e=>by simp at e;subst e;exact ⟨_,rfl,r⟩
 | _,_,i+1,x,.cons _ t,e=>by
  obtain ⟨u,h1,h2⟩:=Bh.get (i:=i) (x:=x) t (by simpa using e);exact ⟨u,by simpa using h1,h2⟩
theorem Bh.append:∀ {xs ys:List V} {us ws:List AB},Bh xs us->Bh ys ws->Bh (xs++ys) (us++ws)
 | _,_,_,_,.nil,s=>s
 | _,_,_,_,.cons r t,s=>.cons r (Bh.append t s)
theorem Bh.take:∀ {xs:List V} {us:List AB} (n:Nat),Bh xs us->Bh (xs.take n) (us.take n)
 | _,_,0,_=>.nil
 | _,_,_+1,.nil=>.nil
 | _,_,n+1,.cons r t=>.cons r (Bh.take n t)
theorem Bh.drop:∀ {xs:List V} {us:List AB} (n:Nat),Bh xs us->Bh (xs.drop n) (us.drop n)
 | _,_,0,r=>r
 | _,_,_+1,.nil=>.nil
 | _,_,n+1,.cons _ t=>Bh.drop n t
def La:Option V->Option AB->Prop
 | some v,some u=>RelV v u
 | none,none=>True
 | _,_=>False
def KV {κ:Type}:List (κ×V)->List (κ×AB)->Prop:=E6 λ(p:κ×V) (q:κ×AB)=>p.1=q.1/\RelV p.2 q.2
def kV:Key->V
 | .inl i=>.int i
 | .inr x=>.str x
inductive HO where
 | lst (xs:List V)
 | tup (xs:List V)
 | dK (kvs:List (Key×V)) | dT (kvs:List (List Key×V))
 | set (S:Int->Bool) (n:Nat)
 | ins (C dx:AH) (fs:List (Str×V))
 | own (x:AH)
 | xd (fs:List (Str×V))
 | met (f x:AH)
 | rng (lo hi:Int)
 | frz (o:Obj) (u:HO)
 | tbl (ps:Array AB)
 | ext (φ:BW->Prop)
abbrev Hp:=AH->Option HO
def upd (H:Hp) (a:AH) (o:HO):Hp:=λb=>if b=a then some o else H b
theorem Bg {H:Hp} {a:AH} {o:HO}:upd H a o a=some o:=by unfold upd;rw [qX rfl]
theorem BZ {H:Hp} {a b:AH} {o:HO} (h:b≠a):upd H a o b=H b:=by unfold upd;rw [qY h]
theorem fX {H:Hp} {a b:AH} {o u:HO} (h:H a=some o) (h':H b=some u) (d:o≠u):a≠b:=by
 intro e;subst e;rw [h] at h';exact d (Bc h')
theorem Bu {H:Hp} {a b:AH} {o:HO} (h:H a=some o) (h':H b=none):a≠b:=by
 intro e;subst e;rw [h] at h';cases h'
section
variable (P:Ah) (w:A1)
def CJ (H:Hp) (h:BW) (a:AH):HO->Prop
 | .lst xs=>xs.length<=sizeLine/\∃(its:List AB) (n:Nat),Bh xs its/\h.get? a=some { cls:=.type "list",data:=.seq its.toArray n }
 | .tup xs=>(xs.length<=sizeLine/\∃o,h.get? a=some o/\o.dict=none)/\∃its:List AB,Bh xs its/\dm h a its.toArray
 | .dK kvs=>kvs.length<=sizeLine/\(a==C3)=false/\∃vs,KV kvs vs/\h.DictOf (C1 P w) a vs
 | .dT kvs=>kvs.length<=sizeLine/\(a==C3)=false/\∃xs:List (List Key×AH×AB),
   E6 (λ(p:List Key×V) (q:List Key×AH×AB)=>p.1=q.1/\H q.2.1=some (.tup (p.1.map kV))/\RelV p.2 q.2.2) kvs xs /\
   ∃o es ep,h.get? a=some o/\o.ExactDict/\o.data=.dict es ep/\es.toList=xs.map (entryOfKey (O3 (C1 P w)))/\(xs.map (·.1)).Nodup
 | .set S n=>h.SetOf (intKind P w) a S n
 | .ins C dx fs=>H dx=some (.own a)/\fs.length<=1000/\dx≠a/\h.get? a=some (Cz C dx) /\
   ∃mA,h.Ns1 dx mA/\(∀f,La (fs.lookup f) (mA f))/\QM mA (fs.map (·.1))
 | .own _=>∃o,h.get? a=some o
 | .xd fs=>∃mA,h.Ns1 a mA/\∀f,La (fs.lookup f) (mA f)
 | .rng lo hi=>∃t u v,h.get? a=some { cls:=.type "range",data:=.fields #[.int lo t,.int hi u,.int 1 v] }
 | .frz o u=>h.get? a=some o/\CJ H h a u
 | .tbl ps=>h.get? a=some { cls:=.none,data:=.fields ps }
 | .met f x=>h.get? a=some (KA (.ref f) (.ref x))
 | .ext φ=>φ h/\(∃o,h.get? a=some o)/\∀h1 h2:BW,φ h1->(∀o,h1.get? a=some o->h2.get? a=some o)->φ h2
def HOk (H:Hp) (h:BW):Prop:=∀a o,H a=some o->CJ P w H h a o
end
section
variable {P:Ah} {w:A1} {H H':Hp} {h h':BW} {a:AH} {o:HO}
theorem CJ.lt (x:CJ P w H h a o):a < h.objs.size:=by
 cases o with
 | lst xs=>obtain ⟨_,_,_,_,e⟩:=x;exact AW e
 | tup xs=>obtain ⟨_,_,_,p⟩:=x;exact p.lt
 | dK kvs=>obtain ⟨_,_,_,_,o,_,_,e,_⟩:=x;exact AW e
 | dT kvs=>obtain ⟨_,_,_,_,o,_,_,e,_⟩:=x;exact AW e
 | set S n=>obtain ⟨o,_,_,_,e,_⟩:=x;exact AW e
 | ins C dx fs=>obtain ⟨_,_,_,e,_⟩:=x;exact AW e
 | own y=>obtain ⟨_,e⟩:=x;exact AW e
 | xd fs=>obtain ⟨_,⟨_,_,_,e,_⟩,_⟩:=x;exact AW e
 | rng lo hi=>obtain ⟨_,_,_,e⟩:=x;exact AW e
 | frz ob u=>obtain ⟨e,_⟩:=x;exact AW e
 | tbl ps=>exact AW (show h.get? a=some _ from x)
 | met f y=>exact AW (show h.get? a=some _ from x)
 | ext φ=>obtain ⟨_,⟨_,e⟩,_⟩:=x;exact AW e
theorem E6.mapP {α β:Type} {F G:α->β->Prop}:∀ {l₁:List α} {l₂:List β},E6 F l₁ l₂->(∀a b,F a b->G a b)->E6 G l₁ l₂
 | _,_,.nil,_=>.nil
 | _,_,.cons r t,f=>.cons (f _ _ r) (E6.mapP t f)
theorem CJ.stay (x:CJ P w H h a o) (k:∀b u,(b=a∨H b=some (.own a))->h.get? b=some u->h'.get? b=some u)
  (ho:∀b,H b=some (.own a)->H' b=some (.own a)) (ht:∀b xs,H b=some (.tup xs)->H' b=some (.tup xs)):CJ P w H' h' a o:=by
 induction o with
 | lst xs=>obtain ⟨z,its,n,r,e⟩:=x;exact ⟨z,its,n,r,k _ _ (.inl rfl) e⟩
 | tup xs=>obtain ⟨⟨z,o2,e2,c2⟩,its,r,ob,e,c⟩:=x;exact ⟨⟨z,o2,k _ _ (.inl rfl) e2,c2⟩,its,r,ob,k _ _ (.inl rfl) e,c⟩
 | dK kvs=>obtain ⟨z,y,vs,r,ob,es,ep,e,c⟩:=x;exact ⟨z,y,vs,r,ob,es,ep,k _ _ (.inl rfl) e,c⟩
 | dT kvs=>
  obtain ⟨z,y,xs,r,ob,es,ep,e,c⟩:=x;exact ⟨z,y,xs,E6.mapP r λp q z=>⟨z.1,ht _ _ z.2.1,z.2.2⟩,ob,es,ep,k _ _ (.inl rfl) e,c⟩
 | set S n=>obtain ⟨ob,es,ep,t,e,c⟩:=x;exact ⟨ob,es,ep,t,k _ _ (.inl rfl) e,c⟩
 | ins C dx fs=>
  obtain ⟨d,z,ne,e,mA,⟨od,es,ep,e2,c⟩,r⟩:=x;exact ⟨ho _ d,z,ne,k _ _ (.inl rfl) e,mA,⟨od,es,ep,k _ _ (.inr d) e2,c⟩,r⟩
 | own y=>obtain ⟨ob,e⟩:=x;exact ⟨ob,k _ _ (.inl rfl) e⟩
 | xd fs=>obtain ⟨mA,⟨od,es,ep,e,c⟩,r⟩:=x;exact ⟨mA,⟨od,es,ep,k _ _ (.inl rfl) e,c⟩,r⟩
 | rng lo hi=>obtain ⟨t,u,v,e⟩:=x;exact ⟨t,u,v,k _ _ (.inl rfl) e⟩
 | frz ob u ih=>obtain ⟨e,q⟩:=x;exact ⟨k _ _ (.inl rfl) e,ih q⟩
 | tbl ps=>
  have e:h.get? a=some { cls:=.none,data:=.fields ps }:=x;show h'.get? a=some { cls:=.none,data:=.fields ps };exact k a _ (.inl rfl) e
 | met f y=>
  have e:h.get? a=some (KA (.ref f) (.ref y)):=x;show h'.get? a=some (KA (.ref f) (.ref y));exact k a _ (.inl rfl) e
 | ext φ=>obtain ⟨p,⟨o,e⟩,st⟩:=x;exact ⟨st _ _ p λo q=>k _ _ (.inl rfl) q,⟨o,k _ _ (.inl rfl) e⟩,st⟩
theorem HOk.lt (x:HOk P w H h) (e:H a=some o):a < h.objs.size:=(x a o e).lt
theorem HOk.fresh (x:HOk P w H h) (e:h.objs.size<=a):H a=none:=by
 cases q:H a with
 | none=>rfl
 | some u=>exact zX (Ab (x.lt q) e) (DD _)
theorem HOk.kept (x:HOk P w H h) (k:∀b u,h.get? b=some u->h'.get? b=some u):HOk P w H h':=λa o e=>
 (x a o e).stay (λb u _ q=>k b u q) (λ_ q=>q) λ_ _ q=>q
theorem HOk.laid (x:HOk P w H h) (k:∀b u,h.get? b=some u->h'.get? b=some u) (hp:h.objs.size<=a) (new:CJ P w (upd H a o) h' a o):HOk P w (upd H a o) h':=λb u e=>by
 have hn:=x.fresh hp
 by_cases hb:b=a
 ·subst hb;rw [Bg] at e;cases e;exact new
 ·rw [BZ hb] at e
  exact (x b u e).stay (λc v _ q=>k c v q) (λc q=>by rw [BZ (Bu q hn)];exact q) λc xs q=>by rw [BZ (Bu q hn)];exact q
end
def Rd (H:Hp) (a:AH) (u:HO):Prop:=H a=some u∨∃o,H a=some (.frz o u)
theorem Rd.ok {P:Ah} {w:A1} {H:Hp} {h:BW} {a:AH} {u:HO} (r:Rd H a u) (x:HOk P w H h):CJ P w H h a u:=by
 rcases r with r | ⟨o,r⟩
 ·exact x a u r
 ·obtain ⟨_,q⟩:=x a _ r
  exact q
def Mut:Option HO->Prop
 | some (.lst _)=>True
 | some (.dK _)=>True
 | some (.dT _)=>True
 | some (.set _ _)=>True
 | some (.ins _ _ _)=>True
 | some (.ext _)=>True
 | _=>False
section
variable {P:Ah} {w:A1} {H:Hp} {h h':BW} {x e:AH} {o':HO}
theorem HOk.write (ok:HOk P w H h) (mu:Mut (H x)) (he:e=x∨H e=some (.own x)) (k:∀b u,b≠e->h.get? b=some u->h'.get? b=some u) (heo:∃u,h'.get? e=some u)
  (new:CJ P w (upd H x o') h' x o'):HOk P w (upd H x o') h':=λb u q=>by
 have nown:∀c y,H c=some (.own y)->c≠x:=λc y r z=>by subst z;rw [r] at mu;exact mu
 have ntup:∀c xs,H c=some (.tup xs)->c≠x:=λc xs r z=>by subst z;rw [r] at mu;exact mu
 by_cases hb:b=x
 ·subst hb;rw [Bg] at q;cases q;exact new
 ·rw [BZ hb] at q
  by_cases hbe:b=e
  ·have q':H b=some (.own x):=by
    rcases he with z | z
    ·exact zX (hbe.trans z) hb
    ·rw [hbe];exact z
   rw [q] at q';cases q';obtain ⟨v,hv⟩:=heo;exact ⟨v,by rw [hbe];exact hv⟩
  ·refine (ok b u q).stay (λc v hc r=>k c v ?_ r) (λc r=>by rw [BZ (nown c b r)];exact r) λc xs r=>by rw [BZ (ntup c xs r)];exact r
   rcases hc with rfl | hc
   ·exact hbe
   ·rintro rfl
    rcases he with z | z
    ·exact nown c b hc z
    ·rw [hc] at z;cases z;exact hb rfl
end
structure Un (fs ex:List AH) (H H':Hp) (h h':BW):Prop where
 keep:∀b o,h.get? b=some o->H b=none->b∉fs->b∉ex->h'.get? b=some o
 slot:∀b o,h.get? b=some o->H b=none->b∈fs->b∉ex->∃sl,h'.get? b=some { o with slots:=sl }
 free:∀b o,h.get? b=some o->H b=none->b∉ex->H' b=none
 there:∀b o,h.get? b=some o->b∉ex->∃o',h'.get? b=some o'
 tups:∀b xs,H b=some (.tup xs)->H' b=some (.tup xs)
 frzs:∀b o u,H b=some (.frz o u)->H' b=some (.frz o u)
 tbls:∀b ps,H b=some (.tbl ps)->∃more,H' b=some (.tbl (ps++more))
section
variable {fs fs' ex ex':List AH} {H H1 H2:Hp} {h h1 h2 h':BW} {a x e:AH} {o:HO}
theorem Un.any (u:Un fs ex H H1 h h1) {b:AH} {ob:Obj} (q:h.get? b=some ob) (n:H b=none) (hx:b∉ex):∃sl,h1.get? b=some { ob with slots:=sl }:=by
 by_cases hb:b∈fs
 ·exact u.slot b ob q n hb hx
 ·exact ⟨ob.slots,u.keep b ob q n hb hx⟩
theorem Un.kept (k:∀b u,h.get? b=some u->h'.get? b=some u):Un fs ex H H h h':=
 ⟨λb ob q _ _ _=>k b ob q,λb ob q _ _ _=>⟨ob.slots,k b ob q⟩,λ_ _ _ n _=>n,λb ob q _=>⟨ob,k b ob q⟩,λ_ _ q=>q,λ_ _ _ q=>q,λ_ ps q=>⟨#[],by rw [q];simp⟩⟩
theorem Un.refl:Un fs ex H H h h:=Un.kept λ_ _ q=>q
theorem Un.laid (k:∀b u,h.get? b=some u->h'.get? b=some u) (hp:h.objs.size<=a) (hn:H a=none):Un fs ex H (upd H a o) h h' where
 keep:=λb u q _ _ _=>k b u q
 slot:=λb u q _ _ _=>⟨u.slots,k b u q⟩
 free:=λb u q n _=>by rw [BZ (Am (Ab (AW q) hp))];exact n
 there:=λb u q _=>⟨u,k b u q⟩
 tups:=λb xs q=>by rw [BZ (Bu q hn)];exact q
 frzs:=λb u xs q=>by rw [BZ (Bu q hn)];exact q
 tbls:=λb ps q=>⟨#[],by rw [BZ (Bu q hn),q];simp⟩
theorem Un.write (mu:Mut (H x)) (he:e=x∨H e=some (.own x)) (k:∀b u,b≠e->h.get? b=some u->h'.get? b=some u) (heo:∃u,h'.get? e=some u):Un fs ex H (upd H x o) h h':=by
 have hx:∀b,H b=none->b≠x:=λb n z=>by subst z;rw [n] at mu;exact mu
 have hb:∀b,H b=none->b≠e:=λb n z=>by
  subst z
  rcases he with r | r
  ·exact hx b n r
  ·rw [n] at r;cases r
 have hm:∀b u,H b=some u->¬Mut (some u)->b≠x:=λb u q nm z=>by subst z;rw [q] at mu;exact nm mu
 refine ⟨λb u q n _ _=>k b u (hb b n) q,λb u q n _ _=>⟨u.slots,k b u (hb b n) q⟩,λb u q n _=>by rw [BZ (hx b n)];exact n,λb u q _=>?_,
  λb xs q=>by rw [BZ (hm b _ q λz=>z)];exact q,λb u xs q=>by rw [BZ (hm b _ q λz=>z)];exact q,λb ps q=>⟨#[],by rw [BZ (hm b _ q λz=>z),q];simp⟩⟩
 by_cases hbe:b=e
 ·subst hbe;exact heo
 ·exact ⟨u,k b u hbe q⟩
end
def trk (h:BW) (H:Hp):List AH:=(Bo h.objs.size).filter λa=>(H a).isSome
def Po (h:BW) (H:Hp):BW:=IE h (trk h H)
theorem U3 (h:BW) (H:Hp):(Po h H).objs.size=h.objs.size:=PySem.W.hideAll_size _ _
theorem Xd {h:BW} {H:Hp} {b:AH} {o:Obj} (e:h.get? b=some o) (n:H b=none):(Po h H).get? b=some o:=
 RZ _ e λhm=>by
  have q:(H b).isSome=true:=(B5.mp hm).2;rw [n] at q;simp at q
theorem Ze {h:BW} {H:Hp} {b:AH} {o:Obj} (e:(Po h H).get? b=some o):h.get? b=some o/\H b=none:=by
 have e':h.get? b=some o:=Jn (trk h H) e;refine ⟨e',?_⟩
 cases q:H b with
 | none=>rfl
 | some x=>
  have hm:b∈trk h H:=B5.mpr ⟨Jb.mpr (AW e'),by simp [q]⟩;have z:(Po h H).get? b=none:=IX (trk h H) hm;rw [z] at e;cases e
structure Mod (K:AA) (mg:Str->Option AB) (base:BW):Prop where
 kin:K.In base
 glob:base.Ns An mg
 blt:∃mb,base.Ns aw mb/\∀x:Str,x≠"__name__"->mb x=FX x
 nolimit:base.NoLimit
structure Cx where
 prog:Ah
 w:A1
 K:AA
 mg:Str->Option AB
 base:BW
 A:Aw
 N:List Str
 s₀:AD
 H₀:Hp
 env:Env
 outer:List Env
 stack:List Env
 ex:List AH
 fn:Str->Bool
 calm:Bool
 pn:List (AH×Obj)
 xe:AB->AD->Prop
def frs (l:List Env):List AH:=l.filterMap (·.frame)
abbrev Cx.fs (X:Cx):List AH:=frs X.outer
def Vis (sc:Gs) (x:Str):Prop:=sc.names.lookup x=some .local∨sc.names.lookup x=some .cell∨sc.names.lookup x=some .free
def Loc (sc:Gs) (x:Str):Prop:=sc.names.lookup x=some .local∨sc.names.lookup x=some .cell
def Look (env:Env) (h:BW) (m:Str->Option AB) (x:Str) (u:AB):Prop:=
 (env.kindOf x=some .local/\m x=some u)∨((env.kindOf x=some .cell∨env.kindOf x=some .free)/\∃c,env.cells.lookup x=some c/\h.IsCell c (some u))
structure Cx.Ok (X:Cx):Prop where
 mod:Mod X.K X.mg X.base
 kind:X.env.scope.kind=.function
 glob:X.env.globals=An
 blt:X.env.builtins=aw
 above:X.s₀.heap.objs.size<=X.env.locals
 inj:∀x y c,X.env.cells.lookup x=some c->X.env.cells.lookup y=some c->x=y
 has:∀x,(X.env.kindOf x=some .cell∨X.env.kindOf x=some .free)->∃c,X.env.cells.lookup x=some c
 cab:∀x c,X.fn x=true->X.env.cells.lookup x=some c->X.s₀.heap.objs.size<=c
 hd:X.calm=true->X.A.handled=none
 frames:X.A.frames=some X.stack
 stk:X.stack=X.outer∨(X.stack=X.env :: X.outer/\X.env.frame=some X.env.locals)
 exf:∀b∈X.ex,b≠X.env.locals/\∀x c,X.env.cells.lookup x=some c->c≠b
 bs:∀b o,X.base.get? b=some o->X.s₀.heap.get? b=some o/\X.H₀ b=none
 bsz:X.base.objs.size<=X.s₀.heap.objs.size
 noex:∀b o,X.base.get? b=some o->b∉X.ex
 exfs:∀b∈X.ex,b∉X.fs
 funs:X.s₀.heap.FunFrames X.base X.outer
 frf:∀b∈X.fs,X.H₀ b=none
structure Inv (X:Cx) (pins:List (AH×Obj)) (σ:List (Option V)) (H:Hp) (s:AD):Prop where
 ok:X.Ok
 os:s.os=X.s₀.os
 bare:Go s.gens
 base:Un X.fs X.ex X.H₀ H X.s₀.heap s.heap
 loc:∃m,s.heap.Ns X.env.locals m/\∀(i:Nat) (x:Str) (v:V),X.N[i]?=some x->σ[i]?=some (some v)->Vis X.env.scope x->∃u,RelV v u/\Look X.env s.heap m x u
 cell:∀x c,X.env.cells.lookup x=some c->∃v,s.heap.IsCell c v
 free:H X.env.locals=none
 freeC:∀x c,X.env.cells.lookup x=some c->H c=none
 pin:∀p∈X.pn++pins,s.heap.get? p.1=some p.2/\H p.1=none/\p.1≠X.env.locals/\p.1∉X.fs/\∀v,p.2.data≠.cell v
 hok:HOk X.prog X.w H s.heap
 len:σ.length=X.N.length
section
variable {X:Cx} {pins:List (AH×Obj)} {σ:List (Option V)} {H H':Hp} {s:AD} {h':BW}
theorem Cx.Ok.nofr (ok:X.Ok) {b:AH} {o:Obj} (e:X.base.get? b=some o):b∉X.fs:=λhb=>by
 have:=(ok.funs.mem hb).1;rw [e] at this;cases this
theorem Inv.bs (I:Inv X pins σ H s):∀b o,X.base.get? b=some o->s.heap.get? b=some o/\H b=none:=λb o e=>
 ⟨I.base.keep b o (I.ok.bs b o e).1 (I.ok.bs b o e).2 (I.ok.nofr e) (I.ok.noex b o e),I.base.free b o (I.ok.bs b o e).1 (I.ok.bs b o e).2 (I.ok.noex b o e)⟩
theorem Inv.bk (I:Inv X pins σ H s):∀b o,X.base.get? b=some o->s.heap.get? b=some o:=λb o e=>(I.bs b o e).1
theorem Inv.mod (I:Inv X pins σ H s):Mod X.K X.mg X.base:=I.ok.mod
theorem Inv.kIn (I:Inv X pins σ H s):X.K.In s.heap:=I.ok.mod.kin.keeps I.bk
theorem Inv.lt (I:Inv X pins σ H s):X.env.locals < s.heap.objs.size:=let ⟨_,hn,_⟩:=I.loc;hn.lt
theorem Inv.sz (I:Inv X pins σ H s):X.s₀.heap.objs.size<=s.heap.objs.size:=Ao I.ok.above (IY I.lt)
theorem Inv.nofs (I:Inv X pins σ H s) {a:AH} (h:s.heap.objs.size<=a):a∉X.fs:=λhb=>by
 obtain ⟨_,o,ho,_⟩:=I.ok.funs.mem hb;exact zX (Ab (AW ho) (Ao I.sz h)) (DD _)
theorem Inv.cne (I:Inv X pins σ H s):∀x c,X.env.cells.lookup x=some c->c≠X.env.locals:=λx c e z=>by
 obtain ⟨v,o,ho,hd⟩:=I.cell x c e;obtain ⟨m,⟨o',es,ep,ho',hd',_⟩,_⟩:=I.loc;rw [z,ho'] at ho;cases ho;rw [hd'] at hd;cases hd
theorem Inv.funs (I:Inv X pins σ H s):s.heap.FunFrames X.base X.outer:=by
 have all:∀(l:List Env),(∀b∈frs l,b∈X.fs)->X.s₀.heap.FunFrames X.base l->s.heap.FunFrames X.base l:=by
  intro l
  induction l with
  | nil=>intro _ _;trivial
  | cons env r ih=>
   intro hs hl;obtain ⟨hk,⟨L,o,hf,hn,ho,hd⟩,hr⟩:=hl;have hL:L∈X.fs:=hs L (by unfold frs;rw [J6,hf];exact Al)
   obtain ⟨sl,e⟩:=I.base.slot L o ho (I.ok.frf L hL) hL λz=>I.ok.exfs L z hL
   exact ⟨hk,⟨L,_,hf,hn,e,hd⟩,ih (λb hb=>hs b (by unfold frs;rw [J6,hf];exact Aa _ hb)) hr⟩
 exact all X.outer (λ_ hb=>hb) I.ok.funs
theorem Inv.stack (I:Inv X pins σ H s):s.heap.FunFrames X.base X.stack:=by
 rcases I.ok.stk with e | ⟨e,hf⟩
 ·rw [e];exact I.funs
 ·rw [e]
  obtain ⟨m,hn,_⟩:=I.loc;refine .cons (by rw [I.ok.kind];decide) hf hn ?_ I.funs;exact S7 (Ao I.ok.bsz I.ok.above)
theorem Inv.stkSub (I:Inv X pins σ H s):∀b∈frs X.stack,b∈X.env.locals :: X.fs:=λb hb=>by
 rcases I.ok.stk with e | ⟨e,hf⟩
 ·rw [e] at hb;exact Aa _ hb
 ·rw [e] at hb
  unfold frs at hb;rw [J6,hf] at hb;exact hb
theorem Inv.stkFree (I:Inv X pins σ H s):∀b∈frs X.stack,H b=none:=λb hb=>by
 rcases A6.mp (I.stkSub b hb) with e | hb
 ·rw [e];exact I.free
 ·obtain ⟨_,o,ho,_⟩:=I.ok.funs.mem hb
  exact I.base.free b o ho (I.ok.frf b hb) λz=>I.ok.exfs b z hb
theorem Inv.step {g':Array K0} {t':Nat} {d':Drawn} {ch:List AH} (I:Inv X pins σ H s)
  (hch:∀b∈ch,(b∈X.ex∨X.s₀.heap.objs.size<=b)/\b≠X.env.locals/\(∀x c,X.env.cells.lookup x=some c->c≠b)/\∀p∈X.pn++pins,p.1≠b)
  (keep:∀b o,b≠X.env.locals->b∉X.fs->b∉ch->s.heap.get? b=some o->H b=none->h'.get? b=some o)
  (slot:∀b o,b≠X.env.locals->b∈X.fs->b∉ch->s.heap.get? b=some o->H b=none->∃sl,h'.get? b=some { o with slots:=sl }) (free:∀b o,b∉ch->s.heap.get? b=some o->H b=none->H' b=none)
  (there:∀b o,b∉ch->s.heap.get? b=some o->∃o',h'.get? b=some o')
  (tups:∀b xs,H b=some (.tup xs)->H' b=some (.tup xs)) (frzs:∀b o u,H b=some (.frz o u)->H' b=some (.frz o u)) (tbls:∀b ps,H b=some (.tbl ps)->∃more,H' b=some (.tbl (ps++more)))
  (ns:∀m,s.heap.Ns X.env.locals m->h'.Ns X.env.locals m) (hok:HOk X.prog X.w H' h') (hg:Go g') :
  Inv X pins σ H' { s with heap:=h',gens:=g',drawn:=d',toks:=t' }:=by
 have neL:∀b o,X.s₀.heap.get? b=some o->b≠X.env.locals:=λb o e=>Am (Ab (AW e) I.ok.above)
 have neC:∀b o,X.s₀.heap.get? b=some o->b∉X.ex->b∉ch:=λb o e hx hb=>by
  rcases (hch b hb).1 with z | z
  ·exact hx z
  ·exact zX (Ab (AW e) z) (DD _)
 have cellK:∀x c,X.env.cells.lookup x=some c->∀v,s.heap.IsCell c v->h'.IsCell c v:=λx c e v ⟨o,ho,hd⟩=>by
  have nch:c∉ch:=λz=>(hch c z).2.2.1 x c e rfl
  by_cases hc:c∈X.fs
  ·obtain ⟨sl,q⟩:=slot c o (I.cne x c e) hc nch ho (I.freeC x c e)
   exact ⟨_,q,hd⟩
  ·exact ⟨o,keep c o (I.cne x c e) hc nch ho (I.freeC x c e),hd⟩
 refine ⟨I.ok,I.os,hg,⟨λb o e n hb hx=>?_,λb o e n hb hx=>?_,λb o e n hx=>?_,λb o e hx=>?_,λb xs e=>tups b xs (I.base.tups b xs e),λb o xs e=>frzs b o xs (I.base.frzs b o xs e),λb ps e=>?_⟩,?_,λx c e=>?_,?_,λx c e=>?_,λp hp=>?_,hok,I.len⟩
 ·exact keep b o (neL b o e) hb (neC b o e hx) (I.base.keep b o e n hb hx) (I.base.free b o e n hx)
 ·obtain ⟨sl,e1⟩:=I.base.slot b o e n hb hx
  obtain ⟨sl',e2⟩:=slot b _ (neL b o e) hb (neC b o e hx) e1 (I.base.free b o e n hx);exact ⟨sl',e2⟩
 ·obtain ⟨o',e1⟩:=I.base.there b o e hx
  exact free b o' (neC b o e hx) e1 (I.base.free b o e n hx)
 ·obtain ⟨o',e1⟩:=I.base.there b o e hx
  exact there b o' (neC b o e hx) e1
 ·obtain ⟨m1,e1⟩:=I.base.tbls b ps e
  obtain ⟨m2,e2⟩:=tbls b _ e1;exact ⟨m1++m2,by rw [e2,UT]⟩
 ·obtain ⟨m,hn,hl⟩:=I.loc
  refine ⟨m,ns m hn,λi x v e1 e2 e3=>?_⟩;obtain ⟨u,r,l⟩:=hl i x v e1 e2 e3;refine ⟨u,r,?_⟩
  rcases l with l | ⟨k,c,e,z⟩
  ·exact .inl l
  ·exact .inr ⟨k,c,e,cellK x c e _ z⟩
 ·obtain ⟨v,z⟩:=I.cell x c e
  exact ⟨v,cellK x c e v z⟩
 ·obtain ⟨m,⟨o,_,_,ho,_⟩,_⟩:=I.loc
  exact free _ o (λz=>(hch _ z).2.1 rfl) ho I.free
 ·obtain ⟨v,o,ho,hd⟩:=I.cell x c e
  exact free c o (λz=>(hch c z).2.2.1 x c e rfl) ho (I.freeC x c e)
 ·obtain ⟨e,n,ne,nf,d⟩:=I.pin p hp
  have nch:p.1∉ch:=λz=>(hch p.1 z).2.2.2 p hp rfl
  exact ⟨keep p.1 p.2 ne nf nch e n,free p.1 p.2 nch e n,ne,nf,d⟩
theorem Inv.stepN {g':Array K0} {t':Nat} {d':Drawn} {ch:List AH} (I:Inv X pins σ H s)
  (hch:∀b∈ch,(b∈X.ex∨X.s₀.heap.get? b=none)/\b≠X.env.locals/\(∀x c,X.env.cells.lookup x=some c->c≠b)/\∀p∈X.pn++pins,p.1≠b)
  (keep:∀b o,b≠X.env.locals->b∉X.fs->b∉ch->s.heap.get? b=some o->H b=none->h'.get? b=some o)
  (slot:∀b o,b≠X.env.locals->b∈X.fs->b∉ch->s.heap.get? b=some o->H b=none->∃sl,h'.get? b=some { o with slots:=sl }) (free:∀b o,b∉ch->s.heap.get? b=some o->H b=none->H' b=none)
  (there:∀b o,b∉ch->s.heap.get? b=some o->∃o',h'.get? b=some o')
  (tups:∀b xs,H b=some (.tup xs)->H' b=some (.tup xs)) (frzs:∀b o u,H b=some (.frz o u)->H' b=some (.frz o u)) (tbls:∀b ps,H b=some (.tbl ps)->∃more,H' b=some (.tbl (ps++more)))
  (ns:∀m,s.heap.Ns X.env.locals m->h'.Ns X.env.locals m) (hok:HOk X.prog X.w H' h') (hg:Go g') :
  Inv X pins σ H' { s with heap:=h',gens:=g',drawn:=d',toks:=t' }:=by
 have neL:∀b o,X.s₀.heap.get? b=some o->b≠X.env.locals:=λb o e=>Am (Ab (AW e) I.ok.above)
 have neC:∀b o,X.s₀.heap.get? b=some o->b∉X.ex->b∉ch:=λb o e hx hb=>by
  rcases (hch b hb).1 with z | z
  ·exact hx z
  ·rw [z] at e;cases e
 have cellK:∀x c,X.env.cells.lookup x=some c->∀v,s.heap.IsCell c v->h'.IsCell c v:=λx c e v ⟨o,ho,hd⟩=>by
  have nch:c∉ch:=λz=>(hch c z).2.2.1 x c e rfl
  by_cases hc:c∈X.fs
  ·obtain ⟨sl,q⟩:=slot c o (I.cne x c e) hc nch ho (I.freeC x c e)
   exact ⟨_,q,hd⟩
  ·exact ⟨o,keep c o (I.cne x c e) hc nch ho (I.freeC x c e),hd⟩
 refine ⟨I.ok,I.os,hg,⟨λb o e n hb hx=>?_,λb o e n hb hx=>?_,λb o e n hx=>?_,λb o e hx=>?_,λb xs e=>tups b xs (I.base.tups b xs e),λb o xs e=>frzs b o xs (I.base.frzs b o xs e),λb ps e=>?_⟩,?_,λx c e=>?_,?_,λx c e=>?_,λp hp=>?_,hok,I.len⟩
 ·exact keep b o (neL b o e) hb (neC b o e hx) (I.base.keep b o e n hb hx) (I.base.free b o e n hx)
 ·obtain ⟨sl,e1⟩:=I.base.slot b o e n hb hx
  obtain ⟨sl',e2⟩:=slot b _ (neL b o e) hb (neC b o e hx) e1 (I.base.free b o e n hx);exact ⟨sl',e2⟩
 ·obtain ⟨o',e1⟩:=I.base.there b o e hx
  exact free b o' (neC b o e hx) e1 (I.base.free b o e n hx)
 ·obtain ⟨o',e1⟩:=I.base.there b o e hx
  exact there b o' (neC b o e hx) e1
 ·obtain ⟨m1,e1⟩:=I.base.tbls b ps e
  obtain ⟨m2,e2⟩:=tbls b _ e1;exact ⟨m1++m2,by rw [e2,UT]⟩
 ·obtain ⟨m,hn,hl⟩:=I.loc
  refine ⟨m,ns m hn,λi x v e1 e2 e3=>?_⟩;obtain ⟨u,r,l⟩:=hl i x v e1 e2 e3;refine ⟨u,r,?_⟩
  rcases l with l | ⟨k,c,e,z⟩
  ·exact .inl l
  ·exact .inr ⟨k,c,e,cellK x c e _ z⟩
 ·obtain ⟨v,z⟩:=I.cell x c e
  exact ⟨v,cellK x c e v z⟩
 ·obtain ⟨m,⟨o,_,_,ho,_⟩,_⟩:=I.loc
  exact free _ o (λz=>(hch _ z).2.1 rfl) ho I.free
 ·obtain ⟨v,o,ho,hd⟩:=I.cell x c e
  exact free c o (λz=>(hch c z).2.2.1 x c e rfl) ho (I.freeC x c e)
 ·obtain ⟨e,n,ne,nf,d⟩:=I.pin p hp
  have nch:p.1∉ch:=λz=>(hch p.1 z).2.2.2 p hp rfl
  exact ⟨keep p.1 p.2 ne nf nch e n,free p.1 p.2 nch e n,ne,nf,d⟩
theorem Inv.un {t':Nat} (I:Inv X pins σ H s) (u:Un X.fs [] H H' s.heap h') (hok:HOk X.prog X.w H' h'):Inv X pins σ H' { s with heap:=h',toks:=t' }:=by
 obtain ⟨m,⟨o,es,ep,ho,r⟩,_⟩:=id I.loc;obtain ⟨sl,hL⟩:=u.any ho I.free (by simp)
 exact I.step (g':=s.gens) (d':=s.drawn) (ch:=[]) (λ_ z=>nomatch z) (λb o _ hb _ e n=>u.keep b o e n hb (by simp)) (λb o _ hb _ e n=>u.slot b o e n hb (by simp)) (λb o _ e n=>u.free b o e n (by simp)) (λb o _ e=>u.there b o e (by simp)) u.tups u.frzs u.tbls (λm' hm=>by
  obtain ⟨o',es',ep',ho',r'⟩:=hm;rw [ho] at ho';cases ho'
  exact ⟨_,es',ep',hL,r'⟩) hok I.bare
theorem Inv.call {g':Array K0} {t':Nat} {d':Drawn} {ch:List AH} (I:Inv X pins σ H s) (u:Un (frs X.stack) ch H H' s.heap h') (hok:HOk X.prog X.w H' h') (hg:Go g')
  (hch:∀b∈ch,(b∈X.ex∨X.s₀.heap.objs.size<=b)/\b≠X.env.locals/\(∀x c,X.env.cells.lookup x=some c->c≠b)/\∀p∈X.pn++pins,p.1≠b) :
  Inv X pins σ H' { s with heap:=h',gens:=g',drawn:=d',toks:=t' }:=by
 obtain ⟨m,⟨o,es,ep,ho,r⟩,_⟩:=id I.loc
 obtain ⟨sl,hL⟩:=u.any ho I.free λz=>(hch _ z).2.1 rfl
 exact I.step (ch:=ch) hch (λb o hL hb hc e n=>u.keep b o e n (λz=>(A6.mp (I.stkSub b z)).elim hL hb) hc) (λb o _ _ hc e n=>u.any e n hc) (λb o hc e n=>u.free b o e n hc) (λb o hc e=>u.there b o e hc) u.tups u.frzs u.tbls (λm' hm=>by
  obtain ⟨o',es',ep',ho',r'⟩:=hm;rw [ho] at ho';cases ho'
  exact ⟨_,es',ep',hL,r'⟩) hok hg
theorem Inv.turned {t':Nat} {it:AH} (I:Inv X pins σ H s) (k:∀b o,b≠it->s.heap.get? b=some o->h'.get? b=some o) (hn:H it=none) (hL:it≠X.env.locals)
  (h1:it∈X.ex∨X.s₀.heap.objs.size<=it) (h2:∀x c,X.env.cells.lookup x=some c->c≠it) (h3:∀p∈X.pn++pins,p.1≠it):Inv X pins σ H { s with heap:=h',toks:=t' }:=by
 have nit:∀b u,H b=some u->b≠it:=λb u e z=>by rw [z,hn] at e;cases e
 refine I.step (g':=s.gens) (d':=s.drawn) (ch:=[it]) (λb hb=>?_) (λb o _ _ hc e _=>k b o (λz=>hc (by simp [z])) e) (λb o _ _ hc e _=>⟨o.slots,k b o (λz=>hc (by simp [z])) e⟩) (λ_ _ _ _ n=>n)
  (λb o hc e=>⟨o,k b o (λz=>hc (by simp [z])) e⟩) (λ_ _ e=>e) (λ_ _ _ e=>e) (λb ps e=>⟨#[],by rw [e];simp⟩) (λm hm=>?_) (λb u e=>?_) I.bare
 ·have e:b=it:=by simpa using hb
  subst e;exact ⟨h1,hL,h2,h3⟩
 ·obtain ⟨o,es,ep,ho,r⟩:=hm
  exact ⟨o,es,ep,k _ o (Bm hL) ho,r⟩
 ·refine (I.hok b u e).stay (λc v hc q=>k c v ?_ q) (λ_ q=>q) λ_ _ q=>q
  rcases hc with z | z
  ·rw [z];exact nit b u e
  ·exact nit c _ z
theorem Inv.tok (I:Inv X pins σ H s) (t:Nat):Inv X pins σ H { s with toks:=t }:=I.un (h':=s.heap) (t':=t) Un.refl I.hok
theorem Inv.kept {t':Nat} (I:Inv X pins σ H s) (k:∀b u,s.heap.get? b=some u->h'.get? b=some u):Inv X pins σ H { s with heap:=h',toks:=t' }:=I.un (Un.kept k) (I.hok.kept k)
theorem Inv.laid {a:AH} {o:HO} {t':Nat} (I:Inv X pins σ H s) (k:∀b u,s.heap.get? b=some u->h'.get? b=some u) (hp:s.heap.objs.size<=a) (new:CJ X.prog X.w (upd H a o) h' a o) :
  Inv X pins σ (upd H a o) { s with heap:=h',toks:=t' }:=I.un (Un.laid k hp (I.hok.fresh hp)) (I.hok.laid k hp new)
theorem Inv.write {x e:AH} {o:HO} {t':Nat} (I:Inv X pins σ H s) (mu:Mut (H x)) (he:e=x∨H e=some (.own x)) (k:∀b u,b≠e->s.heap.get? b=some u->h'.get? b=some u) (heo:∃u,h'.get? e=some u)
  (new:CJ X.prog X.w (upd H x o) h' x o):Inv X pins σ (upd H x o) { s with heap:=h',toks:=t' }:=I.un (Un.write mu he k heo) (I.hok.write mu he k heo new)
theorem Inv.pins_of {pins':List (AH×Obj)} (I:Inv X pins σ H s) (h:∀p∈pins',s.heap.get? p.1=some p.2/\H p.1=none/\p.1≠X.env.locals/\p.1∉X.fs/\∀v,p.2.data≠.cell v):Inv X pins' σ H s:=
 ⟨I.ok,I.os,I.bare,I.base,I.loc,I.cell,I.free,I.freeC,λp hp=>(A2.mp hp).elim (λz=>I.pin p (BJ _ z)) (h p),I.hok,I.len⟩
theorem Qx {N:List Str} (hN:N.Nodup) {i j:Nat} {x:Str} (a:N[i]?=some x) (b:N[j]?=some x):i=j:=by
 obtain ⟨h1,e1⟩:=AE.mp a;obtain ⟨h2,e2⟩:=AE.mp b;exact (List.getElem_inj hN).mp (e1.trans e2.symm)
theorem Oc {M:Rt} {A:Aw} {E:AB->AD->Prop} {i:Nat} {x:Str} {v:V} {u:AB} {Q:Unit->AD->Prop} (I:Inv X pins σ H s) (hN:X.N.Nodup) (hi:X.N[i]?=some x) (hx:Loc X.env.scope x) (r:RelV v u)
  (h:∀s',Inv X pins (σ.set i (some v)) H s'->(∃a,DT a s.heap s'.heap/\(a=X.env.locals∨X.env.cells.lookup x=some a))->Q () s') (hf:X.fn x=true∨X.env.scope.names.lookup x=some .local:=by first | exact .inl rfl | exact .inr rfl | assumption):Ad M A (storeName X.env x u) Q E s:=by
 obtain ⟨m,hn,hl⟩:=id I.loc
 have hcls:(X.env.scope.kind==.class||(X.env.scope.kind==.module&&X.env.locals != X.env.globals))=false:=by rw [I.ok.kind];rfl
 have hiσ:i < σ.length:=by rw [I.len];exact (AE.mp hi).1
 have cne:=I.cne
 have tracked:∀ {a:AH} {h':BW},(∃o,s.heap.get? a=some o/\H a=none)->DT a s.heap h'->HOk X.prog X.w H h':=λ{a h'} ha hs b ob e=>by
  obtain ⟨_,_,hfree⟩:=ha
  refine (I.hok b ob e).stay (λc w' hc q=>(hs.2 c ?_).trans q) (λ_ q=>q) λ_ _ q=>q
  rintro rfl
  rcases hc with rfl | hc
  ·rw [hfree] at e;cases e
  ·rw [hfree] at hc;cases hc
 rcases hx with hk | hk
 ·refine wpAny_storeName_local hk hn (λh' hn' hs=>?_) hcls
  obtain ⟨oL,_,_,hoL,_⟩:=id hn;refine h _ ⟨I.ok,I.os,I.bare,⟨λb o e n hb hx=>?_,λb o e n hb hx=>?_,I.base.free,λb o e hx=>?_,I.base.tups,I.base.frzs,I.base.tbls⟩,⟨_,hn',λj y v' e1 e2 e3=>?_⟩,λy c e=>?_,I.free,I.freeC,λp hp=>?_,tracked ⟨oL,hoL,I.free⟩ hs,by simpa using I.len⟩ ⟨_,hs,.inl rfl⟩
  ·exact (hs.2 b (Am (Ab (AW e) I.ok.above))).trans (I.base.keep b o e n hb hx)
  ·obtain ⟨sl,e1⟩:=I.base.slot b o e n hb hx
   exact ⟨sl,(hs.2 b (Am (Ab (AW e) I.ok.above))).trans e1⟩
  ·obtain ⟨o',e1⟩:=I.base.there b o e hx
   exact ⟨o',(hs.2 b (Am (Ab (AW e) I.ok.above))).trans e1⟩
  ·by_cases hj:j=i
   ·subst hj
    rw [hi] at e1;cases e1;rw [A3 hiσ] at e2;cases e2;exact ⟨u,r,.inl ⟨hk,by simp⟩⟩
   ·rw [Ay (Bm hj)] at e2
    obtain ⟨u',r',q⟩:=hl j y v' e1 e2 e3;refine ⟨u',r',?_⟩
    rcases q with ⟨k,e⟩ | ⟨k,c,e,z⟩
    ·refine .inl ⟨k,?_⟩
     have:y≠x:=λe=>hj (Qx hN e1 (e▸hi))
     simp [this,e]
    ·exact .inr ⟨k,c,e,z.sameBut hs (cne y c e)⟩
  ·obtain ⟨w',z⟩:=I.cell y c e
   exact ⟨w',z.sameBut hs (cne y c e)⟩
  ·obtain ⟨e,n,ne,nf,d⟩:=I.pin p hp
   exact ⟨(hs.2 p.1 ne).trans e,n,ne,nf,d⟩
 ·have hfn:X.fn x=true:=by
   rcases hf with z | z
   ·exact z
   ·rw [z] at hk;cases hk
  obtain ⟨c,hc⟩:=I.ok.has x (.inl hk);obtain ⟨w',z⟩:=I.cell x c hc;refine wpAny_storeName_cell I.ok.kind hk hc z (λh' hc' hs=>?_);obtain ⟨oc,hoc,hocd⟩:=id z;refine h { s with heap:=h' } ⟨I.ok,I.os,I.bare,⟨λb o e n hb hx=>?_,λb o e n hb hx=>?_,I.base.free,λb o e hx=>?_,I.base.tups,I.base.frzs,I.base.tbls⟩,⟨m,hn.sameBut hs (Bm (cne x c hc)),λj y v' e1 e2 e3=>?_⟩,λy c' e=>?_,I.free,I.freeC,λp hp=>?_,tracked ⟨oc,hoc,I.freeC x c hc⟩ hs,by simpa using I.len⟩ ⟨c,hs,.inr hc⟩
  ·exact (hs.2 b (Am (Ab (AW e) (I.ok.cab x c hfn hc)))).trans (I.base.keep b o e n hb hx)
  ·obtain ⟨sl,e1⟩:=I.base.slot b o e n hb hx
   exact ⟨sl,(hs.2 b (Am (Ab (AW e) (I.ok.cab x c hfn hc)))).trans e1⟩
  ·obtain ⟨o',e1⟩:=I.base.there b o e hx
   exact ⟨o',(hs.2 b (Am (Ab (AW e) (I.ok.cab x c hfn hc)))).trans e1⟩
  ·by_cases hj:j=i
   ·subst hj
    rw [hi] at e1;cases e1;rw [A3 hiσ] at e2;cases e2;exact ⟨u,r,.inr ⟨.inl hk,c,hc,hc'⟩⟩
   ·rw [Ay (Bm hj)] at e2
    obtain ⟨u',r',q⟩:=hl j y v' e1 e2 e3;refine ⟨u',r',?_⟩
    rcases q with q | ⟨k,c',e,z'⟩
    ·exact .inl q
    ·refine .inr ⟨k,c',e,z'.sameBut hs ?_⟩
     rintro rfl;exact hj (Qx hN e1 (I.ok.inj _ _ _ e hc▸hi))
  ·by_cases hcc:c'=c
   ·subst hcc;exact ⟨_,hc'⟩
   ·obtain ⟨w2,z2⟩:=I.cell y c' e
    exact ⟨w2,z2.sameBut hs hcc⟩
  ·obtain ⟨e,n,ne,nf,d⟩:=I.pin p hp
   refine ⟨(hs.2 p.1 ?_).trans e,n,ne,nf,d⟩;intro q;rw [q,hoc] at e;have q':oc=p.2:=Bc e;exact d w' (by rw [<-q'];exact hocd)
theorem Qh {M:Rt} {A:Aw} {E:AB->AD->Prop} {i:Nat} {x:Str} {v:V} {u:AB} {Q:Unit->AD->Prop} (I:Inv X pins σ H s) (hN:X.N.Nodup) (hi:X.N[i]?=some x) (hx:Loc X.env.scope x) (r:RelV v u)
  (h:∀s',Inv X pins (σ.set i (some v)) H s'->Q () s') (hf:X.fn x=true∨X.env.scope.names.lookup x=some .local:=by first | exact .inl rfl | exact .inr rfl | assumption):Ad M A (storeName X.env x u) Q E s:=
 Oc I hN hi hx r (λs' I' _=>h s' I') hf
theorem Inv.call' {s':AD} {ch:List AH} (I:Inv X pins σ H s) (ho:s'.os=s.os) (u:Un (frs X.stack) ch H H' s.heap s'.heap) (hok:HOk X.prog X.w H' s'.heap) (hg:Go s'.gens)
  (hch:∀b∈ch,(b∈X.ex∨X.s₀.heap.objs.size<=b)/\b≠X.env.locals/\(∀x c,X.env.cells.lookup x=some c->c≠b)/\∀p∈X.pn++pins,p.1≠b):Inv X pins σ H' s':=by
 obtain ⟨h',g',d',t',o'⟩:=s';have e:o'=s.os:=ho;subst e;exact I.call (g':=g') (t':=t') (d':=d') u hok hg hch
end
abbrev XK:=AB->Option AH->Hp->Prop
abbrev St:=List (Option V)
abbrev VK:=V->Hp->Prop
abbrev TE:=St->Hp->VK->Prop
abbrev TT:=St->Hp->(Bool->Hp->Prop)->Prop
abbrev TA:=St->Hp->(List V->Hp->Prop)->Prop
structure Su where
 nx:St->Hp->Prop
 rt:VK
 bk:St->Hp->Prop:=λ_ _=>False
 ct:St->Hp->Prop:=λ_ _=>False
abbrev TS:=Su->St->Hp->Prop
def EP (X:Cx) (pins:List (AH×Obj)) (σ:St) (Q:VK) (u:AB) (s':AD):Prop:=∃v H',Inv X pins σ H' s'/\RelV v u/\Q v H'
def TP (X:Cx) (pins:List (AH×Obj)) (σ:St) (Q:Bool->Hp->Prop) (b:Bool) (s':AD):Prop:=∃H',Inv X pins σ H' s'/\Q b H'
def AP (X:Cx) (pins:List (AH×Obj)) (σ:St) (Q:List V->Hp->Prop) (us:List AB) (s':AD):Prop:=∃vs H',Inv X pins σ H' s'/\Bh vs us/\Q vs H'
def SP (X:Cx) (pins:List (AH×Obj)) (D:Su) (f:Flow) (s':AD):Prop:=
 match f with
 | .next=>∃σ' H',Inv X pins σ' H' s'/\D.nx σ' H'
 | .brk=>∃σ' H',Inv X pins σ' H' s'/\D.bk σ' H'
 | .cont=>∃σ' H',Inv X pins σ' H' s'/\D.ct σ' H'
 | .ret u=>∃v σ' H',Inv X pins σ' H' s'/\RelV v u/\D.rt v H'
def PE (X:Cx) (e:Expr) (t:TE):Prop:=
 ∀(pins:List (AH×Obj)) (s:AD) (σ:St) (H:Hp) (Q:VK),Inv X pins σ H s->t σ H Q->Ad (AT X.prog X.w) X.A (Bx e X.env) (EP X pins σ Q) X.xe s
def PT (X:Cx) (e:Expr) (t:TT):Prop:=
 ∀(pins:List (AH×Obj)) (s:AD) (σ:St) (H:Hp) (Q:Bool->Hp->Prop),Inv X pins σ H s->t σ H Q->Ad (AT X.prog X.w) X.A (Rg e X.env (Bx e X.env)) (TP X pins σ Q) X.xe s
def PW (X:Cx) (e:Expr) (t:TT):Prop:=
 ∀(whole:Sem AB) (pins:List (AH×Obj)) (s:AD) (σ:St) (H:Hp) (Q:Bool->Hp->Prop),Inv X pins σ H s->t σ H Q->Ad (AT X.prog X.w) X.A (Rg e X.env whole) (TP X pins σ Q) X.xe s
theorem PW.pt {X:Cx} {e:Expr} {t:TT} (h:PW X e t):PT X e t:=h _
def PA (X:Cx) (es:List Expr) (t:TA):Prop:=
 ∀(pos:Pos) (pins:List (AH×Obj)) (s:AD) (σ:St) (H:Hp) (Q:List V->Hp->Prop),Inv X pins σ H s->t σ H Q->Ad (AT X.prog X.w) X.A (spliced (C4 pos (AU es X.env))) (AP X pins σ Q) X.xe s
def PS (X:Cx) (st:Cw) (t:TS):Prop:=
 ∀(pins:List (AH×Obj)) (s:AD) (σ:St) (H:Hp) (D:Su),Inv X pins σ H s->t D σ H->Ad (AT X.prog X.w) X.A (exec st X.env) (SP X pins D) X.xe s
def PSs (X:Cx) (st:List Cw) (t:TS):Prop:=
 ∀(pins:List (AH×Obj)) (s:AD) (σ:St) (H:Hp) (D:Su),Inv X pins σ H s->t D σ H->Ad (AT X.prog X.w) X.A (execs st X.env) (SP X pins D) X.xe s
theorem thn {α:Type} {t:Sem α} {Q Q':α->AD->Prop} {M:Rt} {A:Aw} {E:AB->AD->Prop} {s:AD} (h:Ad M A t Q E s) (hQ:∀a s,Q a s->Q' a s):Ad M A t Q' E s:=E3 h hQ λ_ _ x=>x
section
variable {X:Cx}
def bX (i:Nat):TE:=λσ H Q=>∃v,σ[i]?=some (some v)/\Q v H
def tC (v:V):TE:=λ_ H Q=>Q v H
theorem cA {i:Nat} {x:Str} {pos:Pos} (hN:X.N[i]?=some x) (hv:Vis X.env.scope x) (hd:(x==("__debug__" : Str))=false:=by decide) (hcd:(x==("__classdict__" : Str))=false:=by decide):PE X (.Name x pos) (bX i):=by
 intro pins s σ H Q I h;obtain ⟨v,e,h⟩:=h;obtain ⟨m,hn,hl⟩:=I.loc;obtain ⟨u,r,l⟩:=hl i x v hN e hv;have fin:EP X pins σ Q u s:=⟨v,H,I,r,h⟩
 rcases l with ⟨hk,hm⟩ | ⟨hk,c,hc,hcell⟩
 ·exact aq (wpAny_loadName_local I.ok.kind hk hn hm fin) hd
 ·rcases hk with hk | hk
  ·exact aq (wpAny_loadName_cell I.ok.kind hk hc hcell fin) hd
  ·exact aq (wpAny_loadName_free I.ok.kind hk hc hcell fin hcd) hd
theorem cG {i j pos}:PE X (.Constant (.int i) j pos) (tC (.int i)):=λ_ _ _ H _ I h=>wpAny_Constant_int ⟨.int i,H,I.tok _,⟨_,rfl⟩,h⟩
theorem fH {b j pos}:PE X (.Constant (.bool b) j pos) (tC (.bl b)):=λ_ _ _ H _ I h=>Constant_bool ⟨.bl b,H,I,rfl,h⟩
theorem cE {j pos}:PE X (.Constant .none j pos) (tC .non):=λ_ _ _ H _ I h=>Constant_none ⟨.non,H,I,rfl,h⟩
theorem cC {x j pos}:PE X (.Constant (.str x) j pos) (tC (.str x)):=λ_ _ _ H _ I h=>Calls.Constant_str ⟨.str x,H,I.tok _,⟨_,rfl⟩,h⟩
def Gl (X:Cx) (x:Str):Prop:=X.env.kindOf x=some .globalImplicit
theorem Ma {E:AB->AD->Prop} {pins:List (AH×Obj)} {s:AD} {σ:St} {H:Hp} {x:Str} {u:AB} {pos:Pos} {Q:AB->AD->Prop} (I:Inv X pins σ H s) (hg:Gl X x) (hm:X.mg x=some u) (h:Q u s)
  (hd:(x==("__debug__" : Str))=false:=by decide):Ad (AT X.prog X.w) X.A (Bx (.Name x pos) X.env) Q E s:=
 N8 I.ok.kind hg (Calls.loadGlobal_global (by rw [I.ok.glob];exact I.mod.glob.keeps I.bk) hm h) hd
theorem Ju {E:AB->AD->Prop} {pins:List (AH×Obj)} {s:AD} {σ:St} {H:Hp} {x:Str} {u:AB} {pos:Pos} {Q:AB->AD->Prop} (I:Inv X pins σ H s) (hg:Gl X x) (hm:X.mg x=none) (hv:FX x=some u) (h:Q u s)
  (hn:x≠"__name__":=by decide) (hd:(x==("__debug__" : Str))=false:=by decide):Ad (AT X.prog X.w) X.A (Bx (.Name x pos) X.env) Q E s:=by
 obtain ⟨mb,h1,h2⟩:=I.mod.blt;exact N8 I.ok.kind hg (Calls.loadGlobal_builtin (by rw [I.ok.glob];exact I.mod.glob.keeps I.bk) hm (by rw [I.ok.blt];exact h1.keeps I.bk) ((h2 x hn).trans hv) h) hd
theorem Ta {x:Str} {v:V} {u:AB} {pos:Pos} (hg:Gl X x) (hm:X.mg x=some u) (r:RelV v u) (hd:(x==("__debug__" : Str))=false:=by decide):PE X (.Name x pos) (tC v):=
 λ_ _ _ H _ I h=>Ma I hg hm ⟨v,H,I,r,h⟩ hd
variable {a b:Expr} {ta tb:TE} {pos:Pos}
def PC (X:Cx) (op:Rv) (a b:Expr) (t:TE):Prop:=
 ∀(pins:List (AH×Obj)) (s:AD) (σ:St) (H:Hp) (Q:VK),Inv X pins σ H s->t σ H Q ->
  Ad (AT X.prog X.w) X.A (Bx a X.env) (λv s₁=>Ad (AT X.prog X.w) X.A (Bx b X.env) (λu s₂=>Ad (AT X.prog X.w) X.A (Bb op v u) (EP X pins σ Q) X.xe s₂) X.xe s₁) X.xe s
def tB (t:TE):TT:=λσ H Q=>t σ H λx H1=>∃c,x=.bl c/\Q c H1
theorem Wj {op:Rv} {t:TE} (h:PC X op a b t) (h1:CW op b=false:=by first | exact nobehind _ (by decide) (by decide) | rfl):PT X (.Compare a [op] [b] pos) (tB t):=by
 intro pins s σ H Q I hw;refine YE (thn (h pins s σ H _ I hw) λv s1 h1=>thn h1 λu s2 h2=>thn h2 λc s3 ⟨x,H1,I1,r1,q1⟩=>?_) h1;obtain ⟨d,rfl,q⟩:=q1;cases r1;exact Ck ⟨H1,I1,q⟩
theorem bp {e:Expr} {t:TE} (h:PE X e t) (he:∀whole,Rg e X.env whole=(do let v <-whole;da e.pos;de [v] (au v)):=by intro _;rfl):PT X e (tB t):=by
 intro pins s σ H Q I hw;refine isTrue_plain (thn (h pins s σ H _ I hw) λv s1 ⟨x,H1,I1,r1,q1⟩=>?_) (he _);obtain ⟨d,rfl,q⟩:=q1;cases r1;exact Ck ⟨H1,I1,q⟩
variable {tA tB':TT} {rest:List Expr}
def eh (t u:TT):TT:=λσ H Q=>t σ H λc H1=>if c=true then u σ H1 Q else Q false H1
def tOr (t u:TT):TT:=λσ H Q=>t σ H λc H1=>if c=true then Q true H1 else u σ H1 Q
def tNot (t:TT):TT:=λσ H Q=>t σ H λc H1=>Q (!c) H1
theorem ZB (ha:PT X a tA):PW X (.BoolOp .And [a] pos) tA:=by
 intro wh pins s σ H Q I h;refine isTrue_and (thn (ha pins s σ H Q I h) λc s1 e=>?_)
 cases c with
 | true=>exact isTrue_and_nil e
 | false=>exact e
theorem bn (ha:PT X a tA):PW X (.BoolOp .Or [a] pos) tA:=by
 intro wh pins s σ H Q I h;refine isTrue_or (thn (ha pins s σ H Q I h) λc s1 e=>?_)
 cases c with
 | false=>exact isTrue_or_nil e
 | true=>exact e
theorem bo (ha:PT X a tA) (hb:PW X (.BoolOp .And (b :: rest) pos) tB'):PW X (.BoolOp .And (a :: b :: rest) pos) (eh tA tB'):=by
 intro wh pins s σ H Q I h;refine isTrue_and (thn (ha pins s σ H _ I h) λc s1 ⟨H1,I1,q1⟩=>?_)
 cases c with
 | true=>exact hb wh pins s1 σ H1 Q I1 q1
 | false=>exact ⟨H1,I1,q1⟩
theorem fB (ha:PT X a tA) (hb:PW X (.BoolOp .Or (b :: rest) pos) tB'):PW X (.BoolOp .Or (a :: b :: rest) pos) (tOr tA tB'):=by
 intro wh pins s σ H Q I h;refine isTrue_or (thn (ha pins s σ H _ I h) λc s1 ⟨H1,I1,q1⟩=>?_)
 cases c with
 | true=>exact ⟨H1,I1,q1⟩
 | false=>exact hb wh pins s1 σ H1 Q I1 q1
theorem bq (ha:PT X a tA):PT X (.UnaryOp .Not a pos) (tNot tA):=by
 intro pins s σ H Q I h;exact isTrue_not (ha pins s σ H (λc H1=>Q (!c) H1) I h)
def eg (ta tb:TE):TE:=λσ H Q=>ta σ H λx H1=>∃c,x=.bl c/\if c=true then tb σ H1 Q else Q (.bl false) H1
theorem cD {op} {t:TE} (h:PE X a t):PE X (.BoolOp op [a] pos) t:=λpins s σ H Q I hw=>BoolOp_one (h pins s σ H Q I hw)
theorem cJ (ha:PE X a ta) (hb:PE X (.BoolOp .And (b :: rest) pos) tb):PE X (.BoolOp .And (a :: b :: rest) pos) (eg ta tb):=by
 intro pins s σ H Q I h;refine BoolOp_and (thn (ha pins s σ H _ I h) λv s1 ⟨x,H1,I1,r1,q1⟩=>?_);obtain ⟨c,rfl,q1⟩:=q1;cases r1;refine Ck ?_
 cases c with
 | true=>exact hb pins s1 σ H1 Q I1 q1
 | false=>exact ⟨.bl false,H1,I1,rfl,q1⟩
end
def SqL (K:AA) (H:Hp) (a:AH) (xs:List V):Prop:=
 Rd H a (.lst xs) ∨
  ∃(o:Obj) (its:Array AB) (n:Nat),K.lookup a=some o/\o.cls=.type "list"/\o.dict=none/\o.data=.seq its n/\its.size<=sizeLine/\Bh xs its.toList
def SqT (K:AA) (H:Hp) (a:AH) (xs:List V):Prop:=
 Rd H a (.tup xs) ∨
  ∃(o:Obj) (its:Array AB) (n:Nat),K.lookup a=some o/\o.cls=.type "tuple"/\o.data=.seq its n/\its.size<=sizeLine/\Bh xs its.toList
def absV:AB->Option V
 | .none=>some .non
 | .bool b=>some (.bl b)
 | .int i _=>some (.int i)
 | .str x _=>some (.str x)
 | .bytes b _=>some (.byt b)
 | .float b _=>some (.flt b)
 | .ref a=>some (.ref a)
 | .type n=>some (.ty n)
 | _=>none
theorem RelV.abs {x:V} {u:AB} (r:RelV x u):absV u=some x:=by
 cases x with
 | non=>cases r;rfl
 | bl _=>cases r;rfl
 | int _=>obtain ⟨t,rfl⟩:=r;rfl
 | str _=>obtain ⟨t,rfl⟩:=r;rfl
 | byt _=>obtain ⟨t,rfl⟩:=r;rfl
 | flt _=>obtain ⟨t,rfl⟩:=r;rfl
 | ref _=>cases r;rfl
 | ty _=>cases r;rfl
theorem RelV.inj {x y:V} {u:AB} (r:RelV x u) (q:RelV y u):x=y:=Bc (r.abs.symm.trans q.abs)
theorem Bh.inj:∀ {xs ys:List V} {us:List AB},Bh xs us->Bh ys us->xs=ys
 | _,_,_,.nil,.nil=>rfl
 | _,_,_,.cons r t,.cons r' t'=>by rw [r.inj r',Bh.inj t t']
section
variable {X:Cx} {pins:List (AH×Obj)} {σ:St} {H:Hp} {s:AD} {a:AH} {xs ys:List V}
theorem Inv.list (I:Inv X pins σ H s) (h:SqL X.K H a xs):∃its:List AB,Bh xs its/\PlainL s.heap a its.toArray/\xs.length<=sizeLine:=by
 rcases h with h | ⟨o,its,n,hk,hc,hd,hs,hz,r⟩
 ·obtain ⟨z,its,n,r,e⟩:=h.ok I.hok
  exact ⟨its,r,⟨_,n,e,rfl,rfl,rfl⟩,z⟩
 ·refine ⟨its.toList,r,⟨o,n,I.kIn a o hk,hc,hd,by simpa using hs⟩,?_⟩
  have e:=r.length;simp only [BX] at e
  lia
theorem Inv.tuple (I:Inv X pins σ H s) (h:SqT X.K H a xs):∃its:List AB,Bh xs its/\dm s.heap a its.toArray/\xs.length<=sizeLine:=by
 rcases h with h | ⟨o,its,n,hk,hc,hs,hz,r⟩
 ·obtain ⟨z,its,r,p⟩:=h.ok I.hok
  exact ⟨its,r,p,z.1⟩
 ·refine ⟨its.toList,r,⟨o,I.kIn a o hk,hc,n,by simpa using hs⟩,?_⟩
  have e:=r.length;simp only [BX] at e
  lia
theorem Inv.list_inj (I:Inv X pins σ H s) (h:SqL X.K H a xs) (h':SqL X.K H a ys):xs=ys:=by
 obtain ⟨its,r,⟨o,n,e,_,_,d⟩,_⟩:=I.list h;obtain ⟨its',r',⟨o',n',e',_,_,d'⟩,_⟩:=I.list h';rw [e] at e';cases e';rw [d] at d'
 injection d' with d1 _
 have:its=its':=by simpa using congrArg bF d1
 subst this;exact r.inj r'
theorem Inv.tuple_inj (I:Inv X pins σ H s) (h:SqT X.K H a xs) (h':SqT X.K H a ys):xs=ys:=by
 obtain ⟨its,r,⟨o,e,_,n,d⟩,_⟩:=I.tuple h;obtain ⟨its',r',⟨o',e',_,n',d'⟩,_⟩:=I.tuple h';rw [e] at e';cases e';rw [d] at d'
 injection d' with d1 _
 have:its=its':=by simpa using congrArg bF d1
 subst this;exact r.inj r'
end
section
variable {X:Cx} {pins:List (AH×Obj)} {σ:St} {H:Hp} {s:AD} {E:AB->AD->Prop}
end
section
variable {X:Cx} {st:Cw} {rest:List Cw} {t u:TS} {e:Expr} {te:TE} {pos:Pos}
def eS:TS:=λD σ H=>D.nx σ H
def tSeq (t u:TS):TS:=λD σ H=>t { D with nx:=u D } σ H
theorem ZF:PSs X [] eS:=λ_ _ σ H _ I h=>J3 ⟨σ,H,I,h⟩
theorem Wm (h1:PS X st t) (h2:PSs X rest u):PSs X (st :: rest) (tSeq t u):=by
 intro pins s σ H D I h;refine du (thn (h1 pins s σ H { D with nx:=u D } I h) λf s1 q=>?_)
 cases f with
 | next=>
  obtain ⟨σ',H',I',q⟩:=q;exact h2 pins s1 σ' H' D I' q
 | ret v=>exact q
 | brk=>exact q
 | cont=>exact q
theorem ZE (h1:PS X st t):PSs X [st] t:=by
 intro pins s σ H D I h;refine du (thn (h1 pins s σ H D I h) λf s1 q=>?_)
 cases f with
 | next=>exact J3 q
 | ret v=>exact q
 | brk=>exact q
 | cont=>exact q
theorem Inv.quiet {pins:List (AH×Obj)} {σ:St} {H:Hp} {s:AD} (I:Inv X pins σ H s):interactive X.env=false:=by simp [interactive,I.ok.kind]
def eW (te:TE):TS:=λD σ H=>te σ H λ_ H1=>D.nx σ H1
theorem ZG (he:PE X e te) (hs:EX e none pos.line X.env=pure false:=by rfl):PS X (.Expr e pos) (eW te):=by
 intro pins s σ H D I h;exact wpAny_Expr_any (thn (he pins s σ H _ I h) λv s1 ⟨x,H1,I1,r1,q1⟩=>⟨σ,H1,I1,q1⟩) I.quiet hs
def tRet (te:TE):TS:=λD σ H=>te σ H D.rt
theorem bu (he:PE X e te):PS X (.Return (some e) pos) (tRet te):=by
 intro pins s σ H D I h;exact wpAny_Return_some (thn (he pins s σ H _ I h) λv s1 ⟨x,H1,I1,r1,q1⟩=>⟨x,σ,H1,I1,r1,q1⟩)
def tIfS (c:TT) (t u:TS):TS:=λD σ H=>c σ H λb H1=>if b=true then t D σ H1 else u D σ H1
theorem fC {c:Expr} {a b:List Cw} {tc:TT} (hc:PT X c tc) (ha:PSs X a t) (hb:PSs X b u):PS X (.If c a b pos) (tIfS tc t u):=by
 intro pins s σ H D I h;refine wpAny_If (thn (hc pins s σ H _ I h) λd s1 ⟨H1,I1,q1⟩=>?_)
 cases d with
 | true=>exact ha pins s1 σ H1 D I1 q1
 | false=>exact hb pins s1 σ H1 D I1 q1
end
abbrev TG:=V->St->Hp->(St->Hp->Prop)->Prop
abbrev TGs:=List V->St->Hp->(St->Hp->Prop)->Prop
def PG (X:Cx) (target:Expr) (t:TG):Prop:=
 ∀(pins:List (AH×Obj)) (s:AD) (σ:St) (H:Hp) (v:V) (u:AB) (Q:St->Hp->Prop),Inv X pins σ H s->RelV v u->t v σ H Q ->
  Ad (AT X.prog X.w) X.A (Rj target X.env u) (λ_ s'=>∃σ' H',Inv X pins σ' H' s'/\Q σ' H') X.xe s
def PGs (X:Cx) (ts:List Expr) (t:TGs):Prop:=
 ∀(pins:List (AH×Obj)) (s:AD) (σ:St) (H:Hp) (vs:List V) (us:List AB) (Q:St->Hp->Prop),Inv X pins σ H s->Bh vs us->t vs σ H Q ->
  Ad (AT X.prog X.w) X.A (assignInOrder ((E5 ts X.env).map (·.2)) us) (λ_ s'=>∃σ' H',Inv X pins σ' H' s'/\Q σ' H') X.xe s
section
variable {X:Cx} {pos:Pos}
def T3 (i:Nat):TG:=λv σ H Q=>Q (σ.set i (some v)) H
theorem ZO {i:Nat} {x:Str} (hN:X.N.Nodup) (hi:X.N[i]?=some x) (hx:Loc X.env.scope x) (hf:X.fn x=true∨X.env.scope.names.lookup x=some .local:=by first | exact .inl rfl | exact .inr rfl | assumption):PG X (.Name x pos) (T3 i):=by
 intro pins s σ H v u Q I r h;exact dY (Qh I hN hi hx r (λs' I'=>⟨_,H,I',h⟩) hf)
def gNil:TGs:=λvs σ H Q=>vs=[]/\Q σ H
def fv (t:TG) (u:TGs):TGs:=λvs σ H Q=>∃v r,vs=v :: r/\t v σ H λσ' H'=>u r σ' H' Q
theorem ZN:PGs X [] gNil:=by
 intro pins s σ H vs us Q I r h;obtain ⟨e,h⟩:=h;subst e;cases r;exact assignInOrder_nil ⟨σ,H,I,h⟩
theorem Wv {e:Expr} {es:List Expr} {t:TG} {u:TGs} (h1:PG X e t) (h2:PGs X es u)
  (hs:(E5 (e :: es) X.env).map (·.2)=Rj e X.env :: (E5 es X.env).map (·.2):=by rfl):PGs X (e :: es) (fv t u):=by
 intro pins s σ H vs us Q I r h;obtain ⟨v,vr,e1,h⟩:=h;subst e1
 cases r with
 | cons r rr=>
  rw [hs];refine assignInOrder_cons (thn (h1 pins s σ H _ _ _ I r h) λ_ s1 ⟨σ1,H1,I1,q1⟩=>?_);exact h2 pins s1 σ1 H1 _ _ Q I1 rr q1
def gTup (K:AA) (n:Nat) (t:TGs):TG:=λv σ H Q=>∃a xs,v=.ref a/\SqT K H a xs/\xs.length=n/\t xs σ H Q
theorem bz {es:List Expr} {k:Nat} {t:TGs} {n:Nat} (hc:X.calm=true) (h:PGs X es t)
  (hn:(E5 es X.env).length=n:=by rfl) (hst:(E5 es X.env).findIdx? (·.1)=none:=by rfl):PG X (.Tuple es k pos) (gTup X.K n t):=by
 intro pins s σ H v u Q I r hw;obtain ⟨a,xs,e1,hq,hl,hw⟩:=hw;subst e1;cases r;obtain ⟨its,rv,ht,hz⟩:=I.tuple hq
 refine assign_Tuple_tuple (I.ok.hd hc) ht (by simp [hn,<-hl,rv.length]) hst λh' hx=>?_
 have I1:Inv X pins σ H { s with heap:=h' }:=I.kept (t':=s.toks) λb o e=>hx b o (Am (AW e)) e
 exact h pins _ σ H xs _ Q I1 (by simpa using rv) hw
def ef (te:TE) (g:TG):TS:=λD σ H=>te σ H λx H1=>g x σ H1 D.nx
theorem br {i:Nat} {x:Str} {e:Expr} {te:TE} {pos':Pos} (hN:X.N.Nodup) (hi:X.N[i]?=some x) (hx:Loc X.env.scope x) (he:PE X e te) (hs:EX e (some (.Name x pos')) pos.line X.env=pure false:=by rfl) (hf:X.fn x=true∨X.env.scope.names.lookup x=some .local:=by first | exact .inl rfl | exact .inr rfl | assumption) :
  PS X (.Assign [.Name x pos'] e pos) (ef te (T3 i)):=by
 intro pins s σ H D I h;refine wpAny_Assign_Name (thn (he pins s σ H _ I h) λv s1 ⟨y,H1,I1,r1,q1⟩=>?_) hs;exact Qh I1 hN hi hx r1 (λs2 I2=>⟨_,H1,I2,q1⟩) hf
end
section
variable {X:Cx} {pos:Pos}
def bW (c:TT) (tb:TS):TS:=λD σ H=>∃W:Nat->St->Hp->Prop,(∃m,W m σ H)/\∀m σ H,W m σ H ->
 c σ H λb H1=>if b=true then ∃N:St->Hp->Prop,(∀σ' H',N σ' H'->∃m',m' < m/\W m' σ' H')/\tb { D with nx:=N,ct:=N,bk:=D.nx } σ H1 else D.nx σ H1
theorem Wn {c:Expr} {body:List Cw} {tc:TT} {tb:TS} (hp:Lc (AT X.prog X.w) X.A X.env X.xe) (hc:PT X c tc) (hb:PSs X body tb):PS X (.While c body [] pos) (bW tc tb):=by
 intro pins s σ H D I h;obtain ⟨W,⟨m0,w0⟩,turn⟩:=h;refine wpAny_While (codeAny_whileLoop (λn s'=>∃σ' H',Inv X pins σ' H' s'/\W n σ' H') ?_ m0 ⟨σ,H,I,w0⟩);rintro n s1 ⟨σ1,H1,I1,w1⟩;refine Dq hp (thn (hc pins s1 σ1 H1 _ I1 (turn n σ1 H1 w1)) λb s2 ⟨H2,I2,q2⟩=>?_)
 cases b with
 | true=>
  obtain ⟨N,hN,q2⟩:=q2;rw [qX rfl];refine Dq hp (thn (hb pins s2 σ1 H2 _ I2 q2) λf s3 q3=>?_)
  cases f with
  | next=>
   obtain ⟨σ3,H3,I3,n3⟩:=q3;obtain ⟨m',hm,w3⟩:=hN σ3 H3 n3;exact ⟨m',hm,σ3,H3,I3,w3⟩
  | cont=>
   obtain ⟨σ3,H3,I3,n3⟩:=q3;obtain ⟨m',hm,w3⟩:=hN σ3 H3 n3;exact ⟨m',hm,σ3,H3,I3,w3⟩
  | brk=>exact q3
  | ret v=>exact q3
 | false=>
  rw [qY AS];exact J3 ⟨σ1,H2,I2,q2⟩
end
structure It where
 go:Nat->Hp->Prop
 yld:Nat->Hp->V->Hp->Prop
 stop:Nat->Hp->Prop
def J1 (X:Cx) (pins:List (AH×Obj)) (H:Hp) (b:AH):Prop:=
 H b=none/\b≠X.env.locals/\b∉X.fs/\(b∈X.ex∨X.s₀.heap.objs.size<=b)/\(∀x c,X.env.cells.lookup x=some c->c≠b)/\∀p∈X.pn++pins,p.1≠b
theorem Inv.fpOk {X:Cx} {pins:List (AH×Obj)} {σ:St} {H H':Hp} {s:AD} {b:AH} (I:Inv X pins σ H s) (hb:s.heap.objs.size<=b) (hn:H' b=none):J1 X pins H' b:=by
 refine ⟨hn,L5 (Ab I.lt hb),I.nofs hb,.inr (Ao I.sz hb),λx c e z=>?_,λp hp z=>?_⟩
 ·obtain ⟨v,q⟩:=I.cell x c e
  exact zX (Ab q.lt (by rw [z];exact hb)) (DD _)
 ·exact zX (Ab (AW (I.pin p hp).1) (by rw [z];exact hb)) (DD _)
structure RU (P:Ah) (w:A1) (K:AA) (tg:Expr) (J:It) (fp:List AH) (it:AH) (tn:Nat->BW->Prop):Prop where
 mem:it∈fp
 obj:∀i h,tn i h->∀b∈fp,∃o,h.get? b=some o/\∀v,o.data≠.cell v
 keep:∀i h h',tn i h->(∀b∈fp,∀o,h.get? b=some o->h'.get? b=some o)->tn i h'
 item:∀(X:Cx),X.prog=P->X.w=w->X.K=K->X.calm=true->∀(i:Nat) (pins:List (AH×Obj)) (s:AD) (σ:St) (H:Hp) (E:AB->AD->Prop),Inv X pins σ H s->(∀b∈fp,J1 X pins H b)->tn i s.heap->J.go i H ->
  Ad (AT P w) X.A (O4 (.ref it)) (λr s1=>∃u,r=some u /\
   Ad (AT P w) X.A (J4 tg (.ref it) u) (λ_ s2=>∃x H',Inv X pins σ H' s2/\RelV x u/\J.yld i H x H'/\tn (i+1) s2.heap/\∀b∈fp,H' b=none) E s1) E s
 done:∀(X:Cx),X.prog=P->X.w=w->X.K=K->X.calm=true->∀(i:Nat) (pins:List (AH×Obj)) (s:AD) (σ:St) (H:Hp) (E:AB->AD->Prop),Inv X pins σ H s->(∀b∈fp,J1 X pins H b)->tn i s.heap->J.stop i H ->
  Ad (AT P w) X.A (O4 (.ref it)) (λr s1=>r=none/\Inv X pins σ H s1) E s
 self:∀(A:Aw) (i:Nat) (s:AD) (Q:AB->AD->Prop) (E:AB->AD->Prop),tn i s.heap->Q (.ref it) s->Ad (AT P w) A (pyIter (.ref it)) Q E s
abbrev TI:=St->Hp->(It->Hp->Prop)->Prop
def PIE (X:Cx) (pins:List (AH×Obj)) (σ:St) (tg:Expr) (R:It->Hp->Prop) (itv:AB) (s2:AD):Prop:=
 ∃(it:AH) (fp:List AH) (tn:Nat->BW->Prop) (J:It) (H':Hp),itv=.ref it/\Inv X pins σ H' s2/\RU X.prog X.w X.K tg J fp it tn/\tn 0 s2.heap/\(∀b∈fp,J1 X pins H' b)/\R J H'
def PI (X:Cx) (tg iter:Expr) (wi:TI):Prop:=
 ∀(pins:List (AH×Obj)) (s:AD) (σ:St) (H:Hp) (R:It->Hp->Prop),Inv X pins σ H s->wi σ H R ->
  Ad (AT X.prog X.w) X.A (Bx iter X.env) (λv s1=>Ad (AT X.prog X.w) X.A (pyIter v) (PIE X pins σ tg R) X.xe s1) X.xe s
theorem Xi {M:Rt} {A:Aw} {E:AB->AD->Prop} {s:AD} {tg:Expr} {it:AH} {u:AB} {o:Obj} {n:String} {vs:Array AB} {Q:Unit->AD->Prop} (ho:s.heap.get? it=some o) (hc:o.cls=.type n) (hd:o.data=.fields vs)
  (hn:["enumerate", "zip", "dict_itemiterator", "dict_reverseitemiterator", "odict_iterator", "itertools.zip_longest", "itertools.pairwise"].contains n=false) (hQ:Q () s):Ad M A (J4 tg (.ref it) u) Q E s:=by
 unfold J4
 cases tg <;> first
  | exact AN hQ
  | (cases u <;> first
    | exact AN hQ
    | (refine AC (wpAny_load ho ?_)
       rw [hc,hd];show Ad M A (if (["enumerate", "zip", "dict_itemiterator", "dict_reverseitemiterator", "odict_iterator", "itertools.zip_longest", "itertools.pairwise"].contains n&&vs[0]?==some (DW _))=true then _ else _) Q E s;rw [qY (by intro h;rw [hn,Bool.false_and] at h;cases h)]
       exact AN hQ))
def Itl (K:AA) (a:AH):It:=
 ⟨λi H=>∃xs x,SqL K H a xs/\xs[i]?=some x,λi H x H'=>H'=H/\∀xs,SqL K H a xs->xs[i]?=some x,λi H=>∃xs,SqL K H a xs/\xs.length<=i⟩
def Itt (K:AA) (a:AH):It:=
 ⟨λi H=>∃xs x,SqT K H a xs/\xs[i]?=some x,λi H x H'=>H'=H/\∀xs,SqT K H a xs->xs[i]?=some x,λi H=>∃xs,SqT K H a xs/\xs.length<=i⟩
def Itr (lo:Int) (n:Nat):It:=⟨λi _=>i < n,λi H x H'=>H'=H/\x=.int (lo+i),λi _=>n<=i⟩
theorem UW {P:Ah} {w:A1} {K:AA} {tg:Expr} (a it:AH):RU P w K tg (Itl K a) [it] it (λi h=>h.IsListIter it a i) where
 mem:=by simp
 obj:=λi h st b hb=>by
  have e:b=it:=by simpa using hb
  subst e;obtain ⟨o,e,c,d⟩:=st;exact ⟨o,e,λv z=>by rw [d] at z;cases z⟩
 keep:=λi h h' st k=>st.at λo e=>k it (by simp) o e
 item:=by
  intro X hP hw hK hc i pins s σ H E I hf st hg;subst hP hw hK;obtain ⟨xs,x,hq,hx⟩:=hg;obtain ⟨its,rv,p,hz⟩:=I.list hq;obtain ⟨u,hu,ru⟩:=rv.get hx;obtain ⟨f0,f1,f2,f3,f4,f5⟩:=hf it (by simp)
  refine wpAny_pyNext_list_item st p.isList (x:=u) (by simpa using hu) λh' st' sb=>?_
  have I1:Inv X pins σ H { s with heap:=h' }:=I.turned (t':=s.toks) (λb o hb e=>(sb.2 b hb).trans e) f0 f1 f3 f4 f5;obtain ⟨o,e,c,d⟩:=id st';exact ⟨u,rfl,Xi (s:={ s with heap:=h' }) e c d (by decide) ⟨x,H,I1,ru,⟨rfl,λys hy=>by rw [I.list_inj hy hq];exact hx⟩,st',λb hb=>(hf b hb).1⟩⟩
 done:=by
  intro X hP hw hK hc i pins s σ H E I hf st hg;subst hP hw hK;obtain ⟨xs,hq,hx⟩:=hg;obtain ⟨its,rv,p,hz⟩:=I.list hq;obtain ⟨f0,f1,f2,f3,f4,f5⟩:=hf it (by simp);have hl:=rv.length
  exact wpAny_pyNext_list_end (I.ok.hd hc) st p.isList (by simp;lia) λh' eb=>⟨rfl,I.turned (t':=s.toks) (λb o hb e=>eb b o hb e) f0 f1 f3 f4 f5⟩
 self:=λ_ _ _ _ _ st h=>wpAny_pyIter_listiter st h
theorem R3 {P:Ah} {w:A1} {K:AA} {tg:Expr} (a it:AH):RU P w K tg (Itt K a) [it] it (λi h=>h.IsTupleIter it a i) where
 mem:=by simp
 obj:=λi h st b hb=>by
  have e:b=it:=by simpa using hb
  subst e;obtain ⟨o,e,c,d⟩:=st;exact ⟨o,e,λv z=>by rw [d] at z;cases z⟩
 keep:=λi h h' st k=>st.at λo e=>k it (by simp) o e
 item:=by
  intro X hP hw hK hc i pins s σ H E I hf st hg;subst hP hw hK;obtain ⟨xs,x,hq,hx⟩:=hg;obtain ⟨its,rv,p,hz⟩:=I.tuple hq;obtain ⟨u,hu,ru⟩:=rv.get hx;obtain ⟨f0,f1,f2,f3,f4,f5⟩:=hf it (by simp)
  refine wpAny_pyNext_tuple_item st (show s.heap.IsTuple a its.toArray from p) (x:=u) (by simpa using hu) λh' st' sb=>?_
  have I1:Inv X pins σ H { s with heap:=h' }:=I.turned (t':=s.toks) (λb o hb e=>(sb.2 b hb).trans e) f0 f1 f3 f4 f5;obtain ⟨o,e,c,d⟩:=id st';exact ⟨u,rfl,Xi (s:={ s with heap:=h' }) e c d (by decide) ⟨x,H,I1,ru,⟨rfl,λys hy=>by rw [I.tuple_inj hy hq];exact hx⟩,st',λb hb=>(hf b hb).1⟩⟩
 done:=by
  intro X hP hw hK hc i pins s σ H E I hf st hg;subst hP hw hK;obtain ⟨xs,hq,hx⟩:=hg;obtain ⟨its,rv,p,hz⟩:=I.tuple hq;obtain ⟨f0,f1,f2,f3,f4,f5⟩:=hf it (by simp);have hl:=rv.length
  exact wpAny_pyNext_tuple_end (I.ok.hd hc) st (show s.heap.IsTuple a its.toArray from p) (by simp;lia) λh' eb=>⟨rfl,I.turned (t':=s.toks) (λb o hb e=>eb b o hb e) f0 f1 f3 f4 f5⟩
 self:=λ_ _ _ _ _ st h=>wpAny_pyIter_tupleiter st h
theorem R4 {P:Ah} {w:A1} {K:AA} {tg:Expr} (it:AH) (lo:Int) (n:Nat):RU P w K tg (Itr lo n) [it] it (λi h=>IsRangeIter h it (lo+(i:Nat) * 1) ((n:Int) - (i:Nat)) 1) where
 mem:=by simp
 obj:=λi h st b hb=>by
  have e:b=it:=by simpa using hb
  subst e
  exact ⟨_,st,λv z=>by
   have z':S9 _=YK v:=z
   cases z'⟩
 keep:=λi h h' st k=>k it (by simp) _ st
 item:=by
  intro X hP hw hK hc i pins s σ H E I hf st hg;subst hP hw hK;obtain ⟨f0,f1,f2,f3,f4,f5⟩:=hf it (by simp);have W:=Walks.range (prog:=X.prog) (w:=X.w) (I.ok.hd hc) it lo 1 n
  refine W.item i s _ _ hg st λv h' tk hv st' kk=>?_
  obtain ⟨t,rfl⟩:=hv;have I1:Inv X pins σ H { s with heap:=h',toks:=tk }:=I.turned (λb o hb e=>kk b o (by simpa using hb) e) f0 f1 f3 f4 f5;refine ⟨_,rfl,Xi (s:={ s with heap:=h',toks:=tk }) (n:="range_iterator") st' rfl rfl (by decide) ⟨.int (lo+i),H,I1,⟨t,?_⟩,⟨rfl,rfl⟩,st',λb hb=>(hf b hb).1⟩⟩;rw [Int.mul_one]
 done:=by
  intro X hP hw hK hc i pins s σ H E I hf st hg;subst hP hw hK;obtain ⟨f0,f1,f2,f3,f4,f5⟩:=hf it (by simp)
  exact wpAny_pyNext_range_end (I.ok.hd hc) st (by have:n<=i:=hg;lia) λh' eb=>⟨rfl,I.turned (t':=s.toks) (λb o hb e=>eb b o hb e) f0 f1 f3 f4 f5⟩
 self:=λ_ _ _ _ _ st h=>wpAny_pyIter_rangeiter st h
section
variable {X:Cx} {tg:Expr}
def fo (K:AA) (tl:TE):TI:=λσ H R=>tl σ H λx H1=>∃a,x=.ref a/\(∃xs,SqL K H1 a xs)/\R (Itl K a) H1
def iTup (K:AA) (tl:TE):TI:=λσ H R=>tl σ H λx H1=>∃a,x=.ref a/\(∃xs,SqT K H1 a xs)/\R (Itt K a) H1
theorem ZL {l:Expr} {tl:TE} (hl:PE X l tl):PI X tg l (fo X.K tl):=by
 intro pins s σ H R I h
 refine thn (hl pins s σ H _ I h) λv s1 ⟨x,H1,I1,r1,q1⟩=>?_
 obtain ⟨a,e,⟨xs,hq⟩,q⟩:=q1;subst e;cases r1;obtain ⟨its,rv,p,hz⟩:=I1.list hq;refine dX p.isList ?_;refine ⟨s1.heap.objs.size,[s1.heap.objs.size],_,_,H1,rfl,I1.kept (t':=s1.toks) λb o e=>AI _ e,UW a _,⟨_,AX _ rfl,rfl,rfl⟩,λb hb=>?_,q⟩
 have e:b=s1.heap.objs.size:=by simpa using hb
 subst e;exact I1.fpOk (AO _) (I1.hok.fresh (AO _))
theorem bx {l:Expr} {tl:TE} (hl:PE X l tl):PI X tg l (iTup X.K tl):=by
 intro pins s σ H R I h
 refine thn (hl pins s σ H _ I h) λv s1 ⟨x,H1,I1,r1,q1⟩=>?_
 obtain ⟨a,e,⟨xs,hq⟩,q⟩:=q1;subst e;cases r1;obtain ⟨its,rv,p,hz⟩:=I1.tuple hq;refine E2 (show s1.heap.IsTuple a its.toArray from p) ?_;refine ⟨s1.heap.objs.size,[s1.heap.objs.size],_,_,H1,rfl,I1.kept (t':=s1.toks) λb o e=>AI _ e,R3 a _,⟨_,AX _ rfl,rfl,rfl⟩,λb hb=>?_,q⟩
 have e:b=s1.heap.objs.size:=by simpa using hb
 subst e;exact I1.fpOk (AO _) (I1.hok.fresh (AO _))
theorem Qs {pins:List (AH×Obj)} {σ:St} {H:Hp} {s:AD} {R:It->Hp->Prop} {E:AB->AD->Prop} {lo hi:Int} {t u v:Tok} {tk:Nat} (I:Inv X pins σ H s) (h1:-(2 ^ 62)<=lo) (h2:lo < 2 ^ 62) (h3:-(2 ^ 62)<=hi) (h4:hi < 2 ^ 62)
  (q:R (Itr lo (hi - lo).toNat) H):Ad (AT X.prog X.w) X.A (pyIter (.ref s.heap.objs.size)) (PIE X pins σ tg R) E { s with heap:=s.heap.push { cls:=.type "range",data:=.fields #[.int lo t,.int hi u,.int 1 v] },toks:=tk }:=by
 refine wpAny_pyIter_range (aP ..) (small_one h1 h2 h3 h4) ?_
 have I1:Inv X pins σ H { s with heap:=s.heap.push { cls:=.type "range",data:=.fields #[.int lo t,.int hi u,.int 1 v] },toks:=tk }:=I.kept λb o e=>AI _ e
 refine ⟨(s.heap.push { cls:=.type "range",data:=.fields #[.int lo t,.int hi u,.int 1 v] }).objs.size,[(s.heap.push { cls:=.type "range",data:=.fields #[.int lo t,.int hi u,.int 1 v] }).objs.size],_,_,H,rfl,
  I1.kept (t':=tk) λb o e=>AI _ e,R4 _ lo (hi - lo).toNat,?_,λb hb=>?_,q⟩
 ·have e1:lo+((0:Nat):Int) * 1=lo:=by simp
  have e2:(((hi - lo).toNat:Nat):Int) - ((0:Nat):Int)=CI lo hi 1:=by rw [rangeSize_one];split <;> lia
  show IsRangeIter _ _ (lo+((0:Nat):Int) * 1) ((((hi - lo).toNat:Nat):Int) - ((0:Nat):Int)) 1;rw [e1,e2];exact AX _ rfl
 ·have e:b=(s.heap.push { cls:=.type "range",data:=.fields #[.int lo t,.int hi u,.int 1 v] }).objs.size:=by simpa using hb
  subst e;exact I1.fpOk (AO _) (I1.hok.fresh (AO _))
def fk (ta:TA):TI:=λσ H R=>ta σ H λvs H1=>∃j:Int,vs=[.int j]/\-(2 ^ 62)<=j/\j < 2 ^ 62/\R (Itr 0 j.toNat) H1
def fj (ta:TA):TI:=λσ H R=>ta σ H λvs H1=>∃i j:Int,vs=[.int i,.int j]/\(-(2 ^ 62)<=i/\i < 2 ^ 62/\-(2 ^ 62)<=j/\j < 2 ^ 62)/\R (Itr i (j - i).toNat) H1
theorem Ul {a:Expr} {ta:TA} {p pos:Pos} (hg:Gl X "range") (hm:X.mg "range" = none) (ha:PA X [a] ta) (hs:AU [a] X.env=[(false,Bx a X.env)]:=by rfl):PI X tg (.Call (.Name "range" p) [a] [] pos) (fk ta):=by
 intro pins s σ H R I h;refine Call_ (Ju I hg hm ay (B1 (thn (ha pos pins s σ H _ I h) λus s1 ⟨vs,H1,I1,r1,q1⟩=>?_) hs rfl));obtain ⟨j,e,q1,q2,q⟩:=q1;subst e
 cases r1 with
 | cons r rr=>
  cases rr;obtain ⟨t,rfl⟩:=r;exact call_range_1 (Qs I1 (by lia) (by lia) q1 q2 (by simpa using q))
theorem Uk {a b:Expr} {ta:TA} {p pos:Pos} (hg:Gl X "range") (hm:X.mg "range" = none) (ha:PA X [a,b] ta) (hs:AU [a,b] X.env=[(false,Bx a X.env),(false,Bx b X.env)]:=by rfl) (hs2:AU [b] X.env=[(false,Bx b X.env)]:=by rfl) :
  PI X tg (.Call (.Name "range" p) [a,b] [] pos) (fj ta):=by
 intro pins s σ H R I h;refine Call_ (Ju I hg hm ay (B1 (thn (ha pos pins s σ H _ I h) λus s1 ⟨vs,H1,I1,r1,q1⟩=>?_) (by rw [hs,hs2]) (by rw [hs2];rfl)));obtain ⟨i,j,e,⟨q1,q2,q3,q4⟩,q⟩:=q1;subst e
 cases r1 with
 | cons r rr=>
  cases rr with
  | cons r' rr=>
   cases rr;obtain ⟨t,rfl⟩:=r;obtain ⟨t',rfl⟩:=r';exact call_range_2 (Qs I1 q1 q2 q3 q4 q)
def tFor (wi:TI) (g:TG) (tb:TS):TS:=λD σ H=>wi σ H λJ H1=>∃W:Nat->Nat->St->Hp->Prop,(∃m,W 0 m σ H1)/\∀i m σ H,W i m σ H ->
 (J.stop i H/\D.nx σ H)∨(J.go i H/\∃N:St->Hp->Prop,(∀σ' H',N σ' H'->∃m',m' < m/\W (i+1) m' σ' H')/\∀x H',J.yld i H x H'->g x σ H' λσ2 H2=>tb { D with nx:=N,ct:=N,bk:=D.nx } σ2 H2)
def M8 (fp:List AH) (h:BW):List (AH×Obj):=fp.filterMap λb=>(h.get? b).map λo=>(b,o)
theorem Ht {fp:List AH} {h:BW} {b:AH} {o:Obj} (hb:b∈fp) (e:h.get? b=some o):(b,o)∈M8 fp h:=Vg.mpr ⟨b,hb,by rw [e];rfl⟩
theorem Us {fp:List AH} {h:BW} {p:AH×Obj} (hp:p∈M8 fp h):p.1∈fp/\h.get? p.1=some p.2:=by
 obtain ⟨b,hb,e⟩:=Vg.mp hp
 cases q:h.get? b with
 | none=>rw [q] at e;cases e
 | some o=>
  rw [q] at e;have e':(b,o)=p:=Bc e;subst e';exact ⟨hb,q⟩
theorem Inv.pinned {pins:List (AH×Obj)} {σ:St} {H:Hp} {s:AD} {fp:List AH} (I:Inv X pins σ H s) (hf:∀b∈fp,J1 X pins H b) (ho:∀b∈fp,∃o,s.heap.get? b=some o/\∀v,o.data≠.cell v):Inv X (pins++M8 fp s.heap) σ H s:=
 I.pins_of λp hp=>(A2.mp hp).elim (λz=>I.pin p (A8 _ z)) λz=>by
  obtain ⟨hb,e⟩:=Us z;obtain ⟨f0,f1,f2,_⟩:=hf p.1 hb;obtain ⟨o,e',d⟩:=ho p.1 hb;rw [e] at e';cases e';exact ⟨e,f0,f1,f2,d⟩
theorem Inv.unpinned {pins pl:List (AH×Obj)} {σ:St} {H:Hp} {s:AD} (I:Inv X (pins++pl) σ H s):Inv X pins σ H s:=I.pins_of λp hp=>I.pin p (A8 _ (BJ _ hp))
theorem bv {iter:Expr} {body:List Cw} {wi:TI} {g:TG} {tb:TS} {pos:Pos} (hp:Lc (AT X.prog X.w) X.A X.env X.xe) (hc:X.calm=true) (hi:PI X tg iter wi) (hg:PG X tg g) (hb:PSs X body tb)
  (hs:∀x,D5 iter X.env x=pure x:=by intro _;rfl):PS X (.For tg iter body [] pos) (tFor wi g tb):=by
 intro pins s σ H D I h;refine wpAny_For (thn (hi pins s σ H _ I h) λv s1 h1=>thn h1 λitv s2 h2=>?_) hs;obtain ⟨it,fp,tn,J,H2,e,I2,T,st2,f2,W,⟨m0,w0⟩,turn⟩:=h2;subst e
 have stat:∀ {H':Hp},(∀b∈fp,H' b=none)->∀b∈fp,J1 X pins H' b:=λhn b hb=>⟨hn b hb,(f2 b hb).2⟩
 refine codeAny_forLoop_any (λn s'=>∃i σ' H',Inv X pins σ' H' s'/\tn i s'.heap/\(∀b∈fp,H' b=none)/\W i n σ' H') ?_ m0 ⟨0,σ,H2,I2,st2,λb hb=>(f2 b hb).1,w0⟩;rintro n s3 ⟨i,σ3,H3,I3,st3,fr3,w3⟩
 rcases turn i n σ3 H3 w3 with ⟨stop,qn⟩ | ⟨go,N,hN,step⟩
 ·refine Dq hp (thn (T.done X rfl rfl rfl hc i pins s3 σ3 H3 X.xe I3 (stat fr3) st3 stop) λr s4 ⟨hr,I4⟩=>?_)
  subst hr;exact J3 ⟨σ3,H3,I4,qn⟩
 ·refine Dq hp (thn (T.item X rfl rfl rfl hc i pins s3 σ3 H3 X.xe I3 (stat fr3) st3 go) λr s4 ⟨u,hr,h4⟩=>?_)
  subst hr;refine Dq hp (thn h4 λ_ s5 ⟨x,H5,I5,r5,y5,st5,fr5⟩=>?_);have I5':=I5.pinned (stat fr5) (T.obj _ _ st5);refine Dq hp (thn (hg _ s5 σ3 H5 x u _ I5' r5 (step x H5 y5)) λ_ s6 ⟨σ6,H6,I6,q6⟩=>?_);refine Dq hp (thn (hb _ s6 σ6 H6 _ I6 q6) λf s7 q7=>?_)
  have Vb:∀ {σ7:St} {H7:Hp},Inv X (pins++M8 fp s5.heap) σ7 H7 s7->N σ7 H7->∃m,m < n/\∃i σ' H',Inv X pins σ' H' s7/\tn i s7.heap/\(∀b∈fp,H' b=none)/\W i m σ' H':=λ{σ7 H7} I7 n7=>by
   obtain ⟨m',hm,w7⟩:=hN σ7 H7 n7;refine ⟨m',hm,i+1,σ7,H7,I7.unpinned,T.keep _ _ _ st5 λb hb o e=>(I7.pin (b,o) (A8 _ (A8 _ (Ht hb e)))).1,λb hb=>?_,w7⟩;obtain ⟨o,e,d⟩:=T.obj _ _ st5 b hb;exact (I7.pin (b,o) (A8 _ (A8 _ (Ht hb e)))).2.1
  cases f with
  | next=>obtain ⟨σ7,H7,I7,n7⟩:=q7;exact Vb I7 n7
  | cont=>obtain ⟨σ7,H7,I7,n7⟩:=q7;exact Vb I7 n7
  | brk=>obtain ⟨σ7,H7,I7,q7⟩:=q7;exact ⟨σ7,H7,I7.unpinned,q7⟩
  | ret v=>obtain ⟨x7,σ7,H7,I7,r7,q7⟩:=q7;exact ⟨x7,σ7,H7,I7.unpinned,r7,q7⟩
end
abbrev R2:=V->V->Hp->VK->Prop
def OpR (X:Cx) (f:AB->AB->Sem AB) (r:R2):Prop:=
 ∀(pins:List (AH×Obj)) (s:AD) (σ:St) (H:Hp) (x y:V) (v u:AB) (Q:VK),Inv X pins σ H s->RelV x v->RelV y u->r x y H Q ->
  Ad (AT X.prog X.w) X.A (f v u) (EP X pins σ Q) X.xe s
def UnR (X:Cx) (f:AB->Sem AB) (r:V->Hp->VK->Prop):Prop:=
 ∀(pins:List (AH×Obj)) (s:AD) (σ:St) (H:Hp) (x:V) (v:AB) (Q:VK),Inv X pins σ H s->RelV x v->r x H Q ->
  Ad (AT X.prog X.w) X.A (f v) (EP X pins σ Q) X.xe s
def IP (X:Cx) (f:AB) (r:List V->Hp->VK->Prop):Prop:=
 ∀(pins:List (AH×Obj)) (s:AD) (σ:St) (H:Hp) (xs:List V) (us:List AB) (Q:VK),Inv X pins σ H s->Bh xs us->r xs H Q ->
  Ad (AT X.prog X.w) X.A (call f us) (EP X pins σ Q) X.xe s
def TruR (X:Cx) (r:V->Hp->(Bool->Hp->Prop)->Prop):Prop:=
 ∀(pins:List (AH×Obj)) (s:AD) (σ:St) (H:Hp) (x:V) (v:AB) (Q:Bool->Hp->Prop),Inv X pins σ H s->RelV x v->r x H Q ->
  Ad (AT X.prog X.w) X.A (au v) (TP X pins σ Q) X.xe s
def tOp (r:R2) (ta tb:TE):TE:=λσ H Q=>ta σ H λx H1=>tb σ H1 λy H2=>r x y H2 Q
def tUn (r:V->Hp->VK->Prop) (ta:TE):TE:=λσ H Q=>ta σ H λx H1=>r x H1 Q
def rI (C:Int->Int->Prop) (g:Int->Int->V):R2:=λx y H Q=>∃i j,x=.int i/\y=.int j/\C i j/\Q (g i j) H
def rI0 (g:Int->Int->V):R2:=λx y H Q=>∃i j,x=.int i/\y=.int j/\Q (g i j) H
def rU (g:Int->V):V->Hp->VK->Prop:=λx H Q=>∃i,x=.int i/\Q (g i) H
section
variable {X:Cx} {a b c:Expr} {ta tb tc:TE} {pos:Pos}
theorem dN (ha:PE X a ta) (hb:PE X b tb) {pins:List (AH×Obj)} {s:AD} {σ:St} {H:Hp} {R:V->V->Hp->Prop} (I:Inv X pins σ H s)
  (h:ta σ H λx H1=>tb σ H1 λy H2=>R x y H2) {Q:AB->AD->Prop} {f:AB->AB->Sem AB}
  (hf:∀v u s2 x y H2,Inv X pins σ H2 s2->RelV x v->RelV y u->R x y H2->Ad (AT X.prog X.w) X.A (f v u) Q X.xe s2) :
  Ad (AT X.prog X.w) X.A (Bx a X.env) (λv s₁=>Ad (AT X.prog X.w) X.A (Bx b X.env) (λu s₂=>Ad (AT X.prog X.w) X.A (f v u) Q X.xe s₂) X.xe s₁) X.xe s:=by
 refine thn (ha pins s σ H _ I h) λv s1 ⟨x,H1,I1,r1,q1⟩=>?_
 refine thn (hb pins s1 σ H1 _ I1 q1) λu s2 ⟨y,H2,I2,r2,q2⟩=>?_
 exact hf v u s2 x y H2 I2 r1 r2 q2
theorem fE {op:Operator} {r:R2} (ho:OpR X (Cv op) r) (ha:PE X a ta) (hb:PE X b tb):PE X (.BinOp a op b pos) (tOp r ta tb):=by
 intro pins s σ H Q I h;exact wpAny_BinOp (dN ha hb I h λv u s2 x y H2 I2 rx ry q=>ho pins s2 σ H2 x y v u Q I2 rx ry q)
theorem fD {op:UnaryOp} {r:V->Hp->VK->Prop} (ho:UnR X (unaryOp op) r) (ha:PE X a ta):PE X (.UnaryOp op a pos) (tUn r ta):=by
 intro pins s σ H Q I h;exact UnaryOp_ (thn (ha pins s σ H _ I h) λv s1 ⟨x,H1,I1,r1,q1⟩=>ho pins s1 σ H1 x v Q I1 r1 q1)
theorem opI {f:AB->AB->Sem AB} {C:Int->Int->Prop} {g:Int->Int->Int}
  (rule:∀(i j:Int) (t u:Tok) (s:AD) (Q:AB->AD->Prop) (E:AB->AD->Prop),C i j->Q (.int (g i j) s.toks) { s with toks:=s.toks+1 }->Ad (AT X.prog X.w) X.A (f (.int i t) (.int j u)) Q E s) :
  OpR X f (rI C λi j=>.int (g i j)):=by
 intro pins s σ H x y v u Q I rx ry h;obtain ⟨i,j,rfl,rfl,hc,q⟩:=h;obtain ⟨t,rfl⟩:=rx;obtain ⟨t',rfl⟩:=ry;exact rule i j t t' s _ _ hc ⟨.int (g i j),H,I.tok _,⟨_,rfl⟩,q⟩
theorem fO {f:AB->AB->Sem AB} {g:Int->Int->Int}
  (rule:∀(i j:Int) (t u:Tok) (s:AD) (Q:AB->AD->Prop) (E:AB->AD->Prop),Q (.int (g i j) s.toks) { s with toks:=s.toks+1 }->Ad (AT X.prog X.w) X.A (f (.int i t) (.int j u)) Q E s) :
  OpR X f (rI0 λi j=>.int (g i j)):=by
 intro pins s σ H x y v u Q I rx ry h;obtain ⟨i,j,rfl,rfl,q⟩:=h;obtain ⟨t,rfl⟩:=rx;obtain ⟨t',rfl⟩:=ry;exact rule i j t t' s _ _ ⟨.int (g i j),H,I.tok _,⟨_,rfl⟩,q⟩
theorem Zd {f:AB->AB->Sem AB} {g:Int->Int->Bool}
  (rule:∀(i j:Int) (t u:Tok) (s:AD) (Q:AB->AD->Prop) (E:AB->AD->Prop),Q (.bool (g i j)) s->Ad (AT X.prog X.w) X.A (f (.int i t) (.int j u)) Q E s) :
  OpR X f (rI0 λi j=>.bl (g i j)):=by
 intro pins s σ H x y v u Q I rx ry h;obtain ⟨i,j,rfl,rfl,q⟩:=h;obtain ⟨t,rfl⟩:=rx;obtain ⟨t',rfl⟩:=ry;exact rule i j t t' s _ _ ⟨.bl (g i j),H,I,rfl,q⟩
def YD (i j:Int):Prop:=0 < j/\j < 1073741824
def aK (i j:Int):Prop:=0<=j/\j<=1000000/\i.natAbs < 2 ^ 64
def VX (i j:Int):Prop:=(-(2 ^ 64) < i/\i < 2 ^ 64)∨(-(2 ^ 64) < j/\j < 2 ^ 64)
theorem VX.ok {i j:Int} (h:VX i j):IntMulOk i j:=by
 rcases h with ⟨h1,h2⟩ | ⟨h1,h2⟩
 ·exact .of_left (intBits_le_64 h1 h2)
 ·exact .of_right (intBits_le_64 h1 h2)
theorem cS:OpR X (Cv .Add) (rI0 λi j=>.int (i+j)):=fO λ_ _ _ _ _ _ _ q=>add_int q
theorem cM:OpR X (Cv .Sub) (rI0 λi j=>.int (i - j)):=fO λ_ _ _ _ _ _ _ q=>sub_int q
theorem cO:OpR X (Cv .Mult) (rI VX λi j=>.int (i * j)):=opI λ_ _ _ _ _ _ _ hc q=>mul_int q hc.ok
theorem Za:OpR X (Cv .FloorDiv) (rI YD λi j=>.int (i / j)):=opI λi j _ _ _ _ _ hc q=>by
 have h1:(0:Int) < j:=hc.1;have h2:j < 1073741824:=hc.2;exact floordiv_int (by lia) (by rw [Int.fdiv_eq_ediv_of_nonneg i (by lia)];exact q) (.inl (PyProof.noPylong_small (by omega)))
theorem cP:OpR X (Cv .Mod) (rI (λ_ j=>0 < j) λi j=>.int (i % j)):=opI λi j _ _ _ _ _ hc q=>by
 have h1:(0:Int) < j:=hc;exact mod_int' (by lia) (by rw [Int.fmod_eq_emod_of_nonneg i (by lia)];exact q)
theorem cN:OpR X (Cv .Pow) (rI aK λi j=>.int (i ^ j.toNat)):=opI λ_ _ _ _ _ _ _ hc q=>pow_int_small hc.1 hc.2.1 hc.2.2 q
theorem unI {f:AB->Sem AB} {g:Int->Int}
  (rule:∀(i:Int) (t:Tok) (s:AD) (Q:AB->AD->Prop) (E:AB->AD->Prop),Q (.int (g i) s.toks) { s with toks:=s.toks+1 }->Ad (AT X.prog X.w) X.A (f (.int i t)) Q E s) :
  UnR X f (rU λi=>.int (g i)):=by
 intro pins s σ H x v Q I rx h;obtain ⟨i,rfl,q⟩:=h;obtain ⟨t,rfl⟩:=rx;exact rule i t s _ _ ⟨.int (g i),H,I.tok _,⟨_,rfl⟩,q⟩
theorem bT:UnR X (unaryOp .USub) (rU λi=>.int (-i)):=unI λ_ _ _ _ _ q=>neg_int q
end
section
variable {X:Cx} {a b c:Expr} {ta tb tc:TE} {pos:Pos}
theorem dF {pins:List (AH×Obj)} {σ:St} {H:Hp} {s:AD} {Q:VK} {k k':Bool} (I:Inv X pins σ H s) (q:Q (.bl k) H) (e:k=k'):EP X pins σ Q (.bool k') s:=by
 subst e;exact ⟨.bl k,H,I,rfl,q⟩
theorem fK:OpR X (Bb .Lt) (rI0 λi j=>.bl (decide (i < j))):=Zd λ_ _ _ _ _ _ _ q=>lt_int q
theorem fL:OpR X (Bb .LtE) (rI0 λi j=>.bl (decide (i<=j))):=Zd λ_ _ _ _ _ _ _ q=>le_int q
theorem fM:OpR X (Bb .Gt) (rI0 λi j=>.bl (decide (j < i))):=Zd λ_ _ _ _ _ _ _ q=>gt_int q
theorem fN:OpR X (Bb .GtE) (rI0 λi j=>.bl (decide (j<=i))):=Zd λ_ _ _ _ _ _ _ q=>ge_int q
theorem cQ:OpR X (Bb .Is) (λx y H Q=>y=.non/\Q (.bl (decide (x=.non))) H):=by
 intro pins s σ H x y v u Q I rx ry h;obtain ⟨rfl,q⟩:=h;cases ry;refine is_none_gen (dF I q ?_)
 cases x <;> first
  | (cases rx;rfl)
  | (obtain ⟨t,rfl⟩:=rx;rfl)
theorem OpR.or {f:AB->AB->Sem AB} {r r':R2} (h:OpR X f r) (h':OpR X f r'):OpR X f (λx y H Q=>r x y H Q∨r' x y H Q):=by
 intro pins s σ H x y v u Q I rx ry q
 rcases q with q | q
 ·exact h pins s σ H x y v u Q I rx ry q
 ·exact h' pins s σ H x y v u Q I rx ry q
theorem Dl (b:Expr) {op:Rv} (h:op≠.In:=by decide) (h2:op≠.NotIn:=by decide):CW op b=false:=by
 have e1:(op==Rv.In)=false:=by cases op <;> first | rfl | exact zX rfl h
 have e2:(op==Rv.NotIn)=false:=by cases op <;> first | rfl | exact zX rfl h2
 cases b <;> simp [CW,e1,e2]
theorem ZU {op:Rv} {r:R2} (ho:OpR X (Bb op) r) (ha:PE X a ta) (hb:PE X b tb) (hm:CW op b=false):PE X (.Compare a [op] [b] pos) (tOp r ta tb):=by
 intro pins s σ H Q I h;exact wpAny_Compare1 (dN ha hb I h λv u s2 x y H2 I2 rx ry q=>ho pins s2 σ H2 x y v u Q I2 rx ry q) hm
def aV (t:TE):TT:=λσ H Q=>t σ H λx H'=>∃k,x=.bl k/\Q k H'
theorem ZD {op:Rv} {r:R2} (ho:OpR X (Bb op) r) (ha:PE X a ta) (hb:PE X b tb) (hm:CW op b=false):PT X (.Compare a [op] [b] pos) (aV (tOp r ta tb)):=by
 intro pins s σ H Q I h
 refine YE (thn (ha pins s σ H _ I h) λv s1 ⟨x,H1,I1,r1,q1⟩=>thn (hb pins s1 σ H1 _ I1 q1) λu s2 ⟨y,H2,I2,r2,q2⟩=>
  thn (ho pins s2 σ H2 x y v u _ I2 r1 r2 q2) λc s3 ⟨z,H3,I3,r3,k,e,q3⟩=>?_) hm
 subst e;cases r3;exact Ck ⟨H3,I3,q3⟩
def WO (r r':R2) (ta tb tc:TE):TE:=λσ H Q=>ta σ H λx H1=>tb σ H1 λy H2=>r x y H2 λz H3=>∃k,z=.bl k /\
 (if k=true then tc σ H3 λw' H4=>r' y w' H4 Q else Q (.bl false) H3)
theorem Wl {op op':Rv} {r r':R2} (ho:OpR X (Bb op) r) (ho':OpR X (Bb op') r') (ha:PE X a ta) (hb:PE X b tb) (hc:PE X c tc)
  (hm:lastMarks [op,op'] [b,c]=false:=by with_unfolding_all rfl):PT X (.Compare a [op,op'] [b,c] pos) (aV (WO r r' ta tb tc)):=by
 intro pins s σ H Q I h
 refine isTrue_chain (thn (ha pins s σ H _ I h) λv s1 ⟨x,H1,I1,r1,q1⟩=>test_link (thn (hb pins s1 σ H1 _ I1 q1) λu s2 ⟨y,H2,I2,r2,q2⟩=>
  thn (ho pins s2 σ H2 x y v u _ I2 r1 r2 q2) λd s3 ⟨z,H3,I3,r3,k,e,q3⟩=>?_)) hm
 subst e;cases r3;refine Ck ?_
 cases k with
 | false=>
  obtain ⟨k',e',q'⟩:=q3;cases e';exact ite_ff ⟨H3,I3,q'⟩
 | true=>
  refine ite_tt (test_last (thn (hc pins s3 σ H3 _ I3 q3) λw' s4 ⟨z',H4,I4,r4,q4⟩=>thn (ho' pins s4 σ H4 y z' u w' _ I4 r2 r4 q4) λd' s5 ⟨z2,H5,I5,r5,k2,e2,q5⟩=>?_));subst e2;cases r5;exact Ck ⟨H5,I5,q5⟩
def dP (K:AA) (x:V) (H:Hp) (k:Bool):Prop:=
 match x with
 | .non=>k=false
 | .bl b=>k=b
 | .int i=>k=(i != 0)
 | .str y=>y.length<=sizeLine/\k=((y.length:Int) != 0)
 | .byt y=>y.size<=sizeLine/\k=((y.size:Int) != 0)
 | .ref p=>(∃xs,SqL K H p xs/\k = !xs.isEmpty)∨(∃xs,SqT K H p xs/\k = !xs.isEmpty)∨∃kvs,H p=some (.dK kvs)/\k = !kvs.isEmpty
 | _=>False
theorem Sa {κ:Type} {kvs:List (κ×V)} {vs:List (κ×AB)} (r:KV kvs vs):(!vs.isEmpty) = !kvs.isEmpty:=by
 cases r <;> rfl
theorem NV {xs:List V} {its:List AB} (r:Bh xs its):(!its.toArray.isEmpty) = !xs.isEmpty:=by
 cases r <;> simp
theorem Pj:(sizeLine:Nat) < 2 ^ 63:=by rw [Kw];decide
theorem bV:TruR X (λx H Q=>∃k,dP X.K x H k/\Q k H):=by
 intro pins s σ H x v Q I rx h;obtain ⟨k,e,q⟩:=h;have hl:=Pj;have hs:sizeLine=16777216:=Kw
 cases x with
 | non=>
  cases rx;have e':k=false:=e;subst e';exact truthy_none ⟨H,I,q⟩
 | bl b=>
  cases rx;have e':k=b:=e;subst e';exact Ck ⟨H,I,q⟩
 | int i=>
  obtain ⟨t,rfl⟩:=rx;have e':k=(i != 0):=e;subst e';exact PySem.P.truthy_int ⟨H,I,q⟩
 | str y=>
  obtain ⟨t,rfl⟩:=rx;obtain ⟨hy,e'⟩:y.length<=sizeLine/\k=((y.length:Int) != 0):=e;subst e';exact PySem.P.truthy_str (by lia) ⟨H,I.tok _,q⟩
 | byt y=>
  obtain ⟨t,rfl⟩:=rx;obtain ⟨hy,e'⟩:y.size<=sizeLine/\k=((y.size:Int) != 0):=e;subst e';exact PySem.W.truthy_bytes (by lia) ⟨H,I.tok _,q⟩
 | ref p=>
  cases rx
  have e':(∃xs,SqL X.K H p xs/\k = !xs.isEmpty)∨(∃xs,SqT X.K H p xs/\k = !xs.isEmpty)∨∃kvs,H p=some (.dK kvs)/\k = !kvs.isEmpty:=e
  rcases e' with ⟨xs,hx,e'⟩ | ⟨xs,hx,e'⟩ | ⟨kvs,hx,e'⟩
  ·subst e'
   obtain ⟨its,r,pl,hz⟩:=I.list hx;have hlen:=r.length;exact wpAny_truthy_list pl.isList (by simp only [Ai];lia) ⟨H,I.tok _,by rw [NV r];exact q⟩
  ·subst e'
   obtain ⟨its,r,pl,hz⟩:=I.tuple hx;have hlen:=r.length;exact truthy_tuple pl (by simp only [Ai];lia) ⟨H,I.tok _,by rw [NV r];exact q⟩
  ·subst e'
   obtain ⟨hz,hS,vs,r,m⟩:kvs.length<=sizeLine/\(p==C3)=false/\∃vs,KV kvs vs/\s.heap.DictOf (C1 X.prog X.w) p vs:=I.hok p _ hx
   have hlen:kvs.length=vs.length:=DA r;exact wpAny_truthy_dict hS m (by lia) ⟨H,I.tok _,by rw [Sa r];exact q⟩
 | _=>exact (show False from e).elim
theorem Wi (ha:PE X a ta) (he:∀whole,Rg a X.env whole=(do let v <-whole;da a.pos;de [v] (au v))) :
  PT X a (λσ H Q=>ta σ H λx H'=>∃k,dP X.K x H' k/\Q k H'):=by
 intro pins s σ H Q I h;exact isTrue_plain (thn (ha pins s σ H _ I h) λv s1 ⟨x,H1,I1,r1,q1⟩=>bV pins s1 σ H1 x v Q I1 r1 q1) (he _)
theorem vals1 {x:V} {us:List AB} (r:Bh [x] us):∃u,us=[u]/\RelV x u:=by
 cases r with
 | cons r1 r2=>cases r2;exact ⟨_,rfl,r1⟩
theorem vals2 {x y:V} {us:List AB} (r:Bh [x,y] us):∃u w',us=[u,w']/\RelV x u/\RelV y w':=by
 cases r with
 | cons r1 r2=>
  cases r2 with
  | cons r3 r4=>cases r4;exact ⟨_,_,rfl,r1,r3⟩
theorem VR (hc:X.calm=true):IP X (.builtin "max") (λxs H Q=>∃i j,xs=[.int i,.int j]/\Q (.int (if j > i then j else i)) H):=by
 intro pins s σ H xs us Q I r h;obtain ⟨i,j,rfl,q⟩:=h;obtain ⟨u,w',rfl,⟨t,rfl⟩,⟨t',rfl⟩⟩:=vals2 r
 refine max_two_ints (I.ok.hd hc) λh' tk k=>⟨_,H,I.kept k,?_,q⟩
 by_cases hj:j > i
 ·rw [qX hj,qX hj];exact ⟨_,rfl⟩
 ·rw [qY hj,qY hj];exact ⟨_,rfl⟩
theorem VP (hc:X.calm=true):IP X (.builtin "min") (λxs H Q=>∃i j,xs=[.int i,.int j]/\Q (.int (if j < i then j else i)) H):=by
 intro pins s σ H xs us Q I r h;obtain ⟨i,j,rfl,q⟩:=h;obtain ⟨u,w',rfl,⟨t,rfl⟩,⟨t',rfl⟩⟩:=vals2 r
 refine min_two_ints (I.ok.hd hc) λh' tk k=>⟨_,H,I.kept k,?_,q⟩
 by_cases hj:j < i
 ·rw [qX hj,qX hj];exact ⟨_,rfl⟩
 ·rw [qY hj,qY hj];exact ⟨_,rfl⟩
end
structure VW (h:BW) (x dx C:AH) (mA:Str->Option AB):Prop where
 obj:h.get? x=some (Cz C dx)
 ns:h.Ns1 dx mA
 ne:dx≠x
theorem Uv {h:BW} {dx:AH} {mA:Str->Option AB} (n:h.Ns1 dx mA):∃od,h.get? dx=some od/\∀name,Mg name od=some (mA name):=by
 obtain ⟨o,es,ep,ho,hd,hk,_,hm⟩:=n;refine ⟨o,ho,λname=>?_⟩;have e:=hm name;unfold nsFind findBy at e;rw [<-Array.find?_toList] at e;unfold Mg;rw [hd];dsimp only;split
 ·rename_i y q
  rw [q] at e;exact congrArg some e
 ·rename_i q
  rw [q] at e
  have a:es.toList.any (·.refKey)=false:=by
   rw [List.any_eq_false];intro y hy;obtain ⟨z,t,hkey⟩:=hk y (BI.mp hy);simp [Lh.refKey,hkey]
  have a':¬es.toList.any (·.refKey)=true:=by rw [a];exact AS
  rw [qY a'];exact congrArg some e
theorem VW.look {h:BW} {x dx C:AH} {mA:Str->Option AB} (I:VW h x dx C mA):∃od,PySem.W.InstAt h x (Cz C dx) C (some od)/\∀name,Mg name od=some (mA name):=
 let ⟨od,ho,hl⟩:=Uv I.ns
 ⟨od,⟨I.obj,rfl,rfl,ho⟩,hl⟩
section
variable {prog:Ah} {w:A1} {A:Aw} {E:AB->AD->Prop} {s:AD} {K:AA} {x dx C f:AH} {mA:Str->Option AB} {name:Str} {v:AB}
theorem Zw {expr:Bool} {Q:AB->AD->Prop} (X:K.In s.heap) (I:VW s.heap x dx C mA) (hg:Ky K C name=true) (hh:KB K C=true)
  (ha:By K (.ref C) name=some none) (hv:mA name=some v) (hv':UN v=true) (h:Q v { s with toks:=s.toks+1 }) :
  Ad (AT prog w) A (getAttr (.ref x) name expr) Q E s:=by
 obtain ⟨od,J,hl⟩:=I.look;exact PySem.W.get_value X J (PySem.W.plainGet_of hg).1 (PySem.W.findObj_own hh ha rfl (by rw [hl,hv])) hv' h
theorem Y1 {ns:List Str} {Q:Unit->AD->Prop} (X:K.In s.heap) (I:VW s.heap x dx C mA)
  (hs:By K (.ref C) "__setattr__" = some (some (.builtin "object.__setattr__"))) (hp:Sv K C=true) (ht:L0 K C name=some none) (hh:KB K C=true)
  (hw:QM mA ns) (hsz:ns.length<=sizeLine)
  (h:∀h',VW h' x dx C (λy=>if y=name then some v else mA y)->DT dx s.heap h'->Q () { s with heap:=h',toks:=s.toks+2 }) :
  Ad (AT prog w) A (setAttr (.ref x) name v) Q E s:=by
 obtain ⟨od,J,hl⟩:=I.look;refine PySem.W.set_plain X J hs (PySem.W.osa_open (s:={ s with toks:=s.toks+1 }) (r:=none) X J hp ht λb=>?_);obtain ⟨cd,hc,hd'⟩:=PySem.W.any_some hh;have hx:s.heap.get? x=some ⟨.ref C,some dx,.plain,#[]⟩:=I.obj;refine AC (AN (AC (AC (wpAny_loadPart hx (AC (d6 (s:={ s with toks:=s.toks+1 }) (PySem.W.looks_clsIn X hc) ?_))))));rw [hd'];refine AN (a:=some dx) (AC (AN (AC ?_)))
 refine wpAny_nsSet1 (s:={ s with toks:=s.toks+1 }) I.ns λh' hn2 hs2=>?_
 obtain ⟨oD,esD,epD,hoD,hdD,hcD⟩:=hn2.count (gP name v hw);refine AC (wpAny_lookBehind hoD (by rw [hdD];exact pastItsLine_dict (Ao hcD (by rw [Au];lia))) ?_);exact AN (h _ ⟨(hs2.2 _ (Bm I.ne)).trans I.obj,hn2,I.ne⟩ hs2)
theorem XH {R:Vn->AD->Prop} {vs:List AB} {kw:List (Str×AB)} (X:K.In s.heap) (hm:Vc K C=true)
  (hi:By K (.ref C) "__init__" = some (some (.ref f))) (hf:PySem.W.typeIn K (.ref f)=some (.type "function"))
  (h:HQ (AT prog w) (A.under (.builtin "type.__call__" ⟨.ref C :: vs,kw⟩)) (.call (.ref f) ⟨.ref (s.heap.objs.size+1) :: vs,kw⟩) (PySem.W.InitBack (s.heap.objs.size+1) R)
   { s with heap:=(s.heap.push CA).push (Cz C s.heap.objs.size) }) :
  HQ (AT prog w) A (.call (.ref C) ⟨vs,kw⟩) R s:=by
 obtain ⟨hh,g,d,t,os⟩:=s;exact PySem.W.make_core (PySem.W.makes_of X hm) (PySem.W.looks_findIn X hi) (λself=>PySem.W.bind_fn X self hf) (.inl rfl) h
end
def putF (f:Str) (v:V):List (Str×V)->List (Str×V)
 | []=>[(f,v)]
 | (g,x) :: r=>if g=f then (g,v) :: r else (g,x) :: putF f v r
theorem Lq (f g:Str) (v:V):∀fs:List (Str×V),(putF f v fs).lookup g=if g=f then some v else fs.lookup g
 | []=>by
  show Fh g [(f,v)]=_
  by_cases h:g=f
  ·have hb:(g==f)=true:=beq_iff_eq.mpr h
   simp only [Fh,hb,qX h]
  ·have hb:(g==f)=false:=beq_eq_false_iff_ne.mpr h
   simp only [Fh,hb,qY h]
 | (k,x) :: r=>by
  have ih:=Lq f g v r;rw [show putF f v ((k,x) :: r)=(if k=f then (k,v) :: r else (k,x) :: putF f v r) from rfl]
  by_cases hk:k=f
  ·rw [qX hk]
   by_cases h:g=k
   ·have hb:(g==k)=true:=beq_iff_eq.mpr h
    simp only [Fh,hb,qX (h.trans hk)]
   ·have hb:(g==k)=false:=beq_eq_false_iff_ne.mpr h
    simp only [Fh,hb,qY (λe:g=f=>h (e.trans hk.symm))]
  ·rw [qY hk]
   by_cases h:g=k
   ·have hb:(g==k)=true:=beq_iff_eq.mpr h
    simp only [Fh,hb,qY (λe:g=f=>hk (h.symm.trans e))]
   ·have hb:(g==k)=false:=beq_eq_false_iff_ne.mpr h
    simp only [Fh,hb];exact ih
theorem LO (f:Str) (v:V):∀fs:List (Str×V),f∈(putF f v fs).map (·.1)/\∀g,g∈fs.map (·.1)->g∈(putF f v fs).map (·.1)
 | []=>⟨by simp [putF],λg h=>by simp at h⟩
 | (k,x) :: r=>by
  obtain ⟨i1,i2⟩:=LO f v r;rw [show putF f v ((k,x) :: r)=(if k=f then (k,v) :: r else (k,x) :: putF f v r) from rfl]
  by_cases hk:k=f
  ·rw [qX hk]
   subst hk;exact ⟨by simp,λg h=>by simpa using h⟩
  ·rw [qY hk]
   refine ⟨?_,λg h=>?_⟩
   ·rw [Ap]
    exact Aa _ i1
   ·rw [Ap] at h ⊢
    rcases A6.mp h with e | e
    ·exact A6.mpr (.inl e)
    ·exact Aa _ (i2 g e)
theorem Lr (f:Str) (v:V):∀fs:List (Str×V),(putF f v fs).length<=fs.length+1
 | []=>by simp [putF]
 | (k,x) :: r=>by
  have ih:=Lr f v r;rw [show putF f v ((k,x) :: r)=(if k=f then (k,v) :: r else (k,x) :: putF f v r) from rfl]
  by_cases hk:k=f
  ·rw [qX hk,Au,Au];lia
  ·rw [qY hk,Au,Au];lia
theorem La.some_of {v:V} {o:Option AB} (r:La (some v) o):∃u,o=some u/\RelV v u:=by
 cases o with
 | none=>exact (show False from r).elim
 | some u=>exact ⟨u,rfl,r⟩
theorem U4 {v:V} {u:AB} (r:RelV v u):UN u=true:=by
 cases v with
 | non=>cases (show u=BL from r);rfl
 | bl b=>cases (show u=N4 b from r);rfl
 | int i=>obtain ⟨t,e⟩:=(show ∃t,u=Lx i t from r);cases e;rfl
 | str x=>obtain ⟨t,e⟩:=(show ∃t,u=Lw x t from r);cases e;rfl
 | byt b=>obtain ⟨t,e⟩:=(show ∃t,u=dh b t from r);cases e;rfl
 | flt b=>obtain ⟨t,e⟩:=(show ∃t,u=Ro b t from r);cases e;rfl
 | ref a=>cases (show u=Ax a from r);rfl
 | ty n=>cases (show u=EY n from r);rfl
section
variable {P:Ah} {w:A1} {H H':Hp} {h h':BW} {a C dx:AH} {fs fs':List (Str×V)}
theorem Pl (hok:HOk P w H h) (e:H a=some (.ins C dx fs)):∃mA,VW h a dx C mA/\(∀f,La (fs.lookup f) (mA f))/\QM mA (fs.map (·.1))/\fs.length<=1000/\H dx=some (.own a):=by
 obtain ⟨d,z,ne,ob,mA,n,r,q⟩:=(show CJ P w H h a (.ins C dx fs) from hok a _ e);exact ⟨mA,⟨ob,n,ne⟩,r,q,z,d⟩
end
structure Cls (K:AA) (C:AH):Prop where
 pg:Ky K C RX=true
 hd:KB K C=true
 po:Sv K C=true
 sa:By K (.ref C) "__setattr__" = some (some (.builtin "object.__setattr__"))
theorem Cls.get {K:AA} {C:AH} (c:Cls K C) (f:Str):Ky K C f=true:=c.pg
def Gn (K:AA) (C:AH) (f:Str):Prop:=By K (.ref C) f=some none
theorem Gn.taker {K:AA} {C:AH} {f:Str} (n:Gn K C f):L0 K C f=some none:=by
 unfold L0;rw [show By K (.ref C) f=some none from n];rfl
section
variable {X:Cx} {pins:List (AH×Obj)} {σ:St} {H:Hp} {s:AD} {a C dx:AH} {fs:List (Str×V)} {f:Str} {v:V} {A:Aw} {E:AB->AD->Prop}
theorem Sf {b:Bool} {Q:AB->AD->Prop} (I:Inv X pins σ H s) (e:H a=some (.ins C dx fs)) (c:Cls X.K C) (n:Gn X.K C f) (l:fs.lookup f=some v)
  (h:∀u s',Inv X pins σ H s'->RelV v u->Q u s'):Ad (AT X.prog X.w) A (getAttr (.ref a) f b) Q E s:=by
 obtain ⟨mA,O,r,_,_,_⟩:=Pl I.hok e;obtain ⟨u,hu,ru⟩:=La.some_of (v:=v) (o:=mA f) (by rw [<-l];exact r f);exact Zw I.kIn O (c.get f) c.hd n hu (U4 ru) (h u _ (I.tok _) ru)
theorem SE {y:V} {u:AB} {Q:Unit->AD->Prop} (I:Inv X pins σ H s) (e:H a=some (.ins C dx fs)) (c:Cls X.K C) (n:Gn X.K C f) (hl:fs.length < 1000) (ry:RelV y u)
  (h:∀s',Inv X pins σ (upd H a (.ins C dx (putF f y fs))) s'->Q () s'):Ad (AT X.prog X.w) A (setAttr (.ref a) f u) Q E s:=by
 obtain ⟨mA,O,r,wi,_,ho⟩:=Pl I.hok e
 have hz:(fs.map (·.1)).length<=sizeLine:=by rw [AF,Kw];lia
 refine Y1 I.kIn O c.sa c.po n.taker c.hd wi hz λh' O' sb=>h _ ?_
 have hd:∃o,h'.get? dx=some o:=let ⟨o,_,_,e',_⟩:=O'.ns;⟨o,e'⟩
 refine I.write (x:=a) (e:=dx) (by rw [e];exact CZ) (.inr ho) (λb q hb z=>(sb.2 b hb).trans z) hd ?_;refine ⟨by rw [BZ O.ne];exact ho,?_,O.ne,O'.obj,_,O'.ns,λg=>?_,λg hg=>?_⟩
 ·have:=Lr f y fs;lia
 ·show La ((putF f y fs).lookup g) (if g=f then some u else mA g)
  rw [Lq]
  by_cases q:g=f
  ·rw [qX q,qX q];exact ry
  ·rw [qY q,qY q];exact r g
 ·by_cases q:g=f
  ·rw [q];exact (LO f y fs).1
  ·refine (LO f y fs).2 g (wi g λz=>hg ?_)
   show (if g=f then some u else mA g)=none;rw [qY q];exact z
theorem Inv.made (I:Inv X pins σ H s):Inv X pins σ (upd (upd H s.heap.objs.size (.own (s.heap.objs.size+1))) (s.heap.objs.size+1) (.ins C s.heap.objs.size []))
  { s with heap:=(s.heap.push CA).push (Cz C s.heap.objs.size) }:=by
 have e1:(s.heap.push CA).get? s.heap.objs.size=some CA:=AX s.heap rfl
 have e2:((s.heap.push CA).push (Cz C s.heap.objs.size)).get? (s.heap.objs.size+1)=some (Cz C s.heap.objs.size):=by
  have:=AX (s.heap.push CA) (o:=Cz C s.heap.objs.size) rfl;rwa [E0] at this
 have e3:(s.heap.push CA).Ns s.heap.objs.size (λ_=>none):=⟨CA,#[],_,e1,rfl,(λe he=>zX he (by simp)),λ_=>rfl⟩;have I1:=I.laid (a:=s.heap.objs.size) (o:=.own (s.heap.objs.size+1)) (h':=s.heap.push CA) (t':=s.toks) (λb u q=>AI _ q) (AO _) ⟨_,e1⟩;refine I1.laid (a:=s.heap.objs.size+1) (o:=.ins C s.heap.objs.size []) (t':=s.toks) (λb u q=>AI _ q) (Rr (E0 _ _)) ?_;have ne:s.heap.objs.size≠s.heap.objs.size+1:=Am (CO _);refine ⟨by rw [BZ ne,Bg],Cp _,ne,e2,λ_=>none,(BW.Ns1.of_empty e3).at λo q=>AI _ q,λ_=>CZ,λy hy=>zX rfl hy⟩
theorem aB {prog:Ah} {w:A1} {env:Env} {e:Expr} {f:Str} {pos:Pos} {s:AD} {Q:AB->AD->Prop} (hb:Ex e f env (Bx e env)=Bx e env)
  (h:Ad (AT prog w) A (Bx e env) (λo s₁=>Ad (AT prog w) A (getAttr o f true) Q E s₁) E s):Ad (AT prog w) A (Bx (.Attribute e f pos) env) Q E s:=
 Attribute_any_ h (by rw [arm_eval_Attribute,hb])
end
def tFld (K:AA) (ta:TE) (f:Str):TE:=λσ H Q=>ta σ H λx H1=>∃a C dx fs v,x=.ref a/\H1 a=some (.ins C dx fs)/\Cls K C/\Gn K C f/\fs.lookup f=some v/\Q v H1
def sFld (K:AA) (ta tv:TE) (f:Str):TS:=λD σ H=>tv σ H λy H1=>ta σ H1 λx H2=>∃a C dx fs,x=.ref a/\H2 a=some (.ins C dx fs)/\Cls K C/\Gn K C f/\fs.length < 1000 /\
 D.nx σ (upd H2 a (.ins C dx (putF f y fs)))
section
variable {X:Cx} {o e value:Expr} {f:Str} {pos pos' tpos:Pos} {ta tv:TE}
theorem cH (he:PE X e ta) (hb:Ex e f X.env (Bx e X.env)=Bx e X.env):PE X (.Attribute e f pos) (tFld X.K ta f):=by
 intro pins s σ H Q I h;refine aB hb (thn (he pins s σ H _ I h) λu s1 ⟨x,H1,I1,rx,a,C,dx,fs,v,ex,ea,c,n,l,q⟩=>?_);subst ex;obtain rfl:u=Ax a:=rx
 exact Sf I1 ea c n l λu' s2 I2 ru=>⟨v,H1,I2,ru,q⟩
theorem bw (ha:PE X o ta) (hv:PE X value tv) (hs:EX value (some (.Attribute o f pos')) pos.line X.env=pure false):PS X (.Assign [.Attribute o f pos'] value pos) (sFld X.K ta tv f):=by
 intro pins s σ H D I h;refine plainObj_wpAny_Assign_Attribute (thn (hv pins s σ H _ I h) λu s1 ⟨y,H1,I1,ry,q⟩=>thn (ha pins s1 σ H1 _ I1 q) λov s2 ⟨x,H2,I2,rx,a,C,dx,fs,ex,ea,c,n,l,q2⟩=>?_) hs;subst ex;obtain rfl:ov=Ax a:=rx
 exact SE I2 ea c n l ry λs3 I3=>⟨σ,_,I3,q2⟩
end
section
variable {X:Cx} {pins:List (AH×Obj)} {σ:St} {H:Hp} {s:AD} {A:Aw} {E:AB->AD->Prop} {Q:AB->AD->Prop} {c:AB} {b:Bool}
inductive LZ (K:AA) (H:Hp):V->AB->Prop where
 | non:LZ K H .non (.type "NoneType")
 | bl (x:Bool):LZ K H (.bl x) (.type "bool")
 | int (i:Int):LZ K H (.int i) (.type "int")
 | str (x:Str):LZ K H (.str x) (.type "str")
 | flt (x:UInt64):LZ K H (.flt x) (.type "float")
 | lst {a:AH} {xs:List V} (e:H a=some (.lst xs)):LZ K H (.ref a) (.type "list")
 | frz {a:AH} {o:Obj} {xs:List V} (e:H a=some (.frz o (.lst xs))):LZ K H (.ref a) (.type "list")
 | tup {a:AH} {xs:List V} (e:H a=some (.tup xs)):LZ K H (.ref a) (.type "tuple")
 | dK {a:AH} {kvs:List (Key×V)} (e:H a=some (.dK kvs)):LZ K H (.ref a) (.type "dict")
 | dT {a:AH} {kvs:List (List Key×V)} (e:H a=some (.dT kvs)):LZ K H (.ref a) (.type "dict")
 | ins {a C dx:AH} {fs:List (Str×V)} (e:H a=some (.ins C dx fs)) (cl:Cls K C) (ha:By K (.ref C) "__class__" = some (some (.builtin "object.__class__")))
   (hn:J9 K (.builtin "object.__class__") "__get__" = some (some (.builtin "getset_descriptor.__get__"))) (htk:Lz K (.builtin "object.__class__")=some true)
   (hm:G9 K C (.type "object")=some true):LZ K H (.ref a) (.ref C)
theorem U0 {x:V} {u t:AB} (I:Inv X pins σ H s) (rx:RelV x u) (ty:LZ X.K H x t) (e:Mh X.K t c=some b) (h:∀tk,Q (.bool b) { s with toks:=tk }) :
  Ad (AT X.prog X.w) A (call (.builtin "isinstance") [u,c]) Q E s:=by
 cases ty with
 | non=>cases (show u=BL from rx);exact B0 PySem.W.kitx_none I.kIn CZ e (λz=>nomatch z) h
 | bl y=>cases (show u=N4 y from rx);exact B0 PySem.W.kitx_bool I.kIn CZ e (λz=>nomatch z) h
 | int i=>obtain ⟨t,q⟩:=(show ∃t,u=Lx i t from rx);cases q;exact B0 PySem.W.kitx_int I.kIn CZ e (λz=>nomatch z) h
 | str y=>obtain ⟨t,q⟩:=(show ∃t,u=Lw y t from rx);cases q;exact B0 PySem.W.kitx_str I.kIn CZ e (λz=>nomatch z) h
 | flt y=>obtain ⟨t,q⟩:=(show ∃t,u=Ro y t from rx);cases q;exact B0 PySem.W.kitx_float I.kIn CZ e (λz=>nomatch z) h
 | @lst a xs ea=>
  cases (show u=Ax a from rx);obtain ⟨_,_,n,_,h1⟩:=(show CJ X.prog X.w H s.heap a (.lst xs) from I.hok a _ ea);exact B0 Sw I.kIn ⟨_,h1,rfl⟩ e (λz=>nomatch z) h
 | @frz a ob xs ea=>
  cases (show u=Ax a from rx);obtain ⟨_,_,_,n,_,h1⟩:=(show CJ X.prog X.w H s.heap a (.frz ob (.lst xs)) from I.hok a _ ea);exact B0 Sw I.kIn ⟨_,h1,rfl⟩ e (λz=>nomatch z) h
 | @tup a xs ea=>
  cases (show u=Ax a from rx);obtain ⟨_,_,_,p⟩:=(show CJ X.prog X.w H s.heap a (.tup xs) from I.hok a _ ea);obtain ⟨o,h1,h2,_⟩:=p;exact B0 PySem.W.kitx_tuple I.kIn ⟨o,h1,h2⟩ e (λz=>nomatch z) h
 | @dK a kvs ea=>
  cases (show u=Ax a from rx);obtain ⟨_,_,vs,_,p⟩:=(show CJ X.prog X.w H s.heap a (.dK kvs) from I.hok a _ ea);obtain ⟨o,es,ep,h1,h2,_⟩:=p;exact B0 Sx I.kIn ⟨o,h1,h2.1⟩ e (λz=>nomatch z) h
 | @dT a kvs ea=>
  cases (show u=Ax a from rx);obtain ⟨_,_,xs,_,o,es,ep,h1,h2,_⟩:=(show CJ X.prog X.w H s.heap a (.dT kvs) from I.hok a _ ea);exact B0 Sx I.kIn ⟨o,h1,h2.1⟩ e (λz=>nomatch z) h
 | @ins a C dx fs ea cl ha hn htk hm=>
  cases (show u=Ax a from rx);obtain ⟨mA,O,_⟩:=Pl I.hok ea;obtain ⟨od,J,_⟩:=O.look;exact B0 (PySem.W.kitx_own (cl.get _) cl.hd ha hn htk hm) I.kIn J e (λz=>nomatch z) h
end
structure Fg (k:Nat) (A:Aw):Prop where
 hd:A.handled=none
 dp:A.depth+3 * k+5 < recursionLimit
 un:A.units+16 * k+200 < D6
theorem Fg.mono {j k:Nat} {A:Aw} (r:Fg k A) (h:j<=k):Fg j A:=⟨r.hd,by have:=r.dp;lia,by have:=r.un;lia⟩
theorem Fg.deeper {k:Nat} {A:Aw} (r:Fg (k+1) A) (env:Env):Fg k (A.deeper env):=
 ⟨r.hd,by have:=r.dp;show A.depth+1+3 * k+5 < _;lia,by have:=r.un;show A.units+3+16 * k+200 < _;lia⟩
theorem SU {A:Aw} {C:AH} {us:List AB} {kw:List (Str×AB)}:(A.under (.builtin "type.__call__" ⟨.ref C :: us,kw⟩)).depth=A.depth+1:=by
 first | rfl | simp [QH,Code.weight,Code.isCreation,Code.isGuard,Code.isCaller,eC,Re,guardIds]
theorem SS {A:Aw} {C:AH} {us:List AB} {kw:List (Str×AB)}:(A.under (.builtin "type.__call__" ⟨.ref C :: us,kw⟩)).units=A.units+1:=by
 first | rfl | simp [QH,Code.cUnits,eC,Re]
theorem Fg.make {k:Nat} {A:Aw} (r:Fg (k+1) A) (C:AH) (us:List AB) (kw:List (Str×AB)):Fg k (A.under (.builtin "type.__call__" ⟨.ref C :: us,kw⟩)):=
 ⟨r.hd,by have:=r.dp;rw [SU];lia,by have:=r.un;rw [SS];lia⟩
theorem Fg.depth {k:Nat} {A:Aw} (r:Fg k A):A.depth < recursionLimit:=by have:=r.dp;lia
theorem Fg.units {k:Nat} {A:Aw} (r:Fg k A):A.units+64 < D6:=by have:=r.un;lia
def tNil:TA:=λ_ H Q=>Q [] H
def ed (ta:TE) (tr:TA):TA:=λσ H Q=>ta σ H λx H1=>tr σ H1 λxs H2=>Q (x :: xs) H2
section
variable {X:Cx} {e:Expr} {es:List Expr} {te:TE} {t:TA} {pos:Pos}
theorem Hr:PA X [] tNil:=λ_ _ _ _ H Q I h=>K5 ⟨[],H,I,.nil,h⟩
theorem FH (ha:PE X e te) (hr:PA X es t) (hs:AU (e :: es) X.env=(false,Bx e X.env) :: AU es X.env:=by rfl):PA X (e :: es) (ed te t):=by
 intro pos pins s σ H Q I h;rw [hs];show Ad _ _ (spliced ((false,Bx e X.env) :: C4 pos (AU es X.env))) _ _ s;refine US (thn (ha pins s σ H _ I h) λu s1 ⟨x,H1,I1,r1,q1⟩=>?_)
 exact thn (hr pos pins s1 σ H1 _ I1 q1) λus s2 ⟨xs,H2,I2,r2,q2⟩=>⟨x :: xs,H2,I2,.cons r1 r2,q2⟩
def tTup (t:TA):TE:=λσ H Q=>t σ H λxs H1=>xs.length<=sizeLine/\∀p,H1 p=none->Q (.ref p) (upd H1 p (.tup xs))
def tLst (t:TA):TE:=λσ H Q=>t σ H λxs H1=>xs.length<=sizeLine/\∀p,H1 p=none->Q (.ref p) (upd H1 p (.lst xs))
theorem cB {x1} (h:PA X es t):PE X (.Tuple es x1 pos) (tTup t):=by
 intro pins s σ H Q I hq;refine wpAny_Tuple_spliced (thn (h pos pins s σ H _ I hq) λus s1 ⟨xs,H1,I1,r,z,q⟩=>⟨by rw [<-r.length];exact z,?_⟩);have hf:H1 s1.heap.objs.size=none:=I1.hok.fresh (AO _);refine ⟨.ref s1.heap.objs.size,upd H1 s1.heap.objs.size (.tup xs),I1.laid (t':=s1.toks) (λb u e=>AI _ e) (AO _) ?_,rfl,q _ hf⟩;exact ⟨⟨z,⟨_,AX _ rfl,rfl⟩⟩,us,r,⟨_,AX _ rfl,rfl,_,rfl⟩⟩
theorem cF (h:PA X es t):PE X (.List es pos) (tLst t):=by
 intro pins s σ H Q I hq;refine wpAny_List_spliced (thn (h pos pins s σ H _ I hq) λus s1 ⟨xs,H1,I1,r,z,q⟩=>⟨by rw [<-r.length];exact z,?_⟩);have hf:H1 s1.heap.objs.size=none:=I1.hok.fresh (AO _);refine ⟨.ref s1.heap.objs.size,upd H1 s1.heap.objs.size (.lst xs),I1.laid (t':=s1.toks) (λb u e=>AI _ e) (AO _) ?_,rfl,q _ hf⟩;exact ⟨z,us,0,r,AX _ rfl⟩
end
abbrev Sp:=List V->Hp->VK->XK->Prop
abbrev CXT:=List Env->Hp->AD->XK->AB->AD->Prop
structure Ss (P:Ah) (w:A1) (K:AA) (mg:Str->Option AB) (base:BW) (A:Aw) (outer:List Env) (s:AD) (H:Hp):Prop where
 frames:A.frames=some outer
 mod:Mod K mg base
 bs:∀b o,base.get? b=some o->s.heap.get? b=some o/\H b=none
 bsz:base.objs.size<=s.heap.objs.size
 funs:s.heap.FunFrames base outer
 frf:∀b∈frs outer,H b=none
 hok:HOk P w H s.heap
 bare:Go s.gens
def CE (outer:List Env) (P:Ah) (w:A1) (H:Hp) (s:AD) (Q:VK) (u:AB) (s':AD):Prop:=
 ∃v H',s'.os=s.os/\Go s'.gens/\Un (frs outer) [] H H' s.heap s'.heap/\HOk P w H' s'.heap/\RelV v u/\Q v H'
def CR (CX:CXT) (outer:List Env) (P:Ah) (w:A1) (H:Hp) (s:AD) (Q:VK) (E:XK) (r:Vn) (s':AD):Prop:=
 match r with
 | .ok (.ret u)=>CE outer P w H s Q u s'
 | .ok _=>False
 | .error e=>CX outer H s E e s'
structure EM (P:Ah) (w:A1) (K:AA) (mg:Str->Option AB) (base:BW) (CX:CXT) (k:Nat) (f:AH) (fd:C6) (ps:List Str) (sp:Sp):Prop where
 len:∀vs H Q E,sp vs H Q E->vs.length=ps.length
 run:∀(A:Aw) (outer:List Env) (s:AD) (H:Hp) (args:Args) (us:List AB) (vs:List V) (Q:VK) (E:XK),Fg k A->Ss P w K mg base A outer s H->Rf s fd args (ps.zip us)->Bh vs us->sp vs H Q E ->
  HQ (AT P w) A (.call (.ref f) args) (CR CX outer P w H s Q E) s
theorem EM.imp {P:Ah} {w:A1} {K:AA} {mg:Str->Option AB} {base:BW} {CX:CXT} {k:Nat} {f:AH} {fd:C6} {ps:List Str} {sp sp':Sp} (F:EM P w K mg base CX k f fd ps sp)
  (h:∀vs H Q E,sp' vs H Q E->sp vs H Q E):EM P w K mg base CX k f fd ps sp':=
 ⟨λvs H Q E q=>F.len vs H Q E (h _ _ _ _ q),λA outer s H args us vs Q E hr he hb hv hs=>F.run A outer s H args us vs Q E hr he hb hv (h _ _ _ _ hs)⟩
theorem Ss.make {P:Ah} {w:A1} {K:AA} {mg:Str->Option AB} {base:BW} {A:Aw} {outer:List Env} {s:AD} {H:Hp} (e:Ss P w K mg base A outer s H) (C:AH) (us:List AB) (kw:List (Str×AB)) :
  Ss P w K mg base (A.under (.builtin "type.__call__" ⟨.ref C :: us,kw⟩)) outer s H:=⟨by first | exact e.frames | (simpa [QH,Code.envs,Re,pushEnvs] using e.frames),e.mod,e.bs,e.bsz,e.funs,e.frf,e.hok,e.bare⟩
section
variable {X:Cx} {pins:List (AH×Obj)} {σ:St} {H:Hp} {s s':AD}
theorem Inv.env0 (I:Inv X pins σ H s):Ss X.prog X.w X.K X.mg X.base X.A X.stack s H:=
 ⟨I.ok.frames,I.ok.mod,I.bs,Ao I.ok.bsz I.sz,I.stack,I.stkFree,I.hok,I.bare⟩
theorem Inv.after {Q:VK} {u:AB} (I:Inv X pins σ H s) (h:CE X.stack X.prog X.w H s Q u s'):EP X pins σ Q u s':=by
 obtain ⟨v,H',os,bare,un,hok,r,q⟩:=h;obtain ⟨hh,g,d,t,os'⟩:=s';obtain rfl:os'=s.os:=os;exact ⟨v,H',I.call (h':=hh) (g':=g) (d':=d) (t':=t) (ch:=[]) un hok bare (λb z=>zX z (by simp)),r,q⟩
end
def ee (sp:Sp) (dvs:List V) (E:St->XK) (t:TA):TE:=λσ H Q=>t σ H λvs H1=>sp (vs++dvs) H1 Q (E σ)
def eV (C:AH) (sp:Sp) (dvs:List V) (E:St->XK) (t:TA):TE:=λσ H Q=>t σ H λvs H1=>∀x dx,H1 x=none->H1 dx=none->dx≠x ->
 sp (.ref x :: (vs++dvs)) (upd (upd H1 dx (.own x)) x (.ins C dx [])) (λv H2=>v=.non/\Q (.ref x) H2) (E σ)
def Binds (K:AA) (fd:C6) (ps:List Str) (ds:List AB):Prop:=
 ∀(s:AD) (us:List AB),K.In s.heap->(us++ds).length=ps.length->Rf s fd ⟨us,[]⟩ (ps.zip (us++ds))
theorem Binds.all {K:AA} {fd:C6} {ps:List Str} (h:∀us:List AB,us.length=ps.length->bindArgs fd ⟨us,[]⟩=pure (ps.zip us)):Binds K fd ps []:=λs us _ hl=>by
 rw [BE] at hl ⊢;exact .of_eq (h us hl)
def Jz (CX:CXT) (X:Cx) (E:St->XK):Prop:=∀(pins:List (AH×Obj)) (σ:St) (H:Hp) (s:AD) (e:AB) (s':AD),Inv X pins σ H s->CX X.stack H s (E σ) e s'->X.xe e s'
section
variable {X:Cx} {CX:CXT} {k:Nat} {f C:AH} {fd:C6} {ps:List Str} {sp:Sp} {dvs:List V} {ds:List AB} {E:St->XK} {x m:Str} {p pos apos:Pos} {e o:Expr} {es:List Expr} {ta:TE} {t:TA}
theorem bi {pins:List (AH×Obj)} {σ:St} {H:Hp} {s:AD} {Q:VK} {us:List AB} {vs:List V} (F:EM X.prog X.w X.K X.mg X.base CX k f fd ps sp) (hr:Fg k X.A) (hb:Binds X.K fd ps ds) (hd:Bh dvs ds) (hx:Jz CX X E)
  (I:Inv X pins σ H s) (r:Bh vs us) (h:sp (vs++dvs) H Q (E σ)):Ad (AT X.prog X.w) X.A (call (.ref f) us) (EP X pins σ Q) X.xe s:=by
 have r2:Bh (vs++dvs) (us++ds):=r.append hd
 have hl:(us++ds).length=ps.length:=by rw [<-r2.length];exact F.len _ _ _ _ h
 refine wpAny_call (N2 (F.run X.A X.stack s H ⟨us,[]⟩ (us++ds) (vs++dvs) Q (E σ) hr I.env0 (hb s us I.kIn hl) r2 h) λr s' hq=>?_)
 cases r with
 | error e=>exact hx pins σ H s e s' I hq
 | ok fl=>
  cases fl with
  | ret u=>exact I.after hq
  | next=>exact DC hq
  | brk=>exact DC hq
  | cont=>exact DC hq
theorem ZV (F:EM X.prog X.w X.K X.mg X.base CX k f fd ps sp) (hr:Fg k X.A) (hg:Gl X x) (hm:X.mg x=some (.ref f)) (hk:Ec X.K (.ref f)=true) (hb:Binds X.K fd ps ds) (hd:Bh dvs ds) (hx:Jz CX X E)
  (ha:PA X (e :: es) t) (hdb:(x==("__debug__" : Str))=false:=by decide) (he:AU (e :: es) X.env=(false,Bx e X.env) :: AU es X.env:=by rfl) (hpl:(C4 pos (AU es X.env)).any (·.1)=false:=by rfl) :
  PE X (.Call (.Name x p) (e :: es) [] pos) (ee sp dvs E t):=by
 intro pins s σ H Q I h;refine E4 (Ma I hg hm ?_ hdb);refine Rq (h₀:=X.base) I.ok.mod.kin hk (thn (ha pos pins s σ H _ I h) λus s1 ⟨vs,H1,I1,r,q⟩=>⟨I1.kIn,?_⟩) he hpl;exact bi F hr hb hd hx I1 r q
structure Mk (K:AA) (C f:AH):Prop where
 makes:Vc K C=true
 init:By K (.ref C) "__init__" = some (some (.ref f))
 fn:PySem.W.isFn K (.ref f)=true
 kp:Ec K (.ref C)=true
theorem WW {pins:List (AH×Obj)} {σ:St} {H:Hp} {s:AD} {Q:VK} {us:List AB} {vs:List V} (M:Mk X.K C f) (F:EM X.prog X.w X.K X.mg X.base CX k f fd ps sp) (hr:Fg (k+1) X.A) (hb:Binds X.K fd ps ds) (hd:Bh dvs ds)
  (hx:Jz CX X E) (I:Inv X pins σ H s) (r:Bh vs us)
  (h:∀x dx,H x=none->H dx=none->dx≠x->sp (.ref x :: (vs++dvs)) (upd (upd H dx (.own x)) x (.ins C dx [])) (λv H2=>v=.non/\Q (.ref x) H2) (E σ)) :
  Ad (AT X.prog X.w) X.A (call (.ref C) us) (EP X pins σ Q) X.xe s:=by
 have hq:=h (s.heap.objs.size+1) s.heap.objs.size (I.hok.fresh (Nv _)) (I.hok.fresh (AO _)) (Am (CO _));have I2:=Inv.made (C:=C) I;have r2:Bh (V.ref (s.heap.objs.size+1) :: (vs++dvs)) (Ax (s.heap.objs.size+1) :: (us++ds)):=.cons rfl (r.append hd)
 have hl:(Ax (s.heap.objs.size+1) :: us++ds).length=ps.length:=by
  have e:=r2.length;rw [F.len _ _ _ _ hq] at e;exact e.symm
 refine wpAny_call (XH (f:=f) I.kIn M.makes M.init (beq_iff_eq.mp M.fn) (N2 (F.run _ X.stack _ _ ⟨Ax (s.heap.objs.size+1) :: us,[]⟩ (Ax (s.heap.objs.size+1) :: (us++ds)) _ _ (E σ) (hr.make C us [])
  (I2.env0.make C us []) (hb _ (Ax (s.heap.objs.size+1) :: us) I2.kIn hl) r2 hq) λr s' hq'=>?_))
 cases r with
 | error e=>exact hx pins σ _ _ e s' I2 hq'
 | ok fl=>
  cases fl with
  | ret u=>
   obtain ⟨v,H',I3,rv,ev,q3⟩:=I2.after hq';subst ev;exact ⟨rv,⟨V.ref (s.heap.objs.size+1),H',I3,rfl,q3⟩⟩
  | next=>exact DC hq'
  | brk=>exact DC hq'
  | cont=>exact DC hq'
theorem ZQ (M:Mk X.K C f) (F:EM X.prog X.w X.K X.mg X.base CX k f fd ps sp) (hr:Fg (k+1) X.A) (hg:Gl X x) (hm:X.mg x=some (.ref C)) (hb:Binds X.K fd ps ds) (hd:Bh dvs ds) (hx:Jz CX X E)
  (ha:PA X (e :: es) t) (hdb:(x==("__debug__" : Str))=false:=by decide) (he:AU (e :: es) X.env=(false,Bx e X.env) :: AU es X.env:=by rfl) (hpl:(C4 pos (AU es X.env)).any (·.1)=false:=by rfl) :
  PE X (.Call (.Name x p) (e :: es) [] pos) (eV C sp dvs E t):=by
 intro pins s σ H Q I h;refine E4 (Ma I hg hm ?_ hdb);refine Rq (h₀:=X.base) I.ok.mod.kin M.kp (thn (ha pos pins s σ H _ I h) λus s1 ⟨vs,H1,I1,r,q⟩=>⟨I1.kIn,?_⟩) he hpl;exact WW M F hr hb hd hx I1 r q
end
section
variable {X:Cx} {CX:CXT} {k:Nat} {f C:AH} {fd:C6} {ps ks:List Str} {sp:Sp} {E:St->XK} {x m:Str} {p pos apos kpos:Pos} {e o:Expr} {es:List Expr} {kws:List Jo} {te ta:TE} {t tk:TA} {nm:Option Str}
variable {g:List AB->List AB->List AB} {gV:List V->List V->List V}
end
structure CU (N P:List Str) (sc:Gs):Prop where
 kind:sc.kind=.function
 co:sc.isCoroutine=false
 gen:sc.isGenerator=false
 nd:N.Nodup
 pre:N.take P.length=P
 par:∀x∈P,sc.names.lookup x=some .local∨sc.names.lookup x=some .cell
 nofree:∀y∈sc.names,y.2≠.free
theorem Ox {kindOf:Str->Option N6} {x:Str}:∀ {binds:List (Str×AB)} {m:Str->Option AB},(∀v,(x,v)∉binds)->VZ kindOf binds m x=m x
 | [],_,_=>rfl
 | (n,v) :: r,m,h=>by
  unfold VZ;rw [Ox λw hw=>h w (Aa _ hw)];split
  ·have:x≠n:=by rintro rfl;exact h v Al
   simp [this]
  ·rfl
theorem Oz {kindOf:Str->Option N6} {x:Str}:∀ {binds:List (Str×AB)} {m:Str->Option AB},(∀v,(x,v)∉binds)->Va kindOf binds m x=m x
 | [],_,_=>rfl
 | (n,v) :: r,m,h=>by
  unfold Va;rw [Oz λw hw=>h w (Aa _ hw)];split
  ·rfl
  ·have:x≠n:=by rintro rfl;exact h v Al
   simp [this]
theorem Oy {kindOf:Str->Option N6} {x:Str} {v:AB}:∀ {P:List Str} {vs:List AB} {i:Nat} {m:Str->Option AB},P.Nodup->P[i]?=some x->vs[i]?=some v->kindOf x=some .local ->
  VZ kindOf (P.zip vs) m x=some v
 | [],_,_,_,_,h,_,_=>by simp at h
 | _ :: _,[],_,_,_,_,h,_=>by simp at h
 | p :: P,w :: vs,0,m,nd,h1,h2,hk=>by
  simp at h1 h2;subst h1;subst h2;show VZ kindOf ((p,w) :: P.zip vs) m p=_;unfold VZ;rw [Ox λv hv=>(C5.mp nd).1 (Ny hv).1,qX hk];simp
 | p :: P,w :: vs,i+1,m,nd,h1,h2,hk=>by
  show VZ kindOf ((p,w) :: P.zip vs) m x=_;unfold VZ;exact Oy (i:=i) (C5.mp nd).2 (by simpa using h1) (by simpa using h2) hk
theorem O0 {kindOf:Str->Option N6} {x:Str} {v:AB}:∀ {P:List Str} {vs:List AB} {i:Nat} {m:Str->Option AB},P.Nodup->P[i]?=some x->vs[i]?=some v->kindOf x≠some .local ->
  Va kindOf (P.zip vs) m x=some v
 | [],_,_,_,_,h,_,_=>by simp at h
 | _ :: _,[],_,_,_,_,h,_=>by simp at h
 | p :: P,w :: vs,0,m,nd,h1,h2,hk=>by
  simp at h1 h2;subst h1;subst h2;show Va kindOf ((p,w) :: P.zip vs) m p=_;unfold Va;rw [Oz λv hv=>(C5.mp nd).1 (Ny hv).1,qY hk];simp
 | p :: P,w :: vs,i+1,m,nd,h1,h2,hk=>by
  show Va kindOf ((p,w) :: P.zip vs) m x=_;unfold Va;exact O0 (i:=i) (C5.mp nd).2 (by simpa using h1) (by simpa using h2) hk
def start (N:List Str) (vs:List V):St:=vs.map some++BG (N.length - vs.length) none
def Pz (CX:CXT) (P:Ah) (w:A1) (K:AA) (mg:Str->Option AB) (base:BW) (N:List Str) (qual:Str) (scope:Gs) (f:AH) (cd:AB) (A:Aw) (outer:List Env) (s:AD) (H:Hp) (E:XK):Cx where
 prog:=P
 w:=w
 K:=K
 mg:=mg
 base:=base
 A:=A.deeper (Jm qual scope s.heap.objs.size f cd)
 N:=N
 s₀:=s
 H₀:=H
 env:=Jm qual scope s.heap.objs.size f cd
 outer:=outer
 stack:=Jm qual scope s.heap.objs.size f cd :: outer
 ex:=[]
 calm:=true
 fn:=λ_=>true
 pn:=[]
 xe:=λe s'=>Ad (AT P w) (A.deeper (Jm qual scope s.heap.objs.size f cd)) (leaving (Jm qual scope s.heap.objs.size f cd) e) (λ_ s''=>CX outer H s E e s'') (λe' s''=>CX outer H s E e' s'') s'
theorem RQ {sc:Gs} {n:Nat} {x:Str} (h:sc.names.lookup x=some .cell):∃c,(dy n sc.names []).lookup x=some c:=by
 have q:=O6 sc.names n [] (.inl h);exact Option.isSome_iff_exists.mp q
theorem U1 {CX:CXT} {P:Ah} {w:A1} {K:AA} {mg:Str->Option AB} {base:BW} {N ps:List Str} {qual:Str} {scope:Gs} {f:AH} {cd:AB} {A:Aw} {outer:List Env} {s s1:AD} {H:Hp} {E:XK} {us:List AB} {vs:List V}
  (S:CU N ps scope) (hd:A.handled=none) (e0:Ss P w K mg base A outer s H) (hl:vs.length=ps.length) (r:Bh vs us)
  (x:InCallC s s.heap.objs.size (VZ (Jm qual scope s.heap.objs.size f cd).kindOf (ps.zip us) λ_=>none) (dy (s.heap.objs.size+1) scope.names []) (Va (Jm qual scope s.heap.objs.size f cd).kindOf (ps.zip us) λ_=>none) s1) :
  Inv (Pz CX P w K mg base N qual scope f cd A outer s H E) [] (start N vs) H s1:=by
 have hpl:ps.length<=N.length:=by have:=congrArg DQ S.pre;rw [CM] at this;lia
 obtain ⟨h1,tk,rfl,hk⟩:=x.done
 have noA:∀b:AH,b∉(Pz CX P w K mg base N qual scope f cd A outer s H E).ex:=λb z=>zX (show b∈([]:List AH) from z) (by simp)
 refine ⟨⟨e0.mod,S.kind,rfl,rfl,AO _,λy z c h1 h2=>?_,λy hy=>?_,λy c _ h=>?_,λ_=>hd,Aw.frames_deeper e0.frames,.inr ⟨rfl,rfl⟩,λb z=>zX z (noA b),e0.bs,e0.bsz,λb _ _=>noA b,λb z=>zX z (noA b),e0.funs,e0.frf⟩,
  rfl,e0.bare,Un.kept hk,⟨_,x.toInCall.ns,λi y v h1 h2 h3=>?_⟩,λy c h=>⟨_,x.cell y c h⟩,e0.hok.fresh (AO _),λy c h=>?_,λp hp=>zX (show p∈([]:List (AH×Obj)) from hp) (by simp),e0.hok.kept hk,?_⟩
 ·exact name_of_addr x.apart (DK h1) (DK h2)
 ·have hy:scope.names.lookup y=some .cell∨scope.names.lookup y=some .free:=hy
  rcases hy with hy | hy
  ·exact RQ hy
  ·exact zX rfl (S.nofree _ (DK hy))
 ·exact IY (x.above y c (DK h))
 ·have hi:i < vs.length:=by
   unfold start at h2
   by_cases hi:i < vs.length
   ·exact hi
   ·rw [As (by simpa using hi)] at h2
    rw [CY] at h2
    split at h2 <;> cases h2
  have ha:vs[i]?=some v:=by
   unfold start at h2;rw [AV (by simpa using hi),Ae] at h2
   cases e:vs[i]? with
   | none=>rw [e] at h2;cases h2
   | some a=>rw [e] at h2;cases h2;rfl
  obtain ⟨u,hu,rv⟩:=r.get ha
  have hp:ps[i]?=some y:=by
   rw [<-S.pre,QF (by lia)];exact h1
  have ndP:ps.Nodup:=by rw [<-S.pre];exact S.nd.sublist (Vp _ _)
  refine ⟨u,rv,?_⟩
  rcases S.par y (Av hp) with k | k
  ·exact .inl ⟨k,Oy ndP hp hu k⟩
  ·obtain ⟨c,e⟩:=RQ (n:=s.heap.objs.size+1) k
   refine .inr ⟨.inl k,c,e,?_⟩;have q:=x.cell y c e;rw [O0 ndP hp hu (by show scope.names.lookup y≠_;rw [k];decide)] at q;exact q
 ·exact e0.hok.fresh (IY (x.above y c (DK h)))
 ·unfold start
  show _=N.length;rw [Ac,AF,JH]
  lia
theorem fw {CX:CXT} {P:Ah} {w:A1} {K:AA} {mg:Str->Option AB} {base:BW} {k:Nat} {f:AH} {name qual:Str} {params:Arguments} {body:List Cw} {scope:Gs} {dV kV doc pm cdv ct oc:AB} {an od:Option AH}
  {osl:Array (Option AB)} {N ps:List Str} {sp:Sp} (lk:K.lookup f=some ⟨oc,od,.func (Fj name qual params body scope dV kV doc pm an cdv ct),osl⟩) (hcd:Mi K cdv qual=true) (S:CU N ps scope)
  (len:∀vs H Q E,sp vs H Q E->vs.length=ps.length)
  (hbody:∀(A:Aw) (outer:List Env) (s:AD) (H:Hp) (vs:List V) (Q:VK) (E:XK),Fg k (A.deeper (Jm qual scope s.heap.objs.size f cdv))->sp vs H Q E ->
   ∃t,PSs (Pz CX P w K mg base N qual scope f cdv A outer s H E) body t/\t { nx:=λ_ H'=>Q .non H',rt:=Q } (start N vs) H) :
  EM P w K mg base CX (k+1) f (Fj name qual params body scope dV kV doc pm an cdv ct) ps sp:=by
 refine ⟨len,λA outer s H args us vs Q E hr e0 hb r hsp=>?_⟩;have hl:=len _ _ _ _ hsp
 have KX:K.In s.heap:=e0.mod.kin.keeps λb o e=>(e0.bs b o e).1
 have lim:s.heap.NoLimit:=e0.mod.nolimit.keeps λb o e=>(e0.bs b o e).1
 have hkind:∀y∈ps.zip us,scope.names.lookup y.1=some .local∨(scope.names.lookup y.1=some .cell/\((dy (s.heap.objs.size+1) scope.names []).lookup y.1).isSome=true):=λ⟨n,v⟩ hy=>by
  rcases S.par n (Ny hy).1 with q | q
  ·exact .inl q
  ·exact .inr ⟨q,O6 _ _ _ (.inl q)⟩
 refine codeAny_call_function hr.depth (KX _ _ lk) rfl S.co S.gen rfl (PySem.W.codeRec_of KX hcd) (hb _ _ _ _ ?_)
 refine wpAny_newFunctionEnv_cells S.kind hkind λenv he s1 x=>?_
 subst he;refine ⟨lim.keeps x.toInCall.keep,codeAny_func ?_⟩;obtain ⟨t,ht,hq⟩:=hbody A outer s H vs Q E (hr.deeper _) hsp;have I:Inv (Pz CX P w K mg base N qual scope f cdv A outer s H E) [] (start N vs) H s1:=U1 S hr.hd e0 hl r x
 refine E3 (ht [] s1 (start N vs) H _ I hq) (λfl s' hs=>?_) λe s' hs=>hs
 have fin:∀ {σ':St} {H':Hp} {v:V} {u:AB},Inv (Pz CX P w K mg base N qual scope f cdv A outer s H E) [] σ' H' s'->RelV v u->Q v H'->CE outer P w H s Q u s':=
  λ{σ' H' v u} J rv q=>⟨v,H',J.os,J.bare,J.base,J.hok,rv,q⟩
 cases fl with
 | ret u=>
  obtain ⟨v,σ',H',J,rv,q⟩:=hs;exact fin J rv q
 | next=>
  obtain ⟨σ',H',J,q⟩:=hs;exact fin (v:=V.non) (u:=BL) J rfl q
 | brk=>
  obtain ⟨_,_,_,q⟩:=hs;exact DC q
 | cont=>
  obtain ⟨_,_,_,q⟩:=hs;exact DC q
section
variable {X:Cx} {x:Str} {p pos:Pos} {e:Expr} {es:List Expr} {t:TA} {id T:String} {r:List V->Hp->VK->Prop}
def tCB (r:List V->Hp->VK->Prop) (t:TA):TE:=λσ H Q=>t σ H λvs H1=>r vs H1 Q
theorem Il (hc:IP X (.builtin id) r) (hg:Gl X x) (hm:X.mg x=none) (hv:FX x=some (.builtin id)) (ha:PA X (e :: es) t) (hn:x≠"__name__":=by decide) (hdb:(x==("__debug__" : Str))=false:=by decide)
  (he:AU (e :: es) X.env=(false,Bx e X.env) :: AU es X.env:=by rfl) (hpl:(C4 pos (AU es X.env)).any (·.1)=false:=by rfl):PE X (.Call (.Name x p) (e :: es) [] pos) (tCB r t):=by
 intro pins s σ H Q I h;refine E4 (Ju I hg hm hv ?_ hn hdb);exact gR (thn (ha pos pins s σ H _ I h) λus s1 ⟨vs,H1,I1,r1,q1⟩=>hc pins s1 σ H1 vs us Q I1 r1 q1) he hpl
theorem Um (hc:IP X (.type T) r) (hg:Gl X x) (hm:X.mg x=none) (hv:FX x=some (.type T)) (ha:PA X (e :: es) t) (hn:x≠"__name__":=by decide) (hdb:(x==("__debug__" : Str))=false:=by decide)
  (he:AU (e :: es) X.env=(false,Bx e X.env) :: AU es X.env:=by rfl) (hpl:(C4 pos (AU es X.env)).any (·.1)=false:=by rfl):PE X (.Call (.Name x p) (e :: es) [] pos) (tCB r t):=by
 intro pins s σ H Q I h;refine E4 (Ju I hg hm hv ?_ hn hdb);exact B1 (thn (ha pos pins s σ H _ I h) λus s1 ⟨vs,H1,I1,r1,q1⟩=>hc pins s1 σ H1 vs us Q I1 r1 q1) he hpl
end
end L2
namespace HT
open PySem PyProof.Rows
section
open PySem.SeqAt
open PySem.AutoSeq1 (wpAny_loadPart')
open PySem.MeetsSeq PySem.MeetsSeq2 PySem.MeetsSeq3
end
section
variable {prog:Ah} {w:A1} {A:Aw} {E:AB->AD->Prop} {s:AD}
theorem Z9 {t b:AH} {vs ws:List AB} {Q:AB->AD->Prop} (ht:dm s.heap t vs.toArray) (hb:dm s.heap b ws.toArray) (hv:vs≠[])
  (h1:ws=[]->Q (.ref t) s) (h2:ws≠[]->Q (.ref s.heap.objs.size) { s with heap:=s.heap.push { cls:=.type "tuple",data:=.seq (vs++ws).toArray } })
  (hsz:vs.length+ws.length<=sizeLine):Ad (AT prog w) A (Cv .Add (.ref t) (.ref b)) Q E s:=by
 obtain ⟨⟨cls,dd,data,sl⟩,ho,hc,n,hd⟩:=id ht;obtain ⟨⟨cls2,dd2,data2,sl2⟩,ho2,hc2,n2,hd2⟩:=id hb;simp only at hc hd hc2 hd2;subst hc hd hc2 hd2
 have e:vs.toArray++ws.toArray=(vs++ws).toArray:=by simp
 by_cases hw:ws=[]
 ·exact Vm ⟨_,ho,rfl⟩ ⟨_,ho2,rfl⟩ O5 UJ Hj HS (HA _ _)
   (tuple_addW1 t b vs.toArray ws.toArray n n2 dd dd2 sl sl2 (by simpa using hv) (by simp [hw])) ⟨ho,ho2,h1 hw⟩
 ·refine Vm ⟨_,ho,rfl⟩ ⟨_,ho2,rfl⟩ O5 UJ Hj HS (HA _ _)
   (tuple_addW2 t b vs.toArray ws.toArray n n2 dd dd2 sl sl2 (by simpa using hv) (by simpa using hw) (by rw [Ai,Ai];exact hsz)) ⟨ho,ho2,?_⟩
  rw [e];exact h2 hw
def sIx (n d:Nat):Option Int->Nat
 | none=>d
 | some v=>if v < 0 then (v+(n:Int)).toNat else min v.toNat n
theorem bh (n d:Nat) (hd:d<=n) (o:Option Int):sIx n d o<=n:=by
 cases o with
 | none=>exact hd
 | some v=>
  show (if v < 0 then (v+(n:Int)).toNat else min v.toNat n)<=n
  by_cases hv:v < 0
  ·rw [qX hv];lia
  ·rw [qY hv];exact Ml _ _
theorem UB (v:Int) (n d:Nat):(if v < 0 then max (v+(n:Int)) 0 else min v (n:Int))=((sIx n d (some v):Nat):Int):=by
 show (if v < 0 then max (v+(n:Int)) 0 else min v (n:Int))=(((if v < 0 then (v+(n:Int)).toNat else min v.toNat n):Nat):Int)
 by_cases hv:v < 0
 ·simp only [qX hv];lia
 ·simp only [qY hv];lia
theorem So (lo hi:Option Int) (n:Nat):FZ lo hi 1 (n:Int)=(((sIx n 0 lo:Nat):Int),((sIx n n hi:Nat):Int)):=by
 have h1:¬((1:Int) < 0):=by lia
 unfold FZ;simp only [h1,if_false];refine JZ ?_ ?_
 ·cases lo with
  | none=>rfl
  | some v=>exact UB v n 0
 ·cases hi with
  | none=>rfl
  | some v=>exact UB v n n
theorem SK (i j:Nat):Da (i:Int) (j:Int) 1=j - i:=by
 unfold Da
 have h1:(1:Int) > 0:=by lia
 simp only [h1,if_true,Int.ediv_one]
 split <;> lia
theorem M4 {v:AB} {o:Option Int} {Q:Option Int->AD->Prop} (p:O9 v o) (h:Q o s):Ad (AT prog w) A (eE v) Q E s:=by
 cases p with
 | none=>exact slicePart_none h
 | int i t=>exact slicePart_int h
theorem LF {sl:AH} {vl vu:AB} {lo hi:Option Int} {n:Nat} {Q:Int×Int×Nat->AD->Prop} (hs:s.heap.IsSliceOf sl vl vu .none) (pl:O9 vl lo) (pu:O9 vu hi)
  (h:Q (((sIx n 0 lo:Nat):Int),1,sIx n n hi - sIx n 0 lo) s):Ad (AT prog w) A (KD (.ref sl) (pure (n:Int))) Q E s:=by
 obtain ⟨os,hos,hcs,hds⟩:=id hs;unfold KD eG;refine AC (AC (Cb hos hds (x:=vl) rfl (AC (Cb hos hds (x:=vu) rfl (AC (Cb hos hds (x:=.none) rfl (AN ?_)))))));refine AC (slicePart_none ?_);show Ad _ _ (if ((1:Int)==0)=true then _ else _) _ _ s;rw [qY (by decide)];refine AC (M4 pl (AC (M4 pu (AC (AN ?_)))));show Ad _ _ (match FZ lo hi 1 (n:Int) with | (lo,hi)=>pure (lo,(1:Int),Da lo hi 1)) _ _ s;rw [So lo hi n];show Ad _ _ (pure (((sIx n 0 lo:Nat):Int),(1:Int),Da ((sIx n 0 lo:Nat):Int) ((sIx n n hi:Nat):Int) 1)) _ _ s;rw [SK];exact AN h
theorem Wu (xs:Array AB) (i k:Nat):((Bo k).filterMap λ(m:Nat)=>xs[((i:Int)+(m:Int) * 1).toNat]?).toArray=((xs.toList.drop i).take k).toArray:=by
 have e:(λ(m:Nat)=>xs[((i:Int)+(m:Int) * 1).toNat]?)=λm=>xs[i+m]?:=by
  funext m
  have:((i:Int)+(m:Int) * 1).toNat=i+m:=by lia
  rw [this]
 rw [e];have:=pick_run xs i k;rw [List.filterMap_map] at this
 have e2:((λx=>xs[x]?)∘λx=>i+x)=λm=>xs[i+m]?:=rfl
 rw [e2] at this;rw [this]
theorem Kl {t sl:AH} {items:Array AB} {vl vu:AB} {lo hi:Option Int} {Q:AB->AD->Prop} (ht:dm s.heap t items) (hs:s.heap.IsSliceOf sl vl vu .none) (pl:O9 vl lo) (pu:O9 vu hi)
  (hw:¬(sIx items.size 0 lo=0/\sIx items.size items.size hi=items.size))
  (h:Q (.ref s.heap.objs.size) { s with heap:=s.heap.push { cls:=.type "tuple",data:=.seq ((items.toList.drop (sIx items.size 0 lo)).take (sIx items.size items.size hi - sIx items.size 0 lo)).toArray } })
  (hsz:items.size<=sizeLine):Ad (AT prog w) A (Lb (.ref t) (.ref sl)) Q E s:=by
 have htake:sizeOk (.seq ((items.toList.drop (sIx items.size 0 lo)).take (sIx items.size items.size hi - sIx items.size 0 lo)).toArray):=by
  show ((items.toList.drop (sIx items.size 0 lo)).take (sIx items.size items.size hi - sIx items.size 0 lo)).toArray.size<=sizeLine;rw [Ai,CM,Cq,BX];omega
 have hj:sIx items.size items.size hi<=items.size:=bh _ _ (AO _) hi;obtain ⟨os,hos,hcs,hds⟩:=id hs;have hTs:s.TypeIs (.ref sl) "slice":=⟨os,hos,hcs⟩;unfold Lb
 try with_reducible refine MM ?_
 first | refine AC (AN ?_) | skip
 refine AC (wpAny_sequenceKey ht.typeIs (by decide) ?_)
 refine AC (Cm (name:=Gr "__getitem__") ht.typeIs EN
  (C0 EN ht.typeIs entry_tuple_getitem ?_ (args_tuple_getitem _ _)))
 show Ad _ _ (eD (.ref t) >>= _) _ _ s;refine AC (tupleItemsOf_ ht ?_);refine AC (Vj hTs ?_);rw [qX (by decide)];refine AC (LF hs pl pu ?_)
 have hno:¬((((sIx items.size 0 lo:Nat):Int)==0&&(1:Int)==1&&(sIx items.size items.size hi - sIx items.size 0 lo)==items.size)=true):=by
  intro q;rw [CN,CN] at q;have q1:((sIx items.size 0 lo:Nat):Int)=0:=eq_of_beq q.1.1;have q2:sIx items.size items.size hi - sIx items.size 0 lo=items.size:=eq_of_beq q.2;exact hw ⟨by lia,by omega⟩
 show Ad _ _ (if (((sIx items.size 0 lo:Nat):Int)==0&&(1:Int)==1&&(sIx items.size items.size hi - sIx items.size 0 lo)==items.size)=true then _ else _) _ _ s;rw [qY hno,Wu]
 first
  | exact AC (m:=CD _) (BU (AN ⟨_,rfl,AN h⟩) htake)
  | exact AC (m:=CD _) (BU (AC (AN (AN ⟨_,rfl,AN h⟩))) htake)
  | exact AC (AC (m:=CD _) (BU (AN (AN ⟨_,rfl,AN h⟩)) htake))
  | exact AC (AC (m:=CD _) (BU (AN ⟨_,rfl,AN h⟩) htake))
end
end HT
namespace L2
open PySem PySem.Spec PyProof.Rows
abbrev TO:=St->Hp->(Option Int->Hp->Prop)->Prop
def PO (X:Cx) (e:Option Expr) (t:TO):Prop:=
 ∀(pins:List (AH×Obj)) (s:AD) (σ:St) (H:Hp) (Q:Option Int->Hp->Prop),Inv X pins σ H s->t σ H Q ->
  Ad (AT X.prog X.w) X.A (evalPart e X.env) (λu s'=>∃o H',Inv X pins σ H' s'/\O9 u o/\Q o H') X.xe s
def eR (t:TE):TO:=λσ H Q=>t σ H λx H1=>∃i,x=.int i/\Q (some i) H1
theorem intsAre_of {ns:List Int}:∀ {us:List AB},Bh (ns.map V.int) us->Dh us ns:=by
 induction ns with
 | nil=>intro us r;rw [IV] at r;cases r;exact .nil
 | cons n ns ih=>
  intro us r;rw [Ap] at r
  cases r with
  | cons r1 r2=>
   obtain ⟨t,e⟩:=r1;subst e;exact .cons n t (ih r2)
section
variable {κ:Type} [DecidableEq κ]
def Ib (kvs:List (κ×V)) (k:κ):Option V:=(kvs.find? λkv=>decide (kv.1=k)).map (·.2)
def Ft (kvs:List (κ×V)) (k:κ) (v:V):List (κ×V):=
 if (kvs.any λkv=>decide (kv.1=k))=true then kvs.map (λkv=>if kv.1=k then (kv.1,v) else kv) else kvs++[(k,v)]
theorem M0 {p:κ×V} {r:List (κ×V)} {k:κ} (e:p.1=k):Ib (p :: r) k=some p.2:=by simp [Ib,BO,e]
theorem M1 {p:κ×V} {r:List (κ×V)} {k:κ} (e:¬p.1=k):Ib (p :: r) k=Ib r k:=by simp [Ib,BO,e]
theorem Qa (k:κ):∀kvs:List (κ×V),(kvs.any λkv=>decide (kv.1=k))=(Ib kvs k).isSome
 | []=>rfl
 | p :: r=>by
  rw [FY]
  by_cases e:p.1=k
  ·simp only [M0 e,wX e,Bool.true_or,Option.isSome_some]
  ·rw [M1 e,wY e,bE];exact Qa k r
theorem Iq (kvs:List (κ×V)) (k:κ) (v:V):(Ft kvs k v).length<=kvs.length+1:=by
 unfold Ft;split
 ·rw [AF];lia
 ·rw [Ac,Au,EZ];lia
theorem La.isSome_eq {o:Option V} {u:Option AB} (r:La o u):o.isSome=u.isSome:=by
 cases o with
 | none=>cases u with
  | none=>rfl
  | some _=>exact (show False from r).elim
 | some _=>cases u with
  | none=>exact (show False from r).elim
  | some _=>rfl
theorem KV.val {kvs:List (κ×V)} {vs:List (κ×AB)} (r:KV kvs vs) (k:κ):La (Ib kvs k) (N1 vs k):=by
 unfold KV at r
 induction r with
 | nil=>exact CZ
 | @cons p q ps qs h t ih=>
  obtain ⟨h1,h2⟩:=h
  by_cases e:p.1=k
  ·have e':q.1=k:=h1.symm.trans e
   have b:N1 (q :: qs) k=some q.2:=by simp [N1,BO,e']
   rw [M0 e,b];exact h2
  ·have e':¬q.1=k:=λz=>e (h1.trans z)
   have b:N1 (q :: qs) k=N1 qs k:=by simp [N1,BO,e']
   rw [M1 e,b];exact ih
theorem KV.any {kvs:List (κ×V)} {vs:List (κ×AB)} (r:KV kvs vs) (k:κ):(kvs.any λkv=>decide (kv.1=k))=vs.any λkv=>decide (kv.1=k):=by
 unfold KV at r
 induction r with
 | nil=>rfl
 | cons h t ih=>rw [FY,FY,ih,h.1]
theorem KV.repl {kvs:List (κ×V)} {vs:List (κ×AB)} (r:KV kvs vs) (k:κ) {y:V} {u:AB} (ry:RelV y u) :
  KV (kvs.map λkv=>if kv.1=k then (kv.1,y) else kv) (vs.map λkv=>if kv.1=k then (kv.1,u) else kv):=by
 unfold KV at r ⊢
 induction r with
 | nil=>exact .nil
 | @cons p q ps qs h t ih=>
  rw [Ap,Ap];refine .cons ?_ ih;obtain ⟨h1,h2⟩:=h
  by_cases e:p.1=k
  ·rw [qX e,qX (h1.symm.trans e)];exact ⟨h1,ry⟩
  ·rw [qY e,qY (λz=>e (h1.trans z))];exact ⟨h1,h2⟩
theorem KV.put {kvs:List (κ×V)} {vs:List (κ×AB)} (r:KV kvs vs) (k:κ) {y:V} {u:AB} (ry:RelV y u):KV (Ft kvs k y) (stored vs k u):=by
 unfold Ft stored;rw [r.any k]
 by_cases e:(vs.any λkv=>decide (kv.1=k))=true
 ·rw [qX e,qX e];exact r.repl k ry
 ·rw [qY e,qY e];exact Ra r ⟨rfl,ry⟩
theorem KV.length {kvs:List (κ×V)} {vs:List (κ×AB)} (r:KV kvs vs):kvs.length=vs.length:=DA r
end
theorem On {P:Ah} {w:A1} {k:Key} {u:AB} (r:RelV (kV k) u):(C1 P w).is k u=true:=by
 cases k with
 | inl i=>obtain ⟨t,e⟩:=(show ∃t,u=Lx i t from r);subst e;exact Q0 P w i t
 | inr x=>obtain ⟨t,e⟩:=(show ∃t,u=Lw x t from r);subst e;exact Qz P w x t
theorem Oo {P:Ah} {w:A1}:∀ {ks:List Key} {us:List AB},Bh (ks.map kV) us->ItemsAre (C1 P w) ks us
 | [],_,r=>by rw [IV] at r;cases r;exact .nil
 | k :: ks,_,r=>by
  rw [Ap] at r
  cases r with
  | cons h t=>exact .cons (On h) (Oo t)
abbrev KT (H:Hp):List (List Key×V)->List (List Key×AH×AB)->Prop:=E6 λp q=>p.1=q.1/\H q.2.1=some (.tup (p.1.map kV))/\RelV p.2 q.2.2
theorem KT.val {H:Hp} {kvs:List (List Key×V)} {xs:List (List Key×AH×AB)} (r:KT H kvs xs) (k:List Key):La (Ib kvs k) ((Ri xs k).map (·.2)):=by
 induction r with
 | nil=>exact CZ
 | @cons p q ps qs h t ih=>
  obtain ⟨h1,_,h2⟩:=h
  by_cases e:p.1=k
  ·have e':q.1=k:=h1.symm.trans e
   have b:Ri (q :: qs) k=some q.2:=by simp [Ri,BO,e']
   rw [M0 e,b];exact h2
  ·have e':¬q.1=k:=λz=>e (h1.trans z)
   have b:Ri (q :: qs) k=Ri qs k:=by simp [Ri,BO,e']
   rw [M1 e,b];exact ih
theorem KT.repl {H:Hp} {kvs:List (List Key×V)} {xs:List (List Key×AH×AB)} (r:KT H kvs xs) (k:List Key) {y:V} {u:AB} (ry:RelV y u) :
  KT H (kvs.map λkv=>if kv.1=k then (kv.1,y) else kv) (xs.map (putAt k u)):=by
 induction r with
 | nil=>exact .nil
 | @cons p q ps qs h t ih=>
  rw [Ap,Ap];refine .cons ?_ ih;obtain ⟨h1,h2,h3⟩:=h;unfold putAt
  by_cases e:p.1=k
  ·rw [qX e,qX (h1.symm.trans e)];exact ⟨h1,h2,ry⟩
  ·rw [qY e,qY (λz=>e (h1.trans z))];exact ⟨h1,h2,h3⟩
theorem KT.put {H:Hp} {kvs:List (List Key×V)} {xs:List (List Key×AH×AB)} (r:KT H kvs xs) (k:List Key) {b:AH} {y:V} {u:AB} (hb:H b=some (.tup (k.map kV))) (ry:RelV y u) :
  KT H (Ft kvs k y) (storedH xs k b u):=by
 have e:(kvs.any λkv=>decide (kv.1=k))=(Ri xs k).isSome:=by
  rw [Qa,(r.val k).isSome_eq,Kt]
 unfold Ft storedH;rw [e]
 by_cases q:(Ri xs k).isSome=true
 ·rw [qX q,qX q];exact r.repl k ry
 ·rw [qY q,qY q];exact Ra r ⟨rfl,hb,ry⟩
theorem KT.keeps {H H':Hp} {kvs:List (List Key×V)} {xs:List (List Key×AH×AB)} (r:KT H kvs xs) (ht:∀b ys,H b=some (.tup ys)->H' b=some (.tup ys)):KT H' kvs xs:=
 E6.mapP r λ_ _ z=>⟨z.1,ht _ _ z.2.1,z.2.2⟩
variable {X:Cx} {e:Expr} {te:TE} {lo hi:Option Expr} {tl th:TO} {pos p2:Pos}
theorem ZK (h:PE X e te):PO X (some e) (eR te):=by
 intro pins s σ H Q I hw;rw [evalPart_some]
 refine thn (h pins s σ H _ I hw) λu s1 ⟨x,H1,I1,r1,q1⟩=>?_
 obtain ⟨i,rfl,q⟩:=q1;obtain ⟨t,rfl⟩:=r1;exact ⟨some i,H1,I1,.int i t,q⟩
def SlR (X:Cx) (r:V->Option Int->Option Int->Hp->VK->Prop):Prop:=
 ∀(pins:List (AH×Obj)) (s:AD) (σ:St) (H:Hp) (x:V) (v vl vu:AB) (lo hi:Option Int) (sl:AH) (Q:VK),Inv X pins σ H s->RelV x v->s.heap.IsSliceOf sl vl vu .none->O9 vl lo->O9 vu hi->r x lo hi H Q ->
  ∃T id,typeLookup (.type T) "__getitem__" = pure (some (.builtin id))/\s.TypeIs v T/\Ad (AT X.prog X.w) X.A (Lb v (.ref sl)) (EP X pins σ Q) X.xe s
theorem SlR.or {r r':V->Option Int->Option Int->Hp->VK->Prop} (h:SlR X r) (h':SlR X r'):SlR X (λx lo hi H Q=>r x lo hi H Q∨r' x lo hi H Q):=by
 intro pins s σ H x v vl vu lo hi sl Q I rx hs pl pu q
 rcases q with q | q
 ·exact h pins s σ H x v vl vu lo hi sl Q I rx hs pl pu q
 ·exact h' pins s σ H x v vl vu lo hi sl Q I rx hs pl pu q
def tSl (r:V->Option Int->Option Int->Hp->VK->Prop) (te:TE) (tl th:TO):TE:=λσ H Q=>te σ H λx H1=>tl σ H1 λl H2=>th σ H2 λu H3=>r x l u H3 Q
theorem Wx {r:V->Option Int->Option Int->Hp->VK->Prop} (hr:SlR X r) (he:PE X e te) (hl:PO X lo tl) (hu:PO X hi th):PE X (.Subscript e (.Slice lo hi none p2) pos) (tSl r te tl th):=by
 intro pins s σ H Q I h;refine az (thn (he pins s σ H _ I h) λv s1 ⟨x,H1,I1,r1,q1⟩=>?_);refine wpAny_Slice (thn (hl pins s1 σ H1 _ I1 q1) λvl s2 ⟨l,H2,I2,pl,q2⟩=>thn (hu pins s2 σ H2 _ I2 q2) λvu s3 ⟨u,H3,I3,pu,q3⟩=>?_);rw [evalPart_none];refine AN ?_
 have I4:Inv X pins σ H3 { s3 with heap:=s3.heap.push { cls:=.type "slice",data:=.fields #[vl,vu,.none] } }:=I3.kept (t':=s3.toks) λb ob q=>AI _ q
 obtain ⟨T,id,hT,ht,hg⟩:=hr pins { s3 with heap:=s3.heap.push { cls:=.type "slice",data:=.fields #[vl,vu,.none] } } σ H3 x v vl vu l u s3.heap.objs.size Q I4 r1 (dq ..) pl pu q3;show Ad (AT X.prog X.w) X.A (UI e (.Slice lo hi none p2) v (.ref s3.heap.objs.size)) (EP X pins σ Q) X.xe { s3 with heap:=s3.heap.push { cls:=.type "slice",data:=.fields #[vl,vu,.none] } };exact tail_any (ops:=[.ref s3.heap.objs.size,v]) ht hT hg (by with_unfolding_all rfl)
def Ni (xs:List V) (lo hi:Option Int):List V:=(xs.drop (HT.sIx xs.length 0 lo)).take (HT.sIx xs.length xs.length hi - HT.sIx xs.length 0 lo)
theorem Lu (xs:List V) (lo hi:Option Int):(Ni xs lo hi).length<=xs.length:=by
 unfold Ni;rw [CM,Cq]
 lia
def rSlT (K:AA):V->Option Int->Option Int->Hp->VK->Prop:=λx lo hi H Q=>∃a xs,x=.ref a/\SqT K H a xs /\
 ¬(HT.sIx xs.length 0 lo=0/\HT.sIx xs.length xs.length hi=xs.length)/\∀p,H p=none->Q (.ref p) (upd H p (.tup (Ni xs lo hi)))
theorem bd:SlR X (rSlT X.K):=by
 intro pins s σ H x v vl vu lo hi sl Q I rx hs pl pu h;obtain ⟨a,xs,rfl,hx,hw,q⟩:=h;cases rx;obtain ⟨its,r,ht,hz⟩:=I.tuple hx
 have hlen:its.toArray.size=xs.length:=by rw [Ai];exact r.length.symm
 refine ⟨"tuple",_,EN.lookup,ht.typeIs,?_⟩;refine HT.Kl ht hs pl pu (by rw [hlen];exact hw) ?_ (by rw [hlen];exact hz);rw [hlen];refine ⟨.ref s.heap.objs.size,_,I.laid (t':=s.toks) (o:=.tup (Ni xs lo hi)) (λb ob q=>AI _ q) (AO _) ?_,rfl,q _ (I.hok.fresh (AO _))⟩;exact ⟨⟨Ao (Lu xs lo hi) hz,⟨_,AX _ rfl,rfl⟩⟩,_,(r.drop (HT.sIx xs.length 0 lo)).take (HT.sIx xs.length xs.length hi - HT.sIx xs.length 0 lo),Vt _ _⟩
def ez (K:AA):R2:=λx y H Q=>∃a b xs ys,x=.ref a/\y=.ref b/\SqT K H a xs/\SqT K H b ys/\xs≠[]/\xs.length+ys.length<=sizeLine /\
 (ys=[]->Q (.ref a) H)/\(ys≠[]->∀p,H p=none->Q (.ref p) (upd H p (.tup (xs++ys))))
theorem Bh.nil_iff {xs:List V} {us:List AB} (r:Bh xs us):us=[]↔xs=[]:=by
 cases r with
 | nil=>simp
 | cons _ _=>simp
theorem Zb:OpR X (Cv .Add) (ez X.K):=by
 intro pins s σ H x y v u Q I rx ry h;obtain ⟨a,b,xs,ys,rfl,rfl,ha,hb,hx,hz,q1,q2⟩:=h;cases rx;cases ry;obtain ⟨its,r1,p1,_⟩:=I.tuple ha;obtain ⟨its2,r2,p2,_⟩:=I.tuple hb;refine HT.Z9 p1 p2 (λz=>hx (r1.nil_iff.mp z)) (λz=>⟨.ref a,H,I,rfl,q1 (r2.nil_iff.mp z)⟩) (λz=>?_) (by rw [<-r1.length,<-r2.length];exact hz);refine ⟨.ref s.heap.objs.size,_,I.laid (t':=s.toks) (o:=.tup (xs++ys)) (λb ob q=>AI _ q) (AO _) ?_,rfl,q2 (λw=>z (r2.nil_iff.mpr w)) _ (I.hok.fresh (AO _))⟩;exact ⟨⟨by rw [Ac];exact hz,⟨_,AX _ rfl,rfl⟩⟩,_,r1.append r2,Vt _ _⟩
def ixN (n:Nat) (i:Int):Option Nat:=if 0<=i then (if i < n then some i.toNat else none) else if -(n:Int)<=i then some (i+n).toNat else none
def atI {α:Type} (xs:List α) (i:Int):Option α:=(ixN xs.length i).bind λj=>xs[j]?
theorem Zr {n:Nat} {i:Int} {j:Nat} (h:ixN n i=some j):seqIndex? i n=some j/\j < n/\-(n:Int)<=i/\i < n:=by
 unfold ixN at h
 by_cases h0:0<=i
 ·rw [qX h0] at h
  by_cases h1:i < n
  ·rw [qX h1] at h
   have e:i.toNat=j:=Bc h;exact ⟨by rw [seqIndex_of h0 h1,e],by lia,by lia,h1⟩
  ·rw [qY h1] at h;cases h
 ·rw [qY h0] at h
  by_cases h1:-(n:Int)<=i
  ·rw [qX h1] at h
   have e:(i+n).toNat=j:=Bc h;exact ⟨by rw [seqIndex_neg (by lia) h1,e],by lia,h1,by lia⟩
  ·rw [qY h1] at h;cases h
theorem UE {α:Type} {xs:List α} {i:Int} {v:α} (h:atI xs i=some v):∃j,seqIndex? i xs.length=some j/\xs[j]?=some v/\j < xs.length/\-(xs.length:Int)<=i/\i < xs.length:=by
 unfold atI at h
 cases e:ixN xs.length i with
 | none=>rw [e] at h;cases h
 | some j=>
  rw [e] at h;obtain ⟨h1,h2,h3,h4⟩:=Zr e;exact ⟨j,h1,h,h2,h3,h4⟩
def QA (b:Expr):Prop:=∀o i,QB b false o i=operate [o,i] (Lb o i)
def IxR (X:Cx) (r:R2):Prop:=
 ∀(value slice:Expr) (pins:List (AH×Obj)) (s:AD) (σ:St) (H:Hp) (x y:V) (v u:AB) (Q:VK),Inv X pins σ H s->RelV x v->RelV y u->r x y H Q ->
  QB slice false v u=operate [v,u] (Lb v u)->Ad (AT X.prog X.w) X.A (UI value slice v u) (EP X pins σ Q) X.xe s
def MtR (X:Cx) (id:String) (r:V->List V->Hp->VK->Prop):Prop:=
 ∀(pins:List (AH×Obj)) (s:AD) (σ:St) (H:Hp) (x:V) (xs:List V) (v:AB) (us:List AB) (Q:VK),Inv X pins σ H s->RelV x v->Bh xs us->r x xs H Q ->
  Ad (AT X.prog X.w) X.A (call (.builtin id) (v :: us)) (EP X pins σ Q) X.xe s
section
variable {P:Ah} {w:A1} {H:Hp} {h:BW} {a:AH}
theorem aX {u:HO} (ok:HOk P w H h) (e:Rd H a u):CJ P w H h a u:=e.ok ok
theorem Ot {kvs:List (Key×V)} (ok:HOk P w H h) (e:Rd H a (.dK kvs)):kvs.length<=sizeLine/\(a==C3)=false/\∃vs,KV kvs vs/\h.DictOf (C1 P w) a vs:=
 show CJ P w H h a (.dK kvs) from aX ok e
theorem aj {kvs:List (Key×V)} (ok:HOk P w H h) (e:H a=some (.dK kvs)):kvs.length<=sizeLine/\(a==C3)=false/\∃vs,KV kvs vs/\h.DictOf (C1 P w) a vs:=Ot ok (.inl e)
theorem NT {ks:List Key} (ok:HOk P w H h) (e:H a=some (.tup (ks.map kV))):(O3 (C1 P w)).is h ks a:=by
 obtain ⟨_,its,r,o,h1,h2,n,h3⟩:=(show CJ P w H h a (.tup (ks.map kV)) from ok a _ e);exact ⟨o,its.toArray,n,h1,h2,h3,by simpa using Oo r⟩
theorem RJ {kvs:List (List Key×V)} (ok:HOk P w H h) (e:Rd H a (.dT kvs)):kvs.length<=sizeLine/\(a==C3)=false /\
  ∃xs,KT H kvs xs/\h.DictOfH (O3 (C1 P w)) a xs:=by
 obtain ⟨z,y,xs,r,o,es,ep,h1,h2,h3,h4,h5⟩:=(show CJ P w H h a (.dT kvs) from aX ok e);refine ⟨z,y,xs,r,o,es,ep,h1,h2,h3,h4,λx hx=>?_,h5⟩
 have all:∀ {l:List (List Key×V)} {m:List (List Key×AH×AB)},KT H l m->∀x∈m,(O3 (C1 P w)).is h x.1 x.2.1:=by
  intro l m q
  induction q with
  | nil=>intro x hx;exact nomatch hx
  | @cons p q ps qs hq t ih=>
   intro x hx
   rcases A6.mp hx with e | hx
   ·subst e
    exact NT ok (by rw [<-hq.1];exact hq.2.1)
   ·exact ih x hx
 exact all r x hx
theorem fy {kvs:List (List Key×V)} (ok:HOk P w H h) (e:H a=some (.dT kvs)):kvs.length<=sizeLine/\(a==C3)=false /\
  ∃xs,KT H kvs xs/\h.DictOfH (O3 (C1 P w)) a xs:=RJ ok (.inl e)
end
def Ks (H:Hp) (a:AH) (y:V) (r:Option V):Prop:=
 (∃kvs k,Rd H a (.dK kvs)/\y=kV k/\r=Ib kvs k)∨∃kvs k b,Rd H a (.dT kvs)/\y=.ref b/\H b=some (.tup (k.map kV))/\r=Ib kvs k
def RW (H:Hp) (a:AH) (y v:V) (H':Hp):Prop:=
 (∃kvs k,H a=some (.dK kvs)/\y=kV k/\kvs.length < sizeLine/\H'=upd H a (.dK (Ft kvs k v))) ∨
 ∃kvs k b,H a=some (.dT kvs)/\y=.ref b/\H b=some (.tup (k.map kV))/\kvs.length < sizeLine/\H'=upd H a (.dT (Ft kvs k v))
theorem Ks.k {H:Hp} {a:AH} {kvs:List (Key×V)} {k:Key} (e:H a=some (.dK kvs)):Ks H a (kV k) (Ib kvs k):=.inl ⟨kvs,k,.inl e,rfl,rfl⟩
theorem Ks.t {H:Hp} {a b:AH} {kvs:List (List Key×V)} {k:List Key} (e:H a=some (.dT kvs)) (eb:H b=some (.tup (k.map kV))):Ks H a (.ref b) (Ib kvs k):=.inr ⟨kvs,k,b,.inl e,rfl,eb,rfl⟩
theorem RW.k {H:Hp} {a:AH} {kvs:List (Key×V)} {k:Key} {v:V} (e:H a=some (.dK kvs)) (hl:kvs.length < sizeLine):RW H a (kV k) v (upd H a (.dK (Ft kvs k v))):=.inl ⟨kvs,k,e,rfl,hl,rfl⟩
theorem RW.t {H:Hp} {a b:AH} {kvs:List (List Key×V)} {k:List Key} {v:V} (e:H a=some (.dT kvs)) (eb:H b=some (.tup (k.map kV))) (hl:kvs.length < sizeLine) :
  RW H a (.ref b) v (upd H a (.dT (Ft kvs k v))):=.inr ⟨kvs,k,b,e,rfl,eb,hl,rfl⟩
variable {X:Cx} {a b:Expr} {ta tb:TE} {pos:Pos}
theorem IxR.or {r r':R2} (h:IxR X r) (h':IxR X r'):IxR X (λx y H Q=>r x y H Q∨r' x y H Q):=by
 intro value slice pins s σ H x y v u Q I rx ry q hs
 rcases q with q | q
 ·exact h value slice pins s σ H x y v u Q I rx ry q hs
 ·exact h' value slice pins s σ H x y v u Q I rx ry q hs
theorem fF {r:R2} (hr:IxR X r) (ha:PE X a ta) (hb:PE X b tb) (hs:QA b):PE X (.Subscript a b pos) (tOp r ta tb):=by
 intro pins s σ H Q I h;exact az (dN ha hb I h λv u s2 x y H2 I2 rx ry q=>hr a b pins s2 σ H2 x y v u Q I2 rx ry q (hs _ _))
def rIxL (K:AA):R2:=λx y H Q=>∃p xs i v,x=.ref p/\y=.int i/\SqL K H p xs/\atI xs i=some v/\Q v H
def rIxT (K:AA):R2:=λx y H Q=>∃p xs i v,x=.ref p/\y=.int i/\SqT K H p xs/\atI xs i=some v/\Q v H
theorem ix_list:IxR X (rIxL X.K):=by
 intro value slice pins s σ H x y v u Q I rx ry h hs;obtain ⟨p,xs,i,z,rfl,rfl,hq,he,q⟩:=h;cases rx;obtain ⟨t,rfl⟩:=ry;obtain ⟨its,r,pl,hz⟩:=I.list hq;obtain ⟨j,h1,h2,h3,h4,h5⟩:=UE he;obtain ⟨w,ew,rw'⟩:=r.get h2;have hl:=r.length;have hn:=Pj;have fin:EP X pins σ Q w s:=⟨z,H,I,rw',q⟩
 by_cases h0:0<=i
 ·have hj:i.toNat=j:=by
   rw [seqIndex_of h0 h5] at h1;exact Bc h1
  exact item_listR pl.isList h0 (by lia) (by rw [hj];simpa using ew) fin hs
 ·have hj:(i+(its.toArray.size:Int)).toNat=j:=by
   rw [seqIndex_neg (by lia) h4] at h1;rw [Ai,<-hl];exact Bc h1
  exact Vl (x:=w) pl.isList.typeIs db.lookup
   (wpAny_getItem_list_neg (Q:=λr s'=>r=w/\EP X pins σ Q r s') pl.isList (by lia) (by rw [Ai] <;> lia) (by lia) (by rw [hj];simpa using ew) ⟨rfl,fin⟩) hs
theorem cq:IxR X (rIxT X.K):=by
 intro value slice pins s σ H x y v u Q I rx ry h hs;obtain ⟨p,xs,i,z,rfl,rfl,hq,he,q⟩:=h;cases rx;obtain ⟨t,rfl⟩:=ry;obtain ⟨its,r,pl,hz⟩:=I.tuple hq;obtain ⟨j,h1,h2,h3,h4,h5⟩:=UE he;obtain ⟨w,ew,rw'⟩:=r.get h2;have hl:=r.length;have hn:=Pj;have fin:EP X pins σ Q w s:=⟨z,H,I,rw',q⟩
 exact Vl (x:=w) pl.typeIs slot_tuple_getitem.lookup
  (getItem_tuple (j:=j) (Q:=λr s'=>r=w/\EP X pins σ Q r s') pl (by lia) (by lia) (by rw [Ai,<-hl];exact h1) (by simpa using ew) ⟨rfl,fin⟩) hs
theorem PP (lo hi:Option Int) (n:Nat):(Gp lo hi none n).1=((HT.sIx n 0 lo:Nat):Int)/\(Gp lo hi none n).2.1=((HT.sIx n n hi:Nat):Int)/\(Gp lo hi none n).2.2=1:=by
 refine ⟨?_,?_,rfl⟩
 ·cases lo with
  | none=>simp [Gp,HT.sIx]
  | some i=>
   simp only [Gp,HT.sIx,Ve,show (1:Int) > 0 by decide,if_true]
   by_cases h:i < 0
   ·simp only [h,if_true] <;> lia
   ·simp only [h,if_false] <;> lia
 ·cases hi with
  | none=>simp [Gp,HT.sIx]
  | some i=>
   simp only [Gp,HT.sIx,Ve,show (1:Int) > 0 by decide,if_true]
   by_cases h:i < 0
   ·simp only [h,if_true] <;> lia
   ·simp only [h,if_false] <;> lia
theorem OB (its:List AB) (lo hi:Option Int):slicePick its.toArray lo hi none=((its.drop (HT.sIx its.length 0 lo)).take (HT.sIx its.length its.length hi - HT.sIx its.length 0 lo)).toArray:=by
 obtain ⟨h1,h2,h3⟩:=PP lo hi its.toArray.size;unfold slicePick;rw [h1,h2,h3]
 simp only [sliceRange_one,pick_run,Ai] <;> rfl
def eu (K:AA):V->Option Int->Option Int->Hp->VK->Prop:=λx lo hi H Q=>∃a xs,x=.ref a/\SqL K H a xs/\∀p,H p=none->Q (.ref p) (upd H p (.lst (Ni xs lo hi)))
theorem Yz:SlR X (eu X.K):=by
 intro pins s σ H x v vl vu lo hi sl Q I rx hs pl pu h;obtain ⟨a,xs,rfl,hx,q⟩:=h;cases rx;obtain ⟨its,r,ht,hz⟩:=I.list hx;have hlen:=r.length;refine ⟨"list",_,db.lookup,ht.isList.typeIs,?_⟩;refine wpAny_getItem_list_slice ht.isList hs pl pu .none (by simp) ?_ (by rw [Ai] <;> lia);rw [OB,<-hlen];refine ⟨.ref s.heap.objs.size,_,I.laid (t':=s.toks) (o:=.lst (Ni xs lo hi)) (λb ob q=>AI _ q) (AO _) ?_,rfl,q _ (I.hok.fresh (AO _))⟩;exact ⟨Ao (Lu xs lo hi) hz,_,0,(r.drop (HT.sIx xs.length 0 lo)).take (HT.sIx xs.length xs.length hi - HT.sIx xs.length 0 lo),AX _ rfl⟩
theorem P5:IP X (.builtin "len") (λxs H Q=>∃p ys,xs=[.ref p]/\(SqL X.K H p ys∨SqT X.K H p ys)/\Q (.int ys.length) H):=by
 intro pins s σ H xs us Q I r h;obtain ⟨p,ys,rfl,hq,q⟩:=h;obtain ⟨u,rfl,rx⟩:=vals1 r;cases rx;have hn:=Pj
 rcases hq with hq | hq
 ·obtain ⟨its,r',pl,hz⟩:=I.list hq
  have hlen:=r'.length;exact Calls.call_len_list pl.isList (by simp only [Ai] <;> lia) ⟨.int ys.length,H,I.tok _,⟨s.toks+1,by rw [Ai,hlen]⟩,q⟩
 ·obtain ⟨its,r',pl,hz⟩:=I.tuple hq
  have hlen:=r'.length;exact len_tuple pl (by simp only [Ai] <;> lia) ⟨.int ys.length,H,I.tok _,⟨s.toks+1,by rw [Ai,hlen]⟩,q⟩
theorem OP:IP X (.type "tuple") (λxs H Q=>∃p ys,xs=[.ref p]/\((SqL X.K H p ys/\∀l,H l=none->Q (.ref l) (upd H l (.tup ys)))∨(SqT X.K H p ys/\Q (.ref p) H))):=by
 intro pins s σ H xs us Q I r h;obtain ⟨p,ys,rfl,h⟩:=h;obtain ⟨u,rfl,rx⟩:=vals1 r;cases rx
 rcases h with ⟨hq,q⟩ | ⟨hq,q⟩
 ·obtain ⟨its,r',pl,hz⟩:=I.list hq
  have hlen:=r'.length;refine call_tuple_list pl.isList (λh' kp=>?_) (by simp only [Ai] <;> lia);have I1:Inv X pins σ H { s with heap:=h' }:=I.kept (t':=s.toks) kp
  have I2:Inv X pins σ (upd H h'.objs.size (.tup ys)) { s with heap:=h'.push { cls:=.type "tuple",data:=.seq its.toArray } }:=
   I1.laid (t':=s.toks) (λb o e=>AI _ e) (AO _) (show CJ X.prog X.w _ _ _ (.tup ys) from ⟨⟨hz,⟨_,AX _ rfl,rfl⟩⟩,its,r',Vt _ _⟩)
  exact ⟨.ref h'.objs.size,_,I2,rfl,q _ (I1.hok.fresh (AO _))⟩
 ·obtain ⟨its,r',pl,hz⟩:=I.tuple hq
  exact call_tuple_same pl ⟨.ref p,H,I,rfl,q⟩
def tyV (K:AA) (T:String) (x:V) (H:Hp):Prop:=match x with
 | .str _=>T = "str"
 | .int _=>T = "int"
 | .ref p=>(T = "list"/\∃xs,SqL K H p xs)∨(T = "tuple"/\∃o,K.lookup p=some o/\o.cls=.type "tuple"/\o.dict=none) ∨
   (T = "dict"/\((∃kvs,H p=some (.dK kvs))∨∃kvs,H p=some (.dT kvs)))∨(T = "set"/\∃S n,H p=some (.set S n))
 | _=>False
theorem bU {pins:List (AH×Obj)} {σ:St} {H:Hp} {s:AD} {T:String} {x:V} {v:AB} (I:Inv X pins σ H s) (r:RelV x v) (ty:tyV X.K T x H) :
  s.TypeIs v T/\∀a,v=.ref a->∃ob,s.heap.get? a=some ob/\ob.dict=none:=by
 cases x with
 | str z=>
  obtain ⟨t,rfl⟩:=r;cases (show T = "str" from ty);exact ⟨typeIs_str s z t,λ_ e=>nomatch e⟩
 | int i=>
  obtain ⟨t,rfl⟩:=r;cases (show T = "int" from ty);exact ⟨typeIs_int s i t,λ_ e=>nomatch e⟩
 | ref p=>
  cases r
  rcases ty with ⟨rfl,xs,hq⟩ | ⟨rfl,o,hk,hc,hd⟩ | ⟨rfl,hk⟩ | ⟨rfl,S,n,hk⟩
  ·obtain ⟨its,_,pl,_⟩:=I.list hq
   refine ⟨pl.isList.typeIs,λa e=>?_⟩;cases e;obtain ⟨o,n,e,c,hd,_⟩:=pl;exact ⟨o,e,hd⟩
  ·refine ⟨⟨o,I.kIn p o hk,hc⟩,λa e=>?_⟩
   cases e;exact ⟨o,I.kIn _ o hk,hd⟩
  ·have z:∃o,s.heap.get? p=some o/\o.ExactDict:=by
    rcases hk with ⟨kvs,hk⟩ | ⟨kvs,hk⟩
    ·obtain ⟨_,_,_,_,o,_,_,e,ex,_⟩:=I.hok p _ hk
     exact ⟨o,e,ex⟩
    ·obtain ⟨_,_,_,_,o,_,_,e,ex,_⟩:=I.hok p _ hk
     exact ⟨o,e,ex⟩
   obtain ⟨o,e,ex⟩:=z;refine ⟨⟨o,e,ex.1⟩,λa e2=>?_⟩;cases e2;exact ⟨o,e,ex.2.1⟩
  ·obtain ⟨o,_,_,_,e,ex,_⟩:=I.hok p _ hk
   refine ⟨⟨o,e,ex.1⟩,λa e2=>?_⟩;cases e2;exact ⟨o,e,ex.2.1⟩
 | _=>exact DC ty
def tBM (K:AA) (T:String) (r:V->List V->Hp->VK->Prop) (to:TE) (t:TA):TE:=λσ H Q=>to σ H λx H1=>tyV K T x H1/\t σ H1 λxs H2=>r x xs H2 Q
variable {o e:Expr} {es:List Expr} {to:TE} {t:TA} {name:Str} {apos cpos:Pos} {T id:String} {r:V->List V->Hp->VK->Prop}
theorem fG (pa:PlainAttrs T) (slot:Slot T name id) (hty:typeOf (.builtin id)=pure (.type "method_descriptor")) (hm:MtR X id r) (ho:PE X o to) (ha:PA X (e :: es) t)
  (hbase:Ex o name X.env (Bx o X.env)=Bx o X.env:=by rfl)
  (hfew:((C4 cpos (AU (e :: es) X.env)).all (λx=>!x.1)&&(YR cpos (QD [] X.env)).all (λx=>x.1.isSome)
    &&decide ((e :: es).length+([]:List Jo).length+(if ([]:List Jo).isEmpty then 0 else 1) < 30))=true:=by rfl)
  (hline:(apos.endLine==cpos.line)=true:=by rfl) (hs:AU (e :: es) X.env=(false,Bx e X.env) :: AU es X.env:=by rfl) (hplain:(C4 cpos (AU es X.env)).any (·.1)=false:=by rfl) :
  PE X (.Call (.Attribute o name apos) (e :: es) [] cpos) (tBM X.K T r to t):=by
 intro pins s σ H Q I h;refine Vk hbase hfew hline rfl (thn (ho pins s σ H _ I h) λv s1 ⟨x,H1,I1,r1,ty,q1⟩=>?_);obtain ⟨h1,h2⟩:=bU I1 r1 ty;refine ⟨T,id,pa,slot,hty,h1,h2,?_⟩;have hA:=ha cpos pins s1 σ H1 _ I1 q1;rw [hs] at hA ⊢;refine QP (by show (false||(C4 cpos (AU es X.env)).any (·.1))=false;rw [hplain] <;> rfl) (JS ?_)
 exact thn hA λus s2 ⟨vs,H2,I2,r2,q2⟩=>hm pins s2 σ H2 x vs v us Q I2 r1 r2 q2
def MtM (X:Cx) (id:String) (r:V->List V->Hp->VK->Prop):Prop:=
 ∀(pins:List (AH×Obj)) (s:AD) (σ:St) (H:Hp) (x:V) (xs:List V) (v:AB) (us:List AB) (Q:VK),Inv X pins σ H s->RelV x v->Bh xs us->r x xs H Q ->
  Ad (AT X.prog X.w) X.A (call (.builtin id) (v :: us)) (EP X pins σ Q) X.xe s
theorem Bh.one:∀ {x:V} {us:List AB},Bh [x] us->∃u,us=[u]/\RelV x u
 | _,_,.cons r .nil=>⟨_,rfl,r⟩
section
variable {X:Cx} {pins:List (AH×Obj)} {σ:St} {H:Hp} {s:AD} {a:AH} {y v:V} {u r:AB} {o:Option V} {A:Aw} {E:AB->AD->Prop}
theorem Inv.big (I:Inv X pins σ H s):C3 < s.heap.objs.size:=by
 have h:An < s.heap.objs.size:=(I.mod.glob.keeps I.bk).lt;exact d7 (by decide) h
theorem VJ {Q:AB->AD->Prop} (hu:A.units+1 < D6) (I:Inv X pins σ H s) (g:Ks H a y (some v)) (ry:RelV y u) (h:∀w' s',Inv X pins σ H s'->RelV v w'->Q w' s') :
  Ad (AT X.prog X.w) A (Lb (.ref a) u) Q E s:=by
 rcases g with ⟨kvs,k,e,ey,l⟩ | ⟨kvs,k,b,e,ey,eb,l⟩
 ·subst ey
  obtain ⟨z,hd,vs,rel,dd⟩:=Ot I.hok e;obtain ⟨w',hw,rw'⟩:=La.some_of (v:=v) (o:=N1 vs k) (by rw [l];exact rel.val k);exact wpAny_getItem_of (On ry) dd.mapOf hw (h w' _ (I.tok _) rw')
 ·subst ey
  cases (show u=Ax b from ry);obtain ⟨z,hd,xs,rel,dd⟩:=RJ I.hok e;obtain ⟨w',hw,rw'⟩:=La.some_of (v:=v) (o:=(Ri xs k).map (·.2)) (by rw [l];exact rel.val k);obtain ⟨p,hp,hp2⟩:=Option.map_eq_some_iff.mp hw;refine wpAny_getItem_heap (Hh hu) (NT I.hok eb) dd hp ?_;rw [hp2];exact h w' _ (I.tok _) rw'
theorem d_in {Q:AB->AD->Prop} (hu:A.units+1 < D6) (I:Inv X pins σ H s) (g:Ks H a y o) (ry:RelV y u) (h:∀s',Inv X pins σ H s'->Q (.bool o.isSome) s') :
  Ad (AT X.prog X.w) A (Bb .In u (.ref a)) Q E s:=by
 rcases g with ⟨kvs,k,e,ey,l⟩ | ⟨kvs,k,b,e,ey,eb,l⟩
 ·subst ey
  obtain ⟨z,hd,vs,rel,dd⟩:=Ot I.hok e;refine wpAny_in_of (On ry) hd dd.mapOf ?_;rw [<-(rel.val k).isSome_eq,<-l];exact h _ (I.tok _)
 ·subst ey
  cases (show u=Ax b from ry);obtain ⟨z,hd,xs,rel,dd⟩:=RJ I.hok e;refine wpAny_in_heap (Hh hu) (NT I.hok eb) hd dd ?_;have q:=(rel.val k).isSome_eq;rw [Kt] at q;rw [<-q,<-l];exact h _ (I.tok _)
theorem Z7 {Q:AB->AD->Prop} (hu:A.units+1 < D6) (I:Inv X pins σ H s) (g:Ks H a y o) (ry:RelV y u) (h:∀s',Inv X pins σ H s'->Q (.bool (!o.isSome)) s') :
  Ad (AT X.prog X.w) A (Bb .NotIn u (.ref a)) Q E s:=by
 rcases g with ⟨kvs,k,e,ey,l⟩ | ⟨kvs,k,b,e,ey,eb,l⟩
 ·subst ey
  obtain ⟨z,hd,vs,rel,dd⟩:=Ot I.hok e;refine wpAny_notIn_of (On ry) hd dd.mapOf ?_;rw [<-(rel.val k).isSome_eq,<-l];exact h _ (I.tok _)
 ·subst ey
  cases (show u=Ax b from ry);obtain ⟨z,hd,xs,rel,dd⟩:=RJ I.hok e;refine wpAny_notIn_heap (Hh hu) (NT I.hok eb) hd dd ?_;have q:=(rel.val k).isSome_eq;rw [Kt] at q;rw [<-q,<-l];exact h _ (I.tok _)
theorem Px {h':BW} {t':Nat} {ob:HO} (I:Inv X pins σ H s) (mu:Mut (H a)) (hs:DT a s.heap h') (he:∃q,h'.get? a=some q) (new:CJ X.prog X.w (upd H a ob) h' a ob) :
  Inv X pins σ (upd H a ob) { s with heap:=h',toks:=t' }:=
 I.write (x:=a) (e:=a) mu (.inl rfl) (λb q hb z=>(hs.2 b hb).trans z) he new
theorem Xx {P:Ah} {w:A1} {H':Hp} {h':BW} {kvs:List (Key×V)} {vs:List (Key×AB)} (z:kvs.length<=sizeLine) (hd:(a==C3)=false) (rel:KV kvs vs) (dd:h'.DictOf (C1 P w) a vs) :
  CJ P w H' h' a (.dK kvs):=⟨z,hd,vs,rel,dd⟩
theorem VH {H':Hp} {Q:Unit->AD->Prop} (hu:A.units+1 < D6) (I:Inv X pins σ H s) (g:RW H a y v H') (ry:RelV y u) (rv:RelV v r) (h:∀s',Inv X pins σ H' s'->Q () s') :
  Ad (AT X.prog X.w) A (setItem (.ref a) u r) Q E s:=by
 rcases g with ⟨kvs,k,e,ey,l,eH⟩ | ⟨kvs,k,b,e,ey,eb,l,eH⟩
 ·subst ey eH
  obtain ⟨z,hd,vs,rel,dd⟩:=aj I.hok e
  have hz:vs.length<=sizeLine:=by rw [<-rel.length];exact z
  have hl:(Ft kvs k v).length<=sizeLine:=by have:=Iq kvs k v;lia
  refine wpAny_setItem_pairs (hsz:=hz) (On ry) dd λh' dd' hs=>h _ ?_
  have he:∃q,h'.get? a=some q:=let ⟨q,_,_,hq,_⟩:=dd';⟨q,hq⟩
  exact Px I (by rw [e];exact CZ) hs he (Xx hl hd (rel.put k rv) dd')
 ·subst ey eH
  cases (show u=Ax b from ry);obtain ⟨z,hd,xs,rel,dd⟩:=fy I.hok e
  have hz:xs.length<=sizeLine:=by rw [<-DA rel];exact z
  have hl:(Ft kvs k v).length<=sizeLine:=by have:=Iq kvs k v;lia
  refine wpAny_setItem_heap (hsz:=hz) (Hh hu) (NT I.hok eb) dd λh' dd' hs=>h _ ?_
  obtain ⟨q,es,ep,hq,h2,h3,h4,_,h5⟩:=dd';refine Px I (by rw [e];exact CZ) hs ⟨q,hq⟩ ⟨hl,hd,_,(rel.put k eb rv).keeps λc ys ec=>?_,q,es,ep,hq,h2,h3,h4,h5⟩;rw [BZ (fX ec e (λz=>nomatch z))];exact ec
variable {X:Cx} {pins:List (AH×Obj)} {σ:St} {H:Hp} {s:AD} {l b:AH} {xs ys zs:List V}
theorem Inv.lset {its its':List AB} {n:Nat} {f:Array AB->Array AB} {t':Nat} (I:Inv X pins σ H s) (hH:H l=some (.lst xs))
  (e:s.heap.get? l=some { cls:=.type "list",data:=.seq its.toArray n }) (hf:f its.toArray=its'.toArray) (hv:Bh ys its') (hz:ys.length<=sizeLine) :
  Inv X pins σ (upd H l (.lst ys)) { s with heap:=s.heap.update l (HB f),toks:=t' }:=by
 have q:=PySem.IsL.update e f;rw [hf] at q;refine I.write (x:=l) (e:=l) (by rw [hH];exact trivial) (.inl rfl) (λb' u hb hu=>(DS s.heap (HB f) (Bm hb)).trans hu) ⟨_,q⟩ ?_;exact ⟨hz,its',_,hv,q⟩
theorem Inv.lnew {its:List AB} {t':Nat} (I:Inv X pins σ H s) (hv:Bh ys its) (hz:ys.length<=sizeLine) :
  Inv X pins σ (upd H s.heap.objs.size (.lst ys)) { s with heap:=s.heap.push { cls:=.type "list",data:=.seq its.toArray },toks:=t' }:=
 I.laid (λ_ _ q=>AI _ q) (AO _) ⟨hz,its,0,hv,AX _ rfl⟩
theorem Inv.fresh (I:Inv X pins σ H s):H s.heap.objs.size=none:=I.hok.fresh (AO _)
theorem Inv.lstM (I:Inv X pins σ H s) (hH:H l=some (.lst xs)):xs.length<=sizeLine/\∃(its:List AB) (n:Nat),Bh xs its/\xs.length=its.length/\s.heap.get? l=some { cls:=.type "list",data:=.seq its.toArray n }:=by
 obtain ⟨z,its,n,r,e⟩:=I.hok l _ hH;exact ⟨z,its,n,r,r.length,e⟩
end
section
variable {X:Cx} {pins:List (AH×Obj)} {σ:St} {H:Hp} {s:AD} {a:AH} {kvs:List (Key×V)} {k:Key} {u:AB} {A:Aw} {E:AB->AD->Prop}
theorem gB {Q:AB->AD->Prop} (I:Inv X pins σ H s) (e:Rd H a (.dK kvs)) (h:∀t s',Inv X pins σ H s'->Q (.int kvs.length t) s'):Ad (AT X.prog X.w) A (call (.builtin "len") [.ref a]) Q E s:=by
 obtain ⟨z,hd,vs,rel,dd⟩:=Ot I.hok e;refine call_len_dict hd dd (by rw [<-rel.length];rw [Kw] at z;lia) ?_;rw [<-rel.length];exact h _ _ (I.tok _)
end
def dU (i:Expr):Prop:=∀ov iv,QB i false ov iv=operate [ov,iv] (Lb ov iv)
theorem Yw {prog:Ah} {w:A1} {A:Aw} {E:AB->AD->Prop} {s:AD} {env:Env} {value slice:Expr} {pos:Pos} {T id:String} {Q:AB->AD->Prop}
  (hl:typeLookup (.type T) "__getitem__" = pure (some (.builtin id))) (hs:dU slice)
  (h:Ad (AT prog w) A (Bx value env) (λo s₁=>Ad (AT prog w) A (Bx slice env) (λi s₂=>s₂.TypeIs o T/\Ad (AT prog w) A (Lb o i) Q E s₂) E s₁) E s) :
  Ad (AT prog w) A (Bx (.Subscript value slice pos) env) Q E s:=by
 refine az (E3 h (λo s₁ h₁=>E3 h₁ (λi s₂ h₂=>?_) λ_ _ x=>x) λ_ _ x=>x);obtain ⟨hT,h₂⟩:=h₂;unfold UI;refine AC ?_;rw [getitemInPython_of_ne hT.not_modules];refine AC (wpAny_specialOf hT hl ?_)
 have fin:Ad (AT prog w) A (QB slice false o i) (λr s₃=>Ad (AT prog w) A (letTemporaryGo value o r >>= λ_=>pure r) Q E s₃) E s₂:=by
  rw [hs o i];exact wpAny_operating (E3 h₂ (λr s₃ h₃=>AC (wpAny_letTemporaryGo (AN h₃))) λ_ _ x=>x)
 first
  | exact AN (AC fin)
  | exact AC (AN (AC fin))
  | exact AC fin
theorem RL {X:Cx} {pins:List (AH×Obj)} {σ:St} {H:Hp} {s:AD} {a:AH} {y:V} {o:Option V} (I:Inv X pins σ H s) (g:Ks H a y o):s.TypeIs (.ref a) "dict":=by
 rcases g with ⟨kvs,k,e,_,_⟩ | ⟨kvs,k,b,e,_,_,_⟩
 ·obtain ⟨_,_,vs,_,dd⟩:=Ot I.hok e
  exact dd.typeIs
 ·obtain ⟨_,_,xs,_,dd⟩:=RJ I.hok e
  exact dd.typeIs
def eZ (td ty:TE):TE:=λσ H Q=>td σ H λx H1=>ty σ H1 λy H2=>∃a v,x=.ref a/\Ks H2 a y (some v)/\Q v H2
def eY (ty td:TE):TE:=λσ H Q=>ty σ H λy H1=>td σ H1 λx H2=>∃a o,x=.ref a/\Ks H2 a y o/\Q (.bl o.isSome) H2
def TU (ty td:TE):TE:=λσ H Q=>ty σ H λy H1=>td σ H1 λx H2=>∃a o,x=.ref a/\Ks H2 a y o/\Q (.bl (!o.isSome)) H2
def em (td ty tv:TE):TS:=λD σ H=>tv σ H λv H1=>td σ H1 λx H2=>ty σ H2 λy H3=>∃a H4,x=.ref a/\RW H3 a y v H4/\D.nx σ H4
variable {X:Cx}
def Y9:V->List V->Hp->VK->Prop:=λx vs H Q=>∃l xs y,x=.ref l/\vs=[y]/\H l=some (.lst xs)/\xs.length < sizeLine/\Q .non (upd H l (.lst (xs++[y])))
theorem Oi:MtM X "list.append" Y9:=by
 intro pins s σ H x vs v us Q I rx rv h;obtain ⟨l,xs,y,rfl,rfl,hH,hz,q⟩:=h;cases rx;obtain ⟨u,rfl,ru⟩:=rv.one;obtain ⟨z,its,n,r,hl,e⟩:=I.lstM hH;refine call_meets F.slot_list_append ⟨_,e,rfl⟩ F.entry_list_append (F.args_list_append_2 _ _) (PySem.list_append l its.toArray n u (by rw [Ai];lia)) ⟨e,?_⟩;refine ⟨.non,_,I.lset (its':=its++[u]) hH e (by simp) (r.append (.cons ru .nil)) ?_,rfl,q⟩;rw [Ac,A9]
 lia
def rCat:R2:=λx y H Q=>∃l b xs zs,x=.ref l/\y=.ref b/\H l=some (.lst xs)/\H b=some (.lst zs)/\xs.length+zs.length<=sizeLine/\∀p,H p=none->Q (.ref p) (upd H p (.lst (xs++zs)))
theorem cR:OpR X (Cv .Add) rCat:=by
 intro pins s σ H x y v u Q I rx ry h;obtain ⟨l,b,xs,zs,rfl,rfl,hH,hB,hz,q⟩:=h;cases rx;cases ry;obtain ⟨z,its,n,r,hl,e⟩:=I.lstM hH;obtain ⟨z2,its2,n2,r2,hl2,e2⟩:=I.lstM hB;refine PySem.P.add_list e e2 ?_ (by rw [Ai,Ai];lia)
 have ea:its.toArray++its2.toArray=(its++its2).toArray:=by simp
 rw [ea];exact ⟨.ref _,_,I.lnew (t':=s.toks) (r.append r2) (by rw [Ac];omega),rfl,q _ I.fresh⟩
section
variable {X:Cx} {o i e value:Expr} {pos pos' tpos:Pos} {td ty tv:TE}
theorem ZS (hu:X.A.units+1 < D6) (ho:PE X o td) (hi:PE X i ty) (hs:dU i):PE X (.Subscript o i pos) (eZ td ty):=by
 intro pins s σ H Q I h;refine Yw PySem.F.slot_dict_getitem.lookup hs (thn (ho pins s σ H _ I h) λu s1 ⟨x,H1,I1,rx,q1⟩=>thn (hi pins s1 σ H1 _ I1 q1) λiv s2 ⟨y,H2,I2,ry,a,v,ex,g,q2⟩=>?_);subst ex;obtain rfl:u=Ax a:=rx;exact ⟨RL I2 g,VJ hu I2 g ry λw' s3 I3 rw'=>⟨v,H2,I3,rw',q2⟩⟩
theorem cK (hu:X.A.units+1 < D6) (hi:PE X i ty) (ho:PE X o td):PC X .In i o (eY ty td):=by
 intro pins s σ H Q I h
 refine thn (hi pins s σ H _ I h) λiv s1 ⟨y,H1,I1,ry,q1⟩=>thn (ho pins s1 σ H1 _ I1 q1) λu s2 ⟨x,H2,I2,rx,a,ov,ex,g,q2⟩=>?_
 subst ex;obtain rfl:u=Ax a:=rx
 exact d_in hu I2 g ry λs3 I3=>⟨.bl ov.isSome,H2,I3,rfl,q2⟩
theorem Uo (hu:X.A.units+1 < D6) (hi:PE X i ty) (ho:PE X o td):PC X .NotIn i o (TU ty td):=by
 intro pins s σ H Q I h
 refine thn (hi pins s σ H _ I h) λiv s1 ⟨y,H1,I1,ry,q1⟩=>thn (ho pins s1 σ H1 _ I1 q1) λu s2 ⟨x,H2,I2,rx,a,ov,ex,g,q2⟩=>?_
 subst ex;obtain rfl:u=Ax a:=rx
 exact Z7 hu I2 g ry λs3 I3=>⟨.bl (!ov.isSome),H2,I3,rfl,q2⟩
theorem ZH (hu:X.A.units+1 < D6) (ho:PE X o td) (hi:PE X i ty) (hv:PE X value tv) (hs:EX value (some (.Subscript o i pos')) pos.line X.env=pure false) :
  PS X (.Assign [.Subscript o i pos'] value pos) (em td ty tv):=by
 intro pins s σ H D I h;refine wpAny_Assign_Subscript (thn (hv pins s σ H _ I h) λr s1 ⟨v,H1,I1,rv,q1⟩=>thn (ho pins s1 σ H1 _ I1 q1) λu s2 ⟨x,H2,I2,rx,q2⟩=>thn (hi pins s2 σ H2 _ I2 q2) λiv s3 ⟨y,H3,I3,ry,a,H4,ex,g,q3⟩=>?_) hs;subst ex;obtain rfl:u=Ax a:=rx
 exact VH hu I3 g ry rv λs4 I4=>⟨σ,H4,I4,q3⟩
end
theorem RK {P:Ah} {w:A1} {H:Hp} (h:BW) (hb:C3 < h.objs.size):CJ P w H (h.push { cls:=.type "dict",data:=.dict #[] }) h.objs.size (.dK []):=
 ⟨Cp _,beq_eq_false_iff_ne.mpr (Bm (Am hb)),[],.nil,BW.DictOf.new h⟩
theorem Xv {P:Ah} {w:A1} {H:Hp} (h:BW) (hb:C3 < h.objs.size):CJ P w H (h.push { cls:=.type "dict",data:=.dict #[] }) h.objs.size (.dT []):=
 ⟨Cp _,beq_eq_false_iff_ne.mpr (Bm (Am hb)),[],.nil,_,#[],0,AX _ rfl,⟨rfl,rfl,rfl⟩,rfl,rfl,Ja⟩
def ba:TE:=λ_ H Q=>∀p,H p=none->Q (.ref p) (upd H p (.dK []))
def bZ:TE:=λ_ H Q=>∀p,H p=none->Q (.ref p) (upd H p (.dT []))
variable {prog:Ah} {w:A1} {A:Aw} {E:AB->AD->Prop} {s:AD}
section
variable {X:Cx} {pos:Pos}
theorem Wz:PE X (.Dict [] [] pos) ba:=λpins s σ H Q I h=>
 dw ⟨.ref s.heap.objs.size,_,I.laid (a:=s.heap.objs.size) (o:=.dK []) (t':=s.toks) (λ_ _ q=>AI _ q) (AO _) (RK s.heap I.big),rfl,h _ (I.hok.fresh (AO _))⟩
theorem Wy:PE X (.Dict [] [] pos) bZ:=λpins s σ H Q I h=>
 dw ⟨.ref s.heap.objs.size,_,I.laid (a:=s.heap.objs.size) (o:=.dT []) (t':=s.toks) (λ_ _ q=>AI _ q) (AO _) (Xv s.heap I.big),rfl,h _ (I.hok.fresh (AO _))⟩
end
def R8:List (TE×TE)->St->Hp->(List (V×V)->Hp->Prop)->Prop
 | [],_,H,Q=>Q [] H
 | (tk,tv) :: r,σ,H,Q=>tk σ H λx H1=>tv σ H1 λy H2=>R8 r σ H2 λps H3=>Q ((x,y) :: ps) H3
abbrev VV:List (V×V)->List (AB×AB)->Prop:=E6 λp q=>RelV p.1 q.1/\RelV p.2 q.2
def PPs (X:Cx) (pos:Pos) (keys:List (Option Expr)) (values:List Expr) (trs:List (TE×TE)):Prop:=
 ∀(pins:List (AH×Obj)) (s:AD) (σ:St) (H:Hp) (Q:List (V×V)->Hp->Prop),Inv X pins σ H s->R8 trs σ H Q ->
  Ad (AT X.prog X.w) X.A (evalPairs (pairTrees keys values X.env pos)) (λvs s'=>∃ps H',Inv X pins σ H' s'/\VV ps vs/\Q ps H') X.xe s
theorem ZJ {X:Cx} {pos:Pos}:PPs X pos [] [] []:=λpins s σ H Q I h=>pairTrees_nil_walk ⟨[],H,I,.nil,h⟩
theorem Wp {X:Cx} {pos:Pos} {k v:Expr} {ks:List (Option Expr)} {vs:List Expr} {tk tv:TE} {trs:List (TE×TE)} (hk:PE X k tk) (hv:PE X v tv) (hr:PPs X pos ks vs trs) :
  PPs X pos (some k :: ks) (v :: vs) ((tk,tv) :: trs):=λpins s σ H Q I h=>
 pairTrees_cons_walk (thn (hk pins s σ H _ I h) λu s1 ⟨x,H1,I1,rx,q1⟩=>thn (hv pins s1 σ H1 _ I1 q1) λw2 s2 ⟨y,H2,I2,ry,q2⟩=>
  thn (hr pins s2 σ H2 _ I2 q2) λws s3 ⟨ps,H3,I3,rel,q3⟩=>⟨(x,y) :: ps,H3,I3,.cons ⟨rx,ry⟩ rel,q3⟩)
def LM (kvs more:List (Key×V)):List (Key×V):=more.foldl (λacc kv=>Ft acc kv.1 kv.2) kvs
theorem KV.merge:∀ {more:List (Key×V)} {rs:List (Key×AB)} {kvs:List (Key×V)} {vs:List (Key×AB)},KV more rs->KV kvs vs->KV (LM kvs more) (merged vs rs):=by
 intro more rs kvs vs r;unfold KV at r
 induction r generalizing kvs vs with
 | nil=>intro q;exact q
 | @cons p q ps qs h t ih=>
  intro r0
  have e:KV (Ft kvs p.1 p.2) (stored vs q.1 q.2):=by
   have:=r0.put p.1 h.2;rw [<-h.1];exact this
  exact ih e
theorem Jg:∀(more kvs:List (Key×V)),(LM kvs more).length<=kvs.length+more.length
 | [],kvs=>by show kvs.length<=kvs.length+0;lia
 | p :: r,kvs=>by
  have h1:=Jg r (Ft kvs p.1 p.2);have h2:=Iq kvs p.1 p.2;show (LM (Ft kvs p.1 p.2) r).length<=_;rw [Au];lia
theorem Nn {P:Ah} {w:A1}:∀ {kvs:List (Key×V)} {ws:List (AB×AB)},VV (kvs.map λkv=>(kV kv.1,kv.2)) ws->∃rs,Carries (C1 P w) ws rs/\KV kvs rs
 | [],_,r=>by rw [IV] at r;cases r;exact ⟨[],CZ,.nil⟩
 | p :: kvs,_,r=>by
  rw [Ap] at r
  cases r with
  | @cons a b as bs h t=>
   obtain ⟨rs,c,q⟩:=Nn (P:=P) (w:=w) t;obtain ⟨b1,b2⟩:=b;exact ⟨(p.1,b2) :: rs,⟨On h.1,rfl,c⟩,.cons ⟨rfl,h.2⟩ q⟩
def eX (trs:List (TE×TE)):TE:=λσ H Q=>∀p,H p=none->R8 trs σ (upd H p (.dK [])) λps H2=>H2 p=some (.dK [])/\∃kvs:List (Key×V),ps=kvs.map (λkv=>(kV kv.1,kv.2))/\kvs.length<=15/\Q (.ref p) (upd H2 p (.dK (LM [] kvs)))
theorem ZR {X:Cx} {pos:Pos} {keys:List (Option Expr)} {values:List Expr} {trs:List (TE×TE)} (h:PPs X pos keys values trs) (hall:keys.all (·.isSome)=true) (hl:keys.length=values.length) (h0:keys≠[])
  (h15:keys.length<=15):PE X (.Dict keys values pos) (eX trs):=by
 intro pins s σ H Q I q;have hn:=I.hok.fresh (AO s.heap.objs.size);have I1:=I.laid (a:=s.heap.objs.size) (o:=.dK []) (h':=s.heap.push { cls:=.type "dict",data:=.dict #[] }) (t':=s.toks) (λ_ _ q=>AI _ q) (AO _) (RK s.heap I.big);refine wpAny_Dict_walk (knd:=C1 X.prog X.w) hall hl h0 h15 (thn (h pins _ σ _ _ I1 (q _ hn)) λws s2 ⟨ps,H2,I2,rel,e,kvs,ep,lk,q2⟩=>?_);subst ep;obtain ⟨rs,c,rk⟩:=Nn (P:=X.prog) (w:=X.w) rel;obtain ⟨z,hd,vs0,r0,dd⟩:=aj I2.hok e;cases r0;refine ⟨rs,c,dd,λh' dd' hs=>⟨.ref s.heap.objs.size,_,?_,rfl,q2⟩⟩
 have hz:(LM [] kvs).length<=sizeLine:=by
  have h1:=Jg kvs [];rw [EZ] at h1;rw [Kw];lia
 have he:∃q,h'.get? s.heap.objs.size=some q:=let ⟨q,_,_,hq,_⟩:=dd';⟨q,hq⟩
 exact Px I2 (by rw [e];exact CZ) hs he (Xx hz hd (rk.merge .nil) dd')
section
variable {X:Cx} {pins:List (AH×Obj)} {σ:St} {H:Hp} {s:AD} {a:AH} {y d:V} {u r:AB} {o:Option V} {A:Aw} {E:AB->AD->Prop}
end
section
variable {X:Cx} {o e f:Expr} {apos cpos:Pos} {td ty tx:TE}
end
section
variable {X:Cx} {pins:List (AH×Obj)} {σ:St} {H:Hp} {s:AD} {a:AH} {kvs:List (Key×V)} {A:Aw} {E:AB->AD->Prop}
end
section
variable {X:Cx} {pins:List (AH×Obj)} {σ:St} {H:Hp} {s:AD} {a:AH} {y:V} {u:AB} {A:Aw} {E:AB->AD->Prop}
variable {X:Cx}
end
end L2
namespace Att
open PySem PySem.W PySem.Calls PyProof.Rows
theorem MK {P:Params} {h:BW}:∀(ns:List Int) (vs:List AB),WellAll P h vs (ns.map gN)->Dh vs ns:=by
 intro ns
 induction ns with
 | nil=>
  intro vs w;rw [IV] at w;cases w;exact .nil
 | cons n ns ih=>
  intro vs w;rw [Ap] at w
  cases w with
  | cons a b=>
   cases a;exact .cons _ _ (ih _ b)
theorem Uc {l:OpenLaw} {n:Nat} (hn:l.most=some n) {P:Params} {h:BW} {args:List WData} {vals:List AB}
  (hpre:l.row.toRowW.claim.pre args=true) (hwl:WellAll P h vals args) :
  ∃a vs ns,vals=[Ax a]/\args=[WData.list (ns.map gN)]/\h.get? a=some { cls:=.type "list",data:=.seq vs.toArray }/\Dh vs ns/\ns.length<=n:=by
 have hsh:WShape.hasAll [] args [.list .int]=true:=(pre_splitW hpre).1;have hc:l.pre.holds [] { args:=args }=true:=(pre_splitW hpre).2;obtain ⟨d,r,rfl,h1,h2⟩:=hasAllW_cons hsh;obtain rfl:=hasAllW_nil h2;obtain ⟨xs,rfl,h3⟩:=hasW_list h1;obtain ⟨ns,rfl⟩:=items_int h3
 have hlen:ns.length<=n:=by
  unfold OpenLaw.pre at hc
  have h4:(WTm.not (.lt (.lit (.int (n:Int))) (.len (.arg 0)))).holds [] { args:=[.list (ns.map .int)] }=true:=by
   have h4:=(holds_andW hc).1;rw [hn] at h4;exact h4
  have h5:=condW_of h4 (w_not (w_lt w_lit (w_len_list (w_arg rfl))));rw [AF] at h5
  refine Mm λq=>?_
  have q':(n:Int) < ((ns.length:Nat):Int):=by omega
  first
   | (rw [wX q'] at h5;exact zX h5 (by decide))
   | (simp at h5;omega)
 cases hwl with
 | cons w1 w2=>
  cases w2
  cases w1 with
  | list ho hall=>exact ⟨_,_,ns,rfl,rfl,ho,MK ns _ hall,hlen⟩
theorem Uj (l:OpenLaw) (args:List WData):l.row.toRowW.claim.post args (.bool true) args=true:=
 postW_of (r:=l.row.toRowW) (X:=(true==true))
  (show df [] (.bool true) .bool=true by first | rfl | decide | simp [df,WShape.arms,WShape.armsAll])
  (show (WTm.eq .res (.lit (.bool true))).value [] { args:=args,res:=some (.bool true),after:=args }=some (.bool (true==true)) from w_eq_bool (w_res rfl) w_lit) rfl
theorem RS {l:OpenLaw} {n:Nat} {q:Ah} {loose:List Str} {XP:(Str->Option AB)->BW->Prop} {YP:A1->BW->Prop} {d:DefRec}
  (hn:l.most=some n) (hdf:d.params.defaults=[])
  (call:∀(w:A1) (s₀ s₁:AD) (mg mb:Str->Option AB) (fa:AH) (o:Obj) (pm cd doc:AB) (a:AH) (vs:List AB) (ns:List Int),
   Ground q loose [] XP w s₀ mg mb s₁.heap->YP w s₁.heap ->
   s₁.heap.get? fa=some o->o.data=.func (docDef d.name d.params d.body d.scope pm cd doc)->s₁.heap.CodeRec cd d.name->mg d.name=some (.ref fa) ->
   s₁.heap.get? a=some { cls:=.type "list",data:=.seq vs.toArray }->Dh vs ns->ns.length<=n->s₁.gens = #[] ->
   HQ (AT l.prog w) N3 (.call (.ref fa) ⟨[.ref a],[]⟩) (λr s'=>r=.ok (.ret (.bool true))/\OldK s₁.heap s'.heap/\s'.os=s₁.os/\Go s'.gens) s₁) :
  WalkO q loose XP YP l.row.toRowW d [] (λf vs=>UM f vs):=by
 intro w s₀ s₁ mg mb G Y fa o pm cd doc dV kV ho hd hcd hD hmg hg args vals as hpre hlay hrd hwl hlo;obtain rfl:dV=.none:=Dflts.none hD hdf;obtain rfl:kV=.none:=Dflts.noKw hD;obtain ⟨a,vs,ns,rfl,rfl,hobj,hints,hlen⟩:=Uc hn hpre hwl;refine enter_call (N2 (call w s₀ s₁ mg mb fa o pm cd doc a vs ns G Y ho (fd_plain hd) hcd hmg hobj hints hlen hg) λr s' hq=>?_);obtain ⟨rfl,h2,h3,h4⟩:=hq;exact ⟨.inl ⟨.bool true,.bool true,[],rfl,λ_=>rfl,.bool true,Uj l _,λ_=>⟨OW,λ_ hm=>(nomatch hm)⟩⟩,h2,h3,h4⟩
section
variable {prog:Ah} {w:A1} {A:Aw} {E:AB->AD->Prop} {s:AD} {K:Frag}
end
end Att
namespace L2
open PySem PySem.Spec PyProof.Rows
theorem OZ:∀ {vs:List AB} {ns:List Int},Dh vs ns->Bh (ns.map V.int) vs
 | _,_,.nil=>.nil
 | _,_,.cons n t h=>.cons ⟨t,rfl⟩ (OZ h)
def aI (H:Hp):Prop:=∀b,H b=none∨∃o xs,H b=some (.frz o (.lst xs))
theorem XS {P:Ah} {w:A1} {K:AA} {mg mb:Str->Option AB} {CX:CXT} {k:Nat} {fa a:AH} {fd:C6} {x:Str} {sp:Sp} {s₁:AD} {vs:List AB} {ns:List Int}
  (KX:K.In s₁.heap) (hns:s₁.heap.Ns An mg) (hb:s₁.heap.Ns aw mb) (hbb:∀x:Str,x≠"__name__"->mb x=FX x) (hlim:s₁.heap.NoLimit) (hg:s₁.gens = #[])
  (ha:s₁.heap.get? a=some { cls:=.type "list",data:=.seq vs.toArray }) (hi:Dh vs ns) (hl:ns.length<=sizeLine) (hr:Fg k N3)
  (F:∀base:BW,K.In base->base.Ns An mg->EM P w K mg base CX k fa fd [x] sp) (hbind:∀(s:AD) (u:AB),Rf s fd ⟨[u],[]⟩ [(x,u)])
  (hsp:∀H:Hp,aI H->SqL K H a (ns.map V.int)->sp [.ref a] H (λv _=>v=.bl true) λ_ _ _=>False)
  (hCX:∀H e s',CX [] H s₁ (λ_ _ _=>False) e s'->False) :
  HQ (AT P w) N3 (.call (.ref fa) ⟨[.ref a],[]⟩) (λr s'=>r=.ok (.ret (.bool true))/\OldK s₁.heap s'.heap/\s'.os=s₁.os/\Go s'.gens) s₁:=by
 have rv:=OZ hi;have lenV:=hi.length
 have core:∀H:Hp,aI H->SqL K H a (ns.map V.int)->HOk P w H s₁.heap->(∀b,H b≠none->b=a)->(H a≠none->K.lookup a=none) ->
   HQ (AT P w) N3 (.call (.ref fa) ⟨[.ref a],[]⟩) (λr s'=>r=.ok (.ret (.bool true))/\OldK s₁.heap s'.heap/\s'.os=s₁.os/\Go s'.gens) s₁:=by
  intro H hO hS hok hA hK
  have base_of:∀ {b:AH} {o:Obj},s₁.heap.get? b=some o->H b=none->(Po s₁.heap H).get? b=some o:=λe n=>Xd e n
  have noA:∀ {b:AH} {o:Obj} {es:Array Lh} {ep:Nat},s₁.heap.get? b=some o->o.data=.dict es ep->H b=none:=λ{b o es ep} e d=>by
   cases q:H b with
   | none=>rfl
   | some u=>
    have e':b=a:=hA b (by rw [q];simp);subst e';rw [ha] at e;cases e;have d':Data.seq vs.toArray _=Data.dict es ep:=d;cases d'
  have nsK:∀ {b:AH} {m:Str->Option AB},s₁.heap.Ns b m->(Po s₁.heap H).Ns b m:=λ{b m} ⟨o,es,ep,e,d,r⟩=>⟨o,es,ep,base_of e (noA e d),d,r⟩
  have hKb:K.In (Po s₁.heap H):=λb o e=>base_of (KX b o e) (by
   cases q:H b with
   | none=>rfl
   | some u=>
    have e':b=a:=hA b (by rw [q];simp);subst e'
    rw [hK (by rw [q];simp)] at e;cases e)
  have hM:Mod K mg (Po s₁.heap H):=⟨hKb,nsK hns,⟨mb,nsK hb,hbb⟩,let ⟨mc,h1,h2⟩:=hlim;⟨mc,nsK h1,h2⟩⟩;have e0:Ss P w K mg (Po s₁.heap H) N3 [] s₁ H:=⟨rfl,hM,λb o e=>Ze e,Rr (U3 _ _),trivial,λb hb=>zX (show b∈([]:List AH) from hb) (by simp),hok,.of_eq hg⟩
  refine N2 ((F _ hKb (nsK hns)).run N3 [] s₁ H ⟨[.ref a],[]⟩ [.ref a] [.ref a] _ _ hr e0 (hbind s₁ (.ref a)) (.cons rfl .nil) (hsp H hO hS)) λr s' h=>?_
  cases r with
  | error e=>exact (hCX H e s' h).elim
  | ok fl=>
   cases fl with
   | next=>exact DC h
   | brk=>exact DC h
   | cont=>exact DC h
   | ret u=>
    obtain ⟨v,H',os,bare,un,hok',r',q⟩:=h;have q':v=.bl true:=q;subst q';obtain rfl:u=N4 true:=r';refine ⟨rfl,OldK.of_keep λb o e=>?_,os,bare⟩
    cases q:H b with
    | none=>exact un.keep b o e q (by intro z;exact zX (show b∈([]:List AH) from z) (by simp)) (by simp)
    | some u=>
     rcases hO b with z | ⟨ob,xs,z⟩
     ·rw [q] at z;cases z
     ·have z2:=un.frzs b ob _ z
      obtain ⟨e1,_⟩:=hok b _ z;obtain ⟨e2,_⟩:=hok' b _ z2;rw [e] at e1;cases e1;exact e2
 cases hk:K.lookup a with
 | some o=>
  have e:=KX a o hk;rw [ha] at e;cases e
  refine core (λ_=>none) (λ_=>.inl rfl) (.inr ⟨_,vs.toArray,_,hk,rfl,rfl,rfl,by rw [Ai,lenV];exact hl,by simpa using rv⟩) (λb u z=>by have z':(none:Option HO)=some u:=z;cases z') (λb z=>zX rfl z) λz=>zX rfl z
 | none=>
  refine core (λb=>if b=a then some (.frz { cls:=.type "list",data:=.seq vs.toArray } (.lst (ns.map V.int))) else none) (λb=>?_) (.inl (.inr ⟨{ cls:=.type "list",data:=.seq vs.toArray },qX rfl⟩)) (λb u z=>?_) (λb z=>?_) λ_=>hk
  ·by_cases hb:b=a
   ·exact .inr ⟨_,_,qX hb⟩
   ·exact .inl (qY hb)
  ·by_cases hb:b=a
   ·have z':=(qX hb).symm.trans z
    cases z';subst hb;exact ⟨ha,by rw [AF];exact hl,vs,_,rv,ha⟩
   ·have z':=(qY hb).symm.trans z
    cases z'
  ·by_cases hb:b=a
   ·exact hb
   ·exact zX (qY hb) z
theorem Yc {l:PySem.W.OpenLaw} {n k:Nat} {q:Ah} {loose:List Str} {XP:(Str->Option AB)->BW->Prop} {YP:A1->BW->Prop} {d:DefRec} {K:Params->AA} {CX:A1->CXT} {sp:A1->Sp} {x:Str}
  (hn:l.most=some n) (hn2:n<=sizeLine) (hdf:d.params.defaults=[]) (hr:Fg k N3)
  (hY:∀(w:A1) (h:BW),YP w h->(K w.params).In h)
  (F:∀(w:A1) (mg:Str->Option AB) (fa:AH) (h:BW),(K w.params).In h->h.Ns An mg->mg d.name=some (.ref fa) ->
   ∃fd:C6,(∀(s:AD) (u:AB),Rf s fd ⟨[u],[]⟩ [(x,u)]) /\
    ∀base:BW,(K w.params).In base->base.Ns An mg->EM l.prog w (K w.params) mg base (CX w) k fa fd [x] (sp w))
  (hsp:∀(w:A1) (H:Hp) (a:AH) (ns:List Int),ns.length<=n->aI H->SqL (K w.params) H a (ns.map V.int)->sp w [.ref a] H (λv _=>v=.bl true) λ_ _ _=>False)
  (hCX:∀(w:A1) (H:Hp) (s:AD) (e:AB) (s':AD),CX w [] H s (λ_ _ _=>False) e s'->False) :
  PySem.W.WalkO q loose XP YP l.row.toRowW d [] (λf vs=>UM f vs):=by
 refine Att.RS hn hdf λw s₀ s₁ mg mb fa o pm cd doc a vs ns G Y ho hd hcd hmg hobj hints hlen hg=>?_
 have KX:=hY w _ Y;obtain ⟨fd,hb,hF⟩:=F w mg fa _ KX G.T.g hmg
 exact XS KX G.T.g G.T.b G.T.builtins G.T.nolimit hg hobj hints (Ao hlen hn2) hr hF hb (λH hO hS=>hsp w H a ns hlen hO hS) λH e s'=>hCX w H s₁ e s'
def Zt (s:Cw) (j:Nat):Cw:=match s with
 | .ClassDef _ _ _ body _ _ _ _ _ _ _=>body.getD j (.Pass ⟨0,0,0,0⟩)
 | _=>.Pass ⟨0,0,0,0⟩
def Cf (s:Cw):Arguments:=match s with
 | .FunctionDef _ a _ _ _ _ _ _ _ _=>a
 | _=>{ posonlyargs:=[],args:=[],vararg:=none,kwonlyargs:=[],kw_defaults:=[],kwarg:=none,defaults:=[] }
def CL (s:Cw):List Cw:=match s with
 | .FunctionDef _ _ b _ _ _ _ _ _ _=>b
 | _=>[]
def A0 (s:Cw):Gs:=match s with
 | .FunctionDef _ _ _ _ _ _ sc _ _ _=>sc
 | _=>{ kind:=.function,names:=[],isGenerator:=false,isCoroutine:=false }
structure Fun (K:AA) (x qual:Str) (st:Cw) (f:AH) (fd:C6):Prop where
 ex:∃(oc:AB) (od:Option AH) (kV doc pm:AB) (an:Option AH) (cdv ct:AB) (osl:Array (Option AB)),
  fd=Fj x qual (Cf st) (CL st) (A0 st) .none kV doc pm an cdv ct/\K.lookup f=some ⟨oc,od,.func fd,osl⟩/\Mi K cdv qual=true
 kp:Ec K (.ref f)=true
section
variable {P:Ah} {w:A1} {K:AA} {mg:Str->Option AB} {base:BW}
theorem Fun.binds {x qual:Str} {st:Cw} {f:AH} {fd:C6} {ps:List Str} (F:Fun K x qual st f fd)
  (h:∀(kV doc pm:AB) (an:Option AH) (cdv ct:AB) (us:List AB),us.length=ps.length->bindArgs (Fj x qual (Cf st) (CL st) (A0 st) .none kV doc pm an cdv ct) ⟨us,[]⟩=pure (ps.zip us)):Binds K fd ps []:=by
 obtain ⟨oc,od,kV,doc,pm,an,cdv,ct,osl,rfl,lk,hcd⟩:=F.ex;exact .all (h kV doc pm an cdv ct)
theorem EL {x qual:Str} {st:Cw} {f:AH} {oc:AB} {od an:Option AH} {osl:Array (Option AB)} {kV doc pm cdv ct:AB} (l:K.lookup f=some ⟨oc,od,.func (Fj x qual (Cf st) (CL st) (A0 st) .none kV doc pm an cdv ct),osl⟩)
  (c:Mi K cdv qual=true) (k:Ec K (.ref f)=true):Fun K x qual st f (Fj x qual (Cf st) (CL st) (A0 st) .none kV doc pm an cdv ct):=⟨⟨oc,od,kV,doc,pm,an,cdv,ct,osl,rfl,l,c⟩,k⟩
end
section
variable {X:Cx}
theorem pv (i:Nat) {x:Str} {pos:Pos} (hN:X.N[i]?=some x:=by rfl) (hv:Vis X.env.scope x:=by first | exact Nu rfl | exact Ld (Nu rfl) | exact Ld (Ld rfl)) (hd:(x==("__debug__" : Str))=false:=by decide)
  (hcd:(x==("__classdict__" : Str))=false:=by decide):PE X (.Name x pos) (bX i):=cA hN hv hd hcd
theorem VU:IP X (.builtin "len") (λxs H Q=>∃a kvs,xs=[V.ref a]/\H a=some (.dK kvs)/\Q (.int kvs.length) H):=by
 intro pins s σ H xs us Q I r h;obtain ⟨a,kvs,rfl,ha,q⟩:=h;obtain ⟨u,rfl,ru⟩:=vals1 r;cases ru
 exact gB I (.inl ha) λt s' I'=>⟨.int kvs.length,H,I',⟨t,rfl⟩,q⟩
end
section
variable {κ:Type} [DecidableEq κ]
end
inductive D where
 | non | bl (b:Bool) | int (i:Int) | str (x:Str) | tup (ds:List D) | fro (ds:List D) | ref (n:Nat) | exc (C:AH)
def OS (K:AA) (H:Hp) (a:AH) (vs:List V):Prop:=
 (∃o,H a=some (.frz o (.lst vs))) ∨
  ∃(o:Obj) (its:Array AB) (n:Nat),K.lookup a=some o/\o.cls=.type "list"/\o.dict=none/\o.data=.seq its n/\its.size<=sizeLine/\Bh vs its.toList
theorem OS.sq {K:AA} {H:Hp} {a:AH} {vs:List V} (h:OS K H a vs):SqL K H a vs:=by
 rcases h with h | h
 ·exact .inl (.inr h)
 ·exact .inr h
def ExcO (o:Obj) (C:AH):Prop:=o.cls=.ref C/\o.dict=none/\∃vs,o.data=.fields vs
mutual
inductive Be (K:AA) (ρ:List AH) (H:Hp):D->V->Prop where
 | non:Be K ρ H .non .non
 | bl (b:Bool):Be K ρ H (.bl b) (.bl b)
 | int (i:Int):Be K ρ H (.int i) (.int i)
 | str (x:Str):Be K ρ H (.str x) (.str x)
 | tup {ds:List D} {a:AH} {vs:List V}:H a=some (.tup vs)->At K ρ H ds vs->Be K ρ H (.tup ds) (.ref a)
 | fro {ds:List D} {a:AH} {vs:List V}:OS K H a vs->At K ρ H ds vs->Be K ρ H (.fro ds) (.ref a)
 | ref {n:Nat} {a:AH}:ρ[n]?=some a->Be K ρ H (.ref n) (.ref a)
 | exc {C a:AH} {o:Obj} {u:HO}:H a=some (.frz o u)->ExcO o C->Be K ρ H (.exc C) (.ref a)
inductive At (K:AA) (ρ:List AH) (H:Hp):List D->List V->Prop where
 | nil:At K ρ H [] []
 | cons {d:D} {v:V} {ds:List D} {vs:List V}:Be K ρ H d v->At K ρ H ds vs->At K ρ H (d :: ds) (v :: vs)
end
structure Le (K:AA) (ρ:List AH) (H:Hp) (ρ':List AH) (H':Hp):Prop where
 pre:∀(n:Nat) a,ρ[n]?=some a->ρ'[n]?=some a
 tup:∀a xs,H a=some (.tup xs)->H' a=some (.tup xs)
 frz:∀a o u,H a=some (.frz o u)->H' a=some (.frz o u)
 oth:∀a o,H a=some o->(∀n:Nat,ρ[n]?≠some a)->H' a=some o/\∀n:Nat,ρ'[n]?≠some a
theorem OS.mono {K:AA} {H H':Hp} {a:AH} {xs:List V} (l:∀a o u,H a=some (.frz o u)->H' a=some (.frz o u)) (h:OS K H a xs):OS K H' a xs:=by
 rcases h with ⟨o,h⟩ | h
 ·exact .inl ⟨o,l _ _ _ h⟩
 ·exact .inr h
section
variable {K:AA} {ρ ρ' ρ'':List AH} {H H' H'':Hp}
theorem Le.fro (l:Le K ρ H ρ' H'):∀a xs,OS K H a xs->OS K H' a xs:=λ_ _ h=>h.mono l.frz
theorem Le.refl:Le K ρ H ρ H:=⟨λ_ _ h=>h,λ_ _ h=>h,λ_ _ _ h=>h,λ_ _ h n=>⟨h,n⟩⟩
theorem Le.trans (a:Le K ρ H ρ' H') (b:Le K ρ' H' ρ'' H''):Le K ρ H ρ'' H'':=
 ⟨λn x h=>b.pre n x (a.pre n x h),λx xs h=>b.tup x xs (a.tup x xs h),λx o u h=>b.frz x o u (a.frz x o u h),λx o h n=>b.oth x o (a.oth x o h n).1 (a.oth x o h n).2⟩
mutual
theorem Be.mono (l:Le K ρ H ρ' H'):∀ {d:D} {v:V},Be K ρ H d v->Be K ρ' H' d v
 | _,_,.non=>.non
 | _,_,.bl b=>.bl b
 | _,_,.int i=>.int i
 | _,_,.str x=>.str x
 | _,_,.tup h r=>.tup (l.tup _ _ h) (At.mono l r)
 | _,_,.fro h r=>.fro (l.fro _ _ h) (At.mono l r)
 | _,_,.ref h=>.ref (l.pre _ _ h)
 | _,_,.exc h e=>.exc (l.frz _ _ _ h) e
theorem At.mono (l:Le K ρ H ρ' H'):∀ {ds:List D} {vs:List V},At K ρ H ds vs->At K ρ' H' ds vs
 | _,_,.nil=>.nil
 | _,_,.cons r t=>.cons (Be.mono l r) (At.mono l t)
end
mutual
theorem Be.more (l:∀(n:Nat) a,ρ[n]?=some a->ρ'[n]?=some a):∀ {d:D} {v:V},Be K ρ H d v->Be K ρ' H d v
 | _,_,.non=>.non
 | _,_,.bl b=>.bl b
 | _,_,.int i=>.int i
 | _,_,.str x=>.str x
 | _,_,.tup h r=>.tup h (At.more l r)
 | _,_,.fro h r=>.fro h (At.more l r)
 | _,_,.ref h=>.ref (l _ _ h)
 | _,_,.exc h e=>.exc h e
theorem At.more (l:∀(n:Nat) a,ρ[n]?=some a->ρ'[n]?=some a):∀ {ds:List D} {vs:List V},At K ρ H ds vs->At K ρ' H ds vs
 | _,_,.nil=>.nil
 | _,_,.cons r t=>.cons (Be.more l r) (At.more l t)
end
mutual
theorem Be.keep (h1:∀a xs,H a=some (.tup xs)->H' a=some (.tup xs)) (h2:∀a o u,H a=some (.frz o u)->H' a=some (.frz o u)):∀ {d:D} {v:V},Be K ρ H d v->Be K ρ H' d v
 | _,_,.non=>.non
 | _,_,.bl b=>.bl b
 | _,_,.int i=>.int i
 | _,_,.str x=>.str x
 | _,_,.tup h r=>.tup (h1 _ _ h) (At.keep h1 h2 r)
 | _,_,.fro h r=>.fro (h.mono h2) (At.keep h1 h2 r)
 | _,_,.ref h=>.ref h
 | _,_,.exc h e=>.exc (h2 _ _ _ h) e
theorem At.keep (h1:∀a xs,H a=some (.tup xs)->H' a=some (.tup xs)) (h2:∀a o u,H a=some (.frz o u)->H' a=some (.frz o u)):∀ {ds:List D} {vs:List V},At K ρ H ds vs->At K ρ H' ds vs
 | _,_,.nil=>.nil
 | _,_,.cons r t=>.cons (Be.keep h1 h2 r) (At.keep h1 h2 t)
end
theorem At.length:∀ {ds:List D} {vs:List V},At K ρ H ds vs->ds.length=vs.length
 | _,_,.nil=>rfl
 | _,_,.cons _ t=>by rw [Au,Au,At.length t]
theorem At.get:∀ {ds:List D} {vs:List V} {i:Nat} {d:D},At K ρ H ds vs->ds[i]?=some d->∃v,vs[i]?=some v/\Be K ρ H d v
 | _,_,_,_,.nil,e=>by simp at e
 | _,_,0,_,.cons r _,e=>by simp at e;subst e;exact ⟨_,rfl,r⟩
 | _,_,i+1,d,.cons _ t,e=>by
  obtain ⟨v,h1,h2⟩:=At.get (i:=i) (d:=d) t (by simpa using e);exact ⟨v,by simpa using h1,h2⟩
theorem At.get':∀ {ds:List D} {vs:List V} {i:Nat} {v:V},At K ρ H ds vs->vs[i]?=some v->∃d,ds[i]?=some d/\Be K ρ H d v
 | _,_,_,_,.nil,e=>by simp at e
 | _,_,0,_,.cons r _,e=>by simp at e;subst e;exact ⟨_,rfl,r⟩
 | _,_,i+1,d,.cons _ t,e=>by
  obtain ⟨v,h1,h2⟩:=At.get' (i:=i) (v:=d) t (by simpa using e);exact ⟨v,by simpa using h1,h2⟩
theorem At.append:∀ {ds es:List D} {vs us:List V},At K ρ H ds vs->At K ρ H es us->At K ρ H (ds++es) (vs++us)
 | _,_,_,_,.nil,s=>s
 | _,_,_,_,.cons r t,s=>.cons r (At.append t s)
theorem At.take:∀ {ds:List D} {vs:List V} (n:Nat),At K ρ H ds vs->At K ρ H (ds.take n) (vs.take n)
 | _,_,0,_=>.nil
 | _,_,_+1,.nil=>.nil
 | _,_,n+1,.cons r t=>.cons r (At.take n t)
theorem At.drop:∀ {ds:List D} {vs:List V} (n:Nat),At K ρ H ds vs->At K ρ H (ds.drop n) (vs.drop n)
 | _,_,0,r=>r
 | _,_,_+1,.nil=>.nil
 | _,_,n+1,.cons _ t=>At.drop n t
theorem At.of_ints:∀(ns:List Int),At K ρ H (ns.map D.int) (ns.map V.int)
 | []=>.nil
 | n :: ns=>.cons (.int n) (At.of_ints ns)
theorem At.ints:∀ {ns:List Int} {vs:List V},At K ρ H (ns.map D.int) vs->vs=ns.map V.int
 | [],_,.nil=>rfl
 | n :: ns,_,.cons r t=>by
  cases r;rw [At.ints (ns:=ns) t];rfl
end
inductive Ob where
 | lst (ds:List D)
 | dK (kvs:List (Key×D))
 | dT (kvs:List (List Key×D))
 | ins (C:AH) (fs:List (Str×D))
abbrev Sto:=List Ob
abbrev KVR {κ:Type} (K:AA) (ρ:List AH) (H:Hp):List (κ×D)->List (κ×V)->Prop:=E6 λ(p:κ×D) (q:κ×V)=>p.1=q.1/\Be K ρ H p.2 q.2
def D2 (K:AA) (ρ:List AH) (H:Hp) (a:AH):Ob->Prop
 | .lst ds=>∃vs,H a=some (.lst vs)/\At K ρ H ds vs
 | .dK kvs=>∃kvs',H a=some (.dK kvs')/\KVR K ρ H kvs kvs'
 | .dT kvs=>∃kvs',H a=some (.dT kvs')/\KVR K ρ H kvs kvs'
 | .ins C fs=>∃dx fs',H a=some (.ins C dx fs')/\KVR K ρ H fs fs'
structure Bs (K:AA) (ρ:List AH) (S:Sto) (H:Hp):Prop where
 len:ρ.length=S.length
 nd:∀(i j:Nat) a,ρ[i]?=some a->ρ[j]?=some a->i=j
 ob:∀(n:Nat) o a,S[n]?=some o->ρ[n]?=some a->D2 K ρ H a o
section
variable {K:AA} {ρ ρ':List AH} {H H':Hp} {S:Sto} {a p:AH} {o:Ob} {n:Nat} {ho:HO}
theorem KVR.mono {κ:Type} (l:Le K ρ H ρ' H') {x:List (κ×D)} {y:List (κ×V)} (h:KVR K ρ H x y):KVR K ρ' H' x y:=E6.mapP h λ_ _ z=>⟨z.1,z.2.mono l⟩
theorem D2.mut (h:D2 K ρ H a o):Mut (H a):=by
 cases o with
 | lst ds=>obtain ⟨_,e,_⟩:=h;rw [e];trivial
 | dK ds=>obtain ⟨_,e,_⟩:=h;rw [e];trivial
 | dT ds=>obtain ⟨_,e,_⟩:=h;rw [e];trivial
 | ins C fs=>obtain ⟨_,_,e,_⟩:=h;rw [e];trivial
theorem D2.mono (l:Le K ρ H ρ' H') (e:H' a=H a) (h:D2 K ρ H a o):D2 K ρ' H' a o:=by
 cases o with
 | lst ds=>obtain ⟨vs,h1,h2⟩:=h;exact ⟨vs,e.trans h1,h2.mono l⟩
 | dK ds=>obtain ⟨vs,h1,h2⟩:=h;exact ⟨vs,e.trans h1,h2.mono l⟩
 | dT ds=>obtain ⟨vs,h1,h2⟩:=h;exact ⟨vs,e.trans h1,h2.mono l⟩
 | ins C fs=>obtain ⟨dx,vs,h1,h2⟩:=h;exact ⟨dx,vs,e.trans h1,h2.mono l⟩
theorem D2.keep (h1:∀a xs,H a=some (.tup xs)->H' a=some (.tup xs)) (h2:∀a o u,H a=some (.frz o u)->H' a=some (.frz o u)) (e:H' a=H a) (h:D2 K ρ H a o):D2 K ρ H' a o:=by
 cases o with
 | lst ds=>obtain ⟨vs,q1,q2⟩:=h;exact ⟨vs,e.trans q1,q2.keep h1 h2⟩
 | dK ds=>obtain ⟨vs,q1,q2⟩:=h;exact ⟨vs,e.trans q1,E6.mapP q2 λ_ _ z=>⟨z.1,z.2.keep h1 h2⟩⟩
 | dT ds=>obtain ⟨vs,q1,q2⟩:=h;exact ⟨vs,e.trans q1,E6.mapP q2 λ_ _ z=>⟨z.1,z.2.keep h1 h2⟩⟩
 | ins C fs=>obtain ⟨dx,vs,q1,q2⟩:=h;exact ⟨dx,vs,e.trans q1,E6.mapP q2 λ_ _ z=>⟨z.1,z.2.keep h1 h2⟩⟩
theorem D2.mono' (l:∀(n:Nat) a,ρ[n]?=some a->ρ'[n]?=some a) (h:D2 K ρ H a o):D2 K ρ' H a o:=by
 cases o with
 | lst ds=>obtain ⟨vs,h1,h2⟩:=h;exact ⟨vs,h1,h2.more l⟩
 | dK ds=>obtain ⟨vs,h1,h2⟩:=h;exact ⟨vs,h1,E6.mapP h2 λ_ _ z=>⟨z.1,z.2.more l⟩⟩
 | dT ds=>obtain ⟨vs,h1,h2⟩:=h;exact ⟨vs,h1,E6.mapP h2 λ_ _ z=>⟨z.1,z.2.more l⟩⟩
 | ins C fs=>obtain ⟨dx,vs,h1,h2⟩:=h;exact ⟨dx,vs,h1,E6.mapP h2 λ_ _ z=>⟨z.1,z.2.more l⟩⟩
theorem Eo (hp:H p=none∨Mut (H p)):(∀a xs,H a=some (.tup xs)->upd H p ho a=some (.tup xs))/\∀a o u,H a=some (.frz o u)->upd H p ho a=some (.frz o u):=by
 have ne:∀a u,H a=some u->¬Mut (some u)->a≠p:=λa u e nm z=>by
  subst z
  rcases hp with h | h
  ·rw [e] at h;cases h
  ·rw [e] at h;exact nm h
 refine ⟨λa xs e=>?_,λa o u e=>?_⟩
 ·rw [BZ (ne a _ e λz=>z)];exact e
 ·rw [BZ (ne a _ e λz=>z)];exact e
theorem Le.fresh (hp:H p=none):Le K ρ H ρ (upd H p ho):=
 ⟨λ_ _ h=>h,(Eo (.inl hp)).1,(Eo (.inl hp)).2,λa o e n=>⟨by rw [BZ (Bu e hp)];exact e,n⟩⟩
theorem Le.write (hn:ρ[n]?=some p) (hm:Mut (H p)):Le K ρ H ρ (upd H p ho):=
 ⟨λ_ _ h=>h,(Eo (.inr hm)).1,(Eo (.inr hm)).2,λa o e h=>⟨by rw [BZ λz=>h n (by rw [z];exact hn)];exact e,h⟩⟩
theorem Gc {α:Type} {l:List α} {x:α} {m:Nat} {a:α} (e:(l++[x])[m]?=some a):(l[m]?=some a/\m < l.length)∨(m=l.length/\a=x):=by
 by_cases hm:m < l.length
 ·rw [AV hm] at e;exact .inl ⟨e,hm⟩
 ·rw [As (by lia)] at e
  have:m - l.length=0:=by
   have:=(AE.mp e).1;simp at this;omega
  rw [this] at e;exact .inr ⟨by lia,by simpa using e.symm⟩
theorem Le.alloc (hp:H p=none):Le K ρ H (ρ++[p]) (upd H p ho):=by
 refine ⟨λn a h=>by rw [AV (AE.mp h).1];exact h,(Eo (.inl hp)).1,(Eo (.inl hp)).2,λa o e h=>⟨by rw [BZ (Bu e hp)];exact e,λn q=>?_⟩⟩
 rcases Gc q with ⟨q,_⟩ | ⟨_,q⟩
 ·exact h n q
 ·exact Bu e hp q
theorem Bs.there (h:Bs K ρ S H) {m:Nat} (e:ρ[m]?=some a):∃o,S[m]?=some o/\D2 K ρ H a o:=by
 have hn:m < S.length:=by rw [<-h.len];exact (AE.mp e).1
 exact ⟨S[m],by simp [hn],h.ob m _ a (by simp [hn]) e⟩
theorem Bs.notIn (h:Bs K ρ S H) (hp:H p=none) {m:Nat} (e:ρ[m]?=some p):False:=by
 obtain ⟨o,_,r⟩:=h.there e;have:=r.mut;rw [hp] at this;exact this
theorem Bs.alloc (h:Bs K ρ S H) (hp:H p=none) (hob:D2 K (ρ++[p]) (upd H p ho) p o):Bs K (ρ++[p]) (S++[o]) (upd H p ho)/\Le K ρ H (ρ++[p]) (upd H p ho)/\(ρ++[p])[S.length]?=some p:=by
 have le:Le K ρ H (ρ++[p]) (upd H p ho):=Le.alloc hp
 have at':∀(m:Nat) a,(ρ++[p])[m]?=some a->(ρ[m]?=some a/\m < ρ.length)∨(m=ρ.length/\a=p):=λm a e=>Gc e
 refine ⟨⟨by simp [h.len],λi j a hi hj=>?_,λm ob a hm ha=>?_⟩,le,by rw [<-h.len];simp⟩
 ·rcases at' i a hi with ⟨hi1,_⟩ | ⟨hi1,ea⟩ <;> rcases at' j a hj with ⟨hj1,_⟩ | ⟨hj1,ea'⟩
  ·exact h.nd i j a hi1 hj1
  ·rw [ea'] at hi1;exact (h.notIn hp hi1).elim
  ·rw [ea] at hj1;exact (h.notIn hp hj1).elim
  ·lia
 ·rcases at' m a ha with ⟨ha1,hlt⟩ | ⟨rfl,rfl⟩
  ·rw [AV (by rw [<-h.len];exact hlt)] at hm
   refine (h.ob m ob a hm ha1).mono le (BZ λz=>?_);rw [z] at ha1;exact h.notIn hp ha1
  ·rw [h.len] at hm
   simp at hm;subst hm;exact hob
theorem Bs.write (h:Bs K ρ S H) (hn:ρ[n]?=some a) (hob:D2 K ρ (upd H a ho) a o):Bs K ρ (S.set n o) (upd H a ho)/\Le K ρ H ρ (upd H a ho):=by
 obtain ⟨o',e',r'⟩:=h.there hn;have le:Le K ρ H ρ (upd H a ho):=Le.write hn r'.mut;refine ⟨⟨by simp [h.len],h.nd,λm ob b hm hb=>?_⟩,le⟩
 by_cases e:m=n
 ·subst e
  rw [hn] at hb;cases hb;rw [A3 (by rw [<-h.len];exact (AE.mp hn).1)] at hm;cases hm;exact hob
 ·rw [Ay (Bm e)] at hm
  refine (h.ob m ob b hm hb).mono le (BZ λz=>?_);subst z;exact e (h.nd m n b hb hn)
theorem Le.back {S':Sto} (l:Le K ρ H ρ' H') (s:Bs K ρ S H) (s':Bs K ρ' S' H') (hp:H' p=none):H p=none:=by
 cases q:H p with
 | none=>rfl
 | some o=>
  by_cases hn:∃n:Nat,ρ[n]?=some p
  ·obtain ⟨n,hn⟩:=hn
   exact (s'.notIn hp (l.pre n p hn)).elim
  ·have:=(l.oth p o q λn h=>hn ⟨n,h⟩).1
   rw [hp] at this;cases this
theorem Bs.adopt (h:Bs K ρ S H) (hn:∀m:Nat,ρ[m]?≠some p) (hob:D2 K (ρ++[p]) H p o):Bs K (ρ++[p]) (S++[o]) H/\(ρ++[p])[S.length]?=some p:=by
 have le:∀a ob,D2 K ρ H a ob->D2 K (ρ++[p]) H a ob:=λa ob r=>by
  have l0:∀(n:Nat) a,ρ[n]?=some a->(ρ++[p])[n]?=some a:=λn a h=>by rw [AV (AE.mp h).1];exact h
  exact r.mono' l0
 refine ⟨⟨by simp [h.len],λi j a hi hj=>?_,λm ob a hm ha=>?_⟩,by rw [<-h.len];simp⟩
 ·rcases Gc hi with ⟨hi1,_⟩ | ⟨hi1,ea⟩ <;> rcases Gc hj with ⟨hj1,_⟩ | ⟨hj1,ea'⟩
  ·exact h.nd i j a hi1 hj1
  ·rw [ea'] at hi1;exact (hn i hi1).elim
  ·rw [ea] at hj1;exact (hn j hj1).elim
  ·lia
 ·rcases Gc ha with ⟨ha,hlt⟩ | ⟨rfl,rfl⟩
  ·rw [AV (by rw [<-h.len];exact hlt)] at hm
   exact le a ob (h.ob m ob a hm ha)
  ·rw [h.len] at hm
   simp at hm;subst hm;exact hob
end
inductive Res (α:Type) where
 | ok (a:α) (S:Sto) | err (c:AH) (S:Sto) | bad
def Res.bind {α β:Type} (r:Res α) (f:α->Sto->Res β):Res β:=match r with
 | .ok a S=>f a S
 | .err c S=>.err c S
 | .bad=>.bad
abbrev Lo:=List (Option D)
abbrev ME:=Lo->Sto->Res D
abbrev MT:=Lo->Sto->Res Bool
abbrev ML:=Lo->Sto->Res (List D)
inductive Fl where
 | nx (e:Lo) | rt (d:D) | bk (e:Lo) | ct (e:Lo) | ex (c:AH) (e:Lo)
abbrev MS:=Lo->Sto->Res Fl
abbrev MG:=D->Lo->Sto->Res Lo
abbrev Gm:=Sto->Option (List D)
abbrev MI:=Lo->Sto->Res Gm
structure D4 (K:AA) (ρ:List AH) (H:Hp) (e:Lo) (σ:St):Prop where
 len:e.length=σ.length
 at':∀(i:Nat) d,e[i]?=some (some d)->∃v,σ[i]?=some (some v)/\Be K ρ H d v
section
variable {K:AA} {ρ ρ':List AH} {H H':Hp} {S:Sto} {e:Lo} {σ:St}
theorem D4.mono (l:Le K ρ H ρ' H') (h:D4 K ρ H e σ):D4 K ρ' H' e σ:=⟨h.len,λi d q=>by
 obtain ⟨v,h1,h2⟩:=h.at' i d q
 exact ⟨v,h1,h2.mono l⟩⟩
theorem D4.set {d:D} {v:V} (h:D4 K ρ H e σ) (r:Be K ρ H d v) (i:Nat):D4 K ρ H (e.set i (some d)) (σ.set i (some v)):=by
 refine ⟨by simp [h.len],λj d' q=>?_⟩
 by_cases hj:i=j
 ·subst hj
  have hi:i < e.length:=by
   have:=(AE.mp q).1;simpa using this
  rw [A3 hi] at q;cases q;exact ⟨v,by rw [A3 (by rw [<-h.len];exact hi)],r⟩
 ·rw [Ay hj] at q ⊢
  exact h.at' j d' q
end
abbrev EW:=AH->St->Hp->Prop
abbrev EH:=AH->Hp->Prop
abbrev noE:EW:=λ_ _ _=>False
abbrev noH:EH:=λ_ _=>False
def Ba {α:Type} (K:AA) (E:EH) (ρ:List AH) (H:Hp) (r:Res α) (k:α->Sto->Prop):Prop:=match r with
 | .ok a S=>k a S
 | .err c S=>∀ρ' H',Le K ρ H ρ' H'->Bs K ρ' S H'->E c H'
 | .bad=>False
section
variable {α β:Type} {K:AA} {E:EH} {ρ ρ1:List AH} {H H1:Hp}
theorem Ba.seq {r:Res α} {F:α->Sto->Res β} {k:β->Sto->Prop} {k':α->Sto->Prop} (h:Ba K E ρ H (r.bind F) k) (f:∀a S,Ba K E ρ H (F a S) k->k' a S):Ba K E ρ H r k':=by
 cases r with
 | ok a S=>exact f a S h
 | err c S=>exact h
 | bad=>exact h
theorem Ba.later {r:Res α} {k:α->Sto->Prop} (h:Ba K E ρ H r k) (l:Le K ρ H ρ1 H1):Ba K E ρ1 H1 r k:=by
 cases r with
 | ok a S=>exact h
 | err c S=>exact λρ' H' l'=>h ρ' H' (l.trans l')
 | bad=>exact h
theorem Ba.imp {r:Res α} {k k':α->Sto->Prop} (h:Ba K E ρ H r k) (f:∀a S,k a S->k' a S):Ba K E ρ H r k':=by
 cases r with
 | ok a S=>exact f a S h
 | err c S=>exact h
 | bad=>exact h
theorem Ba.go {r:Res α} {k k':α->Sto->Prop} (h:Ba K E ρ H r k) (l:Le K ρ H ρ1 H1) (f:∀a S,k a S->k' a S):Ba K E ρ1 H1 r k':=(h.later l).imp f
end
def okR {α:Type}:Res α->Res α
 | .ok a S=>.ok a S
 | _=>.bad
theorem Ba.okR {α:Type} {K:AA} {E:EH} {ρ:List AH} {H:Hp} {r:Res α} {k:α->Sto->Prop} (h:Ba K E ρ H (L2.okR r) k):∃a S,r=.ok a S/\k a S:=by
 cases r with
 | ok a S=>exact ⟨a,S,rfl,h⟩
 | err c S=>exact h.elim
 | bad=>exact h.elim
section
variable (K:AA) (E:EW)
def gE (m:ME):TE:=λσ H Q=>∃ρ e S,D4 K ρ H e σ/\Bs K ρ S H/\Ba K (λc=>E c σ) ρ H (m e S) λd S'=>∀ρ' H' x,Le K ρ H ρ' H'->Bs K ρ' S' H'->Be K ρ' H' d x->Q x H'
def gT (m:MT):TT:=λσ H Q=>∃ρ e S,D4 K ρ H e σ/\Bs K ρ S H/\Ba K (λc=>E c σ) ρ H (m e S) λb S'=>∀ρ' H',Le K ρ H ρ' H'->Bs K ρ' S' H'->Q b H'
def gA (m:ML):TA:=λσ H Q=>∃ρ e S,D4 K ρ H e σ/\Bs K ρ S H/\Ba K (λc=>E c σ) ρ H (m e S) λds S'=>∀ρ' H' xs,Le K ρ H ρ' H'->Bs K ρ' S' H'->At K ρ' H' ds xs->Q xs H'
def gL (m:ML):TE:=λσ H Q=>∃ρ e S,D4 K ρ H e σ/\Bs K ρ S H/\Ba K (λc=>E c σ) ρ H (m e S) λds S'=>∀ρ' H' p xs,Le K ρ H ρ' H'->Bs K ρ' S' H'->At K ρ' H' ds xs->H' p=some (.lst xs)->(∀n:Nat,ρ'[n]?≠some p)->H p=none->Q (.ref p) H'
def gQ (m:ML):TE:=λσ H Q=>∃ρ e S,D4 K ρ H e σ/\Bs K ρ S H/\Ba K (λc=>E c σ) ρ H (m e S) λds S'=>∀ρ' H' p xs,Le K ρ H ρ' H'->Bs K ρ' S' H'->At K ρ' H' ds xs->(SqL K H' p xs∨SqT K H' p xs)->Q (.ref p) H'
def Nc (K:AA) (E:EW) (ρ:List AH) (H:Hp) (S':Sto) (D:Su):Fl->Prop
 | .ex c e'=>∀ρ' H' σ',Le K ρ H ρ' H'->Bs K ρ' S' H'->D4 K ρ' H' e' σ'->E c σ' H'
 | .nx e'=>∀ρ' H' σ',Le K ρ H ρ' H'->Bs K ρ' S' H'->D4 K ρ' H' e' σ'->D.nx σ' H'
 | .bk e'=>∀ρ' H' σ',Le K ρ H ρ' H'->Bs K ρ' S' H'->D4 K ρ' H' e' σ'->D.bk σ' H'
 | .ct e'=>∀ρ' H' σ',Le K ρ H ρ' H'->Bs K ρ' S' H'->D4 K ρ' H' e' σ'->D.ct σ' H'
 | .rt d=>∀ρ' H' x,Le K ρ H ρ' H'->Bs K ρ' S' H'->Be K ρ' H' d x->D.rt x H'
def gS (m:MS):TS:=λD σ H=>∃ρ e S,D4 K ρ H e σ/\Bs K ρ S H/\Ba K noH ρ H (m e S) λfl S'=>Nc K E ρ H S' D fl
def gG (m:MG):TG:=λv σ H Q=>∃ρ e S d,Be K ρ H d v/\D4 K ρ H e σ/\Bs K ρ S H/\Ba K noH ρ H (m d e S) λe' S'=>∀ρ' H' σ',Le K ρ H ρ' H'->Bs K ρ' S' H'->D4 K ρ' H' e' σ'->Q σ' H'
def LY (ρ0:List AH) (H0:Hp) (J:It) (v:Gm):Prop:=∀ρ H S ds (i:Nat),Le K ρ0 H0 ρ H->Bs K ρ S H->v S=some ds ->
 (ds[i]?=none->J.stop i H)/\∀d,ds[i]?=some d->J.go i H/\∀x H',J.yld i H x H'->∃ρ',Le K ρ H ρ' H'/\Bs K ρ' S H'/\Be K ρ' H' d x
def gI (m:MI):TI:=λσ H R=>∃ρ e S,D4 K ρ H e σ/\Bs K ρ S H/\Ba K (λc=>E c σ) ρ H (m e S) λv S'=>∀ρ' H' J,Le K ρ H ρ' H'->Bs K ρ' S' H'->LY K ρ' H' J v->R J H'
end
abbrev GE (X:Cx) (E:EW) (e:Expr) (m:ME):Prop:=PE X e (gE X.K E m)
abbrev GT (X:Cx) (E:EW) (e:Expr) (m:MT):Prop:=PT X e (gT X.K E m)
abbrev GA (X:Cx) (E:EW) (es:List Expr) (m:ML):Prop:=PA X es (gA X.K E m)
abbrev GL (X:Cx) (E:EW) (e:Expr) (m:ML):Prop:=PE X e (gL X.K E m)
abbrev GQ (X:Cx) (E:EW) (e:Expr) (m:ML):Prop:=PE X e (gQ X.K E m)
abbrev GS (X:Cx) (E:EW) (s:Cw) (m:MS):Prop:=PS X s (gS X.K E m)
abbrev GSs (X:Cx) (E:EW) (s:List Cw) (m:MS):Prop:=PSs X s (gS X.K E m)
abbrev GG (X:Cx) (t:Expr) (m:MG):Prop:=PG X t (gG X.K m)
abbrev GI (X:Cx) (E:EW) (tg t:Expr) (m:MI):Prop:=PI X tg t (gI X.K E m)
theorem PE.imp {X:Cx} {e:Expr} {t t':TE} (h:PE X e t) (i:∀σ H Q,t' σ H Q->t σ H Q):PE X e t':=λpins s σ H Q I q=>h pins s σ H Q I (i σ H Q q)
theorem PT.imp {X:Cx} {e:Expr} {t t':TT} (h:PT X e t) (i:∀σ H Q,t' σ H Q->t σ H Q):PT X e t':=λpins s σ H Q I q=>h pins s σ H Q I (i σ H Q q)
theorem PW.imp {X:Cx} {e:Expr} {t t':TT} (h:PW X e t) (i:∀σ H Q,t' σ H Q->t σ H Q):PW X e t':=λwh pins s σ H Q I q=>h wh pins s σ H Q I (i σ H Q q)
theorem PA.imp {X:Cx} {e:List Expr} {t t':TA} (h:PA X e t) (i:∀σ H Q,t' σ H Q->t σ H Q):PA X e t':=λpos pins s σ H Q I q=>h pos pins s σ H Q I (i σ H Q q)
theorem PS.imp {X:Cx} {e:Cw} {t t':TS} (h:PS X e t) (i:∀D σ H,t' D σ H->t D σ H):PS X e t':=λpins s σ H D I q=>h pins s σ H D I (i D σ H q)
theorem PSs.imp {X:Cx} {e:List Cw} {t t':TS} (h:PSs X e t) (i:∀D σ H,t' D σ H->t D σ H):PSs X e t':=λpins s σ H D I q=>h pins s σ H D I (i D σ H q)
theorem PG.imp {X:Cx} {e:Expr} {t t':TG} (h:PG X e t) (i:∀v σ H Q,t' v σ H Q->t v σ H Q):PG X e t':=λpins s σ H v u Q I r q=>h pins s σ H v u Q I r (i v σ H Q q)
theorem PI.imp {X:Cx} {tg e:Expr} {t t':TI} (h:PI X tg e t) (i:∀σ H R,t' σ H R->t σ H R):PI X tg e t':=λpins s σ H R I q=>h pins s σ H R I (i σ H R q)
theorem OpR.imp {X:Cx} {f:AB->AB->Sem AB} {r r':R2} (h:OpR X f r) (i:∀x y H Q,r' x y H Q->r x y H Q):OpR X f r':=λpins s σ H x y v u Q I rx ry q=>h pins s σ H x y v u Q I rx ry (i x y H Q q)
theorem IxR.imp {X:Cx} {r r':R2} (h:IxR X r) (i:∀x y H Q,r' x y H Q->r x y H Q):IxR X r':=λva sl pins s σ H x y v u Q I rx ry q=>h va sl pins s σ H x y v u Q I rx ry (i x y H Q q)
def AK (i:Nat):ME:=λe S=>match e[i]? with
 | some (some d)=>.ok d S
 | _=>.bad
def mC (d:D):ME:=λ_ S=>.ok d S
section
variable {X:Cx} {E:EW} {e a b:Expr} {pos:Pos} {ma mb:ME}
theorem AG {i:Nat} (h:PE X e (bX i)):GE X E e (AK i):=h.imp λσ H Q ⟨ρ,l,S,hl,hs,hm⟩=>by
 unfold AK at hm;split at hm
 ·rename_i d' hd
  obtain ⟨v,h1,h2⟩:=hl.at' i _ hd;exact ⟨v,h1,hm ρ H v .refl hs h2⟩
 ·exact hm.elim
theorem Xp {v:V} {d:D} (h:PE X e (tC v)) (hd:∀ρ H,Be X.K ρ H d v):GE X E e (mC d):=h.imp λσ H Q ⟨ρ,l,S,hl,hs,hm⟩=>by
 exact hm ρ H v .refl hs (hd _ _)
theorem ge_int {i j pos}:GE X E (.Constant (.int i) j pos) (mC (.int i)):=Xp cG λ_ _=>.int i
theorem Km {b j pos}:GE X E (.Constant (.bool b) j pos) (mC (.bl b)):=Xp fH λ_ _=>.bl b
theorem Xl {j pos}:GE X E (.Constant .none j pos) (mC .non):=Xp cE λ_ _=>.non
theorem LR {x j pos}:GE X E (.Constant (.str x) j pos) (mC (.str x)):=Xp cC λ_ _=>.str x
theorem RG {x:Str} {i:Int} {tk:Tok} {pos:Pos} (hg:Gl X x) (hm:X.mg x=some (.int i tk)) (hd:(x==("__debug__" : Str))=false:=by decide):GE X E (.Name x pos) (mC (.int i)):=
 Xp (Ta (v:=.int i) hg hm ⟨tk,rfl⟩ hd) λ_ _=>.int i
def m2 (f:D->D->Sto->Res D) (ma mb:ME):ME:=λe S=>(ma e S).bind λx S1=>(mb e S1).bind λy S2=>okR (f x y S2)
def rD (K:AA) (f:D->D->Sto->Res D):R2:=λu v H Q=>∃ρ S x y d S',Bs K ρ S H/\Be K ρ H x u/\Be K ρ H y v/\f x y S=.ok d S' /\
 ∀ρ' H' z,Le K ρ H ρ' H'->Bs K ρ' S' H'->Be K ρ' H' d z->Q z H'
theorem Jq {K:AA} {f:D->D->Sto->Res D} {σ:St} {H:Hp} {Q:VK} (h:gE K E (m2 f ma mb) σ H Q):tOp (rD K f) (gE K E ma) (gE K E mb) σ H Q:=by
 obtain ⟨ρ,l,S,hl,hs,hm⟩:=h;refine ⟨ρ,l,S,hl,hs,hm.seq λx S1 hm ρ1 H1 u l1 s1 r1=>⟨ρ1,l,S1,hl.mono l1,s1,(hm.later l1).seq λy S2 hm ρ2 H2 v l2 s2 r2=>?_⟩⟩;obtain ⟨d,S',e,k⟩:=hm.okR;exact ⟨ρ2,S2,x,y,d,S',s2,r1.mono l2,r2,e,λρ' H' z l' s' r'=>k ρ' H' z (l1.trans (l2.trans l')) s' r'⟩
theorem Bv {op:Operator} {f:D->D->Sto->Res D} (ho:OpR X (Cv op) (rD X.K f)) (ha:GE X E a ma) (hb:GE X E b mb):GE X E (.BinOp a op b pos) (m2 f ma mb):=(fE ho ha hb).imp λ_ _ _ h=>Jq h
theorem Sh {op:Rv} {f:D->D->Sto->Res D} (ho:OpR X (Bb op) (rD X.K f)) (ha:GE X E a ma) (hb:GE X E b mb) (hm:CW op b=false):GE X E (.Compare a [op] [b] pos) (m2 f ma mb):=(ZU ho ha hb hm).imp λ_ _ _ h=>Jq h
theorem ft {f:D->D->Sto->Res D} (ho:IxR X (rD X.K f)) (ha:GE X E a ma) (hb:GE X E b mb) (hs:QA b:=by intro _ _;rfl):GE X E (.Subscript a b pos) (m2 f ma mb):=(fF ho ha hb hs).imp λ_ _ _ h=>Jq h
def mB (m:ME):MT:=λe S=>(m e S).bind λd S1=>match d with
 | .bl b=>.ok b S1
 | _=>.bad
def Q3 (d:D) (S:Sto):Option Bool:=match d with
 | .non=>some false
 | .bl b=>some b
 | .int i=>some (i != 0)
 | .tup ds=>some (!ds.isEmpty)
 | .fro ds=>some (!ds.isEmpty)
 | .ref n=>match S[n]? with
  | some (.lst ds)=>some (!ds.isEmpty)
  | some (.dK kvs)=>some (!kvs.isEmpty)
  | _=>none
 | _=>none
def OM (m:ME):MT:=λe S=>(m e S).bind λd S1=>match Q3 d S1 with
 | some b=>.ok b S1
 | none=>.bad
theorem At.empty {K:AA} {ρ:List AH} {H:Hp} {ds:List D} {vs:List V} (h:At K ρ H ds vs):ds.isEmpty=vs.isEmpty:=by cases h <;> rfl
theorem KVR.empty {κ:Type} {K:AA} {ρ:List AH} {H:Hp} {x:List (κ×D)} {y:List (κ×V)} (h:KVR K ρ H x y):x.isEmpty=y.isEmpty:=by cases h <;> rfl
theorem Yt {K:AA} {ρ:List AH} {H:Hp} {S:Sto} {d:D} {x:V} {b:Bool} (hs:Bs K ρ S H) (r:Be K ρ H d x) (h:Q3 d S=some b):dP K x H b:=by
 cases r with
 | non=>cases h;rfl
 | bl c=>cases h;rfl
 | int i=>cases h;rfl
 | str x=>cases h
 | tup h1 h2=>cases h;rw [h2.empty];exact .inr (.inl ⟨_,.inl (.inl h1),rfl⟩)
 | fro h1 h2=>cases h;rw [h2.empty];exact .inl ⟨_,h1.sq,rfl⟩
 | exc _ _=>cases h
 | @ref n a hn=>
  obtain ⟨o,ho,ro⟩:=hs.there hn;unfold Q3 at h;simp only [ho] at h
  cases o with
  | lst ds=>cases h;obtain ⟨vs,e,rr⟩:=ro;rw [rr.empty];exact .inl ⟨_,.inl (.inl e),rfl⟩
  | dK kvs=>cases h;obtain ⟨vs,e,rr⟩:=ro;rw [KVR.empty rr];exact .inr (.inr ⟨_,e,rfl⟩)
  | dT kvs=>cases h
  | ins C fs=>cases h
theorem cu (h:GE X E e ma) (he:∀whole,Rg e X.env whole=(do let v <-whole;da e.pos;de [v] (au v)):=by intro _;rfl):GT X E e (mB ma):=(bp h he).imp λσ H Q ⟨ρ,l,S,hl,hs,hm⟩=>by
 refine ⟨ρ,l,S,hl,hs,hm.seq λd S1 hm ρ1 H1 x l1 s1 r1=>?_⟩
 cases d <;> first | exact hm.elim | skip
 cases r1;exact ⟨_,rfl,hm ρ1 H1 l1 s1⟩
theorem Ki (h:GE X E e ma) (he:∀whole,Rg e X.env whole=(do let v <-whole;da e.pos;de [v] (au v)):=by intro _;rfl):GT X E e (OM ma):=(Wi h he).imp λσ H Q ⟨ρ,l,S,hl,hs,hm⟩=>by
 refine ⟨ρ,l,S,hl,hs,hm.seq λd S1 hm ρ1 H1 x l1 s1 r1=>?_⟩
 cases hb:Q3 d S1 with
 | none=>rw [hb] at hm;exact hm.elim
 | some c=>
  rw [hb] at hm;exact ⟨c,Yt s1 r1 hb,hm ρ1 H1 l1 s1⟩
theorem D3 {op:Rv} {f:D->D->Sto->Res D} (ho:OpR X (Bb op) (rD X.K f)) (ha:GE X E a ma) (hb:GE X E b mb) (hm:CW op b=false):GT X E (.Compare a [op] [b] pos) (mB (m2 f ma mb)):=(ZD ho ha hb hm).imp λσ H Q ⟨ρ,l,S,hl,hs,hm⟩=>by
 refine Jq (Q:=λx H'=>∃k,x=.bl k/\Q k H') ⟨ρ,l,S,hl,hs,hm.seq λd S1 hm ρ1 H1 x l1 s1 r1=>?_⟩
 cases d <;> first | exact hm.elim | skip
 cases r1;exact ⟨_,rfl,hm ρ1 H1 l1 s1⟩
def MH (m:MT):MT:=λe S=>(m e S).bind λb S1=>.ok (!b) S1
def NK (ma mb:MT):MT:=λe S=>(ma e S).bind λb S1=>if b=true then mb e S1 else .ok false S1
def mOr (ma mb:MT):MT:=λe S=>(ma e S).bind λb S1=>if b=true then .ok true S1 else mb e S1
variable {ta tb:MT} {rest:List Expr}
theorem LP (h:GT X E a ta):GT X E (.UnaryOp .Not a pos) (MH ta):=(bq h).imp λσ H Q ⟨ρ,l,S,hl,hs,hm⟩=>by
 exact ⟨ρ,l,S,hl,hs,hm.seq λd S1 hm ρ1 H1 l1 s1=>hm ρ1 H1 l1 s1⟩
theorem Yv {K:AA} {σ:St} {H:Hp} {Q:Bool->Hp->Prop} (h:gT K E (NK ta tb) σ H Q):eh (gT K E ta) (gT K E tb) σ H Q:=by
 obtain ⟨ρ,l,S,hl,hs,hm⟩:=h;refine ⟨ρ,l,S,hl,hs,hm.seq λc S1 hm ρ1 H1 l1 s1=>?_⟩
 cases c with
 | true=>rw [qX rfl] at hm ⊢;exact ⟨ρ1,l,S1,hl.mono l1,s1,hm.go l1 λ_ _ k ρ2 H2 l2 s2=>k ρ2 H2 (l1.trans l2) s2⟩
 | false=>rw [qY AS] at hm ⊢;exact hm ρ1 H1 l1 s1
theorem bY {K:AA} {σ:St} {H:Hp} {Q:Bool->Hp->Prop} (h:gT K E (mOr ta tb) σ H Q):tOr (gT K E ta) (gT K E tb) σ H Q:=by
 obtain ⟨ρ,l,S,hl,hs,hm⟩:=h;refine ⟨ρ,l,S,hl,hs,hm.seq λc S1 hm ρ1 H1 l1 s1=>?_⟩
 cases c with
 | false=>rw [qY AS] at hm ⊢;exact ⟨ρ1,l,S1,hl.mono l1,s1,hm.go l1 λ_ _ k ρ2 H2 l2 s2=>k ρ2 H2 (l1.trans l2) s2⟩
 | true=>rw [qX rfl] at hm ⊢;exact hm ρ1 H1 l1 s1
abbrev GW (X:Cx) (E:EW) (e:Expr) (m:MT):Prop:=PW X e (gT X.K E m)
theorem Pp (ha:GT X E a ta):GW X E (.BoolOp .And [a] pos) ta:=ZB ha
theorem Sd (ha:GT X E a ta):GW X E (.BoolOp .Or [a] pos) ta:=bn ha
theorem Pq (ha:GT X E a ta) (hb:GW X E (.BoolOp .And (b :: rest) pos) tb):GW X E (.BoolOp .And (a :: b :: rest) pos) (NK ta tb):=(bo ha hb).imp λ_ _ _ h=>Yv h
theorem Xg (ha:GT X E a ta) (hb:GW X E (.BoolOp .Or (b :: rest) pos) tb):GW X E (.BoolOp .Or (a :: b :: rest) pos) (mOr ta tb):=(fB ha hb).imp λ_ _ _ h=>bY h
theorem U5 {t:MT} (h:GW X E e t):GT X E e t:=PW.pt h
def Q5 (ma mb:ME):ME:=λe S=>(ma e S).bind λd S1=>match d with
 | .bl true=>mb e S1
 | .bl false=>.ok (.bl false) S1
 | _=>.bad
theorem c6 {op} (h:GE X E a ma):GE X E (.BoolOp op [a] pos) ma:=cD h
theorem c9 (ha:GE X E a ma) (hb:GE X E (.BoolOp .And (b :: rest) pos) mb):GE X E (.BoolOp .And (a :: b :: rest) pos) (Q5 ma mb):=(cJ ha hb).imp λσ H Q ⟨ρ,l,S,hl,hs,hm⟩=>by
 refine ⟨ρ,l,S,hl,hs,hm.seq λc S1 hm ρ1 H1 x l1 s1 r1=>?_⟩
 cases c with
 | bl c=>
  cases r1;refine ⟨c,rfl,?_⟩
  cases c with
  | true=>rw [qX rfl];exact ⟨ρ1,l,S1,hl.mono l1,s1,hm.go l1 λ_ _ k ρ2 H2 z l2 s2 r2=>k ρ2 H2 z (l1.trans l2) s2 r2⟩
  | false=>rw [qY AS];exact hm ρ1 H1 _ l1 s1 (.bl false)
 | _=>exact hm.elim
def m3 (f g:D->D->Sto->Res D) (ma mb mc:ME):ME:=λe S=>(ma e S).bind λx S1=>(mb e S1).bind λy S2=>(okR (f x y S2)).bind λz S3=>match z with
 | .bl true=>(mc e S3).bind λw S4=>okR (g y w S4)
 | .bl false=>.ok (.bl false) S3
 | _=>.bad
def BM:ML:=λ_ S=>.ok [] S
def AY (m:ME) (r:ML):ML:=λe S=>(m e S).bind λd S1=>(r e S1).bind λds S2=>.ok (d :: ds) S2
variable {es:List Expr} {ml:ML}
theorem BF:GA X E [] BM:=Hr.imp λσ H Q ⟨ρ,l,S,hl,hs,hm⟩=>by
 exact hm ρ H [] .refl hs .nil
theorem AZ (ha:GE X E e ma) (hr:GA X E es ml) (hs:AU (e :: es) X.env=(false,Bx e X.env) :: AU es X.env:=by rfl):GA X E (e :: es) (AY ma ml):=(FH ha hr hs).imp λσ H Q ⟨ρ,l,S,hl,hs,hm⟩=>by
 exact ⟨ρ,l,S,hl,hs,hm.seq λd S1 hm ρ1 H1 x l1 s1 r1=>⟨ρ1,l,S1,hl.mono l1,s1,(hm.later l1).seq λds' S2 hm ρ2 H2 xs l2 s2 r2=>hm ρ2 H2 (x :: xs) (l1.trans l2) s2 (.cons (r1.mono l2) r2)⟩⟩
def MF (m:ML):ME:=λe S=>(m e S).bind λds S1=>if ds.length<=sizeLine then .ok (.tup ds) S1 else .bad
theorem Fn {K:AA} {ρ:List AH} {H:Hp} {S:Sto} {p:AH} {ho:HO} (hs:Bs K ρ S H) (hp:H p=none):Bs K ρ S (upd H p ho)/\Le K ρ H ρ (upd H p ho):=by
 have le:Le K ρ H ρ (upd H p ho):=Le.fresh hp;refine ⟨⟨hs.len,hs.nd,λn o a h1 h2=>(hs.ob n o a h1 h2).mono le (BZ λz=>?_)⟩,le⟩;subst z;exact hs.notIn hp h2
theorem LQ {x1} (h:GA X E es ml):GE X E (.Tuple es x1 pos) (MF ml):=(cB h).imp λσ H Q ⟨ρ,l,S,hl,hs,hm⟩=>by
 refine ⟨ρ,l,S,hl,hs,hm.seq λds S1 hm ρ1 H1 xs l1 s1 r1=>?_⟩;split at hm
 ·rename_i hz
  refine ⟨by rw [<-r1.length];exact hz,λp hp=>?_⟩;obtain ⟨s2,l2⟩:=Fn (ho:=.tup xs) s1 hp;exact hm ρ1 _ _ (l1.trans l2) s2 (.tup Bg (r1.mono l2))
 ·exact hm.elim
def DZ (m:ML):ML:=λe S=>(m e S).bind λds S1=>if ds.length<=sizeLine then .ok ds S1 else .bad
theorem Hw (h:GA X E es ml):GL X E (.List es pos) (DZ ml):=(cF h).imp λσ H Q ⟨ρ,l,S,hl,hs,hm⟩=>by
 refine ⟨ρ,l,S,hl,hs,hm.seq λds S1 hm ρ1 H1 xs l1 s1 r1=>?_⟩;split at hm
 ·rename_i hz
  refine ⟨by rw [<-r1.length];exact hz,λp hp=>?_⟩;obtain ⟨s2,l2⟩:=Fn (ho:=.lst xs) s1 hp;exact hm ρ1 _ p xs (l1.trans l2) s2 (r1.mono l2) Bg (λn q=>s1.notIn hp q) (l1.back hs s1 hp)
 ·exact hm.elim
def Ey (m:ML):ME:=λe S=>(m e S).bind λds S1=>.ok (.ref S1.length) (S1++[.lst ds])
theorem Ff (h:GL X E e ml):GE X E e (Ey ml):=PE.imp h λσ H Q ⟨ρ,l,S,hl,hs,hm⟩=>by
 refine ⟨ρ,l,S,hl,hs,hm.seq λds S1 hm ρ1 H1 p xs l1 s1 r1 hp hn hp0=>?_⟩
 have l0:∀(n:Nat) a,ρ1[n]?=some a->(ρ1++[p])[n]?=some a:=λn a h=>by rw [AV (AE.mp h).1];exact h
 obtain ⟨s2,at2⟩:=s1.adopt (o:=.lst ds) hn ⟨xs,hp,r1.more l0⟩;refine hm _ _ _ ⟨λn a h=>l0 n a (l1.pre n a h),l1.tup,l1.frz,λa o e h=>⟨(l1.oth a o e h).1,λn q=>?_⟩⟩ s2 (.ref at2)
 rcases Gc q with ⟨q,_⟩ | ⟨_,q⟩
 ·exact (l1.oth a o e h).2 n q
 ·exact Bu e hp0 q
def FP (d:D) (S:Sto):Option (List D):=match d with
 | .tup ds=>some ds
 | .fro ds=>some ds
 | .ref n=>match S[n]? with
  | some (.lst ds)=>some ds
  | _=>none
 | _=>none
def Q4 (m:ME):ML:=λe S=>(m e S).bind λd S1=>match FP d S1 with
 | some ds=>.ok ds S1
 | none=>.bad
theorem MX {K:AA} {ρ:List AH} {H:Hp} {S:Sto} {d:D} {x:V} {ds:List D} (hs:Bs K ρ S H) (r:Be K ρ H d x) (h:FP d S=some ds):∃p xs,x=.ref p/\At K ρ H ds xs/\(SqL K H p xs∨SqT K H p xs):=by
 cases r with
 | tup h1 h2=>cases h;exact ⟨_,_,rfl,h2,.inr (.inl (.inl h1))⟩
 | fro h1 h2=>cases h;exact ⟨_,_,rfl,h2,.inl h1.sq⟩
 | @ref n a hn=>
  obtain ⟨o,ho,ro⟩:=hs.there hn;unfold FP at h;simp only [ho] at h
  cases o with
  | lst es=>cases h;obtain ⟨vs,e,rr⟩:=ro;exact ⟨_,_,rfl,rr,.inl (.inl (.inl e))⟩
  | _=>cases h
 | _=>cases h
theorem ah (h:GE X E e ma):GQ X E e (Q4 ma):=PE.imp h λσ H Q ⟨ρ,l,S,hl,hs,hm⟩=>by
 refine ⟨ρ,l,S,hl,hs,hm.seq λx S1 hm ρ1 H1 v l1 s1 r1=>?_⟩
 cases hq:FP x S1 with
 | none=>rw [hq] at hm;exact hm.elim
 | some ds=>
  rw [hq] at hm;obtain ⟨p,xs,rfl,r2,sq⟩:=MX s1 r1 hq;exact hm ρ1 H1 p xs l1 s1 r2 sq
end
def Res.lift {α:Type} (r:Res α) (e:Lo) (f:α->Sto->Res Fl):Res Fl:=match r with
 | .ok a S=>f a S
 | .err c S=>.ok (.ex c e) S
 | .bad=>.bad
theorem Ba.lift {α:Type} {K:AA} {E:EW} {ρ ρ1:List AH} {H H1:Hp} {σ:St} {e:Lo} {D:Su} {r:Res α} {F:α->Sto->Res Fl} {k':α->Sto->Prop} (h:Ba K noH ρ1 H1 (r.lift e F) λfl S'=>Nc K E ρ H S' D fl) (hl:D4 K ρ1 H1 e σ) (l:Le K ρ H ρ1 H1)
  (f:∀a S,(Ba K noH ρ1 H1 (F a S) λfl S'=>Nc K E ρ H S' D fl)->k' a S):Ba K (λc=>E c σ) ρ1 H1 r k':=by
 cases r with
 | ok a S=>exact f a S h
 | err c S=>exact λρ' H' l' s'=>h ρ' H' σ (l.trans l') s' (hl.mono l')
 | bad=>exact h
def sNx:MS:=λe S=>.ok (.nx e) S
def Bd (a b:MS):MS:=λe S=>(a e S).bind λf S1=>match f with
 | .nx e1=>b e1 S1
 | f=>.ok f S1
def Eh (m:ME):MS:=λe S=>(m e S).lift e λ_ S1=>.ok (.nx e) S1
def Ea (m:ME):MS:=λe S=>(m e S).lift e λd S1=>.ok (.rt d) S1
def sIf (t:MT) (a b:MS):MS:=λe S=>(t e S).lift e λc S1=>if c=true then a e S1 else b e S1
def en (m:ME) (g:MG):MS:=λe S=>(m e S).lift e λd S1=>(g d e S1).bind λe1 S2=>.ok (.nx e1) S2
def tgN (i:Nat):MG:=λd e S=>.ok (e.set i (some d)) S
def CP (i:Nat) (m:ME):MS:=en m (tgN i)
section
variable {X:Cx} {E:EW} {st:Cw} {rest:List Cw} {e:Expr} {pos:Pos} {a b:MS} {m:ME} {t:MT}
theorem Nc.later {K:AA} {ρ ρ1:List AH} {H H1:Hp} {S:Sto} {D:Su} {f:Fl} (l:Le K ρ H ρ1 H1) (h:Nc K E ρ H S D f):Nc K E ρ1 H1 S D f:=by
 cases f with
 | nx e=>exact λρ' H' σ' l'=>h ρ' H' σ' (l.trans l')
 | bk e=>exact λρ' H' σ' l'=>h ρ' H' σ' (l.trans l')
 | ct e=>exact λρ' H' σ' l'=>h ρ' H' σ' (l.trans l')
 | ex c e=>exact λρ' H' σ' l'=>h ρ' H' σ' (l.trans l')
 | rt d=>exact λρ' H' x l'=>h ρ' H' x (l.trans l')
theorem Ce:GSs X E [] sNx:=ZF.imp λD σ H ⟨ρ,l,S,hl,hs,hm⟩=>by
 exact hm ρ H σ .refl hs hl
theorem Aj (h1:GS X E st a) (h2:GSs X E rest b):GSs X E (st :: rest) (Bd a b):=(Wm h1 h2).imp λD σ H ⟨ρ,l,S,hl,hs,hm⟩=>by
 refine ⟨ρ,l,S,hl,hs,hm.seq λg S1 hm=>?_⟩
 cases g with
 | nx e'=>exact λρ1 H1 σ1 l1 s1 r1=>⟨ρ1,e',S1,r1,s1,hm.go l1 λ_ _ k=>k.later l1⟩
 | rt d=>exact hm
 | bk d=>exact hm
 | ct d=>exact hm
 | ex c d=>exact hm
theorem BD (h1:GS X E st a):GSs X E [st] a:=ZE h1
theorem Fx (he:GE X E e m) (hs:EX e none pos.line X.env=pure false:=by rfl):GS X E (.Expr e pos) (Eh m):=(ZG he hs).imp λD σ H ⟨ρ,l,S,hl,hs,hm⟩=>by
 exact ⟨ρ,l,S,hl,hs,hm.lift hl .refl λd S1 hm ρ1 H1 x l1 s1 r1=>hm ρ1 H1 σ l1 s1 (hl.mono l1)⟩
theorem Cy (he:GE X E e m):GS X E (.Return (some e) pos) (Ea m):=(bu he).imp λD σ H ⟨ρ,l,S,hl,hs,hm⟩=>by
 exact ⟨ρ,l,S,hl,hs,hm.lift hl .refl λd S1 hm ρ1 H1 x l1 s1 r1=>hm ρ1 H1 x l1 s1 r1⟩
theorem Er {c:Expr} {sa sb:List Cw} (hc:GT X E c t) (ha:GSs X E sa a) (hb:GSs X E sb b):GS X E (.If c sa sb pos) (sIf t a b):=(fC hc ha hb).imp λD σ H ⟨ρ,l,S,hl,hs,hm⟩=>by
 refine ⟨ρ,l,S,hl,hs,hm.lift hl .refl λc S1 hm ρ1 H1 l1 s1=>?_⟩
 cases c with
 | true=>rw [qX rfl] at hm ⊢;exact ⟨ρ1,l,S1,hl.mono l1,s1,hm.go l1 λ_ _ k=>k.later l1⟩
 | false=>rw [qY AS] at hm ⊢;exact ⟨ρ1,l,S1,hl.mono l1,s1,hm.go l1 λ_ _ k=>k.later l1⟩
theorem Zv {i:Nat} {tg:Expr} (h:PG X tg (T3 i)):GG X tg (tgN i):=h.imp λv σ H Q ⟨ρ,l,S,d,hd,hl,hs,hm⟩=>by
 exact hm ρ H _ .refl hs (hl.set hd i)
theorem cx {i:Nat} {x:Str} {pos':Pos} (hN:X.N.Nodup) (hi:X.N[i]?=some x) (hx:Loc X.env.scope x) (he:GE X E e m) (hs:EX e (some (.Name x pos')) pos.line X.env=pure false:=by rfl)
  (hf:X.fn x=true∨X.env.scope.names.lookup x=some .local:=by first | exact .inl rfl | exact .inr rfl | assumption):GS X E (.Assign [.Name x pos'] e pos) (CP i m):=(br hN hi hx he hs hf).imp λD σ H ⟨ρ,l,S,hl,hs,hm⟩=>by
 exact ⟨ρ,l,S,hl,hs,hm.lift hl .refl λd S1 hm ρ1 H1 x l1 s1 r1=>hm ρ1 H1 _ l1 s1 ((hl.mono l1).set r1 i)⟩
def Hd (v:Gm) (g:MG) (b:MS):Nat->Nat->Lo->Sto->Res Fl
 | k,i,e,S=>match v S with
  | none=>.bad
  | some ds=>match ds[i]? with
   | none=>.ok (.nx e) S
   | some d=>match k with
    | 0=>.bad
    | k+1=>(g d e S).bind λe1 S1=>(b e1 S1).bind λf S2=>match f with
     | .nx e2=>Hd v g b k (i+1) e2 S2
     | .ct e2=>Hd v g b k (i+1) e2 S2
     | .bk e2=>.ok (.nx e2) S2
     | .rt d=>.ok (.rt d) S2
     | .ex c e2=>.ok (.ex c e2) S2
def CK (v:Gm) (S:Sto):Nat:=match v S with
 | none=>0
 | some ds=>ds.length
def Ih (m:MI) (g:MG) (b:MS):MS:=λe S=>(m e S).lift e λv S1=>Hd v g b (CK v S1) 0 e S1
theorem HF {tg iter:Expr} {body:List Cw} {mi:MI} {g:MG} (hp:Lc (AT X.prog X.w) X.A X.env X.xe) (hc:X.calm=true) (hi:GI X E tg iter mi) (hg:GG X tg g) (hb:GSs X E body b)
  (hs:∀x,D5 iter X.env x=pure x:=by intro _;rfl):GS X E (.For tg iter body [] pos) (Ih mi g b):=(bv hp hc hi hg hb hs).imp λD σ H ⟨ρ,l,S,hl,hs,hm⟩=>by
 refine ⟨ρ,l,S,hl,hs,hm.lift hl .refl λv S1 hm ρ1 H1 J l1 s1 vo=>?_⟩;refine ⟨λi n σ2 H2=>∃ρ2 e2 S2,Le X.K ρ1 H1 ρ2 H2/\D4 X.K ρ2 H2 e2 σ2/\Bs X.K ρ2 S2 H2/\Ba X.K noH ρ2 H2 (Hd v g b n i e2 S2) λfl S'=>Nc X.K E ρ H S' D fl,⟨CK v S1,ρ1,l,S1,.refl,hl.mono l1,s1,hm.later l1⟩,?_⟩;rintro i n σ2 H2 ⟨ρ2,e2,S2,l2,r2,s2,hm2⟩;unfold Hd at hm2
 cases hv:v S2 with
 | none=>rw [hv] at hm2;exact hm2.elim
 | some ds=>
  rw [hv] at hm2;dsimp only at hm2;obtain ⟨v1,v2⟩:=vo ρ2 H2 S2 ds i l2 s2 hv
  cases hd:ds[i]? with
  | none=>
   rw [hd] at hm2;exact .inl ⟨v1 hd,hm2 ρ2 H2 σ2 (l1.trans l2) s2 r2⟩
  | some d=>
   rw [hd] at hm2;dsimp only at hm2;obtain ⟨go,yl⟩:=v2 d hd
   cases n with
   | zero=>exact hm2.elim
   | succ n=>
    dsimp only at hm2;refine .inr ⟨go,λσ' H'=>∃ρ2 e2 S2,Le X.K ρ1 H1 ρ2 H'/\D4 X.K ρ2 H' e2 σ'/\Bs X.K ρ2 S2 H'/\Ba X.K noH ρ2 H' (Hd v g b n (i+1) e2 S2) λfl S'=>Nc X.K E ρ H S' D fl,λσ' H' q=>⟨n,CO n,q⟩,λx H' y=>?_⟩;obtain ⟨ρ3,l3,s3,rd⟩:=yl x H' y;refine ⟨ρ3,e2,S2,d,rd,r2.mono l3,s3,(hm2.later l3).seq λe3 S3 hm2 ρ4 H4 σ4 l4 s4 r4=>?_⟩;refine ⟨ρ4,e3,S3,r4,s4,(hm2.later l4).seq λf4 S4 hm2=>?_⟩
    cases f4 with
    | nx e5=>exact λρ5 H5 σ5 l5 s5 r5=>⟨ρ5,e5,S4,l2.trans (l3.trans (l4.trans l5)),r5,s5,hm2.later l5⟩
    | ct e5=>exact λρ5 H5 σ5 l5 s5 r5=>⟨ρ5,e5,S4,l2.trans (l3.trans (l4.trans l5)),r5,s5,hm2.later l5⟩
    | bk e5=>exact λρ5 H5 σ5 l5 s5 r5=>hm2 ρ5 H5 σ5 (l1.trans (l2.trans (l3.trans (l4.trans l5)))) s5 r5
    | ex c e5=>exact λρ5 H5 σ5 l5 s5 r5=>hm2 ρ5 H5 σ5 (l1.trans (l2.trans (l3.trans (l4.trans l5)))) s5 r5
    | rt d5=>exact λρ5 H5 x5 l5 s5 r5=>hm2 ρ5 H5 x5 (l1.trans (l2.trans (l3.trans (l4.trans l5)))) s5 r5
def HE (c:MT) (b:MS):Nat->MS
 | 0=>λ_ _=>.bad
 | n+1=>λe S=>(c e S).lift e λt S1=>if t=true then (b e S1).bind λf S2=>match f with
   | .nx e2=>HE c b n e2 S2
   | .ct e2=>HE c b n e2 S2
   | .bk e2=>.ok (.nx e2) S2
   | .rt d=>.ok (.rt d) S2
   | .ex c e2=>.ok (.ex c e2) S2
  else .ok (.nx e) S1
theorem RE {c:Expr} {body:List Cw} (N:Nat) (hp:Lc (AT X.prog X.w) X.A X.env X.xe) (hc:GT X E c t) (hb:GSs X E body b):GS X E (.While c body [] pos) (HE t b N):=(Wn hp hc hb).imp λD σ H ⟨ρ,l,S,hl,hs,hm⟩=>by
 refine ⟨λn σ2 H2=>∃ρ2 e2 S2,Le X.K ρ H ρ2 H2/\D4 X.K ρ2 H2 e2 σ2/\Bs X.K ρ2 S2 H2/\Ba X.K noH ρ2 H2 (HE t b n e2 S2) λfl S'=>Nc X.K E ρ H S' D fl,⟨N,ρ,l,S,.refl,hl,hs,hm⟩,?_⟩;rintro n σ2 H2 ⟨ρ2,e2,S2,l2,r2,s2,hm2⟩
 cases n with
 | zero=>exact hm2.elim
 | succ n=>
  refine ⟨ρ2,e2,S2,r2,s2,hm2.lift r2 l2 λtc S3 hm2 ρ3 H3 l3 s3=>?_⟩
  cases tc with
  | false=>rw [qY AS] at hm2 ⊢;exact hm2 ρ3 H3 σ2 (l2.trans l3) s3 (r2.mono l3)
  | true=>
   rw [qX rfl] at hm2 ⊢;refine ⟨λσ' H'=>∃ρ2 e2 S2,Le X.K ρ H ρ2 H'/\D4 X.K ρ2 H' e2 σ'/\Bs X.K ρ2 S2 H'/\Ba X.K noH ρ2 H' (HE t b n e2 S2) λfl S'=>Nc X.K E ρ H S' D fl,λσ' H' q=>⟨n,CO n,q⟩,?_⟩;refine ⟨ρ3,e2,S3,r2.mono l3,s3,(hm2.later l3).seq λf4 S4 hm2=>?_⟩
   cases f4 with
   | nx e5=>exact λρ5 H5 σ5 l5 s5 r5=>⟨ρ5,e5,S4,l2.trans (l3.trans l5),r5,s5,hm2.later l5⟩
   | ct e5=>exact λρ5 H5 σ5 l5 s5 r5=>⟨ρ5,e5,S4,l2.trans (l3.trans l5),r5,s5,hm2.later l5⟩
   | bk e5=>exact λρ5 H5 σ5 l5 s5 r5=>hm2 ρ5 H5 σ5 (l2.trans (l3.trans l5)) s5 r5
   | ex c e5=>exact λρ5 H5 σ5 l5 s5 r5=>hm2 ρ5 H5 σ5 (l2.trans (l3.trans l5)) s5 r5
   | rt d5=>exact λρ5 H5 x5 l5 s5 r5=>hm2 ρ5 H5 x5 (l2.trans (l3.trans l5)) s5 r5
end
section
variable {X:Cx} {E:EW} {tg e:Expr} {m:ME} {ml:ML} {K:AA}
def Lk (d:D):Gm:=λS=>match d with
 | .ref n=>match S[n]? with
  | some (.lst ds)=>some ds
  | _=>none
 | .fro ds=>some ds
 | _=>none
def Gz (ds:List D):Gm:=λ_=>some ds
def fm (m:ME):MI:=λe S=>(m e S).bind λd S1=>match Lk d S1 with
 | some _=>.ok (Lk d) S1
 | none=>.bad
def ag (m:ME):MI:=λe S=>(m e S).bind λd S1=>match d with
 | .tup ds=>.ok (Gz ds) S1
 | _=>.bad
theorem Mv {ρ:List AH} {H:Hp} {S:Sto} {a:AH} {d:D} {ds:List D} (s:Bs K ρ S H) (r:Be K ρ H d (.ref a)) (hv:Lk d S=some ds):∃xs,SqL K H a xs/\At K ρ H ds xs:=by
 cases r with
 | tup h1 h2=>cases hv
 | exc _ _=>cases hv
 | fro h1 h2=>cases hv;exact ⟨_,h1.sq,h2⟩
 | @ref n _ hn=>
  obtain ⟨o,ho,ro⟩:=s.there hn;unfold Lk at hv;simp only [ho] at hv
  cases o with
  | lst es=>
   cases hv;obtain ⟨vs,e,rr⟩:=ro;exact ⟨vs,.inl (.inl e),rr⟩
  | _=>cases hv
theorem Mu {ρ:List AH} {H:Hp} {a:AH} {d:D} (r:Be K ρ H d (.ref a)):LY K ρ H (Itl K a) (Lk d):=by
 intro ρ2 H2 S ds i l s hv;obtain ⟨xs,sq,rr⟩:=Mv s (r.mono l) hv;refine ⟨λhn=>⟨xs,sq,by rw [<-rr.length];exact D7.mp hn⟩,λd hd=>?_⟩;obtain ⟨x,hx,rx⟩:=rr.get hd;refine ⟨⟨xs,x,sq,hx⟩,λy H' ⟨e,hy⟩=>?_⟩;subst e;have:=hy xs sq;rw [hx] at this;cases this;exact ⟨ρ2,.refl,s,rx⟩
theorem c0 (h:GE X E e m):GI X E tg e (fm m):=(ZL h).imp λσ H R ⟨ρ,l,S,hl,hs,hm⟩=>by
 refine ⟨ρ,l,S,hl,hs,hm.seq λd S1 hm ρ1 H1 x l1 s1 r1=>?_⟩
 cases hv:Lk d S1 with
 | none=>rw [hv] at hm;exact hm.elim
 | some ds=>
  rw [hv] at hm
  have:∃a,x=.ref a:=by
   cases r1 <;> first | exact ⟨_,rfl⟩ | (cases hv;done)
  obtain ⟨a,rfl⟩:=this;obtain ⟨xs,sq,_⟩:=Mv s1 r1 hv;exact ⟨a,rfl,⟨xs,sq⟩,hm ρ1 H1 _ l1 s1 (Mu r1)⟩
theorem Ms {ρ:List AH} {H:Hp} {a:AH} {ds:List D} {xs:List V} (h1:H a=some (.tup xs)) (h2:At K ρ H ds xs):LY K ρ H (Itt K a) (Gz ds):=by
 intro ρ2 H2 S ds' i l s hv;cases hv;have rr:=h2.mono l;have sq:SqT K H2 a xs:=.inl (.inl (l.tup _ _ h1));refine ⟨λhn=>⟨xs,sq,by rw [<-rr.length];exact D7.mp hn⟩,λd hd=>?_⟩;obtain ⟨x,hx,rx⟩:=rr.get hd;refine ⟨⟨xs,x,sq,hx⟩,λy H' ⟨e,hy⟩=>?_⟩;subst e;have:=hy xs sq;rw [hx] at this;cases this;exact ⟨ρ2,.refl,s,rx⟩
theorem cz (h:GE X E e m):GI X E tg e (ag m):=(bx h).imp λσ H R ⟨ρ,l,S,hl,hs,hm⟩=>by
 refine ⟨ρ,l,S,hl,hs,hm.seq λd S1 hm ρ1 H1 x l1 s1 r1=>?_⟩
 cases d <;> first | exact hm.elim | skip
 cases r1 with
 | tup q1 q2=>exact ⟨_,rfl,⟨_,.inl (.inl q1)⟩,hm ρ1 H1 _ l1 s1 (Ms q1 q2)⟩
def ET (lo:Int) (n:Nat):List D:=(Bo n).map λi:Nat=>D.int (lo+i)
theorem Og (lo:Int) (n i:Nat):(ET lo n)[i]?=if i < n then some (.int (lo+i)) else none:=by
 unfold ET;rw [Ae]
 by_cases h:i < n
 ·rw [Bw h,qX h];rfl
 ·rw [qY h,D7.mpr (by simpa using h)];rfl
theorem Mt {ρ:List AH} {H:Hp} (lo:Int) (n:Nat):LY K ρ H (Itr lo n) (Gz (ET lo n)):=by
 intro ρ2 H2 S ds' i l s hv;cases hv;rw [Og];refine ⟨λhn=>?_,λd hd=>?_⟩
 ·split at hn
  ·cases hn
  ·rename_i h;exact Mm h
 ·split at hd
  ·rename_i h
   cases hd;refine ⟨h,λy H' ⟨e,hy⟩=>?_⟩;subst e;subst hy;exact ⟨ρ2,.refl,s,.int _⟩
  ·cases hd
def iR1 (ml:ML):MI:=λe S=>(ml e S).bind λds S1=>match ds with
 | [.int j]=>if -(2 ^ 62)<=j/\j < 2 ^ 62 then .ok (Gz (ET 0 j.toNat)) S1 else .bad
 | _=>.bad
def iR2 (ml:ML):MI:=λe S=>(ml e S).bind λds S1=>match ds with
 | [.int i,.int j]=>if -(2 ^ 62)<=i/\i < 2 ^ 62/\-(2 ^ 62)<=j/\j < 2 ^ 62 then .ok (Gz (ET i (j - i).toNat)) S1 else .bad
 | _=>.bad
theorem JO {a:Expr} {p pos:Pos} (hg:Gl X "range") (hm:X.mg "range" = none) (ha:GA X E [a] ml) (hs:AU [a] X.env=[(false,Bx a X.env)]:=by rfl):GI X E tg (.Call (.Name "range" p) [a] [] pos) (iR1 ml):=(Ul hg hm ha hs).imp λσ H R ⟨ρ,l,S,hl,hs,hm⟩=>by
 refine ⟨ρ,l,S,hl,hs,hm.seq λds S1 hm ρ1 H1 xs l1 s1 r1=>?_⟩;split at hm
 ·rename_i j
  split at hm
  ·rename_i hj
   cases r1 with
   | cons r t=>
    cases t;cases r;exact ⟨j,rfl,hj.1,hj.2,hm ρ1 H1 _ l1 s1 (Mt 0 j.toNat)⟩
  ·exact hm.elim
 ·exact hm.elim
theorem U7 {a b:Expr} {p pos:Pos} (hg:Gl X "range") (hm:X.mg "range" = none) (ha:GA X E [a,b] ml) (hs:AU [a,b] X.env=[(false,Bx a X.env),(false,Bx b X.env)]:=by rfl) (hs2:AU [b] X.env=[(false,Bx b X.env)]:=by rfl) :
  GI X E tg (.Call (.Name "range" p) [a,b] [] pos) (iR2 ml):=(Uk hg hm ha hs hs2).imp λσ H R ⟨ρ,l,S,hl,hs,hm⟩=>by
 refine ⟨ρ,l,S,hl,hs,hm.seq λds S1 hm ρ1 H1 xs l1 s1 r1=>?_⟩;split at hm
 ·rename_i i j
  split at hm
  ·rename_i hj
   cases r1 with
   | cons r t=>
    cases t with
    | cons r' t=>
     cases t;cases r;cases r';exact ⟨i,j,rfl,hj,hm ρ1 H1 _ l1 s1 (Mt i _)⟩
  ·exact hm.elim
 ·exact hm.elim
end
def Ic:List D->Lo->Sto->Res Lo
 | [],e,S=>.ok e S
 | _,_,_=>.bad
def C7 (g:MG) (r:List D->Lo->Sto->Res Lo):List D->Lo->Sto->Res Lo
 | d :: ds,e,S=>(g d e S).bind λe1 S1=>r ds e1 S1
 | [],_,_=>.bad
def IK (n:Nat) (r:List D->Lo->Sto->Res Lo):MG:=λd e S=>match d with
 | .tup ds=>if ds.length=n then r ds e S else .bad
 | _=>.bad
section
variable {X:Cx} {E:EW} {pos:Pos}
def gGs (K:AA) (r:List D->Lo->Sto->Res Lo):TGs:=λvs σ H Q=>∃ρ e S ds,At K ρ H ds vs/\D4 K ρ H e σ/\Bs K ρ S H/\Ba K noH ρ H (r ds e S) λe' S'=>∀ρ' H' σ',Le K ρ H ρ' H'->Bs K ρ' S' H'->D4 K ρ' H' e' σ'->Q σ' H'
abbrev GGs (X:Cx) (ts:List Expr) (r:List D->Lo->Sto->Res Lo):Prop:=PGs X ts (gGs X.K r)
theorem PGs.imp {X:Cx} {ts:List Expr} {t t':TGs} (h:PGs X ts t) (i:∀vs σ H Q,t' vs σ H Q->t vs σ H Q):PGs X ts t':=λpins s σ H vs us Q I r q=>h pins s σ H vs us Q I r (i vs σ H Q q)
theorem Kk:GGs X [] Ic:=ZN.imp λvs σ H Q ⟨ρ,l,S,ds,hd,hl,hs,hm⟩=>by
 cases ds with
 | nil=>cases hd;exact ⟨rfl,hm ρ H σ .refl hs hl⟩
 | cons d ds=>exact hm.elim
theorem EA {e:Expr} {es:List Expr} {g:MG} {r:List D->Lo->Sto->Res Lo} (h1:GG X e g) (h2:GGs X es r)
  (hs:(E5 (e :: es) X.env).map (·.2)=Rj e X.env :: (E5 es X.env).map (·.2):=by rfl):GGs X (e :: es) (C7 g r):=(Wv h1 h2 hs).imp λvs σ H Q ⟨ρ,l,S,ds,hd,hl,hs,hm⟩=>by
 cases ds with
 | nil=>exact hm.elim
 | cons d ds=>
  cases hd with
  | cons q1 q2=>
   exact ⟨_,_,rfl,ρ,l,S,d,q1,hl,hs,hm.seq λe1 S1 hm ρ1 H1 σ1 l1 s1 r1=>⟨ρ1,e1,S1,ds,q2.mono l1,r1,s1,hm.go l1 λ_ _ k ρ2 H2 σ2 l2 s2 r2=>k ρ2 H2 σ2 (l1.trans l2) s2 r2⟩⟩
theorem Na {es:List Expr} {k:Nat} {r:List D->Lo->Sto->Res Lo} {n:Nat} (hc:X.calm=true) (h:GGs X es r)
  (hn:(E5 es X.env).length=n:=by rfl) (hst:(E5 es X.env).findIdx? (·.1)=none:=by rfl):GG X (.Tuple es k pos) (IK n r):=(bz hc h hn hst).imp λv σ H Q ⟨ρ,l,S,d,hd,hl,hs,hm⟩=>by
 cases d <;> first | exact hm.elim | skip
 rename_i ds
 cases hd with
 | tup q1 q2=>
  unfold IK at hm;dsimp only at hm;split at hm
  ·rename_i hlen
   exact ⟨_,_,rfl,.inl (.inl q1),by rw [<-q2.length];exact hlen,ρ,l,S,ds,q2,hl,hs,hm⟩
  ·exact hm.elim
end
def spM (K:AA) (n:Nat) (f:List D->Sto->Res D):Sp:=λvs H Q E=>∃ρ ds S,ds.length=n/\At K ρ H ds vs/\Bs K ρ S H/\Ba K (λc H'=>E (.ref c) none H') ρ H (f ds S) λd S'=>
 ∀ρ' H' x,Le K ρ H ρ' H'->Bs K ρ' S' H'->Be K ρ' H' d x->Q x H'
theorem spM.len {K:AA} {n:Nat} {f:List D->Sto->Res D} {vs:List V} {H:Hp} {Q:VK} {E:XK} (h:spM K n f vs H Q E):vs.length=n:=by
 obtain ⟨ρ,ds,S,h1,h2,_⟩:=h;rw [<-h2.length];exact h1
def CB (n:Nat) (f:List D->Sto->Res D) (m:ML):ME:=λe S=>(m e S).bind λds S1=>if ds.length=n then f ds S1 else .bad
def NH (C:AH) (n:Nat) (f:List D->Sto->Res D) (m:ML):ME:=λe S=>(m e S).bind λds S1=>if ds.length+1=n then (f (.ref S1.length :: ds) (S1++[.ins C []])).bind (λd S2=>match d with
  | .non=>.ok (.ref S1.length) S2
  | _=>.bad) else .bad
def UU (E:EW) (σ:St):XK:=λv o H=>o=none/\∃c,v=.ref c/\E c σ H
section
variable {X:Cx} {E:EW} {CX:CXT} {k n:Nat} {f C:AH} {fd:C6} {ps:List Str} {x:Str} {p pos:Pos} {e:Expr} {es:List Expr} {ml:ML} {g:List D->Sto->Res D}
theorem Ba.xk {α:Type} {K:AA} {σ:St} {ρ ρ1:List AH} {H H1:Hp} {r:Res α} {k k':α->Sto->Prop} (h:Ba K (λc=>E c σ) ρ H r k) (l:Le K ρ H ρ1 H1) (f:∀a S,k a S->k' a S):Ba K (λc H'=>UU E σ (.ref c) none H') ρ1 H1 r k':=by
 cases r with
 | ok a S=>exact f a S h
 | err c S=>exact λρ' H' l' s=>⟨rfl,c,rfl,h ρ' H' (l.trans l') s⟩
 | bad=>exact h
theorem B2 (F:EM X.prog X.w X.K X.mg X.base CX k f fd ps (spM X.K n g)) (hx:Jz CX X (UU E)) (hr:Fg k X.A) (hg:Gl X x) (hm:X.mg x=some (.ref f)) (hk:Ec X.K (.ref f)=true) (hb:Binds X.K fd ps [])
  (ha:GA X E (e :: es) ml) (hdb:(x==("__debug__" : Str))=false:=by decide) (he:AU (e :: es) X.env=(false,Bx e X.env) :: AU es X.env:=by rfl) (hpl:(C4 pos (AU es X.env)).any (·.1)=false:=by rfl) :
  GE X E (.Call (.Name x p) (e :: es) [] pos) (CB n g ml):=(ZV (E:=UU E) F hr hg hm hk hb .nil hx ha hdb he hpl).imp λσ H Q ⟨ρ,l,S,hl,hs,hm⟩=>by
 refine ⟨ρ,l,S,hl,hs,hm.seq λds S1 hm ρ1 H1 xs l1 s1 r1=>?_⟩;split at hm
 ·rename_i hlen
  rw [BE];exact ⟨ρ1,ds,S1,hlen,r1,s1,hm.xk l1 λ_ _ k ρ' H' z l' s' r'=>k ρ' H' z (l1.trans l') s' r'⟩
 ·exact hm.elim
theorem Tx (M:Mk X.K C f) (F:EM X.prog X.w X.K X.mg X.base CX k f fd ps (spM X.K n g)) (hx:Jz CX X (UU E)) (hr:Fg (k+1) X.A) (hg:Gl X x) (hm:X.mg x=some (.ref C)) (hb:Binds X.K fd ps [])
  (ha:GA X E (e :: es) ml) (hdb:(x==("__debug__" : Str))=false:=by decide) (he:AU (e :: es) X.env=(false,Bx e X.env) :: AU es X.env:=by rfl) (hpl:(C4 pos (AU es X.env)).any (·.1)=false:=by rfl) :
  GE X E (.Call (.Name x p) (e :: es) [] pos) (NH C n g ml):=(ZQ (E:=UU E) M F hr hg hm hb .nil hx ha hdb he hpl).imp λσ H Q ⟨ρ,l,S,hl,hs,hm⟩=>by
 refine ⟨ρ,l,S,hl,hs,hm.seq λds S1 hm ρ1 H1 xs l1 s1 r1 a dx ha hdx hne=>?_⟩;split at hm
 ·rename_i hlen
  rw [BE];obtain ⟨s2,l2⟩:=Fn (ho:=.own a) s1 hdx
  have ha2:upd H1 dx (.own a) a=none:=by rw [BZ (Bm hne)];exact ha
  obtain ⟨s3,l3,at3⟩:=s2.alloc (p:=a) (ho:=.ins C dx []) (o:=.ins C []) ha2 ⟨dx,[],Bg,.nil⟩;refine ⟨ρ1++[a],.ref S1.length :: ds,S1++[.ins C []],by simpa using hlen,.cons (.ref at3) (r1.mono (l2.trans l3)),s3,Ba.xk (hm.seq λz S2 hm=>hm) (l1.trans (l2.trans l3)) λz S2 hm ρ' H' y l' s' r'=>?_⟩
  cases z <;> first | exact hm.elim | skip
  cases r';exact ⟨rfl,hm ρ' H' _ (l1.trans (l2.trans (l3.trans l'))) s' (.ref (l'.pre _ _ at3))⟩
 ·exact hm.elim
end
theorem KVR.lookup {K:AA} {ρ:List AH} {H:Hp} (f:Str):∀ {x:List (Str×D)} {y:List (Str×V)} {d:D},KVR K ρ H x y->x.lookup f=some d->∃v,y.lookup f=some v/\Be K ρ H d v
 | _,_,_,.nil,h=>by simp at h
 | (g,a) :: x,(g',b) :: y,d,.cons r t,h=>by
  obtain ⟨r1,r2⟩:=r;dsimp only at r1 r2;subst r1;rw [Bj] at h ⊢
  cases hq:(f==g) with
  | true=>rw [hq] at h;cases h;exact ⟨b,rfl,r2⟩
  | false=>rw [hq] at h;exact KVR.lookup f t h
def MB (f:Str) (v:D):List (Str×D)->List (Str×D)
 | []=>[(f,v)]
 | (g,x) :: r=>if g=f then (g,v) :: r else (g,x) :: MB f v r
theorem KVR.putF {K:AA} {ρ:List AH} {H:Hp} (f:Str) {d:D} {v:V} (rd:Be K ρ H d v):∀ {x:List (Str×D)} {y:List (Str×V)},KVR K ρ H x y->KVR K ρ H (MB f d x) (putF f v y)
 | _,_,.nil=>.cons ⟨rfl,rd⟩ .nil
 | (g,a) :: x,(g',b) :: y,.cons r t=>by
  obtain ⟨r1,r2⟩:=r;dsimp only at r1 r2;subst r1;unfold MB L2.putF
  by_cases hq:g=f
  ·rw [qX hq,qX hq];exact .cons ⟨rfl,rd⟩ t
  ·rw [qY hq,qY hq];exact .cons ⟨rfl,r2⟩ (KVR.putF f rd t)
theorem KVR.length {κ:Type} {K:AA} {ρ:List AH} {H:Hp} {x:List (κ×D)} {y:List (κ×V)} (h:KVR K ρ H x y):x.length=y.length:=DA h
def Gu (C:AH) (f:Str) (m:ME):ME:=λe S=>(m e S).bind λd S1=>match d with
 | .ref n=>match S1[n]? with
  | some (.ins C' fs)=>if C'=C then (match fs.lookup f with | some v=>.ok v S1 | none=>.bad) else .bad
  | _=>.bad
 | _=>.bad
def Of (C:AH) (f:Str) (mo mv:ME):MS:=λe S=>(mv e S).lift e λv S1=>(mo e S1).lift e λd S2=>match d with
 | .ref n=>match S2[n]? with
  | some (.ins C' fs)=>if C'=C/\fs.length < 1000 then .ok (.nx e) (S2.set n (.ins C (MB f v fs))) else .bad
  | _=>.bad
 | _=>.bad
section
variable {X:Cx} {E:EW} {o e value:Expr} {f:Str} {pos pos':Pos} {m mv:ME} {C:AH}
theorem Ge (hc:Cls X.K C) (hn:Gn X.K C f) (he:GE X E e m) (hb:Ex e f X.env (Bx e X.env)=Bx e X.env:=by rfl):GE X E (.Attribute e f pos) (Gu C f m):=(cH he hb).imp λσ H Q ⟨ρ,l,S,hl,hs,hm⟩=>by
 refine ⟨ρ,l,S,hl,hs,hm.seq λx S1 hm ρ1 H1 v l1 s1 r1=>?_⟩
 cases x <;> first | exact hm.elim | skip
 rename_i n;dsimp only at hm
 cases ho:S1[n]? with
 | none=>rw [ho] at hm;exact hm.elim
 | some ob=>
  rw [ho] at hm
  cases ob <;> first | exact hm.elim | skip
  rename_i C' fs;dsimp only at hm;split at hm
  ·rename_i hC
   rw [hC] at ho
   cases r1 with
   | ref hn'=>
    obtain ⟨dx,fs',e1,e2⟩:=s1.ob n _ _ ho hn'
    cases hq:fs.lookup f with
    | none=>rw [hq] at hm;exact hm.elim
    | some w=>
     rw [hq] at hm;obtain ⟨v,h3,h4⟩:=KVR.lookup f e2 hq;exact ⟨_,_,dx,fs',v,rfl,e1,hc,hn,h3,hm ρ1 H1 v l1 s1 h4⟩
  ·exact hm.elim
theorem Se (hc:Cls X.K C) (hn:Gn X.K C f) (ha:GE X E o m) (hv:GE X E value mv) (hs:EX value (some (.Attribute o f pos')) pos.line X.env=pure false:=by rfl):GS X E (.Assign [.Attribute o f pos'] value pos) (Of C f m mv):=(bw ha hv hs).imp λD σ H ⟨ρ,l,S,hl,hs,hm⟩=>by
 refine ⟨ρ,l,S,hl,hs,hm.lift hl .refl λv S1 hm ρ1 H1 y l1 s1 r1=>⟨ρ1,l,S1,hl.mono l1,s1,(hm.later l1).lift (hl.mono l1) l1 λx S2 hm ρ2 H2 u l2 s2 r2=>?_⟩⟩
 cases x <;> first | exact hm.elim | skip
 rename_i n;dsimp only at hm
 cases ho:S2[n]? with
 | none=>rw [ho] at hm;exact hm.elim
 | some ob=>
  rw [ho] at hm
  cases ob <;> first | exact hm.elim | skip
  rename_i C' fs;dsimp only at hm;split at hm
  ·rename_i hC
   obtain ⟨hC,hlen⟩:=hC;rw [hC] at ho
   cases r2 with
   | ref hn'=>
    obtain ⟨dx,fs',e1,e2⟩:=s2.ob n _ _ ho hn';have le:Le X.K ρ2 H2 ρ2 (upd H2 _ (.ins C dx (putF f y fs'))):=Le.write hn' (by rw [e1];trivial);obtain ⟨s3,l3⟩:=s2.write (ho:=.ins C dx (putF f y fs')) (o:=.ins C (MB f v fs)) hn' ⟨dx,_,Bg,(KVR.putF f (r1.mono l2) e2).mono le⟩;refine ⟨_,C,dx,fs',rfl,e1,hc,hn,by rw [<-KVR.length e2];exact hlen,?_⟩;exact hm ρ2 _ σ (l1.trans (l2.trans l3)) s3 (hl.mono (l1.trans (l2.trans l3)))
  ·exact hm.elim
end
theorem CJ.get {P:Ah} {w:A1} {H:Hp} {h:BW} {a:AH} {o:HO} (x:CJ P w H h a o):∃u,h.get? a=some u:=by
 cases o with
 | lst xs=>obtain ⟨_,_,_,_,e⟩:=x;exact ⟨_,e⟩
 | tup xs=>obtain ⟨_,_,_,o,e,_⟩:=x;exact ⟨_,e⟩
 | dK kvs=>obtain ⟨_,_,_,_,o,_,_,e,_⟩:=x;exact ⟨_,e⟩
 | dT kvs=>obtain ⟨_,_,_,_,o,_,_,e,_⟩:=x;exact ⟨_,e⟩
 | set S n=>obtain ⟨o,_,_,_,e,_⟩:=x;exact ⟨_,e⟩
 | ins C dx fs=>obtain ⟨_,_,_,e,_⟩:=x;exact ⟨_,e⟩
 | own y=>exact x
 | xd fs=>obtain ⟨_,⟨_,_,_,e,_⟩,_⟩:=x;exact ⟨_,e⟩
 | rng lo hi=>obtain ⟨_,_,_,e⟩:=x;exact ⟨_,e⟩
 | frz ob u=>obtain ⟨e,_⟩:=x;exact ⟨_,e⟩
 | tbl ps=>exact ⟨_,(show h.get? a=some _ from x)⟩
 | met f y=>exact ⟨_,(show h.get? a=some _ from x)⟩
 | ext φ=>obtain ⟨_,e,_⟩:=x;exact e
def OT (Nw:AH->Prop) (F:Option AB->Prop) (ea C:AH) (H:Hp) (h:BW):Prop:=
 H ea=none/\Nw ea/\∃(oe:Obj) (vs:Array AB) (a0:AB),h.get? ea=some oe/\oe.cls=.ref C/\(oe.dict=none/\oe.data=.fields vs)/\vs[0]?=some a0 /\
  ((F none/\vs[1]?=some .none)∨∃(T:AH) (oT:Obj) (ts:Array AB) (fl:AB),F (some fl)/\vs[1]?=some (.ref T)/\T≠ea/\H T=none/\Nw T/\h.get? T=some oT/\oT.data=.fields ts/\ts[3]?=some fl)
theorem OT.imp {Nw:AH->Prop} {h:BW} {F G:Option AB->Prop} {ea C:AH} {H:Hp} (x:OT Nw F ea C H h) (f:∀o,F o->G o):OT Nw G ea C H h:=by
 obtain ⟨n1,n2,oe,vs,a0,g1,g2,g3,g4,g5⟩:=x;refine ⟨n1,n2,oe,vs,a0,g1,g2,g3,g4,?_⟩
 rcases g5 with ⟨a,b⟩ | ⟨T,oT,ts,fl,a,b⟩
 ·exact .inl ⟨f _ a,b⟩
 ·exact .inr ⟨T,oT,ts,fl,f _ a,b⟩
structure IM (X:Cx):Prop where
 st:X.stack=X.env :: X.outer
 fr:X.env.frame=some X.env.locals
 ex:X.ex=[]
def Nw (X:Cx) (b:AH):Prop:=X.s₀.heap.get? b=none/\∀p∈X.pn,p.1≠b
section
variable {X:Cx} {pins:List (AH×Obj)} {σ:St} {H:Hp} {s:AD} {h':BW} {ea C:AH} {F:Option AB->Prop}
theorem Inv.old (I:Inv X pins σ H s) (O:IM X) {b:AH} (e:s.heap.get? b=none):H b=none/\Nw X b:=by
 refine ⟨?_,?_,λp hp z=>?_⟩
 ·cases q:H b with
  | none=>rfl
  | some u=>
   obtain ⟨o,ho⟩:=(I.hok b u q).get;rw [e] at ho;cases ho
 ·cases q:X.s₀.heap.get? b with
  | none=>rfl
  | some o=>
   obtain ⟨o',ho⟩:=I.base.there b o q (by rw [O.ex];simp);rw [e] at ho;cases ho
 ·have:=(I.pin p (BJ _ hp)).1
  rw [z,e] at this;cases this
theorem Inv.recs {ch:List AH} (I:Inv X [] σ H s) (O:IM X) (hc:∀b∈ch,H b=none/\Nw X b/\∃o vs,s.heap.get? b=some o/\o.data=.fields vs)
  (st:(IE s.heap (frs X.stack++ch)).StaysIn h') (up:s.heap.UpToSlots h'):Inv X [] σ H { s with heap:=h' }:=by
 have keepB:∀b o,b∉frs X.stack->b∉ch->s.heap.get? b=some o->h'.get? b=some o:=λb o h1 h2 e=>
  st b o (RZ _ e λz=>(A2.mp z).elim h1 h2)
 have noL:∀b∈ch,b≠X.env.locals:=λb hb z=>by
  obtain ⟨_,_,o,vs,e,d⟩:=hc b hb;obtain ⟨m,⟨o',es,ep,ho',hd',_⟩,_⟩:=I.loc;rw [z,ho'] at e;cases e;rw [hd'] at d;cases d
 have noC:∀b∈ch,∀x c,X.env.cells.lookup x=some c->c≠b:=λb hb x c q z=>by
  obtain ⟨_,_,o,vs,e,d⟩:=hc b hb;obtain ⟨v,o',ho',hd'⟩:=I.cell x c q;rw [z,e] at ho';cases ho';rw [d] at hd';cases hd'
 refine I.stepN (g':=s.gens) (t':=s.toks) (d':=s.drawn) (ch:=ch) (λb hb=>⟨.inr (hc b hb).2.1.1,noL b hb,noC b hb,λp hp=>(hc b hb).2.1.2 p (by rwa [BE] at hp)⟩)
  (λb o nl nf nc e _=>keepB b o (λz=>(A6.mp (I.stkSub b z)).elim nl nf) nc e) (λb o _ hf _ e _=>?_) (λ_ _ _ _ n=>n) (λb o nc e=>?_) (λ_ _ q=>q) (λ_ _ _ q=>q) (λb ps q=>⟨#[],by rw [q];simp⟩) (λm hm=>up.ns hm) (λa o e=>?_) I.bare
 ·obtain ⟨o',ho',nf⟩:=(I.funs.mem hf).2
  rw [e] at ho';cases ho';exact up b o e nf
 ·by_cases hb:b∈frs X.stack
  ·obtain ⟨o',ho',nf⟩:=(I.stack.mem hb).2
   rw [e] at ho';cases ho';obtain ⟨sl,q⟩:=up b o e nf;exact ⟨_,q⟩
  ·exact ⟨o,keepB b o hb nc e⟩
 ·have tr:∀b u,H b=some u->∀v,s.heap.get? b=some v->h'.get? b=some v:=λb u q v r=>
   keepB b v (λz=>by rw [I.stkFree b z] at q;cases q) (λz=>by rw [(hc b z).1] at q;cases q) r
  refine (I.hok a o e).stay (λb u hb q=>?_) (λ_ q=>q) λ_ _ q=>q
  rcases hb with z | z
  ·subst z;exact tr _ _ e u q
  ·exact tr _ _ z u q
abbrev Xe (X:Cx) (h:BW) (ch:List AH):BW:=IE h (frs X.stack++ch)
theorem Op {h:BW} {ch:List AH} {b:AH} (hb:b∈ch):(Xe X h ch).get? b=none:=IX _ (A8 _ hb)
theorem Iz (f:Array AB->Array AB) (o:Obj):(CQ f o).dict=o.dict:=by
 obtain ⟨c,d,dt,sl⟩:=o
 cases dt <;> rfl
theorem RI {M:Rt} {A:Aw} {E:AB->AD->Prop} {Q:Unit->AD->Prop} {base:BW} {env:Env} {outer:List Env} {L e:AH} {oe:Obj} {vs:Array AB} {head:AB} {hadNext:Bool}
  (hfr:A.frames=some (env :: outer)) (hl:s.heap.FunFrames base (env :: outer)) (hf:env.frame=some L) (he:s.heap.get? e=some oe) (hd:oe.data=.fields vs) (hsz:1 < vs.size)
  (k:∀h2 T oT ts,T≠e->s.heap.get? T=none->(∀b o,b≠e->b∉frs (env :: outer)->s.heap.get? b=some o->h2.get? b=some o)->(∀b o,b≠e->s.heap.get? b=some o->∃sl,h2.get? b=some { o with slots:=sl }) ->
   h2.get? e=some (CQ (·.setIfInBounds 1 (.ref T)) oe)->h2.get? T=some oT->oT.data=.fields ts->ts[3]?=some (DW L)->Q () { s with heap:=h2 }) :
  Ad M A (do let a <-frameOf env;let pl <-entryPlaceOf L hadNext;let b <-PF head a .none (DW L) .none pl;YN (.ref e) 1 b) Q E s:=by
 have hnot:e∉frs (env :: outer):=λz=>by
  obtain ⟨_,o,ho,nf⟩:=hl.mem z;rw [he] at ho;cases ho;exact nf vs hd
 refine AC (wpAny_frameOf_fun hfr hl hf λg1 so=>AC (wpAny_entryPlaceOf λpl hpl=>?_));unfold PF newFields;refine AC (BU ?_ (hpl.sizeOk5 _ _ _ _ _));have e1:g1.get? e=some oe:=(so.2.1 e hnot).trans he;have e2:=AI (h:=g1) { cls:=.type "traceback",dict:=none,data:=.fields ([head,.ref L,.none,DW L,.none]++(if pl.isEmpty then BG 6 BL else pl)).toArray } e1;refine EE e2 hd hsz ?_;have nTe:g1.objs.size≠e:=L5 (AW e1);have dd:=Bq hd (·.setIfInBounds 1 (Ax g1.objs.size))
 have old:∀b o,b≠e->g1.get? b=some o->((g1.push { cls:=.type "traceback",dict:=none,data:=.fields ([head,.ref L,.none,DW L,.none]++(if pl.isEmpty then BG 6 BL else pl)).toArray }).update e (CQ (·.setIfInBounds 1 (Ax g1.objs.size)))).get? b=some o:=λb o ne q=>by
  rw [DS _ _ (Bm ne)];exact AI _ q
 refine k _ g1.objs.size { cls:=.type "traceback",dict:=none,data:=.fields ([head,.ref L,.none,DW L,.none]++(if pl.isEmpty then BG 6 BL else pl)).toArray } _ nTe (S7 (Rr so.1.symm)) (λb o ne nf q=>old b o ne ((so.2.1 b nf).trans q)) (λb o ne q=>?_) (Dd _ e2 (Df dd)) ?_ rfl ?_
 ·obtain ⟨sl,z⟩:=so.2.2 b o q
  exact ⟨sl,old b _ ne z⟩
 ·rw [DS _ _ (Bm nTe)]
  exact AX g1 rfl
 ·rcases hpl with rfl | ⟨_,_,_,_,_,_,_,rfl⟩ <;> simp
theorem Qi {h:BW} {ch:List AH} (keep:∀b o,b∉frs X.stack->b∉ch->h.get? b=some o->h'.get? b=some o):(Xe X h ch).StaysIn h':=λb o q=>by
 have hb:b∉frs X.stack++ch:=λz=>by
  have:=IX (h:=h) (frs X.stack++ch) z;rw [show (Xe X h ch).get? b=(IE h (frs X.stack++ch)).get? b from rfl,this] at q;cases q
 exact keep b o (λz=>hb (BJ _ z)) (λz=>hb (A8 _ z)) (Jn _ q)
theorem Te {M:Rt} {A:Aw} {E:AB->AD->Prop} {Q:Unit->AD->Prop} (I:Inv X [] σ H s) (O:IM X) (hA:A.frames=some X.stack) (x:OT (Nw X) F ea C H s.heap)
  (hF:∀o,F o->o=none∨o=some .none∨o=some (DW X.env.locals))
  (k:∀h',Inv X [] σ H { s with heap:=h' }->OT (Nw X) (· = some (DW X.env.locals)) ea C H h'->Q () { s with heap:=h' }):Ad M A (VY (.ref ea) X.env) Q E s:=by
 obtain ⟨n1,n2,oe,vs,a0,g1,g2,⟨g0,g3⟩,g4,g5⟩:=x
 have hA':A.frames=some (X.env :: X.outer):=by rw [hA,O.st]
 have hst:frs (X.env :: X.outer)=frs X.stack:=by rw [O.st]
 have fr:s.heap.FunFrames X.base (X.env :: X.outer):=by rw [<-O.st];exact I.stack
 rcases g5 with ⟨_,h1⟩ | ⟨T,oT,ts,fl,hf,h1,ne,m1,m2,gT,dT,h3⟩
 ·have hsz:=(Dt.mp h1).1
  unfold VY;simp only [O.fr];refine AC (Cb g1 g3 h1 ?_);rw [qY (by decide)]
  refine RI hA' fr O.fr g1 g3 hsz λh2 T oT ts nT fT kp up q1 q2 q3 q4=>?_
  rw [hst] at kp;have hT:=I.old O fT
  have hc:∀b∈[ea],H b=none/\Nw X b/\∃o vs,s.heap.get? b=some o/\o.data=.fields vs:=λb hb=>by
   cases Af.mp hb;exact ⟨n1,n2,oe,vs,g1,g3⟩
  refine k h2 (I.recs O hc (Qi λb o z1 z2 q=>kp b o (λz=>z2 (Af.mpr z)) z1 q) λb o q nf=>up b o (λz=>?_) q) ?_
  ·rw [z,g1] at q
   cases q;exact nf vs g3
  ·exact ⟨n1,n2,_,_,a0,q1,by rw [He];exact g2,⟨by rw [Iz];exact g0,Bq g3 _⟩,by rw [Li (by decide)];exact g4,.inr ⟨T,oT,ts,_,rfl,by simp [hsz],nT,hT.1,hT.2,q2,q3,q4⟩⟩
 ·rcases hF _ hf with e | e | e
  ·cases e
  ·cases e
   have hsz:=(Dt.mp h1).1;unfold VY;simp only [O.fr];refine AC (Cb g1 g3 h1 ?_);rw [qX (show (Ax T != BL)=true from by simp)];refine AC (Cb gT dT h3 ?_);rw [qY (show ¬((BL==DW X.env.locals)=true) from by simp [DW])];refine AC (EE gT dT (Dt.mp h3).1 ?_)
   have oth:∀b,b≠T->(s.heap.update T (CQ (·.setIfInBounds 3 BL))).get? b=s.heap.get? b:=λb hb=>DS _ _ (Bm hb)
   have nrec:∀b o,s.heap.get? b=some o->(∀vs,o.data≠.fields vs)->b≠T:=λb o hb nf q=>by
    rw [q,gT] at hb;cases hb;exact nf ts dT
   have fr2:(s.heap.update T (CQ (·.setIfInBounds 3 BL))).FunFrames X.base (X.env :: X.outer):=fr.of_keeps λb o hb nf=>⟨o,(oth b (nrec b o hb nf)).trans hb,rfl⟩
   have gU:(s.heap.update T (CQ (·.setIfInBounds 3 BL))).get? T=some (CQ (·.setIfInBounds 3 BL) oT):=Dd _ gT (Df (Bq dT _))
   have hc:∀b∈[ea,T],H b=none/\Nw X b/\∃o vs,s.heap.get? b=some o/\o.data=.fields vs:=λb hb=>by
    rcases A6.mp hb with rfl | hb
    ·exact ⟨n1,n2,oe,vs,g1,g3⟩
    ·cases Af.mp hb
     exact ⟨m1,m2,oT,ts,gT,dT⟩
   refine RI (s:={ s with heap:=s.heap.update T (CQ (·.setIfInBounds 3 BL)) }) hA' fr2 O.fr ((oth ea (Bm ne)).trans g1) g3 hsz λh2 T2 oT2 ts2 nT fT kp up q1 q2 q3 q4=>?_
   rw [hst] at kp
   have fT':s.heap.get? T2=none:=by
    have z:T2≠T:=λz=>by rw [z] at fT;exact zX (fT.symm.trans gU) (by simp)
    rw [<-oth T2 z];exact fT
   have hT:=I.old O fT';refine k h2 (I.recs O hc (Qi λb o z1 z2 q=>kp b o (λz=>z2 (by rw [z];exact Al)) z1 ((oth b λz=>z2 (by rw [z];exact Aa _ (Af.mpr rfl))).trans q)) λb o q nf=>up b o (λz=>?_) ((oth b (nrec b o q nf)).trans q)) ?_
   ·rw [z,g1] at q
    cases q;exact nf vs g3
   ·exact ⟨n1,n2,_,_,a0,q1,by rw [He];exact g2,⟨by rw [Iz];exact g0,Bq g3 _⟩,by rw [Li (by decide)];exact g4,.inr ⟨T2,oT2,ts2,_,rfl,by simp [hsz],nT,hT.1,hT.2,q2,q3,q4⟩⟩
  ·cases e
   have hTn:(Xe X s.heap [ea,T]).get? T=none:=Op (Aa _ (Af.mpr rfl));refine wpAny_noteFrame_againW (base:=Xe X s.heap [ea,T]) (cls:=.ref C) (a0:=a0) O.fr ⟨oe,vs,T,oT,ts,g1,⟨g2,g4⟩,g3,h1,hTn,ne,gT,dT,h3⟩ ?_;exact k s.heap I ⟨n1,n2,oe,vs,a0,g1,g2,⟨g0,g3⟩,g4,.inr ⟨T,oT,ts,_,rfl,h1,ne,m1,m2,gT,dT,h3⟩⟩
theorem Oq {M:Rt} {A:Aw} {E:AB->AD->Prop} {Q:Unit->AD->Prop} (f:Option AH) (I:Inv X [] σ H s) (O:IM X) (x:OT (Nw X) F ea C H s.heap) (hF:¬F none)
  (k:∀h',Inv X [] σ H { s with heap:=h' }->OT (Nw X) (· = some (f.elim BL λa=>DW a)) ea C H h'->Q () { s with heap:=h' }):Ad M A (setFlight (.ref ea) f) Q E s:=by
 obtain ⟨n1,n2,oe,vs,a0,g1,g2,⟨g0,g3⟩,g4,g5⟩:=x
 rcases g5 with ⟨z,_⟩ | ⟨T,oT,ts,fl,hf,h1,ne,m1,m2,gT,dT,h3⟩
 ·exact (hF z).elim
 ·have hc:∀b∈[ea,T],H b=none/\Nw X b/\∃o vs,s.heap.get? b=some o/\o.data=.fields vs:=λb hb=>by
   rcases A6.mp hb with rfl | hb
   ·exact ⟨n1,n2,oe,vs,g1,g3⟩
   ·cases Af.mp hb
    exact ⟨m1,m2,oT,ts,gT,dT⟩
  have hsz:3 < ts.size:=(Dt.mp h3).1;unfold setFlight;refine AC (Cb g1 g3 h1 ?_);rw [qX (show (Ax T != BL)=true from by simp)];refine EE gT dT hsz ?_
  have oth:∀b,b≠T->(s.heap.update T (CQ (·.setIfInBounds 3 (f.elim BL λa=>DW a)))).get? b=s.heap.get? b:=λb hb=>DS _ _ (Bm hb)
  have nrec:∀b o,s.heap.get? b=some o->(∀vs,o.data≠.fields vs)->b≠T:=λb o hb nf q=>by
   rw [q,gT] at hb;cases hb;exact nf ts dT
  refine k _ (I.recs O hc (λb o q=>?_) λb o q nf=>⟨o.slots,(oth b (nrec b o q nf)).trans q⟩) ?_
  ·have hb:b≠T:=λz=>by rw [z,Op (Aa _ (Af.mpr rfl))] at q;cases q
   exact (oth b hb).trans (Jn _ q)
  ·refine ⟨n1,n2,oe,vs,a0,(oth ea (Bm ne)).trans g1,g2,⟨g0,g3⟩,g4,.inr ⟨T,_,_,_,rfl,h1,ne,m1,m2,Dd _ gT (Df (Bq dT _)),Bq dT _,?_⟩⟩
   simp [hsz]
end
def trF (X:Cx) (o:Option AB):Prop:=o=none∨o=some .none∨o=some (DW X.env.locals)
def XE (X:Cx) (E:EW) (e:AB) (s':AD):Prop:=∃ea C σ H',e=.ref ea/\Inv X [] σ H' s'/\OT (Nw X) (trF X) ea C H' s'.heap/\E C σ H'
def CXG (P:Ah) (w:A1):CXT:=λouter H s E e s'=>∃ea C H',e=.ref ea/\s'.os=s.os/\Go s'.gens/\Un (frs outer) [] H H' s.heap s'.heap/\HOk P w H' s'.heap/\OT (λb=>s.heap.get? b=none) (· = some .none) ea C H' s'.heap/\E (.ref C) none H'
theorem XE.own {X:Cx} {E:EW} (O:IM X):Lc (AT X.prog X.w) X.A X.env (XE X E):=by
 rintro e s' ⟨ea,C,σ,H,rfl,I,x,w⟩
 refine Te I O I.ok.frames x (λo z=>z) λh1 I1 x1=>?_
 have x1':=x1;obtain ⟨n1,n2,oe,vs,a0,g1,g2,g3,g4,g5⟩:=x1'
 rcases g5 with ⟨z,_⟩ | ⟨T,oT,ts,fl,hf,h1',_⟩
 ·cases z
 ·show Ad _ _ _ _ _ _
  refine AC (Cb (s:={ s' with heap:=h1 }) g1 g3.2 h1' ?_);rw [qY (by simp)];rw [O.fr]
  refine Oq (s:={ s' with heap:=h1 }) (some X.env.locals) I1 O x1 (by simp) λh2 I2 x2=>?_
  exact ⟨ea,C,σ,H,rfl,I2,x2.imp λo z=>.inr (.inr z),w⟩
theorem XE.leave {X:Cx} {E:EW} {e:AB} {s':AD} {Q:Unit->AD->Prop} {E':AB->AD->Prop} (O:IM X) (h:XE X E e s')
  (k:∀ea C σ H' s'',e=.ref ea->Inv X [] σ H' s''->OT (Nw X) (· = some .none) ea C H' s''.heap->E C σ H'->Q () s''):Ad (AT X.prog X.w) X.A (leaving X.env e) Q E' s':=by
 obtain ⟨ea,C,σ,H,rfl,I,x,w⟩:=h;unfold leaving;refine AC (Te I O I.ok.frames x (λo z=>z) λh1 I1 x1=>?_)
 refine Oq (s:={ s' with heap:=h1 }) none I1 O x1 (by simp) λh2 I2 x2=>?_
 exact k ea C σ H _ rfl I2 x2 w
abbrev Cx.p (X:Cx) (pn:List (AH×Obj)):Cx:={ X with pn:=pn }
abbrev Cx.w' (X:Cx) (pn:List (AH×Obj)) (E:EW):Cx:={ X with pn:=pn,xe:=XE (X.p pn) E }
theorem Inv.with {X:Cx} {pins:List (AH×Obj)} {σ:St} {H:Hp} {s:AD} (I:Inv X pins σ H s) (z:AB->AD->Prop):Inv { X with xe:=z } pins σ H s:=by
 obtain ⟨ok,a,b,c,d,e,f,g,i,j,l⟩:=I;obtain ⟨o1,o2,o3,o4,o5,o6,o7,o8,o9,o10,o11,o12,o13,o14,o15,o16,o17,o18⟩:=ok;exact ⟨⟨o1,o2,o3,o4,o5,o6,o7,o8,o9,o10,o11,o12,o13,o14,o15,o16,o17,o18⟩,a,b,c,d,e,f,g,i,j,l⟩
theorem Inv.without {X:Cx} {pins:List (AH×Obj)} {σ:St} {H:Hp} {s:AD} {z:AB->AD->Prop} (I:Inv { X with xe:=z } pins σ H s):Inv X pins σ H s:=by
 have:=I.with X.xe
 exact this
structure Good (X:Cx) (E:EW):Prop where
 pass:Jz (CXG X.prog X.w) X (UU E)
 own:Lc (AT X.prog X.w) X.A X.env X.xe
 made:∀(pins:List (AH×Obj)) (σ:St) (H:Hp) (s:AD) (h':BW) (ea C:AH) (args:List AB),Inv X pins σ H s->E C σ H->BW.MadeExcOf s.heap h' ea (.ref C) args->X.xe (.ref ea) { s with heap:=h' }
theorem IM.p {X:Cx} (O:IM X) (pn:List (AH×Obj)):IM (X.p pn):=⟨O.st,O.fr,O.ex⟩
theorem BQ {X:Cx} {E:EW} {pn:List (AH×Obj)} (O:IM X):Good (X.w' pn E) E:=by
 have O':=O.p pn;refine ⟨λpins σ H s e s' I h=>?_,XE.own O',λpins σ H s h' ea C args I w hx=>?_⟩
 ·obtain ⟨ea,C,H',rfl,os,bare,un,hok,x,_,c,ec,w⟩:=h
  cases ec;have I0:Inv (X.p pn) pins σ H s:=Inv.without (X:=X.p pn) I;have I1:Inv (X.p pn) pins σ H' s':=I0.call' os un hok bare (λb z=>zX z (by simp))
  have I2:Inv (X.p pn) [] σ H' s':=I1.pins_of λp hp=>zX hp (by simp)
  obtain ⟨n1,n2,oe,vs,a0,g1,g2,g3,g4,g5⟩:=x;refine ⟨ea,C,σ,H',rfl,I2,⟨n1,(I0.old O' n2).2,oe,vs,a0,g1,g2,g3,g4,?_⟩,w⟩
  rcases g5 with ⟨z,_⟩ | ⟨T,oT,ts,fl,hf,h1,ne,m1,m2,r⟩
  ·cases z
  ·exact .inr ⟨T,oT,ts,fl,.inr (.inl hf),h1,ne,m1,(I0.old O' m2).2,r⟩
 ·have I0:Inv (X.p pn) pins σ H s:=Inv.without (X:=X.p pn) I
  have I1:Inv (X.p pn) pins σ H { s with heap:=h',toks:=s.toks }:=I0.kept hx.keeps;obtain ⟨t,g1,_,_⟩:=hx.there;have hold:=I0.old O' hx.new;exact ⟨ea,C,σ,H,rfl,I1.pins_of λp hp=>zX hp (by simp),⟨hold.1,hold.2,_,_,_,g1,rfl,⟨rfl,rfl⟩,rfl,.inl ⟨.inl rfl,rfl⟩⟩,w⟩
abbrev Ow:List AB:=[.type "ValueError",.type "Exception",.type "BaseException",.type "object"]
structure XCl (K:AA) (C:AH):Prop where
 ex:YF K C Ow "ValueError.__new__" = true
theorem XCl.obj {K:AA} {C:AH} (c:XCl K C):∃bm N nm q bs hdct sn sub ab col dd k0 k1 k2 k3 k5,K.lookup C=some (excClassObj nm q C N bs bm hdct sn sub ab col dd k0 k1 k2 k3 k5 "ValueError.__new__") /\
  Mf K N=true/\PySem.W.nsIn K N "__init__" = some none/\PySem.W.tailIn K Ow bm=true:=by
 have q:=c.ex;unfold YF at q;split at q
 ·rename_i ddx cdx slx hox
  split at q
  ·rename_i Cx bmx j0 j1 j2 j3 nx j5 hmx hsx
   simp only [CN,beq_iff_eq,Vv] at q;obtain ⟨⟨⟨⟨⟨e1,e2⟩,e3⟩,e4⟩,e5⟩,e6⟩:=q;subst e1;subst e2;obtain ⟨f1,f2,f3,f4,f5,f6,f7,f8,f9,f10,f11⟩:=cdx;dsimp only at hmx e3 e5 e6;subst hmx;subst e3;obtain ⟨lx⟩:=slx;dsimp only at hsx;subst hsx;exact ⟨bmx,f4,f1,f5,f2,f6,f7,f8,f9,f10,ddx,j0,j1,j2,j3,j5,hox,e5,e6,e4⟩
  ·cases q
 ·cases q
theorem Zf {K:AA} {N:AH} {h h2:BW} {m:Str->Option AB} (e:Mf K N=true) (X:K.In h) (X2:K.In h2) (n:h.Ns N m):h2.Ns N m:=by
 obtain ⟨o,es,ep,ho,r⟩:=n;unfold Mf at e;split at e
 ·rename_i hk
  have z:=X _ _ hk;rw [ho] at z;cases z;exact ⟨_,es,ep,X2 _ _ hk,r⟩
 ·cases e
def DY (C:AH) (ml:ML):MS:=λe S=>(ml e S).lift e λds S1=>if ds.length<=sizeLine then .ok (.ex C e) S1 else .bad
section
variable {X:Cx} {E:EW} {x:Str} {np cpos pos:Pos} {e:Expr} {es:List Expr} {ml:ML} {C:AH}
theorem Iv (G:Good X E) (hc:X.calm=true) (c:XCl X.K C) (hg:Gl X x) (hm:X.mg x=some (.ref C)) (ha:GA X E (e :: es) ml) (hdb:(x==("__debug__" : Str))=false:=by decide)
  (he:AU (e :: es) X.env=(false,Bx e X.env) :: AU es X.env:=by rfl) (hpl:(C4 cpos (AU es X.env)).any (·.1)=false:=by rfl) :
  GS X E (.Raise (some (.Call (.Name x np) (e :: es) [] cpos)) none pos) (DY C ml):=by
 intro pins s σ H D I ⟨ρ,l,S,hl,hs,hm'⟩;have hh:X.A.handled=none:=I.ok.hd hc;obtain ⟨bm,N,nm,q,bs,hdct,sn,sub,ab,col,dd,k0,k1,k2,k3,k5,hC,hok,hin,htl⟩:=c.obj;have hN:s.heap.Ns N (s.heap.nsMap N):=.of_isNs (PySem.W.isNs_of_in I.kIn hok)
 refine wpAny_Raise_call_subT (C:=C) (nm:=nm) (q:=q) (N:=N) (bs:=bs) (bm:=bm) (hdct:=hdct) (sn:=sn) (sub:=sub) (ab:=ab) (col:=col) (dd:=dd) (k0:=k0) (k1:=k1) (k2:=k2) (k3:=k3) (k5:=k5) (bmB:=Ow) PySem.F.excBase_ValueError
  ((Rp I.kIn htl).hasType (by decide +kernel)) hh (by rw [he];show (false||(C4 cpos (AU es X.env)).any (·.1))=false;rw [hpl];rfl) (PySem.W.nsMap_none_of_in I.kIn hok hin)
  (Ma I hg hm ⟨rfl,?_⟩ hdb)
 have hgo:=ha cpos pins s σ H (λvs H1=>vs.length<=sizeLine/\E C σ H1) I ⟨ρ,l,S,hl,hs,Ba.lift hm' hl .refl λds S1 hm ρ1 H1 xs l1 s1 r1=>by
  split at hm
  ·rename_i hz
   exact ⟨by rw [<-r1.length];exact hz,hm ρ1 H1 σ l1 s1 (hl.mono l1)⟩
  ·exact hm.elim⟩
 rw [he] at hgo ⊢;refine JS (thn hgo λus s2 ⟨vs,H2,I2,rv,hz,w⟩=>?_);exact ⟨rfl,by rw [<-rv.length];exact hz,I2.kIn _ _ hC,Zf hok I.kIn I2.kIn hN,Rp I2.kIn htl,λh' ea hx=>G.made pins σ H2 s2 h' ea C us I2 w hx⟩
end
section
variable {X:Cx} {E:EW} {body suite:List Cw} {b₀:Cw} {g n:Str} {gp hpos pos:Pos} {cs:List AH} {i:Nat} {mb mh:MS} {G:AH}
end
def GY (n:Nat) (ds:List D):Lo:=ds.map some++BG (n - ds.length) none
theorem SA {K:AA} {ρ:List AH} {H:Hp} {N:List Str} {ds:List D} {vs:List V} (r:At K ρ H ds vs):D4 K ρ H (GY N.length ds) (start N vs):=by
 refine ⟨by simp [GY,start,r.length],λi d q=>?_⟩;unfold GY at q;unfold start
 by_cases hi:i < ds.length
 ·rw [AV (by simpa using hi),Ae] at q
  rw [AV (by rw [AF,<-r.length];exact hi),Ae]
  cases e:ds[i]? with
  | none=>rw [e] at q;cases q
  | some d'=>
   rw [e] at q;cases q;obtain ⟨v,h1,h2⟩:=r.get e;exact ⟨v,by rw [h1];rfl,h2⟩
 ·rw [As (by simpa using hi),CY] at q
  split at q <;> cases q
def FQ (n:Nat) (mb:MS) (ds:List D) (S:Sto):Res D:=(okR (mb (GY n ds) S)).bind λf S1=>match f with
 | .rt d=>.ok d S1
 | .nx _=>.ok .non S1
 | .ex c _=>.err c S1
 | _=>.bad
section
variable {P:Ah} {w:A1} {K:AA} {mg:Str->Option AB} {base:BW}
theorem dD {x qual:Str} {st:Cw} {f:AH} {fd:C6} {N ps:List Str} {k n:Nat} (F:Fun K x qual st f fd) (Sc:CU N ps (A0 st)) (hn:ps.length=n) {mb:MS}
  (hbody:∀(cdv:AB) (A:Aw) (outer:List Env) (s:AD) (H:Hp) (E:XK),Fg k (A.deeper (Jm qual (A0 st) s.heap.objs.size f cdv))->∀pn E',GSs ((Pz (CXG P w) P w K mg base N qual (A0 st) f cdv A outer s H E).w' pn E') E' (CL st) mb) :
  EM P w K mg base (CXG P w) (k+1) f fd ps (spM K n (FQ N.length mb)):=by
 obtain ⟨oc,od,kV,doc,pm,an,cdv,ct,osl,rfl,lk,hcd⟩:=F.ex
 refine fw lk hcd Sc (λvs H Q E h=>by rw [hn];exact h.len) λA outer s H vs Q E hr h=>?_
 obtain ⟨ρ,ds,S,h1,h2,h3,h4⟩:=h;have O:IM (Pz (CXG P w) P w K mg base N qual (A0 st) f cdv A outer s H E):=⟨rfl,rfl,rfl⟩;have hb:=hbody cdv A outer s H E hr [] (λc _ H'=>E (.ref c) none H');refine ⟨gS K (λc _ H'=>E (.ref c) none H') mb,λpins s' σ H' D I q=>E3 (hb pins s' σ H' D (I.with _) q) (λfl s1 z=>?_) λe s1 z=>?_,ρ,_,S,SA h2,h3,?_⟩
 ·cases fl with
  | next=>obtain ⟨σ',H2,J,z⟩:=z;exact ⟨σ',H2,J.without,z⟩
  | brk=>obtain ⟨σ',H2,J,z⟩:=z;exact ⟨σ',H2,J.without,z⟩
  | cont=>obtain ⟨σ',H2,J,z⟩:=z;exact ⟨σ',H2,J.without,z⟩
  | ret u=>obtain ⟨v,σ',H2,J,r,z⟩:=z;exact ⟨v,σ',H2,J.without,r,z⟩
 ·refine XE.leave O z λea C σ' H2 s2 e1 J x w=>⟨ea,C,H2,e1,J.os,J.bare,J.base,J.hok,?_,w⟩
  obtain ⟨n1,n2,oe,vs',a0,g1,g2,g3,g4,g5⟩:=x;refine ⟨n1,n2.1,oe,vs',a0,g1,g2,g3,g4,?_⟩
  rcases g5 with z | ⟨T,oT,ts,fl,hf,h1,ne,m1,m2,r⟩
  ·exact .inl z
  ·exact .inr ⟨T,oT,ts,fl,hf,h1,ne,m1,m2.1,r⟩
 ·unfold FQ at h4
  cases hr:mb (GY N.length ds) S with
  | bad=>rw [hr] at h4;exact h4.elim
  | err c S'=>rw [hr] at h4;exact h4.elim
  | ok fl S'=>
   rw [hr] at h4
   cases fl with
   | nx e'=>exact λρ' H' σ' l s' r=>h4 ρ' H' .non l s' .non
   | rt d=>exact h4
   | bk e'=>exact h4.elim
   | ct e'=>exact h4.elim
   | ex c e'=>exact λρ' H' σ' l s' r=>h4 ρ' H' l s'
end
section
variable {X:Cx}
def intOp (C:Int->Int->Prop) [∀i j,Decidable (C i j)] (g:Int->Int->D):D->D->Sto->Res D
 | .int i,.int j,S=>if C i j then .ok (g i j) S else .bad
 | _,_,_=>.bad
theorem XZ {C:Int->Int->Prop} [∀i j,Decidable (C i j)] {g:Int->Int->D} {a b d:D} {S S':Sto} (h:intOp C g a b S=.ok d S'):∃i j,a=.int i/\b=.int j/\C i j/\d=g i j/\S'=S:=by
 unfold intOp at h;split at h
 ·split at h
  ·rename_i i j _ hc
   cases h;exact ⟨_,_,rfl,rfl,hc,rfl,rfl⟩
  ·cases h
 ·cases h
theorem NC {f:AB->AB->Sem AB} {C:Int->Int->Prop} [∀i j,Decidable (C i j)] {g:Int->Int->D} {v:Int->Int->V} (hv:∀ρ H i j,Be X.K ρ H (g i j) (v i j)) (h:OpR X f (rI C v)):OpR X f (rD X.K (intOp C g)):=h.imp λx y H Q ⟨ρ,S,a,b,d,S',hs,ra,rb,hm,k⟩=>by
 obtain ⟨i,j,rfl,rfl,hc,rfl,rfl⟩:=XZ hm;cases ra;cases rb;exact ⟨i,j,rfl,rfl,hc,k ρ H _ .refl hs (hv _ _ _ _)⟩
theorem KZ {f:AB->AB->Sem AB} {g:Int->Int->D} {v:Int->Int->V} (hv:∀ρ H i j,Be X.K ρ H (g i j) (v i j)) (h:OpR X f (rI0 v)):OpR X f (rD X.K (intOp (λ_ _=>True) g)):=
 NC (C:=λ_ _=>True) hv (h.imp λx y H Q ⟨i,j,e1,e2,_,q⟩=>⟨i,j,e1,e2,q⟩)
instance (i j:Int):Decidable (YD i j):=inferInstanceAs (Decidable (_/\_))
instance (i j:Int):Decidable (aK i j):=inferInstanceAs (Decidable (_/\_/\_))
instance (i j:Int):Decidable (VX i j):=inferInstanceAs (Decidable (_∨_))
abbrev Yx:=intOp (λ_ _=>True) λi j=>.int (i - j)
abbrev Zm:=intOp VX λi j=>.int (i * j)
abbrev G3:=intOp YD λi j=>.int (i / j)
abbrev JV:=intOp (λ_ j=>0 < j) λi j=>.int (i % j)
abbrev Wq:=intOp aK λi j=>.int (i ^ j.toNat)
abbrev ltD:=intOp (λ_ _=>True) λi j=>.bl (decide (i < j))
abbrev leD:=intOp (λ_ _=>True) λi j=>.bl (decide (i<=j))
abbrev gtD:=intOp (λ_ _=>True) λi j=>.bl (decide (j < i))
abbrev geD:=intOp (λ_ _=>True) λi j=>.bl (decide (j<=i))
theorem W4:OpR X (Cv .Sub) (rD X.K Yx):=KZ (λ_ _ _ _=>.int _) cM
theorem W6:OpR X (Cv .Mult) (rD X.K Zm):=NC (λ_ _ _ _=>.int _) cO
theorem FK:OpR X (Cv .FloorDiv) (rD X.K G3):=NC (λ_ _ _ _=>.int _) Za
theorem Fc:OpR X (Cv .Mod) (rD X.K JV):=NC (λ_ _ _ _=>.int _) cP
theorem SM:OpR X (Cv .Pow) (rD X.K Wq):=NC (λ_ _ _ _=>.int _) cN
theorem Tc:OpR X (Bb .Lt) (rD X.K ltD):=KZ (λ_ _ _ _=>.bl _) fK
theorem Td:OpR X (Bb .LtE) (rD X.K leD):=KZ (λ_ _ _ _=>.bl _) fL
theorem fR:OpR X (Bb .Gt) (rD X.K gtD):=KZ (λ_ _ _ _=>.bl _) fM
theorem fS:OpR X (Bb .GtE) (rD X.K geD):=KZ (λ_ _ _ _=>.bl _) fN
def OQ:D->D->Sto->Res D
 | .int i,.int j,S=>.ok (.int (i+j)) S
 | .tup xs,.tup ys,S=>if xs.length+ys.length<=sizeLine then .ok (.tup (xs++ys)) S else .bad
 | .ref l,.ref b,S=>match S[l]?,S[b]? with
  | some (.lst xs),some (.lst ys)=>if xs.length+ys.length<=sizeLine then .ok (.ref S.length) (S++[.lst (xs++ys)]) else .bad
  | _,_=>.bad
 | _,_,_=>.bad
def fA (K:AA):R2:=λx y H Q=>∃a b xs ys,x=.ref a/\y=.ref b/\H a=some (.tup xs)/\H b=some (.tup ys)/\xs.length+ys.length<=sizeLine /\
 (xs=[]->Q (.ref b) H)/\(ys=[]->Q (.ref a) H)/\(∀p,H p=none->Q (.ref p) (upd H p (.tup (xs++ys))))
theorem Zc:OpR X (Cv .Add) (fA X.K):=by
 intro pins s σ H x y v u Q I rx ry h;obtain ⟨a,b,xs,ys,rfl,rfl,ha,hb,hz,q0,q1,q2⟩:=h;cases rx;cases ry;obtain ⟨its,r1,p1,_⟩:=I.tuple (a:=a) (xs:=xs) (.inl (.inl ha));obtain ⟨its2,r2,p2,_⟩:=I.tuple (a:=b) (xs:=ys) (.inl (.inl hb))
 by_cases hx:xs=[]
 ·obtain ⟨⟨cls,dd,data,sl⟩,ho,hc,n,hd⟩:=id p1
  obtain ⟨⟨cls2,dd2,data2,sl2⟩,ho2,hc2,n2,hd2⟩:=id p2;simp only at hc hd hc2 hd2;subst hc hd hc2 hd2;have hi:its=[]:=r1.nil_iff.mpr hx
  exact Vm ⟨_,ho,rfl⟩ ⟨_,ho2,rfl⟩ O5 UJ Hj HS (HA _ _)
   (tuple_addW0 a b its.toArray its2.toArray n n2 dd dd2 sl sl2 (by simp [hi])) ⟨ho,ho2,⟨.ref b,H,I,rfl,q0 hx⟩⟩
 ·exact Zb pins s σ H (.ref a) (.ref b) _ _ Q I rfl rfl ⟨a,b,xs,ys,rfl,rfl,.inl (.inl ha),.inl (.inl hb),hx,hz,q1,λ_ p hp=>q2 p hp⟩
theorem At.nil_of {K:AA} {ρ:List AH} {H:Hp} {xs:List D} {vs:List V} (r:At K ρ H xs vs) (e:vs=[]):xs=[]:=by
 subst e;cases r;rfl
theorem Pd:OpR X (Cv .Add) (rD X.K OQ):=(cS.or (Zc.or cR)).imp λx y H Q ⟨ρ,S,a,b,d,S',hs,ra,rb,hm,k⟩=>by
 cases ra with
 | int i=>
  cases rb <;> first | (cases hm;done) | skip
  cases hm;exact .inl ⟨_,_,rfl,rfl,k ρ H _ .refl hs (.int _)⟩
 | @tup xs a1 vs h1 h2=>
  cases rb with
  | @tup ys b1 ws h3 h4=>
   unfold OQ at hm;dsimp only at hm;split at hm
   ·rename_i hz
    cases hm;refine .inr (.inl ⟨_,_,_,_,rfl,rfl,h1,h3,by rw [<-h2.length,<-h4.length];exact hz,λe=>?_,λe=>?_,λp hp=>?_⟩)
    ·rw [h2.nil_of e,List.nil_append] at k
     exact k ρ H _ .refl hs (.tup h3 h4)
    ·rw [h4.nil_of e,BE] at k
     exact k ρ H _ .refl hs (.tup h1 h2)
    ·obtain ⟨s2,l2⟩:=Fn (ho:=.tup (vs++ws)) hs hp
     exact k ρ _ _ l2 s2 (.tup Bg ((h2.append h4).mono l2))
   ·cases hm
  | _=>cases hm
 | @ref n a1 hn=>
  cases rb with
  | @ref m b1 hn'=>
   unfold OQ at hm;dsimp only at hm;split at hm
   ·rename_i xs ys h1 h2
    split at hm
    ·rename_i hz
     cases hm;obtain ⟨vs,e1,r1⟩:=hs.ob _ _ _ h1 hn;obtain ⟨us,e2,r2⟩:=hs.ob _ _ _ h2 hn';refine .inr (.inr ⟨_,_,_,_,rfl,rfl,e1,e2,by rw [<-r1.length,<-r2.length];exact hz,λp hp=>?_⟩);have le:Le X.K ρ H (ρ++[p]) (upd H p (.lst (vs++us))):=Le.alloc hp;obtain ⟨s2,l2,at2⟩:=hs.alloc (ho:=.lst (vs++us)) (o:=.lst (xs++ys)) hp ⟨_,Bg,(r1.append r2).mono le⟩;exact k _ _ _ l2 s2 (.ref at2)
    ·cases hm
   ·cases hm
  | _=>cases hm
 | _=>cases hm
def ixD:D->D->Sto->Res D:=λa b S=>match FP a S,b with
 | some ds,.int i=>match atI ds i with
  | some d=>.ok d S
  | none=>.bad
 | _,_=>.bad
theorem aC {K:AA} {ρ:List AH} {H:Hp} {ds:List D} {vs:List V} {i:Int} {d:D} (r:At K ρ H ds vs) (h:atI ds i=some d):∃v,atI vs i=some v/\Be K ρ H d v:=by
 unfold atI at h ⊢;rw [<-r.length]
 cases hq:ixN ds.length i with
 | none=>rw [hq] at h;cases h
 | some j=>
  rw [hq] at h;exact r.get h
theorem fP:IxR X (rD X.K ixD):=(ix_list.or cq).imp λx y H Q ⟨ρ,S,a,b,d,S',hs,ra,rb,hm,k⟩=>by
 unfold ixD at hm;split at hm
 ·rename_i ds i hq
  split at hm
  ·rename_i d' hd
   cases hm;cases rb;obtain ⟨p,xs,rfl,rr,sq⟩:=MX hs ra hq;obtain ⟨v,h1,h2⟩:=aC rr hd
   rcases sq with sq | sq
   ·exact .inl ⟨p,xs,_,v,rfl,rfl,sq,h1,k ρ H v .refl hs h2⟩
   ·exact .inr ⟨p,xs,_,v,rfl,rfl,sq,h1,k ρ H v .refl hs h2⟩
  ·cases hm
 ·cases hm
def XY (neg:Bool) (x y:D) (S:Sto):Res D:=match y with
 | .non=>match x with
  | .non=>.ok (.bl (!neg)) S
  | _=>.ok (.bl neg) S
 | _=>.bad
theorem cU:OpR X (Bb .Is) (rD X.K (XY false)):=cQ.imp λx y H Q ⟨ρ,S,a,b,d,S',hs,ra,rb,hm,k⟩=>by
 cases rb <;> first | (cases hm;done) | skip
 refine ⟨rfl,?_⟩
 cases ra <;> (cases hm;exact k ρ H _ .refl hs (.bl _))
end
def mQ (f:List D->Sto->Res D) (m:ML):ME:=λe S=>(m e S).bind λds S1=>okR (f ds S1)
section
variable {X:Cx} {E:EW} {e:Expr} {es:List Expr} {x:Str} {p pos:Pos} {ml:ML} {id T:String} {r:List V->Hp->VK->Prop} {f:List D->Sto->Res D}
def dQ (K:AA) (r:List V->Hp->VK->Prop) (f:List D->Sto->Res D):Prop:=∀ρ H S ds q xs d S' (Q:VK),Bs K ρ S H->At K ρ H ds xs->(SqL K H q xs∨SqT K H q xs)->f ds S=.ok d S' ->
 (∀ρ' H' z,Le K ρ H ρ' H'->Bs K ρ' S' H'->Be K ρ' H' d z->Q z H')->r [.ref q] H Q
def dW (K:AA) (r:List V->Hp->VK->Prop) (f:List D->Sto->Res D):Prop:=∀ρ H S ds xs d S' (Q:VK),Bs K ρ S H->At K ρ H ds xs->f ds S=.ok d S' ->
 (∀ρ' H' z,Le K ρ H ρ' H'->Bs K ρ' S' H'->Be K ρ' H' d z->Q z H')->r xs H Q
theorem Tv (hc:IP X (.builtin id) r) (hf:dQ X.K r f) (hg:Gl X x) (hm:X.mg x=none) (hv:FX x=some (.builtin id)) (h:GQ X E e ml) (hn:x≠"__name__":=by decide) (hdb:(x==("__debug__" : Str))=false:=by decide)
  (he:AU [e] X.env=(false,Bx e X.env) :: AU [] X.env:=by rfl):GE X E (.Call (.Name x p) [e] [] pos) (mQ f ml):=(Il hc hg hm hv (FH h Hr he) hn hdb he rfl).imp λσ H Q ⟨ρ,l,S,hl,hs,hm⟩=>by
 refine ⟨ρ,l,S,hl,hs,hm.seq λds S1 hm ρ1 H1 q xs l1 s1 r1 sq=>?_⟩;obtain ⟨d,S',e,k⟩:=hm.okR
 exact hf ρ1 H1 S1 ds q xs d S' Q s1 r1 sq e λρ' H' z l' s' r'=>k ρ' H' z (l1.trans l') s' r'
theorem T0 (hc:IP X (.builtin id) r) (hf:dW X.K r f) (hg:Gl X x) (hm:X.mg x=none) (hv:FX x=some (.builtin id)) (h:GA X E (e :: es) ml) (hn:x≠"__name__":=by decide) (hdb:(x==("__debug__" : Str))=false:=by decide)
  (he:AU (e :: es) X.env=(false,Bx e X.env) :: AU es X.env:=by rfl) (hpl:(C4 pos (AU es X.env)).any (·.1)=false:=by rfl):GE X E (.Call (.Name x p) (e :: es) [] pos) (mQ f ml):=(Il hc hg hm hv h hn hdb he hpl).imp λσ H Q ⟨ρ,l,S,hl,hs,hm⟩=>by
 refine ⟨ρ,l,S,hl,hs,hm.seq λds S1 hm ρ1 H1 xs l1 s1 r1=>?_⟩;obtain ⟨d,S',e,k⟩:=hm.okR
 exact hf ρ1 H1 S1 ds xs d S' Q s1 r1 e λρ' H' z l' s' r'=>k ρ' H' z (l1.trans l') s' r'
def ff (ds:List D) (S:Sto):Res D:=.ok (.int ds.length) S
theorem bf:dQ X.K (λxs H Q=>∃p ys,xs=[.ref p]/\(SqL X.K H p ys∨SqT X.K H p ys)/\Q (.int ys.length) H) ff:=λρ H S ds q xs d S' Q hs rr sq hm k=>by
 cases hm;exact ⟨q,xs,rfl,sq,k ρ H _ .refl hs (by rw [rr.length];exact .int _)⟩
def Lp:List D->Sto->Res D
 | [.int i,.int j],S=>.ok (.int (if j < i then j else i)) S
 | _,_=>.bad
def Ol:List D->Sto->Res D
 | [.int i,.int j],S=>.ok (.int (if j > i then j else i)) S
 | _,_=>.bad
theorem aG:dW X.K (λxs H Q=>∃i j,xs=[.int i,.int j]/\Q (.int (if j < i then j else i)) H) Lp:=λρ H S ds xs d S' Q hs rr hm k=>by
 unfold Lp at hm;split at hm
 ·cases hm
  cases rr with
  | cons a t=>
   cases t with
   | cons b t=>
    cases t;cases a;cases b;exact ⟨_,_,rfl,k ρ H _ .refl hs (.int _)⟩
 ·cases hm
theorem aH:dW X.K (λxs H Q=>∃i j,xs=[.int i,.int j]/\Q (.int (if j > i then j else i)) H) Ol:=λρ H S ds xs d S' Q hs rr hm k=>by
 unfold Ol at hm;split at hm
 ·cases hm
  cases rr with
  | cons a t=>
   cases t with
   | cons b t=>
    cases t;cases a;cases b;exact ⟨_,_,rfl,k ρ H _ .refl hs (.int _)⟩
 ·cases hm
end
def C8 (X:Cx) (scope:Gs) (N':List Str) (cl:List (Str×AH)) (C:AH) (s₁:AD) (H₁:Hp) (ex:List AH) (pn:List (AH×Obj)):Cx where
 prog:=X.prog
 w:=X.w
 K:=X.K
 mg:=X.mg
 base:=X.base
 A:=X.A
 N:=N'
 s₀:=s₁
 H₀:=H₁
 env:=compEnvC scope cl C X.env
 outer:=X.stack
 stack:=X.stack
 ex:=ex
 fn:=λ_=>false
 calm:=X.calm
 pn:=pn
 xe:=λ_ _=>False
theorem P2 {env:Env}:∀(names:List (Str×N6)) (acc:List (Str×AH)),(∀y∈names,y.2=.free->∃c,env.cells.lookup y.1=some c)->(∀n c,acc.lookup n=some c->env.cells.lookup n=some c) ->
  ∃cl,(forIn names acc (λ(x:Str×N6) (cs:List (Str×AH))=>match x with | (name,kind)=>if (kind==Gv)=true then do let a <-cellOf env name;pure (FO ((name,a) :: cs)) else pure (FO cs)):Sem (List (Str×AH)))=pure cl /\
   (∀n c,cl.lookup n=some c->env.cells.lookup n=some c)/\(∀n c,acc.lookup n=some c->∃c',cl.lookup n=some c')/\∀y∈names,y.2=.free->∃c,cl.lookup y.1=some c
 | [],acc,_,ha=>⟨acc,rfl,ha,λn c h=>⟨c,h⟩,λ_ h=>nomatch h⟩
 | (n,k) :: r,acc,h,ha=>by
  rw [YV]
  by_cases hk:k=.free
  ·subst hk
   obtain ⟨c,hc⟩:=h (n,.free) Al rfl
   obtain ⟨cl,e,h1,h2,h3⟩:=P2 r ((n,c) :: acc) (λy hy=>h y (Aa _ hy)) (λm d hm=>by
    rw [Bj] at hm
    cases hq:(m==n) with
    | true=>rw [hq] at hm;cases hm;rw [eq_of_beq hq];exact hc
    | false=>rw [hq] at hm;exact ha m d hm)
   have e0:cellOf env n=pure c:=by unfold cellOf;rw [hc]
   refine ⟨cl,?_,h1,λm d hm=>h2 m (if m==n then c else d) ?_,λy hy hf=>?_⟩
   ·simp only [beq_self_eq_true,if_true,e0,pure_bind]
    exact e
   ·rw [Bj]
    cases hq:(m==n) with
    | true=>rfl
    | false=>exact hm
   ·rcases A6.mp hy with rfl | hy
    ·exact h2 n c (by rw [Bj,beq_self_eq_true])
    ·exact h3 y hy hf
  ·have hb:(k==Gv)=false:=by simpa using hk
   obtain ⟨cl,e,h1,h2,h3⟩:=P2 r acc (λy hy=>h y (Aa _ hy)) ha;refine ⟨cl,?_,h1,h2,λy hy hf=>?_⟩
   ·simp only [hb,Bp,if_false,pure_bind]
    exact e
   ·rcases A6.mp hy with rfl | hy
    ·exact (hk hf).elim
    ·exact h3 y hy hf
theorem UA {scope:Gs} {env:Env} (h:∀y∈scope.names,y.2=.free->∃c,env.cells.lookup y.1=some c):∃cl,closureFor scope env=pure cl /\
  (∀n c,cl.lookup n=some c->env.cells.lookup n=some c)/\∀y∈scope.names,y.2=.free->∃c,cl.lookup y.1=some c:=by
 obtain ⟨cl,e,h1,_,h3⟩:=P2 scope.names [] h (λn c z=>by simp at z);refine ⟨cl,?_,h1,h3⟩;unfold closureFor;exact (congrArg (λz=>z >>= λcs=>pure cs) e).trans (by rw [pure_bind])
def Sr (X:Cx) (ifs:List Expr) (t:TT):Prop:=
 ∀(pins:List (AH×Obj)) (s:AD) (σ:St) (H:Hp) (Q:Bool->Hp->Prop),Inv X pins σ H s->t σ H Q ->
  Ad (AT X.prog X.w) X.A (forIn ifs true λc r=>if r=true then do let ok <-Rg c X.env (Bx c X.env);pure (FO ok) else pure (FO r)) (TP X pins σ Q) X.xe s
theorem Wt {X:Cx}:Sr X [] (λ_ H Q=>Q true H):=λpins s σ H Q I h=>wpAny_tests_nil ⟨H,I,h⟩
theorem Ws {X:Cx} {c:Expr} {t:TT} (h:PT X c t):Sr X [c] t:=λpins s σ H Q I q=>wpAny_tests_one (h pins s σ H Q I q)
structure J2 (X:Cx) (scope:Gs) (own N':List Str):Prop where
 kind:scope.kind=.function
 nocell:∀y∈scope.names,y.2≠.cell
 names:∀y∈scope.names,y.2=.local->scope.names.lookup y.1=some .local
 free:∀y∈scope.names,y.2=.free->X.env.kindOf y.1=some .cell∨X.env.kindOf y.1=some .free
 len:N'.length=own.length+X.N.length
 up:∀i x,N'[own.length+i]?=some x->Vis (HP scope X.env) x->X.N[i]?=some x/\Vis X.env.scope x/\((HP scope X.env).names.lookup x=some .cell∨(HP scope X.env).names.lookup x=some .free)/\X.env.kindOf x≠some .local
 vis:∀x,((HP scope X.env).names.lookup x=some .cell∨(HP scope X.env).names.lookup x=some .free)->(x,Gv)∈scope.names
section
variable {X:Cx} {pins:List (AH×Obj)} {σ:St} {H2:Hp} {s2:AD} {scope:Gs} {own N':List Str} {cl:List (Str×AH)} {fp:List AH} {C:AH} {s:AD} {H:Hp}
theorem Sj (Sc:J2 X scope own N') (I:Inv X pins σ H2 s2) (hf:∀b∈fp,J1 X pins H2 b) (hfl:∀b∈fp,b < s2.heap.objs.size)
  (c1:∀n c,cl.lookup n=some c->X.env.cells.lookup n=some c) (c2:∀y∈scope.names,y.2=.free->∃c,cl.lookup y.1=some c)
  (hC:s2.heap.objs.size<=C) {m:Str->Option AB} (hn:s.heap.Ns C m) (hos:s.os=s2.os) (hg:Go s.gens)
  (u:Un (frs X.stack) fp H2 H s2.heap s.heap) (hok:HOk X.prog X.w H s.heap) (hHC:H C=none) :
  Inv (C8 X scope N' cl C s2 H2 fp (X.pn++pins)) [] (BG own.length none++σ) H s:=by
 have cellK:∀x c v,cl.lookup x=some c->s2.heap.IsCell c v->s.heap.IsCell c v:=λx c v e ⟨o,ho,hd⟩=>by
  obtain ⟨sl,q⟩:=u.any ho (I.freeC x c (c1 x c e)) λz=>(hf c z).2.2.2.2.1 x c (c1 x c e) rfl
  exact ⟨_,q,hd⟩
 have ok':(C8 X scope N' cl C s2 H2 fp (X.pn++pins)).Ok:=by
  refine ⟨I.ok.mod,Sc.kind,I.ok.glob,I.ok.blt,hC,λx y c h1 h2=>I.ok.inj x y c (c1 x c h1) (c1 y c h2),λx hx=>?_,λx c z=>?_,I.ok.hd,I.ok.frames,.inl rfl,λb hb=>?_,I.bs,Ao I.ok.bsz I.sz,λb o e hb=>?_,λb hb hb'=>?_,I.stack,I.stkFree⟩
  ·obtain ⟨c,hc⟩:=c2 _ (Sc.vis x hx) rfl
   exact ⟨c,hc⟩
  ·exact zX (show false=true from z) AS
  ·exact ⟨Am (Ab (hfl b hb) hC),λx c e=>(hf b hb).2.2.2.2.1 x c (c1 x c e)⟩
  ·obtain ⟨_,_,_,z,_⟩:=hf b hb
   rcases z with z | z
   ·exact I.ok.noex b o e z
   ·exact zX (Ab (AW (I.ok.bs b o e).1) z) (DD _)
  ·obtain ⟨_,z1,z2,_⟩:=hf b hb
   rcases A6.mp (I.stkSub b hb') with e | e
   ·exact z1 e
   ·exact z2 e
 refine ⟨ok',hos,hg,u,⟨m,hn,λi x v e1 e2 e3=>?_⟩,λx c e=>?_,hHC,λx c e=>?_,λp hp=>?_,hok,?_⟩
 ·have hi:own.length<=i:=by
   apply Mm
   intro hlt;rw [AV (by simpa using hlt),CY,qX hlt] at e2;cases e2
  obtain ⟨j,rfl⟩:∃j,i=own.length+j:=⟨i - own.length,by lia⟩
  rw [As (by simp)] at e2
  have e2':σ[j]?=some (some v):=by simpa using e2
  obtain ⟨n1,n2,n3,n4⟩:=Sc.up j x e1 e3;obtain ⟨m0,hn0,hl⟩:=I.loc;obtain ⟨w',r,lk⟩:=hl j x v n1 e2' n2;refine ⟨w',r,.inr ⟨n3,?_⟩⟩
  rcases lk with ⟨k,_⟩ | ⟨_,c,hc,hcell⟩
  ·exact (n4 k).elim
  ·obtain ⟨c',hc'⟩:=c2 _ (Sc.vis x n3) rfl
   have e:=c1 x c' hc';rw [hc] at e;cases e;exact ⟨c,hc',cellK x c _ hc' hcell⟩
 ·obtain ⟨v,z⟩:=I.cell x c (c1 x c e)
  exact ⟨v,cellK x c v e z⟩
 ·obtain ⟨v,o,ho,hd⟩:=I.cell x c (c1 x c e)
  exact u.free c o ho (I.freeC x c (c1 x c e)) λz=>(hf c z).2.2.2.2.1 x c (c1 x c e) rfl
 ·have hp':p∈X.pn++pins:=by
   have hp:p∈(X.pn++pins)++[]:=hp;rwa [BE] at hp
  obtain ⟨e,n,ne,nf,d⟩:=I.pin p hp'
  have nfs:p.1∉frs X.stack:=λz=>(A6.mp (I.stkSub _ z)).elim ne nf
  have nfp:p.1∉fp:=λz=>(hf _ z).2.2.2.2.2 p hp' rfl
  exact ⟨u.keep p.1 p.2 e n nfs nfp,u.free p.1 p.2 e n nfp,Am (Ab (AW e) hC),nfs,d⟩
 ·show (BG own.length none++σ).length=N'.length
  rw [Ac,JH,I.len,Sc.len]
def WN (k:Nat) (wi:TI) (g:TG) (tc:TT) (te:TE):TE:=λσ H Q=>wi σ H λJ H1=>∀p,H1 p=none->∃W:Nat->Nat->St->Hp->List V->Prop,(∃m,W 0 m (BG k none++σ) (upd H1 p (.lst [])) []) /\
 ∀i m σ' H' xs,W i m σ' H' xs->H' p=some (.lst xs)/\((J.stop i H'/\Q (.ref p) H')∨(J.go i H'/\xs.length < sizeLine/\∀x H'',J.yld i H' x H''->g x σ' H'' λσ2 H2=>tc σ2 H2 λb H3=>
  if b=true then te σ2 H3 λy H4=>H4 p=some (.lst xs)/\∃m',m' < m/\W (i+1) m' σ2 (upd H4 p (.lst (xs++[y]))) (xs++[y]) else ∃m',m' < m/\W (i+1) m' σ2 H3 xs))
theorem VM {X':Cx} {elt target iter:Expr} {ifs:List Expr} {pos:Pos} {J:It} {it p:AH} {tn:Nat->BW->Prop} {g:TG} {tc:TT} {te:TE} {R:Vn->AD->Prop} {Q:Hp->Prop}
  (hc:X'.calm=true) (hx:X'.xe=λ_ _=>False) (T:RU X'.prog X'.w X'.K target J fp it tn) (hg:PG X' target g) (hif:Sr X' ifs tc) (he:PE X' elt te)
  (W:Nat->Nat->St->Hp->List V->Prop) (turn:∀i m σ' H' xs,W i m σ' H' xs->H' p=some (.lst xs)/\((J.stop i H'/\Q H')∨(J.go i H'/\xs.length < sizeLine/\∀x H'',J.yld i H' x H''->g x σ' H'' λσ2 H2=>tc σ2 H2 λb H3=>
   if b=true then te σ2 H3 λy H4=>H4 p=some (.lst xs)/\∃m',m' < m/\W (i+1) m' σ2 (upd H4 p (.lst (xs++[y]))) (xs++[y]) else ∃m',m' < m/\W (i+1) m' σ2 H3 xs)))
  (fin:∀σ' H' s',Inv X' [] σ' H' s'->Q H'->R (.ok .next) s')
  {m0:Nat} {σ0:St} {H0:Hp} {s0:AD} (I0:Inv X' [] σ0 H0 s0) (st0:tn 0 s0.heap) (f0:∀b∈fp,J1 X' [] H0 b) (w0:W 0 m0 σ0 H0 []) :
  HQ (AT X'.prog X'.w) X'.A (.compLoop (.ListComp elt [⟨target,iter,ifs,0⟩] scope pos) 0 (.ref it) (.ref p) X'.env) R s0:=by
 have stat:∀ {H':Hp},(∀b∈fp,H' b=none)->∀b∈fp,J1 X' [] H' b:=λhn b hb=>⟨hn b hb,(f0 b hb).2⟩
 refine codeAny_loop rfl (λn s'=>∃i σ' H' xs,Inv X' [] σ' H' s'/\tn i s'.heap/\(∀b∈fp,H' b=none)/\W i n σ' H' xs) (λn s1 hI=>?_) m0 ⟨0,σ0,H0,[],I0,st0,λb hb=>(f0 b hb).1,w0⟩;obtain ⟨i,σ1,H1,xs,I1,st1,fr1,w1⟩:=hI;show Ad _ X'.A ((compTurn (.ListComp elt [⟨target,iter,ifs,0⟩] scope pos) 0 (.ref it) (.ref p) X'.env).onRaise (λx=>do VY x X'.env;theTreesLotGoes x)) _ _ s1;refine wpAny_noted ?_;rw [compTurn_list]
 have up:∀ {α:Type} {t:Sem α} {P:α->AD->Prop} {E:AB->AD->Prop} {s:AD},Ad (AT X'.prog X'.w) X'.A t P X'.xe s->Ad (AT X'.prog X'.w) X'.A t P E s:=λh=>E3 h (λ_ _ z=>z) λ_ _ z=>by rw [hx] at z;exact z.elim
 obtain ⟨hp,hcase⟩:=turn i n σ1 H1 xs w1;refine AC (wpAny_standAt (AC ?_))
 rcases hcase with ⟨stop,q⟩ | ⟨go,hz,step⟩
 ·refine up (thn (T.done X' rfl rfl rfl hc i [] s1 σ1 H1 X'.xe I1 (stat fr1) st1 stop) λr s4 ⟨hr,I4⟩=>?_)
  subst hr;exact AN (fin σ1 H1 s4 I4 q)
 ·refine up (thn (T.item X' rfl rfl rfl hc i [] s1 σ1 H1 X'.xe I1 (stat fr1) st1 go) λr s4 ⟨u,hr,h4⟩=>?_)
  subst hr;refine AC (up (thn h4 λ_ s5 ⟨x,H5,I5,r5,y5,st5,fr5⟩=>?_));have I5':=I5.pinned (stat fr5) (T.obj _ _ st5);refine AC (up (thn (hg _ s5 σ1 H5 x u _ I5' r5 (step x H5 y5)) λ_ s6 ⟨σ6,H6,I6,q6⟩=>?_))
  have Vb:∀ {s7:AD} {σ7:St} {H7:Hp} {ys:List V},Inv X' ([]++M8 fp s5.heap) σ7 H7 s7->(∃m',m' < n/\W (i+1) m' σ7 H7 ys)->∃m,m < n/\∃i σ' H' xs,Inv X' [] σ' H' s7/\tn i s7.heap/\(∀b∈fp,H' b=none)/\W i m σ' H' xs:=λ{s7 σ7 H7 ys} I7 ⟨m',hm,w7⟩=>by
   refine ⟨m',hm,i+1,σ7,H7,ys,I7.unpinned,T.keep _ _ _ st5 λb hb o e=>(I7.pin (b,o) (A8 _ (A8 _ (Ht hb e)))).1,λb hb=>?_,w7⟩;obtain ⟨o,e,d⟩:=T.obj _ _ st5 b hb;exact (I7.pin (b,o) (A8 _ (A8 _ (Ht hb e)))).2.1
  refine AC (up (thn (hif _ s6 σ6 H6 _ I6 q6) λok s7 ⟨H7,I7,q7⟩=>?_))
  cases ok with
  | false=>
   rw [qY AS] at q7;exact AN ⟨rfl,Vb I7 q7⟩
  | true=>
   rw [qX rfl] at q7;refine AC (AC (up (thn (he _ s7 σ6 H7 _ I7 q7) λyv s8 ⟨y,H8,I8,r8,hp8,q8⟩=>?_)));refine AC (up (thn (Oi (X:=X') _ s8 σ6 H8 (.ref p) [y] (.ref p) [yv] (λv H9=>v=.non/\H9=upd H8 p (.lst (xs++[y]))) I8 rfl (.cons r8 .nil) ⟨p,xs,y,rfl,rfl,hp8,hz,rfl,rfl⟩) λv9 s9 ⟨v,H9,I9,r9,e9,e10⟩=>?_));subst e10;exact AN (AN ⟨rfl,Vb I9 q8⟩)
end
section
variable {X:Cx} {pins:List (AH×Obj)} {σ:St} {H2:Hp} {s2:AD} {scope:Gs} {own N':List Str} {cl:List (Str×AH)} {fp:List AH} {C:AH}
theorem Ou {σ':St} {H':Hp} {s':AD} {h':BW} (I2:Inv X pins σ H2 s2) (J:Inv (C8 X scope N' cl C s2 H2 fp (X.pn++pins)) [] σ' H' s') (hC:s2.heap.objs.size<=C) (hf:∀b∈fp,J1 X pins H2 b)
  (sb:DT C s'.heap h'):Inv X pins σ H' { s' with heap:=h' }:=by
 have ne:∀b o,s2.heap.get? b=some o->b≠C:=λb o e=>Am (Ab (AW e) hC)
 have jb:Un (frs X.stack) fp H2 H' s2.heap s'.heap:=J.base
 have u:Un (frs X.stack) fp H2 H' s2.heap h':=by
  refine ⟨λb o e n hb hx=>(sb.2 b (ne b o e)).trans (jb.keep b o e n hb hx),λb o e n hb hx=>?_,jb.free,λb o e hx=>?_,jb.tups,jb.frzs,jb.tbls⟩
  ·obtain ⟨sl,q⟩:=jb.slot b o e n hb hx
   exact ⟨sl,(sb.2 b (ne b o e)).trans q⟩
  ·obtain ⟨o',q⟩:=jb.there b o e hx
   exact ⟨o',(sb.2 b (ne b o e)).trans q⟩
 have hHC:H' C=none:=J.free
 have hok:HOk X.prog X.w H' h':=λa o e=>(J.hok a o e).stay (λb u hb q=>(sb.2 b λz=>by
  subst z
  rcases hb with z | z
  ·subst z;rw [hHC] at e;cases e
  ·rw [hHC] at z;cases z).trans q) (λ_ q=>q) λ_ _ q=>q
 exact I2.call' (s':={ s' with heap:=h' }) (ch:=fp) J.os u hok J.bare λb hb=>by
  obtain ⟨_,z1,z2,z3,z4,z5⟩:=hf b hb;exact ⟨z3,z1,z4,z5⟩
variable {elt iter target:Expr} {ifs:List Expr} {pos:Pos} {wi:TI} {g:TG} {tc:TT} {te:TE}
theorem Nj {σ:St} {E:AB->AD->Prop} {Qf:AH->Hp->Prop} {RR:AB->AH->Vn->AD->Prop} {it:AH} {J:It} {tn:Nat->BW->Prop} (hc:X.calm=true) (Sc:J2 X scope own N')
  (hg:∀cl C s₁ H₁ ex pn,PG (C8 X scope N' cl C s₁ H₁ ex pn) target g) (hif:∀cl C s₁ H₁ ex pn,Sr (C8 X scope N' cl C s₁ H₁ ex pn) ifs tc) (he:∀cl C s₁ H₁ ex pn,PE (C8 X scope N' cl C s₁ H₁ ex pn) elt te)
  (c1:∀n c,cl.lookup n=some c->X.env.cells.lookup n=some c) (c2:∀y∈scope.names,y.2=.free->∃c,cl.lookup y.1=some c)
  (I2:Inv X pins σ H2 s2) (T:RU X.prog X.w X.K target J fp it tn) (st2:tn 0 s2.heap) (f2:∀b∈fp,J1 X pins H2 b)
  (q2:∀p,H2 p=none->∃W:Nat->Nat->St->Hp->List V->Prop,(∃m,W 0 m (BG own.length none++σ) (upd H2 p (.lst [])) []) /\
   ∀i m σ' H' xs,W i m σ' H' xs->H' p=some (.lst xs)/\((J.stop i H'/\Qf p H')∨(J.go i H'/\xs.length < sizeLine/\∀x H'',J.yld i H' x H''->g x σ' H'' λσ2 H2=>tc σ2 H2 λb H3=>
    if b=true then te σ2 H3 λy H4=>H4 p=some (.lst xs)/\∃m',m' < m/\W (i+1) m' σ2 (upd H4 p (.lst (xs++[y]))) (xs++[y]) else ∃m',m' < m/\W (i+1) m' σ2 H3 xs)))
  (hRR:∀D C σ' H' s',s2.heap.objs.size<=C->Inv (C8 X scope N' cl C s2 H2 fp (X.pn++pins)) [] σ' H' s'->Qf D H'->RR (.ref D) C (.ok .next) s') :
  Ad (AT X.prog X.w) X.A (newList []) (λacc s₃=>Ad (AT X.prog X.w) X.A (newFunctionEnv scope X.env.globals cl [] X.env.qual none .none (some X.env)) (λcenv s₄=>
   HQ (AT X.prog X.w) X.A (.compStart (.ListComp elt [⟨target,iter,ifs,0⟩] scope pos) 0 (.ref it) acc { cenv with scope:=HP scope X.env }) (RR acc cenv.locals) s₄) E s₃) E s2:=by
 have hfl:∀b∈fp,b < s2.heap.objs.size:=λb hb=>by
  obtain ⟨o,e,_⟩:=T.obj _ _ st2 b hb;exact AW e
 refine BU (wpAny_newFunctionEnv Sc.nocell (by intro y hy;simp at hy) (λh₁ hns₁ hsb₁=>?_) Sc.kind);dsimp only at hns₁ hsb₁ ⊢;generalize hH3:s2.heap.push { cls:=.type "list",dict:=none,data:=.seq ([]:List AB).toArray }=H3 at hns₁ hsb₁ ⊢
 have hC:H3.objs.size=s2.heap.objs.size+1:=by rw [<-hH3,E0]
 have hDC:s2.heap.objs.size≠H3.objs.size:=by rw [hC];exact Am (CO _)
 have hCle:s2.heap.objs.size<=H3.objs.size:=by rw [hC];exact Nv _
 have old:∀b o,s2.heap.get? b=some o->h₁.get? b=some o:=λb o e=>hsb₁.extBut b o (Am (by rw [hC];exact Hf (AW e))) (AI _ (hH3▸AI _ e))
 have hacc:h₁.get? s2.heap.objs.size=some { cls:=.type "list",dict:=none,data:=.seq ([]:List AB).toArray }:=hsb₁.extBut _ _ hDC (AI _ (hH3▸AX _ rfl));have hD:H2 s2.heap.objs.size=none:=I2.hok.fresh (AO _);have u:Un (frs X.stack) fp H2 (upd H2 s2.heap.objs.size (.lst [])) s2.heap h₁:=Un.laid old (AO _) hD;have hok:HOk X.prog X.w (upd H2 s2.heap.objs.size (.lst [])) h₁:=I2.hok.laid old (AO _) ⟨Cp _,[],0,.nil,hacc⟩
 have hHC:upd H2 s2.heap.objs.size (.lst []) H3.objs.size=none:=by rw [BZ (Bm hDC)];exact I2.hok.fresh hCle
 obtain ⟨W,⟨m0,w0⟩,turn⟩:=q2 s2.heap.objs.size hD
 have loop:∀s₃:AD,s₃={ s2 with heap:=h₁,toks:=s2.toks+([]:List (Str×AB)).length } ->
   HQ (AT X.prog X.w) X.A (.compLoop (.ListComp elt [⟨target,iter,ifs,0⟩] scope pos) 0 (.ref it) (.ref s2.heap.objs.size) (compEnvC scope cl H3.objs.size X.env))
    (RR (.ref s2.heap.objs.size) H3.objs.size) s₃:=by
  rintro s₃ rfl
  have J0:Inv (C8 X scope N' cl H3.objs.size s2 H2 fp (X.pn++pins)) [] (BG own.length none++σ) (upd H2 s2.heap.objs.size (.lst [])) { s2 with heap:=h₁,toks:=s2.toks+([]:List (Str×AB)).length }:=
   Sj (s:={ s2 with heap:=h₁,toks:=s2.toks+([]:List (Str×AB)).length }) Sc I2 f2 hfl c1 c2 hCle hns₁ rfl I2.bare u hok hHC
  refine VM (X':=C8 X scope N' cl H3.objs.size s2 H2 fp (X.pn++pins)) (fp:=fp) (Q:=Qf s2.heap.objs.size) hc rfl T (hg _ _ _ _ _ _) (hif _ _ _ _ _ _) (he _ _ _ _ _ _) W turn (λσ' H' s' J q=>hRR _ _ σ' H' s' hCle J q) J0 (T.keep _ _ _ st2 λb _ o e=>old b o e) (λb hb=>?_) w0;obtain ⟨z0,z1,z2,z3,z4,z5⟩:=f2 b hb;refine ⟨by rw [BZ (Am (hfl b hb))];exact z0,Am (Ab (hfl b hb) hCle),λz=>?_,.inl hb,λx c e=>z4 x c (c1 x c e),λp hp=>?_⟩
  ·exact (A6.mp (I2.stkSub _ z)).elim z1 z2
  ·have hp:p∈(X.pn++pins)++[]:=hp
   rw [BE] at hp;exact z5 p hp
 exact codeAny_compStart_list (loop _ rfl) (T.self X.A 0 _ _ _ (T.keep _ _ _ st2 λb _ o e=>old b o e) (loop _ rfl))
theorem ZT (hc:X.calm=true) (Sc:J2 X scope own N') (hi:PI X target iter wi)
  (hg:∀cl C s₁ H₁ ex pn,PG (C8 X scope N' cl C s₁ H₁ ex pn) target g) (hif:∀cl C s₁ H₁ ex pn,Sr (C8 X scope N' cl C s₁ H₁ ex pn) ifs tc) (he:∀cl C s₁ H₁ ex pn,PE (C8 X scope N' cl C s₁ H₁ ex pn) elt te)
  (hs:∀x,D5 iter X.env x=pure x:=by intro _;rfl):PE X (.ListComp elt [⟨target,iter,ifs,0⟩] scope pos) (WN own.length wi g tc te):=by
 intro pins s σ H Q I h;rw [eval_ListComp];obtain ⟨cl,hclos,c1,c2⟩:=UA (scope:=scope) (env:=X.env) (λy hy hf=>I.ok.has y.1 (Sc.free y hy hf));refine UH (use:=none) rfl hs hclos Sc.kind Sc.names (thn (hi pins s σ H _ I h) λv s1 h1=>thn h1 λitv s2 h2=>?_);obtain ⟨it,fp,tn,J,H2,rfl,I2,T,st2,f2,q2⟩:=h2
 refine Nj (Qf:=λp H'=>Q (.ref p) H') (RR:=λacc C=>compPost (AT X.prog X.w) X.A X.xe none (EP X pins σ Q) acc C) hc Sc hg hif he c1 c2 I2 T st2 f2 q2 λD C σ' H' s' hC J q=>?_
 obtain ⟨m,hn,_⟩:=J.loc;exact ⟨m,hn,λh' sb=>⟨.ref D,H',Ou I2 J hC f2 sb,rfl,q⟩⟩
theorem ZI {i:Nat} {y:Str} {py spos:Pos} (hc:X.calm=true) (hsw:EX (.ListComp elt [⟨target,iter,ifs,0⟩] scope pos) (some (.Name y py)) spos.line X.env=pure true)
  (hN:X.N.Nodup) (hy:X.N[i]?=some y) (hloc:Loc X.env.scope y) (Sc:J2 X scope own N') (hi:PI X target iter wi)
  (hg:∀cl C s₁ H₁ ex pn,PG (C8 X scope N' cl C s₁ H₁ ex pn) target g) (hif:∀cl C s₁ H₁ ex pn,Sr (C8 X scope N' cl C s₁ H₁ ex pn) ifs tc) (he:∀cl C s₁ H₁ ex pn,PE (C8 X scope N' cl C s₁ H₁ ex pn) elt te)
  (hs:∀x,D5 iter X.env x=pure x:=by intro _;rfl) (hf:X.fn y=true∨X.env.scope.names.lookup y=some .local:=by first | exact .inl rfl | exact .inr rfl | assumption) :
  PS X (.Assign [.Name y py] (.ListComp elt [⟨target,iter,ifs,0⟩] scope pos) spos) (ef (WN own.length wi g tc te) (T3 i)):=by
 intro pins s σ H D I h;rw [exec_Assign_Name_used _ _ _ _ hsw];refine AC (wpAny_standAt (AC ?_));show Ad _ X.A (do let _ <-comprehension (.ListComp elt [⟨target,iter,ifs,0⟩] scope pos) scope X.env _ (newList []) false (Bx iter X.env) (some (Rj (.Name y py) X.env))) _ _ s;obtain ⟨cl,hclos,c1,c2⟩:=UA (scope:=scope) (env:=X.env) (λy hy hf=>I.ok.has y.1 (Sc.free y hy hf))
 refine AC (E3 (UH (use:=some (Rj (.Name y py) X.env)) (Q:=λ_ s'=>SP X pins D .next s') rfl hs hclos Sc.kind Sc.names
  (thn (hi pins s σ H _ I h) λv s1 h1=>thn h1 λitv s2 h2=>?_)) (λ_ s' hq=>AN (AN hq)) λ_ _ e=>e)
 obtain ⟨it,fp,tn,J,H2,rfl,I2,T,st2,f2,q2⟩:=h2
 refine Nj (Qf:=λp H'=>D.nx (σ.set i (some (.ref p))) H') (RR:=λacc C=>compPost (AT X.prog X.w) X.A X.xe (some (Rj (.Name y py) X.env)) (λ_ s'=>SP X pins D .next s') acc C) hc Sc hg hif he c1 c2 I2 T st2 f2 q2 λA C σ' H' s' hC J q=>?_
 obtain ⟨m,hn,_⟩:=J.loc;have I3:Inv X pins σ H' s':=Ou I2 J hC f2 (gZ ..);have hHC:H' C=none:=J.free
 have hcell:∀x c,X.env.cells.lookup x=some c->c≠C:=λx c e z=>by
  obtain ⟨v,q⟩:=I2.cell x c e;exact zX (Ab q.lt (by rw [z];exact hC)) (DD _)
 have hloc':C≠X.env.locals:=L5 (Ab I2.lt hC);show Ad _ X.A (Rj (.Name y py) X.env (.ref A)) _ _ s';refine dY (Oc (v:=.ref A) I3 hN hy hloc rfl (λs4 I4 ⟨a,sb,ha⟩=>?_) hf)
 have haC:C≠a:=by
  rcases ha with e | e
  ·rw [e];exact hloc'
  ·exact Bm (hcell _ _ e)
 refine ⟨m,hn.sameBut sb haC,λh' sb'=>⟨_,H',?_,q⟩⟩
 refine I4.turned (t':=s4.toks) (it:=C) (λb o hb e=>(sb'.2 b hb).trans e) hHC hloc' (.inr (Ao I2.sz hC)) hcell λp hp z=>?_
 exact zX (Ab (AW (I2.pin p hp).1) (by rw [z];exact hC)) (DD _)
end
def EC (v:Gm) (g:MG) (c:MT) (m:ME):Nat->Nat->Lo->Sto->List D->Res (List D)
 | k,i,e,S,acc=>match v S with
  | none=>.bad
  | some ds=>match ds[i]? with
   | none=>.ok acc S
   | some d=>match k with
    | 0=>.bad
    | k+1=>if acc.length < sizeLine then (okR (g d e S)).bind λe1 S1=>(okR (c e1 S1)).bind λb S2=>if b=true then (okR (m e1 S2)).bind λy S3=>EC v g c m k (i+1) e1 S3 (acc++[y]) else EC v g c m k (i+1) e1 S2 acc else .bad
def FT (n:Nat) (mi:MI) (g:MG) (c:MT) (m:ME):ML:=λe S=>(mi e S).bind λv S1=>EC v g c m (CK v S1) 0 (BG n none++e) S1 []
def Ji:MT:=λ_ S=>.ok true S
section
variable {X:Cx} {E:EW} {scope:Gs} {own N':List Str} {elt iter target:Expr} {ifs:List Expr} {pos:Pos} {mi:MI} {g:MG} {c:MT} {m:ME}
abbrev aJ (X:Cx) (E:EW) (ifs:List Expr) (c:MT):Prop:=Sr X ifs (gT X.K E c)
theorem Kj:aJ X E [] Ji:=λpins s σ H Q I ⟨ρ,l,S,hl,hs,hm⟩=>by
 exact Wt pins s σ H Q I (hm ρ H .refl hs)
theorem NZ {e:Expr} (h:GT X E e c):aJ X E [e] c:=Ws h
theorem D4.grow {K:AA} {ρ:List AH} {H:Hp} {e:Lo} {σ:St} (n:Nat) (h:D4 K ρ H e σ):D4 K ρ H (BG n none++e) (BG n none++σ):=by
 refine ⟨by simp [h.len],λi d q=>?_⟩
 by_cases hi:i < n
 ·rw [AV (by simpa using hi),CY,qX hi] at q
  cases q
 ·rw [As (by simpa using hi)] at q ⊢
  simp only [JH] at q ⊢;exact h.at' _ d q
theorem Ba.ok_of {α:Type} {K:AA} {E:EH} {ρ:List AH} {H:Hp} {r:Res α} {k:α->Sto->Prop} {a:α} {S:Sto} (e:r=.ok a S) (h:k a S):Ba K E ρ H r k:=by
 subst e;exact h
theorem NB {α β:Type} {r:Res α} {F:α->Sto->Res β} {b:β} {S:Sto} (h:(okR r).bind F=.ok b S):∃a S1,r=.ok a S1/\F a S1=.ok b S:=by
 cases r with
 | ok a S1=>exact ⟨a,S1,rfl,h⟩
 | err c S1=>cases h
 | bad=>cases h
theorem RO {v:Gm} {g:MG} {c:MT} {m:ME} {er:AH} {S':Sto}:∀(k i:Nat) (e:Lo) (S:Sto) (acc:List D),EC v g c m k i e S acc≠.err er S':=by
 intro k
 induction k with
 | zero=>
  intro i e S acc h;unfold EC at h;split at h
  ·cases h
  ·split at h <;> cases h
 | succ k ih=>
  intro i e S acc h;unfold EC at h;split at h
  ·cases h
  ·split at h
   ·cases h
   ·dsimp only at h
    split at h
    ·cases h1:g _ e S with
     | ok e1 S1=>
      rw [h1] at h;dsimp only [okR,Res.bind] at h
      cases h2:c e1 S1 with
      | ok b S2=>
       rw [h2] at h;dsimp only [okR,Res.bind] at h
       cases b with
       | true=>
        rw [qX rfl] at h
        cases h3:m e1 S2 with
        | ok y S3=>rw [h3] at h;exact ih _ _ _ _ h
        | err _ _=>rw [h3] at h;cases h
        | bad=>rw [h3] at h;cases h
       | false=>
        rw [qY AS] at h;exact ih _ _ _ _ h
      | err _ _=>rw [h2] at h;cases h
      | bad=>rw [h2] at h;cases h
     | err _ _=>rw [h1] at h;cases h
     | bad=>rw [h1] at h;cases h
    ·cases h
theorem Qg {K:AA} {n:Nat} {σ:St} {H:Hp} {Q:VK} (h:gL K E (FT n mi g c m) σ H Q):WN n (gI K E mi) (gG K g) (gT K noE c) (gE K noE m) σ H Q:=by
 obtain ⟨ρ,l,S,hl,hs,hm⟩:=h;refine ⟨ρ,l,S,hl,hs,hm.seq λv S1 hm ρ1 H1 J l1 s1 vo p hp=>?_⟩
 obtain ⟨ds,S',hm,k⟩:∃ds S',EC v g c m (CK v S1) 0 (BG n none++l) S1 []=.ok ds S'/\∀ρ' H' p xs,Le K ρ H ρ' H'->Bs K ρ' S' H'->At K ρ' H' ds xs->H' p=some (.lst xs)->(∀n:Nat,ρ'[n]?≠some p)->H p=none->Q (.ref p) H':=by
  cases hc:EC v g c m (CK v S1) 0 (BG n none++l) S1 [] with
  | ok ds S'=>rw [hc] at hm;exact ⟨ds,S',rfl,hm⟩
  | err c S'=>exact (RO _ _ _ _ _ hc).elim
  | bad=>rw [hc] at hm;exact hm.elim
 obtain ⟨s1',l1'⟩:=Fn (ho:=.lst []) s1 hp;have hp0:H p=none:=l1.back hs s1 hp
 refine ⟨λi j σ2 H2 xs=>∃ρ2 e2 S2 acc,Le K ρ1 H1 ρ2 H2/\D4 K ρ2 H2 e2 σ2/\Bs K ρ2 S2 H2/\At K ρ2 H2 acc xs/\H2 p=some (.lst xs)/\(∀q:Nat,ρ2[q]?≠some p)/\EC v g c m j i e2 S2 acc=.ok ds S',
  ⟨CK v S1,ρ1,_,S1,[],l1',(hl.mono (l1.trans l1')).grow n,s1',.nil,Bg,λq e=>s1.notIn hp e,hm⟩,?_⟩
 rintro i j σ2 H2 xs ⟨ρ2,e2,S2,acc,l2,r2,s2,ra,hp2,hn2,hm2⟩;refine ⟨hp2,?_⟩;unfold EC at hm2
 cases hv:v S2 with
 | none=>rw [hv] at hm2;cases hm2
 | some vs=>
  rw [hv] at hm2;dsimp only at hm2;obtain ⟨v1,v2⟩:=vo ρ2 H2 S2 vs i l2 s2 hv
  cases hd:vs[i]? with
  | none=>
   rw [hd] at hm2;cases hm2;exact .inl ⟨v1 hd,k ρ2 H2 p xs (l1.trans l2) s2 ra hp2 hn2 hp0⟩
  | some d=>
   rw [hd] at hm2;dsimp only at hm2;obtain ⟨go,yl⟩:=v2 d hd
   cases j with
   | zero=>cases hm2
   | succ j=>
    dsimp only at hm2;split at hm2
    ·rename_i hz
     obtain ⟨e3,S3,h3,hm2⟩:=NB hm2;obtain ⟨b,S4,h4,hm2⟩:=NB hm2;refine .inr ⟨go,by rw [<-ra.length];exact hz,λx H' y=>?_⟩;obtain ⟨ρ3,l3,s3,rd⟩:=yl x H' y;obtain ⟨hp3,hn3⟩:=l3.oth p _ hp2 hn2;refine ⟨ρ3,e2,S2,d,rd,r2.mono l3,s3,Ba.ok_of h3 λρ4 H4 σ4 l4 s4 r4=>?_⟩;obtain ⟨hp4,hn4⟩:=l4.oth p _ hp3 hn3;refine ⟨ρ4,e3,S3,r4,s4,Ba.ok_of h4 λρ5 H5 l5 s5=>?_⟩;obtain ⟨hp5,hn5⟩:=l5.oth p _ hp4 hn4
     cases b with
     | false=>
      rw [qY AS] at hm2 ⊢;exact ⟨j,CO j,ρ5,e3,S4,acc,l2.trans (l3.trans (l4.trans l5)),r4.mono l5,s5,ra.mono (l3.trans (l4.trans l5)),hp5,hn5,hm2⟩
     | true=>
      rw [qX rfl] at hm2 ⊢;obtain ⟨yv,S5,h5,hm2⟩:=NB hm2;refine ⟨ρ5,e3,S4,r4.mono l5,s5,Ba.ok_of h5 λρ6 H6 y6 l6 s6 r6=>?_⟩;obtain ⟨hp6,hn6⟩:=l6.oth p _ hp5 hn5
      have l7:∀xs',Le K ρ6 H6 ρ6 (upd H6 p (.lst xs'))->True:=λ_ _=>trivial
      have up7:∀xs':List V,Bs K ρ6 S5 (upd H6 p (.lst xs'))/\(∀a o,D2 K ρ6 H6 a o->a≠p->D2 K ρ6 (upd H6 p (.lst xs')) a o)/\∀e' w',Be K ρ6 H6 e' w'->Be K ρ6 (upd H6 p (.lst xs')) e' w':=λxs'=>by
       have kk:=Eo (H:=H6) (p:=p) (ho:=.lst xs') (.inr (by rw [hp6];trivial))
       have mono:∀e' w',Be K ρ6 H6 e' w'->Be K ρ6 (upd H6 p (.lst xs')) e' w':=λe' w' r=>r.keep kk.1 kk.2
       have mob:∀a o,D2 K ρ6 H6 a o->a≠p->D2 K ρ6 (upd H6 p (.lst xs')) a o:=λa o r ne=>r.keep kk.1 kk.2 (BZ ne)
       exact ⟨⟨s6.len,s6.nd,λn o a q1 q2=>mob a o (s6.ob n o a q1 q2) λz=>hn6 n (by rw [<-z];exact q2)⟩,mob,mono⟩
      obtain ⟨u1,u2,u3⟩:=up7 (xs++[y6]);refine ⟨hp6,j,CO j,ρ6,e3,S5,acc++[yv],?_,?_,u1,?_,Bg,hn6,hm2⟩
      ·have lx:=l2.trans (l3.trans (l4.trans (l5.trans l6)))
       have kk:=Eo (H:=H6) (p:=p) (ho:=.lst (xs++[y6])) (.inr (by rw [hp6];trivial))
       exact ⟨lx.pre,λa zs q=>kk.1 a zs (lx.tup a zs q),λa o u q=>kk.2 a o u (lx.frz a o u q),λa o q z=>by
        have nap:a≠p:=Bu q hp;obtain ⟨z1,z2⟩:=lx.oth a o q z
        exact ⟨by rw [BZ nap];exact z1,z2⟩⟩
      ·have rr:=r4.mono (l5.trans l6)
       exact ⟨rr.len,λq d' hq=>by
        obtain ⟨w',z1,z2⟩:=rr.at' q d' hq
        exact ⟨w',z1,u3 _ _ z2⟩⟩
      ·have ra6:=ra.mono (l3.trans (l4.trans (l5.trans l6)))
       have kk:=Eo (H:=H6) (p:=p) (ho:=.lst (xs++[y6])) (.inr (by rw [hp6];trivial));exact (ra6.keep kk.1 kk.2).append (.cons (u3 _ _ r6) .nil)
    ·cases hm2
theorem Ps (hc:X.calm=true) (Sc:J2 X scope own N') (hi:GI X E target iter mi)
  (hg:∀cl C s₁ H₁ ex pn,GG (C8 X scope N' cl C s₁ H₁ ex pn) target g) (hif:∀cl C s₁ H₁ ex pn,aJ (C8 X scope N' cl C s₁ H₁ ex pn) noE ifs c) (he:∀cl C s₁ H₁ ex pn,GE (C8 X scope N' cl C s₁ H₁ ex pn) noE elt m)
  (hs:∀x,D5 iter X.env x=pure x:=by intro _;rfl):GL X E (.ListComp elt [⟨target,iter,ifs,0⟩] scope pos) (FT own.length mi g c m):=
 (ZT (g:=gG X.K g) (tc:=gT X.K noE c) (te:=gE X.K noE m) hc Sc hi hg hif he hs).imp λ_ _ _ h=>Qg h
theorem Mc {i:Nat} {y:Str} {py spos:Pos} (hc:X.calm=true) (hsw:EX (.ListComp elt [⟨target,iter,ifs,0⟩] scope pos) (some (.Name y py)) spos.line X.env=pure true)
  (hN:X.N.Nodup) (hy:X.N[i]?=some y) (hloc:Loc X.env.scope y) (Sc:J2 X scope own N') (hi:GI X E target iter mi)
  (hg:∀cl C s₁ H₁ ex pn,GG (C8 X scope N' cl C s₁ H₁ ex pn) target g) (hif:∀cl C s₁ H₁ ex pn,aJ (C8 X scope N' cl C s₁ H₁ ex pn) noE ifs c) (he:∀cl C s₁ H₁ ex pn,GE (C8 X scope N' cl C s₁ H₁ ex pn) noE elt m)
  (hs:∀x,D5 iter X.env x=pure x:=by intro _;rfl) (hf:X.fn y=true∨X.env.scope.names.lookup y=some .local:=by first | exact .inl rfl | exact .inr rfl | assumption) :
  GS X E (.Assign [.Name y py] (.ListComp elt [⟨target,iter,ifs,0⟩] scope pos) spos) (CP i (Ey (FT own.length mi g c m))):=by
 refine (ZI (g:=gG X.K g) (tc:=gT X.K noE c) (te:=gE X.K noE m) hc hsw hN hy hloc Sc hi hg hif he hs hf).imp λD σ H ⟨ρ,l,S,hl,hs,hm⟩=>?_
 refine Qg (E:=E) (Q:=λx H'=>D.nx (σ.set i (some x)) H') ⟨ρ,l,S,hl,hs,Ba.seq (F:=λds S1=>Res.ok (L2.D.ref S1.length) (S1++[Ob.lst ds])) (k:=λd S2=>Ba X.K noH ρ H ((tgN i d l S2).bind λe1 S2=>.ok (.nx e1) S2) λfl S'=>Nc X.K E ρ H S' D fl) (Ba.lift hm hl .refl λd S2 h=>h) λds S1 hm ρ1 H1 p xs l1 s1 r1 hp hn hp0=>?_⟩
 have l0:∀(n:Nat) a,ρ1[n]?=some a->(ρ1++[p])[n]?=some a:=λn a h=>by rw [AV (AE.mp h).1];exact h
 obtain ⟨s2,at2⟩:=s1.adopt (o:=.lst ds) hn ⟨xs,hp,r1.more l0⟩
 have l2:Le X.K ρ H (ρ1++[p]) H1:=⟨λn a h=>l0 n a (l1.pre n a h),l1.tup,l1.frz,λa o e h=>⟨(l1.oth a o e h).1,λn q=>by
  rcases Gc q with ⟨q,_⟩ | ⟨_,q⟩
  ·exact (l1.oth a o e h).2 n q
  ·exact Bu e hp0 q⟩⟩
 exact hm _ _ _ l2 s2 ((hl.mono l2).set (.ref at2) i)
end
end L2
namespace L2
open PySem PySem.Spec PyProof.Rows PySem.SeqAt
def Jw:D->D->Option Bool
 | .non,.non=>some true
 | .bl a,.bl b=>some (a==b)
 | .int a,.int b=>some (a==b)
 | .str a,.str b=>some (a==b)
 | .non,.int _=>some false
 | .non,.str _=>some false
 | .non,.bl _=>some false
 | .non,.tup _=>some false
 | .int _,.non=>some false
 | .str _,.non=>some false
 | .bl _,.non=>some false
 | .tup _,.non=>some false
 | .int _,.tup _=>some false
 | .tup _,.int _=>some false
 | _,_=>none
def eqL (f:D->D->Option Bool):List D->List D->Option Bool
 | [],[]=>some true
 | [],_ :: _=>some false
 | _ :: _,[]=>some false
 | x :: xs,y :: ys=>match f x y,eqL f xs ys with
  | some a,some b=>some (a&&b)
  | _,_=>none
def eqP:Nat->D->D->Option Bool
 | 0,x,y=>Jw x y
 | n+1,x,y=>match x,y with
  | .tup xs,.tup ys=>eqL (eqP n) xs ys
  | x,y=>Jw x y
theorem Ix {f:D->D->Option Bool} {x y:D} {xs ys:List D} {b:Bool} (h:eqL f (x :: xs) (y :: ys)=some b):∃a c,f x y=some a/\eqL f xs ys=some c/\b=(a&&c):=by
 unfold eqL at h;split at h
 ·rename_i a c h1 h2
  cases h;exact ⟨a,c,h1,h2,rfl⟩
 ·cases h
theorem T9 {f:D->D->Option Bool}:∀ {xs ys:List D} {b:Bool},eqL f xs ys=some b->(∀(j:Nat) x y,xs[j]?=some x->ys[j]?=some y->∃c,f x y=some c) /\
  b=((Bo (min xs.length ys.length)).all (λj=>match xs[j]?,ys[j]? with | some x,some y=>(f x y).getD false | _,_=>false)&&xs.length==ys.length)
 | [],[],b,h=>by cases h;exact ⟨λj x y h=>by simp at h,by simp⟩
 | [],y :: ys,b,h=>by cases h;exact ⟨λj x y h=>by simp at h,by simp⟩
 | x :: xs,[],b,h=>by cases h;exact ⟨λj x y _ h=>by simp at h,by simp⟩
 | x :: xs,y :: ys,b,h=>by
  obtain ⟨a,c,h1,h2,rfl⟩:=Ix h;obtain ⟨i1,i2⟩:=T9 h2;refine ⟨λj x' y' e1 e2=>?_,?_⟩
  ·cases j with
   | zero=>simp at e1 e2;subst e1;subst e2;exact ⟨a,h1⟩
   | succ j=>exact i1 j x' y' (by simpa using e1) (by simpa using e2)
  ·rw [i2,Au,Au,show min (xs.length+1) (ys.length+1)=min xs.length ys.length+1 by lia,IU,bC,dj]
   simp only [List.getElem?_cons_zero,h1,Vd,Function.comp_def,List.getElem?_cons_succ];rw [Bool.and_assoc]
   congr 1
   congr 1
   rw [YW];simp
section
variable {K:AA} {ρ:List AH} {H:Hp}
theorem T5 (n k:Nat) (y:D):eqP n (.ref k) y=none:=by cases n <;> cases y <;> rfl
theorem T6 (n:Nat) (ds:List D) (y:D):eqP n (.fro ds) y=none:=by cases n <;> cases y <;> rfl
theorem T7 (n:Nat) (c:AH) (y:D):eqP n (.exc c) y=none:=by cases n <;> cases y <;> rfl
theorem KS {x x':D} {v:V} (r1:Be K ρ H x v) (r2:Be K ρ H x' v):x=x'∨(∃ds ds' vs,x=.tup ds/\x'=.tup ds'/\At K ρ H ds vs/\At K ρ H ds' vs)∨(∀n y,eqP n x y=none)∨∀n y,eqP n x' y=none:=by
 cases r1 with
 | non=>cases r2;exact .inl rfl
 | bl b=>cases r2;exact .inl rfl
 | int b=>cases r2;exact .inl rfl
 | str b=>cases r2;exact .inl rfl
 | fro _ _=>exact .inr (.inr (.inl λn y=>T6 n _ y))
 | ref _=>exact .inr (.inr (.inl λn y=>T5 n _ y))
 | exc _ _=>exact .inr (.inr (.inl λn y=>T7 n _ y))
 | tup u1 u2=>
  cases r2 with
  | fro _ _=>exact .inr (.inr (.inr λn y=>T6 n _ y))
  | ref _=>exact .inr (.inr (.inr λn y=>T5 n _ y))
  | exc _ _=>exact .inr (.inr (.inr λn y=>T7 n _ y))
  | tup w1 w2=>
   rw [u1] at w1;cases w1;exact .inr (.inl ⟨_,_,_,rfl,rfl,u2,w2⟩)
theorem Z4:∀(n:Nat) {x x' y:D} {v:V} {b b':Bool},Be K ρ H x v->Be K ρ H x' v->eqP n x y=some b->eqP n x' y=some b'->b=b':=by
 intro n
 induction n with
 | zero=>
  intro x x' y v b b' r1 r2 h h'
  rcases KS r1 r2 with rfl | ⟨ds,ds',vs,rfl,rfl,_,_⟩ | q | q
  ·rw [h] at h';cases h';rfl
  ·have:eqP 0 (.tup ds) y=eqP 0 (.tup ds') y:=by cases y <;> rfl
   rw [<-this,h] at h';cases h';rfl
  ·rw [q] at h;cases h
  ·rw [q] at h';cases h'
 | succ n ih=>
  intro x x' y v b b' r1 r2 h h'
  have lists:∀ {xs:List D} {vs:List V} {xs' ys:List D} {b b':Bool},At K ρ H xs vs->At K ρ H xs' vs->eqL (eqP n) xs ys=some b->eqL (eqP n) xs' ys=some b'->b=b':=by
   intro xs
   induction xs with
   | nil=>
    intro vs xs' ys b b' q1 q2 g g';cases q1;cases q2;rw [g] at g';cases g';rfl
   | cons d ds ihl=>
    intro vs xs' ys b b' q1 q2 g g'
    cases q1 with
    | cons a1 a2=>
     cases q2 with
     | cons c1 c2=>
      cases ys with
      | nil=>cases g;cases g';rfl
      | cons y ys=>
       obtain ⟨p,q,g1,g2,rfl⟩:=Ix g;obtain ⟨p',q',g1',g2',rfl⟩:=Ix g';rw [ih a1 c1 g1 g1',ihl a2 c2 g2 g2']
  rcases KS r1 r2 with rfl | ⟨ds,ds',vs,rfl,rfl,q1,q2⟩ | q | q
  ·rw [h] at h';cases h';rfl
  ·by_cases c:∃ys,y=.tup ys
   ·obtain ⟨ys,rfl⟩:=c
    exact lists q1 q2 h h'
   ·have:eqP (n+1) (.tup ds) y=eqP (n+1) (.tup ds') y:=by
     cases y <;> first | rfl | exact (c ⟨_,rfl⟩).elim
    rw [<-this,h] at h';cases h';rfl
  ·rw [q] at h;cases h
  ·rw [q] at h';cases h'
theorem DM {x:D} {b:Bool} (h:Jw x x=some b):b=true:=by
 cases x <;> first | (cases h;done) | (cases h;simp)
theorem Ng:∀(n:Nat) {x:D} {b:Bool},eqP n x x=some b->b=true
 | 0,_,_,h=>DM h
 | n+1,x,b,h=>by
  have lists:∀ {xs:List D} {b:Bool},eqL (eqP n) xs xs=some b->b=true:=by
   intro xs
   induction xs with
   | nil=>intro b g;cases g;rfl
   | cons d ds ih=>
    intro b g;obtain ⟨p,q,g1,g2,rfl⟩:=Ix g;rw [Ng n g1,ih g2];rfl
  cases x with
  | tup xs=>exact lists h
  | non=>exact DM (x:=.non) h
  | bl c=>exact DM (x:=.bl c) h
  | int c=>exact DM (x:=.int c) h
  | str c=>exact DM (x:=.str c) h
  | ref c=>exact DM (x:=.ref c) h
  | fro c=>exact DM (x:=.fro c) h
  | exc c=>exact DM (x:=.exc c) h
theorem JP {x y:D} (hy:(∃f,y=.fro f)∨(∃r,y=.ref r)∨∃c,y=.exc c) (n:Nat):eqP n x y=none:=by
 rcases hy with ⟨f,rfl⟩ | ⟨r,rfl⟩ | ⟨c,rfl⟩ <;> (cases n <;> cases x <;> rfl)
theorem Xs (n:Nat) {x y:D} {v:V} {b:Bool} (h1:Be K ρ H x v) (h2:Be K ρ H y v) (h:eqP n x y=some b):b=true:=by
 induction n generalizing x y v b with
 | zero=>
  rcases KS h1 h2 with rfl | ⟨ds,ds',vs,rfl,rfl,_,_⟩ | q | q
  ·exact Ng 0 h
  ·cases h
  ·rw [q] at h;cases h
  ·cases h2 with
   | fro _ _=>rw [JP (.inl ⟨_,rfl⟩)] at h;cases h
   | ref _=>rw [JP (.inr (.inl ⟨_,rfl⟩))] at h;cases h
   | exc _ _=>rw [JP (.inr (.inr ⟨_,rfl⟩))] at h;cases h
   | non=>cases (q 0 .non)
   | bl b=>cases (q 0 (.bl b))
   | int b=>cases (q 0 (.int b))
   | str b=>cases (q 0 (.str b))
   | tup _ _=>cases (q 0 .non)
 | succ n ih=>
  have lists:∀ {xs ys:List D} {vs:List V} {b:Bool},At K ρ H xs vs->At K ρ H ys vs->eqL (eqP n) xs ys=some b->b=true:=by
   intro xs
   induction xs with
   | nil=>intro ys vs b q1 q2 g;cases q1;cases q2;cases g;rfl
   | cons d ds ihl=>
    intro ys vs b q1 q2 g
    cases q1 with
    | cons a1 a2=>
     cases q2 with
     | cons c1 c2=>
      obtain ⟨p,q,g1,g2,rfl⟩:=Ix g;rw [ih a1 c1 g1,ihl a2 c2 g2];rfl
  rcases KS h1 h2 with rfl | ⟨ds,ds',vs,rfl,rfl,q1,q2⟩ | q | q
  ·exact Ng (n+1) h
  ·exact lists q1 q2 h
  ·rw [q] at h;cases h
  ·cases h2 with
   | fro _ _=>rw [JP (.inl ⟨_,rfl⟩)] at h;cases h
   | ref _=>rw [JP (.inr (.inl ⟨_,rfl⟩))] at h;cases h
   | exc _ _=>rw [JP (.inr (.inr ⟨_,rfl⟩))] at h;cases h
   | non=>cases (q 0 .non)
   | bl b=>cases (q 0 (.bl b))
   | int b=>cases (q 0 (.int b))
   | str b=>cases (q 0 (.str b))
   | tup _ _=>cases (q 0 .non)
end
section
variable {X:Cx} {pins:List (AH×Obj)} {σ:St} {H:Hp} {s:AD} {ρ:List AH}
theorem FE (A:Aw):A.in1.units=A.units+1:=rfl
theorem Bh.at_ {vs:List V} {its:List AB} (r:Bh vs its) {j:Nat} (h:j < its.toArray.size):∃v,vs[j]?=some v/\RelV v its.toArray[j]:=by
 have hj:j < its.length:=by simpa using h
 have hv:j < vs.length:=by rw [r.length];exact hj
 obtain ⟨u,h1,h2⟩:=r.get (i:=j) (x:=vs[j]) (by simp [hv]);refine ⟨vs[j],by simp [hv],?_⟩
 have:its.toArray[j]=u:=by
  have:=AE.mp h1;obtain ⟨_,e⟩:=this;simpa using e
 rw [this];exact h2
theorem PR {n:Nat} {A:Aw} (ih:∀(x y:D) (b:Bool) (xv yv:V) (u v:AB),eqP n x y=some b->Be X.K ρ H x xv->Be X.K ρ H y yv->RelV xv u->RelV yv v->EqAt A s u v b)
  {xs ys:List D} {vs ws:List V} {us zs:List AB} {b:Bool} (h:eqL (eqP n) xs ys=some b) (r1:At X.K ρ H xs vs) (r2:At X.K ρ H ys ws) (q1:Bh vs us) (q2:Bh ws zs) :
  ∃e:Nat->Bool,(∀j (h1:j < us.toArray.size) (h2:j < zs.toArray.size),EqAt A s us.toArray[j] zs.toArray[j] (e j))/\b=((Bo (min us.toArray.size zs.toArray.size)).all e&&us.toArray.size==zs.toArray.size):=by
 obtain ⟨i1,i2⟩:=T9 h;refine ⟨λj=>match xs[j]?,ys[j]? with | some x,some y=>(eqP n x y).getD false | _,_=>false,λj h1 h2=>?_,?_⟩
 ·obtain ⟨v,e1,rv⟩:=Bh.at_ q1 h1
  obtain ⟨w,e2,rw'⟩:=Bh.at_ q2 h2;obtain ⟨x,e3,rx⟩:=r1.get' e1;obtain ⟨y,e4,ry⟩:=r2.get' e2;obtain ⟨c,hc⟩:=i1 j x y e3 e4;have:=ih x y c v w _ _ hc rx ry rv rw';simp only [e3,e4,hc,Vd];exact this
 ·rw [i2,r1.length,r2.length,q1.length,q2.length]
  simp
theorem LU {A:Aw} {x y:D} {b:Bool} {xv yv:V} {u v:AB} (I:Inv X pins σ H s) (hu:A.units < D6) (h:Jw x y=some b) (r1:Be X.K ρ H x xv) (r2:Be X.K ρ H y yv) (q1:RelV xv u) (q2:RelV yv v) :
  EqAt A s u v b/\RcAt A s u v b/\RcNeAt A s u v (!b):=by
 cases r1 with
 | non=>
  cases q1
  cases r2 with
  | non=>cases q2;cases h;exact ⟨EqAt.same _,RcAt.none_none,RcNeAt.none_none⟩
  | bl c=>cases q2;cases h;exact ⟨EqAt.none_bool _,RcAt.none_bool _,RcNeAt.none_bool _⟩
  | int i=>obtain ⟨t,rfl⟩:=q2;cases h;exact ⟨EqAt.none_int _ _,RcAt.none_int _ _,RcNeAt.none_int _ _⟩
  | str z=>obtain ⟨t,rfl⟩:=q2;cases h;exact ⟨EqAt.none_str _ _,RcAt.none_str _ _,RcNeAt.none_str _ _⟩
  | tup a1 a2=>
   cases q2;cases h;obtain ⟨its,_,p,_⟩:=I.tuple (.inl (.inl a1));exact ⟨EqAt.none_tuple p hu,RcAt.none_tuple p hu,RcNeAt.none_tuple p hu⟩
  | _=>cases h
 | bl a=>
  cases q1
  cases r2 with
  | non=>cases q2;cases h;exact ⟨EqAt.bool_none _,RcAt.bool_none _,RcNeAt.bool_none _⟩
  | bl c=>cases q2;cases h;exact ⟨EqAt.bool_bool _ _,RcAt.bool_bool _ _,RcNeAt.bool_bool _ _⟩
  | _=>cases h
 | int a=>
  obtain ⟨t,rfl⟩:=q1
  cases r2 with
  | non=>cases q2;cases h;exact ⟨EqAt.int_none _ _,RcAt.int_none _ _,RcNeAt.int_none _ _⟩
  | int i=>obtain ⟨t',rfl⟩:=q2;cases h;exact ⟨EqAt.int_int _ _ _ _,RcAt.int_int _ _ _ _,RcNeAt.int_int _ _ _ _⟩
  | tup a1 a2=>
   cases q2;cases h;obtain ⟨its,_,p,_⟩:=I.tuple (.inl (.inl a1));exact ⟨EqAt.int_tuple _ _ p hu,RcAt.int_tuple _ _ p hu,RcNeAt.int_tuple _ _ p hu⟩
  | _=>cases h
 | str a=>
  obtain ⟨t,rfl⟩:=q1
  cases r2 with
  | non=>cases q2;cases h;exact ⟨EqAt.str_none _ _,RcAt.str_none _ _,RcNeAt.str_none _ _⟩
  | str i=>obtain ⟨t',rfl⟩:=q2;cases h;exact ⟨EqAt.str_str _ _ _ _,RcAt.str_str _ _ _ _,RcNeAt.str_str _ _ _ _⟩
  | _=>cases h
 | tup a1 a2=>
  cases q1;obtain ⟨its,_,p,_⟩:=I.tuple (.inl (.inl a1))
  cases r2 with
  | non=>cases q2;cases h;exact ⟨EqAt.tuple_none p hu,RcAt.tuple_none p hu,RcNeAt.tuple_none p hu⟩
  | int i=>obtain ⟨t',rfl⟩:=q2;cases h;exact ⟨EqAt.tuple_int _ _ p hu,RcAt.tuple_int _ _ p hu,RcNeAt.tuple_int _ _ p hu⟩
  | _=>cases h
 | _=>cases h
theorem Si (I:Inv X pins σ H s):∀(n:Nat) (A:Aw) (x y:D) (b:Bool) (xv yv:V) (u v:AB),A.units+n < D6->eqP n x y=some b->Be X.K ρ H x xv->Be X.K ρ H y yv->RelV xv u->RelV yv v->EqAt A s u v b:=by
 intro n
 induction n with
 | zero=>exact λA x y b xv yv u v hu h r1 r2 q1 q2=>(LU I (by omega) h r1 r2 q1 q2).1
 | succ n ih=>
  intro A x y b xv yv u v hu h r1 r2 q1 q2
  by_cases ht:∃xs ys,x=.tup xs/\y=.tup ys
  ·obtain ⟨xs,ys,rfl,rfl⟩:=ht
   cases r1 with
   | @tup _ a vs a1 a2=>
    cases r2 with
    | @tup _ c ws b1 b2=>
     cases q1;cases q2
     by_cases hac:a=c
     ·subst hac
      rw [Xs (n+1) (.tup a1 a2) (.tup b1 b2) h];exact EqAt.same _
     ·obtain ⟨its,rv,p,_⟩:=I.tuple (.inl (.inl a1))
      obtain ⟨its2,rw',p2,_⟩:=I.tuple (.inl (.inl b1));obtain ⟨e,he,rfl⟩:=PR (A:=A.in1) (λx y b xv yv u v g1 g2 g3 g4 g5=>ih A.in1 x y b xv yv u v (by rw [FE];lia) g1 g2 g3 g4 g5) h a2 b2 rv rw';exact EqAt.of_refs hac (dz p p2 (by lia) he)
  ·have hf:Jw x y=some b:=by
    cases x <;> cases y <;> first | exact h | exact (ht ⟨_,_,rfl,rfl⟩).elim
   exact (LU I (by lia) hf r1 r2 q1 q2).1
def Pi (d:D) (S:Sto):Option (List D):=match d with
 | .fro ds=>some ds
 | .ref n=>match S[n]? with
  | some (.lst ds)=>some ds
  | _=>none
 | _=>none
def eqB (x y:D) (S:Sto):Option Bool:=match Pi x S,Pi y S with
 | some xs,some ys=>if xs.length=ys.length then eqL (eqP 8) xs ys else some false
 | none,none=>eqP 8 x y
 | some _,none=>match y with
  | .tup _=>some false
  | .non=>some false
  | _=>none
 | none,some _=>match x with
  | .tup _=>some false
  | .non=>some false
  | _=>none
def eqD (neg:Bool) (x y:D) (S:Sto):Res D:=match eqB x y S with
 | some b=>.ok (.bl (if neg then !b else b)) S
 | none=>.bad
theorem Kd {K:AA} {S:Sto} {d:D} {x:V} {ds:List D} (hs:Bs K ρ S H) (r:Be K ρ H d x) (h:Pi d S=some ds):∃p xs,x=.ref p/\At K ρ H ds xs/\SqL K H p xs:=by
 cases r with
 | fro h1 h2=>cases h;exact ⟨_,_,rfl,h2,h1.sq⟩
 | @ref n a hn=>
  obtain ⟨o,ho,ro⟩:=hs.there hn;unfold Pi at h;simp only [ho] at h
  cases o with
  | lst es=>cases h;obtain ⟨vs,e,rr⟩:=ro;exact ⟨_,_,rfl,rr,.inl (.inl e)⟩
  | _=>cases h
 | _=>cases h
theorem Xu {S:Sto} {x y:D} {b:Bool} {xv yv:V} {u v:AB} (I:Inv X pins σ H s) (hu:X.A.units+64 < D6) (hs:Bs X.K ρ S H) (r1:Be X.K ρ H x xv) (r2:Be X.K ρ H y yv) (q1:RelV xv u) (q2:RelV yv v) (h:eqB x y S=some b) :
  RcAt X.A s u v b/\RcNeAt X.A s u v (!b):=by
 unfold eqB at h;split at h
 ·rename_i xs ys h1 h2
  obtain ⟨p,vs,rfl,rr,sq⟩:=Kd hs r1 h1;obtain ⟨p',vs',rfl,rr',sq'⟩:=Kd hs r2 h2;cases q1;cases q2;obtain ⟨its,rv,pl,_⟩:=I.list sq;obtain ⟨its2,rv2,pl2,_⟩:=I.list sq';split at h
  ·rename_i hlen
   obtain ⟨e,he,rfl⟩:=PR (A:=X.A.in1) (λx y b xv yv u v g1 g2 g3 g4 g5=>Si I 8 X.A.in1 x y b xv yv u v (by rw [FE];lia) g1 g2 g3 g4 g5) h rr rr' rv rv2
   have hsz:its.toArray.size=its2.toArray.size:=by
    simp only [Ai];rw [<-rv.length,<-rv2.length,<-rr.length,<-rr'.length];exact hlen
   have e1:((Bo (min its.toArray.size its2.toArray.size)).all e&&its.toArray.size==its2.toArray.size)=(Bo its.toArray.size).all e:=by
    rw [<-hsz,Nat.min_self,beq_self_eq_true,Bool.and_true]
   rw [e1];exact ⟨RcAt.lists pl.isList pl2.isList hsz (by lia) he,RcNeAt.lists pl.isList pl2.isList hsz (by lia) he⟩
  ·rename_i hlen
   cases h
   have hsz:(its.toArray.size != its2.toArray.size)=true:=by
    simp only [Ai];rw [<-rv.length,<-rv2.length,<-rr.length,<-rr'.length];simpa using hlen
   exact ⟨RcAt.lists_lengths pl.isList pl2.isList hsz (by lia),RcNeAt.lists_lengths pl.isList pl2.isList hsz (by lia)⟩
 ·by_cases ht:∃xs ys,x=.tup xs/\y=.tup ys
  ·obtain ⟨xs,ys,rfl,rfl⟩:=ht
   cases r1 with
   | tup a1 a2=>
    cases r2 with
    | tup b1 b2=>
     cases q1;cases q2;obtain ⟨its,rv,p,_⟩:=I.tuple (.inl (.inl a1));obtain ⟨its2,rw',p2,_⟩:=I.tuple (.inl (.inl b1));obtain ⟨e,he,rfl⟩:=PR (n:=7) (A:=X.A.in1) (λx y b xv yv u v g1 g2 g3 g4 g5=>Si I 7 X.A.in1 x y b xv yv u v (by rw [FE];lia) g1 g2 g3 g4 g5) h a2 b2 rv rw';exact ⟨dz p p2 (by lia) he,RcNeAt.tuples p p2 (by lia) he⟩
  ·have hf:Jw x y=some b:=by
    cases x <;> cases y <;> first | exact h | exact (ht ⟨_,_,rfl,rfl⟩).elim
   exact (LU I (by lia) hf r1 r2 q1 q2).2
 ·rename_i xs h1 h2
  obtain ⟨p,vs,rfl,rr,sq⟩:=Kd hs r1 h1;cases q1;obtain ⟨its,rv,pl,_⟩:=I.list sq;split at h
  ·cases h
   cases r2 with
   | tup b1 b2=>
    cases q2;obtain ⟨its2,rw',p2,_⟩:=I.tuple (.inl (.inl b1));exact ⟨RcAt.list_tuple pl.isList p2 (by lia),RcNeAt.list_tuple pl.isList p2 (by lia)⟩
  ·cases h
   cases r2;cases q2;exact ⟨RcAt.list_none pl.isList (by lia),RcNeAt.list_none pl.isList (by lia)⟩
  ·cases h
 ·rename_i xs h1 h2
  obtain ⟨p,vs,rfl,rr,sq⟩:=Kd hs r2 h2;cases q2;obtain ⟨its,rv,pl,_⟩:=I.list sq;split at h
  ·cases h
   cases r1 with
   | tup b1 b2=>
    cases q1;obtain ⟨its2,rw',p2,_⟩:=I.tuple (.inl (.inl b1));exact ⟨RcAt.tuple_list p2 pl.isList (by lia),RcNeAt.tuple_list p2 pl.isList (by lia)⟩
  ·cases h
   cases r1;cases q1;exact ⟨RcAt.none_list pl.isList (by lia),RcNeAt.none_list pl.isList (by lia)⟩
  ·cases h
theorem Oh (hu:X.A.units+64 < D6):OpR X (Bb .Eq) (rD X.K (eqD false)):=by
 intro pins s σ H x y v u Q I rx ry h;obtain ⟨ρ,S,a,b,d,S',hs,ra,rb,hm,k⟩:=h;unfold eqD at hm;split at hm
 ·rename_i c hc
  cases hm;exact (Xu I hu hs ra rb rx ry hc).1 _ _ _ _ ⟨.bl c,H,I,rfl,k ρ H _ .refl hs (.bl _)⟩
 ·cases hm
theorem Tb (hu:X.A.units+64 < D6):OpR X (Bb .NotEq) (rD X.K (eqD true)):=by
 intro pins s σ H x y v u Q I rx ry h;obtain ⟨ρ,S,a,b,d,S',hs,ra,rb,hm,k⟩:=h;unfold eqD at hm;split at hm
 ·rename_i c hc
  cases hm;exact (Xu I hu hs ra rb rx ry hc).2 _ _ _ _ ⟨.bl (!c),H,I,rfl,k ρ H _ .refl hs (.bl _)⟩
 ·cases hm
def Jj (x:D):List D->Option Bool
 | []=>some false
 | d :: ds=>match eqP 8 d x,Jj x ds with
  | some a,some b=>some (a||b)
  | _,_=>none
def inD (neg:Bool) (x y:D) (S:Sto):Res D:=match FP y S with
 | some ds=>match Jj x ds with
  | some b=>.ok (.bl (if neg then !b else b)) S
  | none=>.bad
 | none=>.bad
theorem Sn {x d:D} {ds:List D} {b:Bool} (h:Jj x (d :: ds)=some b):∃a c,eqP 8 d x=some a/\Jj x ds=some c/\b=(a||c):=by
 unfold Jj at h;split at h
 ·rename_i a c h1 h2
  cases h;exact ⟨a,c,h1,h2,rfl⟩
 ·cases h
open Classical in
theorem Kq {x:D} {xv:V} {v:AB} (I:Inv X pins σ H s) {A:Aw} (hu:A.units+8 < D6) (rx:Be X.K ρ H x xv) (qx:RelV xv v):∀ {ds:List D} {vs:List V} {us:List AB} {b:Bool},At X.K ρ H ds vs->Bh vs us->Jj x ds=some b ->
  ∃e:AB->Bool,(∀y∈us,EqAt A s y v (e y))/\b=us.any e:=by
 intro ds vs us b r q h
 let e:AB->Bool:=λy=>decide (∃d w,d∈ds/\Be X.K ρ H d w/\RelV w y/\eqP 8 d x=some true)
 have all:∀ {ds':List D} {vs':List V} {us':List AB} {b':Bool},(∀d∈ds',d∈ds)->At X.K ρ H ds' vs'->Bh vs' us'->Jj x ds'=some b'->(∀y∈us',EqAt A s y v (e y))/\b'=us'.any e:=by
  intro ds'
  induction ds' with
  | nil=>intro vs' us' b' _ r q h;cases r;cases q;cases h;exact ⟨(λ_ z=>nomatch z),rfl⟩
  | cons d ds' ih=>
   intro vs' us' b' hsub r q h
   cases r with
   | cons r1 r2=>
    cases q with
    | @cons w y _ _ q1 q2=>
     obtain ⟨a,c,h1,h2,rfl⟩:=Sn h;obtain ⟨i1,i2⟩:=ih (λz hz=>hsub z (Aa _ hz)) r2 q2 h2
     have ha:e y=a:=by
      by_cases hq:∃d w,d∈ds/\Be X.K ρ H d w/\RelV w y/\eqP 8 d x=some true
      ·obtain ⟨d',w',_,g1,g2,g3⟩:=id hq
       rw [RelV.inj g2 q1] at g1;have:=Z4 8 g1 r1 g3 h1;rw [<-this];exact wX hq
      ·have:a=false:=by
        cases a with
        | false=>rfl
        | true=>exact (hq ⟨d,_,hsub d Al,r1,q1,h1⟩).elim
       rw [this];exact wY hq
     refine ⟨λz hz=>?_,by rw [FY,ha,<-i2]⟩
     rcases A6.mp hz with rfl | hz
     ·rw [ha]
      exact Si I 8 A d x a _ _ _ _ hu h1 r1 rx q1 qx
     ·exact i1 z hz
 obtain ⟨e1,e2⟩:=all (λ_ h=>h) r q h;exact ⟨e,e1,e2⟩
theorem fQ (hu:X.A.units+64 < D6):OpR X (Bb .In) (rD X.K (inD false)):=by
 intro pins s σ H x y v u Q I rx ry h;obtain ⟨ρ,S,a,b,d,S',hs,ra,rb,hm,k⟩:=h;unfold inD at hm;split at hm
 ·rename_i ds hq
  split at hm
  ·rename_i c hc
   cases hm;obtain ⟨p,xs,rfl,rr,sq⟩:=MX hs rb hq;cases ry
   rcases sq with sq | sq
   ·obtain ⟨its,rv,pl,_⟩:=I.list sq
    obtain ⟨e,he,rfl⟩:=Kq I (A:=X.A.in1) (by rw [FE];lia) ra rx rr rv hc;exact in_listAt e pl.isList (λz hz=>he z (by simpa using hz)) ⟨.bl (its.toArray.any e),H,I,rfl,by rw [IG];exact k ρ H _ .refl hs (.bl _)⟩
   ·obtain ⟨its,rv,pl,_⟩:=I.tuple sq
    obtain ⟨e,he,rfl⟩:=Kq I (A:=X.A.in1) (by rw [FE];lia) ra rx rr rv hc;exact in_tupleAt e pl (λz hz=>he z (by simpa using hz)) ⟨.bl (its.toArray.any e),H,I,rfl,by rw [IG];exact k ρ H _ .refl hs (.bl _)⟩
  ·cases hm
 ·cases hm
theorem W5 (hu:X.A.units+64 < D6):OpR X (Bb .NotIn) (rD X.K (inD true)):=by
 intro pins s σ H x y v u Q I rx ry h;obtain ⟨ρ,S,a,b,d,S',hs,ra,rb,hm,k⟩:=h;unfold inD at hm;split at hm
 ·rename_i ds hq
  split at hm
  ·rename_i c hc
   cases hm;obtain ⟨p,xs,rfl,rr,sq⟩:=MX hs rb hq;cases ry
   rcases sq with sq | sq
   ·obtain ⟨its,rv,pl,_⟩:=I.list sq
    obtain ⟨e,he,rfl⟩:=Kq I (A:=X.A.in1) (by rw [FE];lia) ra rx rr rv hc;exact notIn_listAt e pl.isList (λz hz=>he z (by simpa using hz)) ⟨.bl (!its.toArray.any e),H,I,rfl,by rw [IG];exact k ρ H _ .refl hs (.bl _)⟩
   ·obtain ⟨its,rv,pl,_⟩:=I.tuple sq
    obtain ⟨e,he,rfl⟩:=Kq I (A:=X.A.in1) (by rw [FE];lia) ra rx rr rv hc;exact notIn_tupleAt e pl (λz hz=>he z (by simpa using hz)) ⟨.bl (!its.toArray.any e),H,I,rfl,by rw [IG];exact k ρ H _ .refl hs (.bl _)⟩
  ·cases hm
 ·cases hm
end
end L2
namespace L2
open PySem PySem.Spec PyProof.Rows
def Jt (mo ma:ME):ME:=λe S=>(mo e S).bind λd S1=>match d with
 | .ref n=>match S1[n]? with
  | some (.lst _)=>(ma e S1).bind λy S2=>match S2[n]? with
   | some (.lst xs)=>if xs.length < sizeLine then .ok .non (S2.set n (.lst (xs++[y]))) else .bad
   | _=>.bad
  | _=>.bad
 | _=>.bad
section
variable {X:Cx} {E:EW} {o e:Expr} {apos cpos:Pos} {mo ma:ME}
theorem Y7 {K:AA} {ρ:List AH} {S:Sto} {H:Hp} {n:Nat} {x:V} {xs:List D} (s:Bs K ρ S H) (r:Be K ρ H (.ref n) x) (h:S[n]?=some (.lst xs)):∃a vs,x=.ref a/\ρ[n]?=some a/\H a=some (.lst vs)/\At K ρ H xs vs:=by
 cases r with
 | ref hn=>
  obtain ⟨vs,e,rr⟩:=s.ob n _ _ h hn;exact ⟨_,vs,rfl,hn,e,rr⟩
theorem GM (ho:GE X E o mo) (ha:GE X E e ma) (hbase:Ex o "append" X.env (Bx o X.env)=Bx o X.env:=by rfl)
  (hfew:((C4 cpos (AU [e] X.env)).all (λx=>!x.1)&&(YR cpos (QD [] X.env)).all (λx=>x.1.isSome)
    &&decide ([e].length+([]:List Jo).length+(if ([]:List Jo).isEmpty then 0 else 1) < 30))=true:=by rfl)
  (hline:(apos.endLine==cpos.line)=true:=by rfl) (hs:AU [e] X.env=(false,Bx e X.env) :: AU [] X.env:=by rfl) (hplain:(C4 cpos (AU [] X.env)).any (·.1)=false:=by rfl) :
  GE X E (.Call (.Attribute o "append" apos) [e] [] cpos) (Jt mo ma):=(fG PySem.F.plainAttrs_list PySem.F.slot_list_append PySem.F.type_list_append Oi ho (FH ha Hr hs) hbase hfew hline hs hplain).imp λσ H Q ⟨ρ,l,S,hl,hs,hm⟩=>by
 refine ⟨ρ,l,S,hl,hs,hm.seq λx S1 hm ρ1 H1 v l1 s1 r1=>?_⟩
 cases x <;> first | exact hm.elim | skip
 rename_i n;dsimp only at hm;split at hm
 ·rename_i xs0 h0
  obtain ⟨a,vs,rfl,hn,e0,_⟩:=Y7 s1 r1 h0;refine ⟨.inl ⟨rfl,vs,.inl (.inl e0)⟩,ρ1,l,S1,hl.mono l1,s1,(hm.later l1).seq λy S2 hm ρ2 H2 u l2 s2 r2=>?_⟩;split at hm
  ·rename_i xs h3
   split at hm
   ·rename_i hz
    have hn2:=l2.pre n a hn;obtain ⟨ws,e3,rr⟩:=s2.ob n _ _ h3 hn2;have le:Le X.K ρ2 H2 ρ2 (upd H2 a (.lst (ws++[u]))):=Le.write hn2 (by rw [e3];trivial);obtain ⟨s3,l3⟩:=s2.write (ho:=.lst (ws++[u])) (o:=.lst (xs++[y])) hn2 ⟨_,Bg,(rr.append (.cons r2 .nil)).mono le⟩;exact ⟨a,ws,u,rfl,rfl,e3,by rw [<-rr.length];exact hz,hm ρ2 _ _ (l1.trans (l2.trans l3)) s3 .non⟩
   ·exact hm.elim
  ·exact hm.elim
 ·exact hm.elim
end
def DL {κ β:Type} [DecidableEq κ] (kvs:List (κ×β)) (k:κ):Option β:=(kvs.find? λkv=>decide (kv.1=k)).map (·.2)
def FB {κ β:Type} [DecidableEq κ] (kvs:List (κ×β)) (k:κ) (v:β):List (κ×β):=
 if (kvs.any λkv=>decide (kv.1=k))=true then kvs.map (λkv=>if kv.1=k then (kv.1,v) else kv) else kvs++[(k,v)]
section
variable {κ:Type} [DecidableEq κ] {K:AA} {ρ:List AH} {H:Hp}
theorem KVR.val (k:κ):∀ {x:List (κ×D)} {y:List (κ×V)},KVR K ρ H x y->(DL x k=none->Ib y k=none)/\∀d,DL x k=some d->∃v,Ib y k=some v/\Be K ρ H d v
 | _,_,.nil=>⟨λ_=>rfl,λd h=>by cases h⟩
 | (g,a) :: x,(g',b) :: y,.cons r t=>by
  obtain ⟨r1,r2⟩:=r;dsimp only at r1 r2;subst r1;unfold DL Ib;rw [BO,BO]
  by_cases e:g=k
  ·simp only [e,decide_true]
   exact ⟨(λh=>nomatch h),(λd h=>by cases h;exact ⟨b,rfl,r2⟩)⟩
  ·simp only [e,decide_false]
   exact KVR.val k t
theorem KVR.any (k:κ):∀ {x:List (κ×D)} {y:List (κ×V)},KVR K ρ H x y->(x.any λkv=>decide (kv.1=k))=y.any λkv=>decide (kv.1=k)
 | _,_,.nil=>rfl
 | (g,a) :: x,(g',b) :: y,.cons r t=>by
  rw [FY,FY,KVR.any k t,show g=g' from r.1]
theorem KVR.repl (k:κ) {d:D} {v:V} (rd:Be K ρ H d v):∀ {x:List (κ×D)} {y:List (κ×V)},KVR K ρ H x y->KVR K ρ H (x.map λkv=>if kv.1=k then (kv.1,d) else kv) (y.map λkv=>if kv.1=k then (kv.1,v) else kv)
 | _,_,.nil=>.nil
 | (g,a) :: x,(g',b) :: y,.cons r t=>by
  obtain ⟨r1,r2⟩:=r;dsimp only at r1 r2;subst r1;rw [Ap,Ap];refine .cons ?_ (KVR.repl k rd t)
  by_cases e:g=k
  ·rw [qX e,qX e];exact ⟨rfl,rd⟩
  ·rw [qY e,qY e];exact ⟨rfl,r2⟩
theorem KVR.put (k:κ) {d:D} {v:V} (rd:Be K ρ H d v) {x:List (κ×D)} {y:List (κ×V)} (h:KVR K ρ H x y):KVR K ρ H (FB x k d) (Ft y k v):=by
 unfold FB Ft;rw [KVR.any k h];split
 ·exact KVR.repl k rd h
 ·exact Ra h ⟨rfl,rd⟩
end
def XW:D->Option Key
 | .int i=>some (.inl i)
 | .str x=>some (.inr x)
 | _=>none
def Q8:List D->Option (List Key)
 | []=>some []
 | d :: ds=>match XW d,Q8 ds with
  | some k,some ks=>some (k :: ks)
  | _,_=>none
theorem Mb {K:AA} {ρ:List AH} {H:Hp} {d:D} {v:V} {k:Key} (r:Be K ρ H d v) (h:XW d=some k):v=kV k:=by
 cases r <;> first | (cases h;done) | (cases h;rfl)
theorem NS {K:AA} {ρ:List AH} {H:Hp}:∀ {ds:List D} {vs:List V} {ks:List Key},At K ρ H ds vs->Q8 ds=some ks->vs=ks.map kV
 | _,_,_,.nil,h=>by cases h;rfl
 | _,_,_,.cons r t,h=>by
  unfold Q8 at h;split at h
  ·rename_i k ks h1 h2
   cases h;rw [Mb r h1,NS t h2];rfl
  ·cases h
def Ko (x y:D) (S:Sto):Option (Option D):=match x with
 | .ref n=>match S[n]? with
  | some (.dK kvs)=>match XW y with
   | some k=>some (DL kvs k)
   | none=>none
  | some (.dT kvs)=>match y with
   | .tup ds=>match Q8 ds with
    | some ks=>some (DL kvs ks)
    | none=>none
   | _=>none
  | _=>none
 | _=>none
theorem Py {K:AA} {ρ:List AH} {S:Sto} {H:Hp} {x y:D} {xv yv:V} {o:Option D} (s:Bs K ρ S H) (rx:Be K ρ H x xv) (ry:Be K ρ H y yv) (h:Ko x y S=some o) :
  ∃a o',xv=.ref a/\Ks H a yv o'/\(o=none->o'=none)/\∀d,o=some d->∃v,o'=some v/\Be K ρ H d v:=by
 unfold Ko at h;split at h
 ·rename_i n
  cases rx with
  | @ref _ a hn=>
   split at h
   ·rename_i kvs h1
    split at h
    ·rename_i k hk
     cases h;obtain ⟨kvs',e,r⟩:=s.ob n _ _ h1 hn;rw [Mb ry hk];obtain ⟨v1,v2⟩:=KVR.val k r;exact ⟨a,Ib kvs' k,rfl,Ks.k e,v1,v2⟩
    ·cases h
   ·rename_i kvs h1
    split at h
    ·rename_i ds
     split at h
     ·rename_i ks hk
      cases h;obtain ⟨kvs',e,r⟩:=s.ob n _ _ h1 hn
      cases ry with
      | tup b1 b2=>
       obtain ⟨v1,v2⟩:=KVR.val ks r;rw [NS b2 hk] at b1;exact ⟨a,Ib kvs' ks,rfl,Ks.t e b1,v1,v2⟩
     ·cases h
    ·cases h
   ·cases h
 ·cases h
def Jh (x y:D) (S:Sto):Res D:=match Ko x y S with
 | some (some d)=>.ok d S
 | _=>.bad
def IQ (neg:Bool) (y x:D) (S:Sto):Res D:=match Ko x y S with
 | some o=>.ok (.bl (if neg then !o.isSome else o.isSome)) S
 | none=>.bad
section
variable {X:Cx} {E:EW} {o i value:Expr} {pos pos':Pos} {mo mi mv:ME}
theorem Z1 (hu:X.A.units+1 < D6) (ho:GE X E o mo) (hi:GE X E i mi) (hs:dU i:=by intro _ _;rfl):GE X E (.Subscript o i pos) (m2 Jh mo mi):=(ZS hu ho hi hs).imp λσ H Q h=>by
 refine (Jq h:tOp (rD X.K Jh) (gE X.K E mo) (gE X.K E mi) σ H Q) |> λt=>?_
 obtain ⟨ρ,l,S,hl,hs,k⟩:=t;refine ⟨ρ,l,S,hl,hs,k.imp λx S1 k ρ1 H1 u l1 s1 r1=>?_⟩;obtain ⟨ρ2,l2,S2,hl2,hs2,k2⟩:=k ρ1 H1 u l1 s1 r1;refine ⟨ρ2,l2,S2,hl2,hs2,k2.imp λy S3 k2 ρ3 H3 v l3 s3 r3=>?_⟩;obtain ⟨ρ4,S4,x4,y4,d,S5,s4,r4,r5,hm,k4⟩:=k2 ρ3 H3 v l3 s3 r3;unfold Jh at hm;split at hm
 ·rename_i d' hd
  cases hm;obtain ⟨a,o',rfl,g,_,g2⟩:=Py s4 r4 r5 hd;obtain ⟨w',rfl,rw'⟩:=g2 _ rfl;exact ⟨a,w',rfl,g,k4 ρ4 H3 w' .refl s4 rw'⟩
 ·cases hm
theorem Yu {σ:St} {H:Hp} {Q:VK} (h:gE X.K E (m2 (IQ false) mi mo) σ H Q):eY (gE X.K E mi) (gE X.K E mo) σ H Q:=by
 obtain ⟨ρ,l,S,hl,hs,k⟩:=(Jq h:tOp (rD X.K (IQ false)) (gE X.K E mi) (gE X.K E mo) σ H Q);refine ⟨ρ,l,S,hl,hs,k.imp λx S1 k ρ1 H1 u l1 s1 r1=>?_⟩;obtain ⟨ρ2,l2,S2,hl2,hs2,k2⟩:=k ρ1 H1 u l1 s1 r1;refine ⟨ρ2,l2,S2,hl2,hs2,k2.imp λy S3 k2 ρ3 H3 v l3 s3 r3=>?_⟩;obtain ⟨ρ4,S4,x4,y4,d,S5,s4,r4,r5,hm,k4⟩:=k2 ρ3 H3 v l3 s3 r3;unfold IQ at hm;split at hm
 ·rename_i o' hd
  cases hm;obtain ⟨a,o2,rfl,g,g1,g2⟩:=Py s4 r5 r4 hd;refine ⟨a,o2,rfl,g,?_⟩
  have:o2.isSome=o'.isSome:=by
   cases o' with
   | none=>rw [g1 rfl];rfl
   | some d=>obtain ⟨w',rfl,_⟩:=g2 d rfl;rfl
  rw [this];exact k4 ρ4 H3 _ .refl s4 (.bl _)
 ·cases hm
theorem R9 {σ:St} {H:Hp} {Q:VK} (h:gE X.K E (m2 (IQ true) mi mo) σ H Q):TU (gE X.K E mi) (gE X.K E mo) σ H Q:=by
 obtain ⟨ρ,l,S,hl,hs,k⟩:=(Jq h:tOp (rD X.K (IQ true)) (gE X.K E mi) (gE X.K E mo) σ H Q);refine ⟨ρ,l,S,hl,hs,k.imp λx S1 k ρ1 H1 u l1 s1 r1=>?_⟩;obtain ⟨ρ2,l2,S2,hl2,hs2,k2⟩:=k ρ1 H1 u l1 s1 r1;refine ⟨ρ2,l2,S2,hl2,hs2,k2.imp λy S3 k2 ρ3 H3 v l3 s3 r3=>?_⟩;obtain ⟨ρ4,S4,x4,y4,d,S5,s4,r4,r5,hm,k4⟩:=k2 ρ3 H3 v l3 s3 r3;unfold IQ at hm;split at hm
 ·rename_i o' hd
  cases hm;obtain ⟨a,o2,rfl,g,g1,g2⟩:=Py s4 r5 r4 hd;refine ⟨a,o2,rfl,g,?_⟩
  have:o2.isSome=o'.isSome:=by
   cases o' with
   | none=>rw [g1 rfl];rfl
   | some d=>obtain ⟨w',rfl,_⟩:=g2 d rfl;rfl
  rw [this];exact k4 ρ4 H3 _ .refl s4 (.bl _)
 ·cases hm
theorem XM {K:AA} {m:ME} {σ:St} {H:Hp} {Q:Bool->Hp->Prop} (h:gT K E (mB m) σ H Q):gE K E m σ H λx H1=>∃c,x=.bl c/\Q c H1:=by
 obtain ⟨ρ,l,S,hl,hs,hm⟩:=h;refine ⟨ρ,l,S,hl,hs,hm.seq λd S1 hm ρ1 H1 x l1 s1 r1=>?_⟩
 cases d <;> first | exact hm.elim | skip
 cases r1;exact ⟨_,rfl,hm ρ1 H1 l1 s1⟩
theorem cw (hu:X.A.units+1 < D6) (hi:GE X E i mi) (ho:GE X E o mo) (h1:CW .In o=false:=by rfl):GT X E (.Compare i [.In] [o] pos) (mB (m2 (IQ false) mi mo)):=(Wj (cK hu hi ho) h1).imp λ_ _ _ h=>Yu (XM h)
theorem U6 (hu:X.A.units+1 < D6) (hi:GE X E i mi) (ho:GE X E o mo) (h1:CW .NotIn o=false:=by rfl):GT X E (.Compare i [.NotIn] [o] pos) (mB (m2 (IQ true) mi mo)):=(Wj (Uo hu hi ho) h1).imp λ_ _ _ h=>R9 (XM h)
def SW:ME:=λ_ S=>.ok (.ref S.length) (S++[.dK []])
def XJ:ME:=λ_ S=>.ok (.ref S.length) (S++[.dT []])
theorem Xn:GE X E (.Dict [] [] pos) SW:=(Wz (X:=X) (pos:=pos)).imp λσ H Q ⟨ρ,l,S,hl,hs,k⟩ p hp=>by
 obtain ⟨s2,l2,at2⟩:=hs.alloc (ho:=.dK []) (o:=.dK []) hp ⟨[],Bg,.nil⟩;exact k _ _ _ l2 s2 (.ref at2)
theorem Xm:GE X E (.Dict [] [] pos) XJ:=(Wy (X:=X) (pos:=pos)).imp λσ H Q ⟨ρ,l,S,hl,hs,k⟩ p hp=>by
 obtain ⟨s2,l2,at2⟩:=hs.alloc (ho:=.dT []) (o:=.dT []) hp ⟨[],Bg,.nil⟩;exact k _ _ _ l2 s2 (.ref at2)
def RM (x y v:D) (S:Sto):Option Sto:=match x with
 | .ref n=>match S[n]? with
  | some (.dK kvs)=>match XW y with
   | some k=>if kvs.length < sizeLine then some (S.set n (.dK (FB kvs k v))) else none
   | none=>none
  | some (.dT kvs)=>match y with
   | .tup ds=>match Q8 ds with
    | some ks=>if kvs.length < sizeLine then some (S.set n (.dT (FB kvs ks v))) else none
    | none=>none
   | _=>none
  | _=>none
 | _=>none
def EJ (mo mi mv:ME):MS:=λe S=>(mv e S).lift e λv S1=>(mo e S1).lift e λx S2=>(mi e S2).lift e λy S3=>match RM x y v S3 with
 | some S4=>.ok (.nx e) S4
 | none=>.bad
theorem Pr (hu:X.A.units+1 < D6) (ho:GE X E o mo) (hi:GE X E i mi) (hv:GE X E value mv) (hs:EX value (some (.Subscript o i pos')) pos.line X.env=pure false:=by rfl):GS X E (.Assign [.Subscript o i pos'] value pos) (EJ mo mi mv):=(ZH hu ho hi hv hs).imp λD σ H ⟨ρ,l,S,hl,hs,hm⟩=>by
 refine ⟨ρ,l,S,hl,hs,hm.lift hl .refl λv S1 hm ρ1 H1 vv l1 s1 r1=>⟨ρ1,l,S1,hl.mono l1,s1,(hm.later l1).lift (hl.mono l1) l1 λx S2 hm ρ2 H2 xv l2 s2 r2=>⟨ρ2,l,S2,hl.mono (l1.trans l2),s2,(hm.later l2).lift (hl.mono (l1.trans l2)) (l1.trans l2) λy S3 hm ρ3 H3 yv l3 s3 r3=>?_⟩⟩⟩;have r1':=r1.mono (l2.trans l3);have r2':=r2.mono l3;have hl3:=hl.mono (l1.trans (l2.trans l3));split at hm
 ·rename_i S4 hp
  unfold RM at hp;split at hp
  ·rename_i n
   cases r2' with
   | @ref _ a hn=>
    split at hp
    ·rename_i kvs h4
     split at hp
     ·rename_i ky hk
      split at hp
      ·rename_i hz
       cases hp;obtain ⟨kvs',e,r⟩:=s3.ob n _ _ h4 hn;rw [Mb r3 hk];have le:Le X.K ρ3 H3 ρ3 (upd H3 a (.dK (Ft kvs' ky vv))):=Le.write hn (by rw [e];trivial);obtain ⟨s5,l5⟩:=s3.write (ho:=.dK (Ft kvs' ky vv)) (o:=.dK (FB kvs ky v)) hn ⟨_,Bg,(KVR.put ky r1' r).mono le⟩;exact ⟨a,_,rfl,RW.k e (by rw [<-KVR.length r];exact hz),hm ρ3 _ σ (l1.trans (l2.trans (l3.trans l5))) s5 (hl3.mono l5)⟩
      ·cases hp
     ·cases hp
    ·rename_i kvs h4
     split at hp
     ·rename_i ds
      split at hp
      ·rename_i ks hk
       split at hp
       ·rename_i hz
        cases hp;obtain ⟨kvs',e,r⟩:=s3.ob n _ _ h4 hn
        cases r3 with
        | tup b1 b2=>
         rw [NS b2 hk] at b1;have le:Le X.K ρ3 H3 ρ3 (upd H3 a (.dT (Ft kvs' ks vv))):=Le.write hn (by rw [e];trivial);obtain ⟨s5,l5⟩:=s3.write (ho:=.dT (Ft kvs' ks vv)) (o:=.dT (FB kvs ks v)) hn ⟨_,Bg,(KVR.put ks r1' r).mono le⟩;exact ⟨a,_,rfl,RW.t e b1 (by rw [<-KVR.length r];exact hz),hm ρ3 _ σ (l1.trans (l2.trans (l3.trans l5))) s5 (hl3.mono l5)⟩
       ·cases hp
      ·cases hp
     ·cases hp
    ·cases hp
  ·cases hp
 ·exact hm.elim
end
section
variable {X:Cx} {E:EW} {a b c:Expr} {pos:Pos} {ma mb mc:ME}
theorem UY {K:AA} {f g:D->D->Sto->Res D} {σ:St} {H:Hp} {Q:VK} (h:gE K E (m3 f g ma mb mc) σ H Q):WO (rD K f) (rD K g) (gE K E ma) (gE K E mb) (gE K E mc) σ H Q:=by
 obtain ⟨ρ,l,S,hl,hs,hm⟩:=h;refine ⟨ρ,l,S,hl,hs,hm.seq λx S1 hm ρ1 H1 u l1 s1 r1=>⟨ρ1,l,S1,hl.mono l1,s1,(hm.later l1).seq λy S2 hm ρ2 H2 v l2 s2 r2=>?_⟩⟩
 cases hf:f x y S2 with
 | bad=>rw [hf] at hm;exact hm.elim
 | err _ _=>rw [hf] at hm;exact hm.elim
 | ok z S3=>
  rw [hf] at hm;dsimp only [okR,Res.bind] at hm;refine ⟨ρ2,S2,x,y,z,S3,s2,r1.mono l2,r2,hf,λρ3 H3 w l3 s3 r3=>?_⟩
  cases z with
  | bl k=>
   cases r3;refine ⟨k,rfl,?_⟩
   cases k with
   | true=>
    rw [qX rfl];refine ⟨ρ3,l,S3,hl.mono (l1.trans (l2.trans l3)),s3,Ba.seq (hm.later (l2.trans l3)) λw S4 hm ρ4 H4 wv l4 s4 r4=>?_⟩;obtain ⟨d,S',e,k⟩:=hm.okR;exact ⟨ρ4,S4,y,w,d,S',s4,r2.mono (l3.trans l4),r4,e,λρ' H' z l' s' r'=>k ρ' H' z (l1.trans (l2.trans (l3.trans (l4.trans l')))) s' r'⟩
   | false=>rw [qY AS];exact hm ρ3 H3 _ (l1.trans (l2.trans l3)) s3 (.bl false)
  | _=>exact hm.elim
theorem RD {op op':Rv} {f g:D->D->Sto->Res D} (ho:OpR X (Bb op) (rD X.K f)) (ho':OpR X (Bb op') (rD X.K g)) (ha:GE X E a ma) (hb:GE X E b mb) (hc:GE X E c mc)
  (hm:lastMarks [op,op'] [b,c]=false:=by with_unfolding_all rfl):GT X E (.Compare a [op,op'] [b,c] pos) (mB (m3 f g ma mb mc)):=(Wl ho ho' ha hb hc hm).imp λ_ _ _ h=>UY (XM h)
def SV (m:ME):ME:=λe S=>(m e S).bind λd S1=>match d with
 | .int i=>.ok (.int (-i)) S1
 | _=>.bad
theorem Sg (h:GE X E a ma):GE X E (.UnaryOp .USub a pos) (SV ma):=(fD bT h).imp λσ H Q ⟨ρ,l,S,hl,hs,hm⟩=>by
 refine ⟨ρ,l,S,hl,hs,hm.seq λd S1 hm ρ1 H1 x l1 s1 r1=>?_⟩
 cases d <;> first | exact hm.elim | skip
 cases r1;exact ⟨_,rfl,hm ρ1 H1 _ l1 s1 (.int _)⟩
end
abbrev MO:=Lo->Sto->Res (Option Int)
def gO (K:AA) (E:EW) (m:MO):TO:=λσ H Q=>∃ρ e S,D4 K ρ H e σ/\Bs K ρ S H/\Ba K (λc=>E c σ) ρ H (m e S) λo S'=>∀ρ' H',Le K ρ H ρ' H'->Bs K ρ' S' H'->Q o H'
abbrev GO (X:Cx) (E:EW) (e:Option Expr) (m:MO):Prop:=PO X e (gO X.K E m)
def Qw (m:ME):MO:=λe S=>(m e S).bind λd S1=>match d with
 | .int i=>.ok (some i) S1
 | _=>.bad
def Jx {α:Type} (xs:List α) (lo hi:Option Int):List α:=(xs.drop (HT.sIx xs.length 0 lo)).take (HT.sIx xs.length xs.length hi - HT.sIx xs.length 0 lo)
def Vx (n:Nat) (lo hi:Option Int):Bool:=decide (HT.sIx n 0 lo=0/\HT.sIx n n hi=n)
def SD (d:D) (lo hi:Option Int) (S:Sto):Res D:=match d with
 | .tup ds=>if Vx ds.length lo hi=true then .bad else .ok (.tup (Jx ds lo hi)) S
 | _=>match Pi d S with
  | some ds=>.ok (.ref S.length) (S++[.lst (Jx ds lo hi)])
  | none=>.bad
def Pg (m:ME) (ml mh:MO):ME:=λe S=>(m e S).bind λd S1=>(ml e S1).bind λlo S2=>(mh e S2).bind λhi S3=>okR (SD d lo hi S3)
section
variable {X:Cx} {E:EW} {e:Expr} {lo hi:Option Expr} {pos p2:Pos} {m:ME} {ml mh:MO}
theorem PO.imp {o:Option Expr} {t t':TO} (h:PO X o t) (i:∀σ H Q,t' σ H Q->t σ H Q):PO X o t':=λpins s σ H Q I q=>h pins s σ H Q I (i σ H Q q)
theorem Tu (h:GE X E e m):GO X E (some e) (Qw m):=PO.imp (ZK h) λσ H Q ⟨ρ,l,S,hl,hs,hm⟩=>by
 refine ⟨ρ,l,S,hl,hs,hm.seq λd S1 hm ρ1 H1 x l1 s1 r1=>?_⟩
 cases d <;> first | exact hm.elim | skip
 cases r1;exact ⟨_,rfl,hm ρ1 H1 l1 s1⟩
theorem RN {K:AA} {ρ:List AH} {H:Hp} {ds:List D} {vs:List V} (r:At K ρ H ds vs) (lo hi:Option Int):At K ρ H (Jx ds lo hi) (Ni vs lo hi):=by
 unfold Jx Ni;rw [r.length];exact (r.drop _).take _
theorem Xk (he:GE X E e m) (hl:GO X E lo ml) (hu:GO X E hi mh):GE X E (.Subscript e (.Slice lo hi none p2) pos) (Pg m ml mh):=(Wx (Yz.or bd) he hl hu).imp λσ H Q ⟨ρ,l,S,hl,hs,hm⟩=>by
 refine ⟨ρ,l,S,hl,hs,hm.seq λd S1 hm ρ1 H1 x l1 s1 r1=>⟨ρ1,l,S1,hl.mono l1,s1,(hm.later l1).seq λlo S2 hm ρ2 H2 l2 s2=>⟨ρ2,l,S2,hl.mono (l1.trans l2),s2,(hm.later l2).seq λhi S3 hm ρ3 H3 l3 s3=>?_⟩⟩⟩;obtain ⟨d',S',e,k⟩:=hm.okR;have r3:=r1.mono (l2.trans l3)
 have lst:∀ds,Pi d S3=some ds->Res.ok (.ref S3.length) (S3++[.lst (Jx ds lo hi)])=Res.ok d' S'->eu X.K x lo hi H3 Q:=λds hq e=>by
  cases e;obtain ⟨p,xs,rfl,rr,sq⟩:=Kd s3 r3 hq;refine ⟨p,xs,rfl,sq,λq hq=>?_⟩;have le:Le X.K ρ3 H3 (ρ3++[q]) (upd H3 q (.lst (Ni xs lo hi))):=Le.alloc hq;obtain ⟨s4,l4,at4⟩:=s3.alloc (ho:=.lst (Ni xs lo hi)) (o:=.lst (Jx ds lo hi)) hq ⟨_,Bg,(RN rr lo hi).mono le⟩;exact k _ _ _ (l1.trans (l2.trans (l3.trans l4))) s4 (.ref at4)
 cases d with
 | tup ds=>
  unfold SD at e;dsimp only at e;split at e
  ·cases e
  ·rename_i hw
   cases e
   cases r3 with
   | @tup _ a vs h1 h2=>
    refine .inr ⟨a,vs,rfl,.inl (.inl h1),λz=>hw ?_,λq hq=>?_⟩
    ·unfold Vx
     rw [h2.length];exact wX z
    ·obtain ⟨s4,l4⟩:=Fn (ho:=.tup (Ni vs lo hi)) s3 hq
     exact k _ _ _ (l1.trans (l2.trans (l3.trans l4))) s4 (.tup Bg ((RN h2 lo hi).mono l4))
 | non=>cases e
 | bl _=>cases e
 | int _=>cases e
 | str _=>cases e
 | exc _=>cases e
 | fro ds=>exact .inl (lst ds rfl e)
 | ref n=>
  unfold SD at e;dsimp only at e;split at e
  ·rename_i ds hq
   exact .inl (lst ds hq e)
  ·cases e
end
section
variable {X:Cx} {E:EW} {e:Expr} {p pos:Pos} {m:ME} {ml:ML}
def Fe (m:ME):ME:=λe S=>(m e S).bind λd S1=>match FP d S1 with
 | some ds=>.ok (.tup ds) S1
 | none=>.bad
theorem Hc (hg:Gl X "tuple") (hm:X.mg "tuple" = none) (h:GE X E e m) (he:AU [e] X.env=(false,Bx e X.env) :: AU [] X.env:=by rfl):GE X E (.Call (.Name "tuple" p) [e] [] pos) (Fe m):=
 (Um OP hg hm L1 (FH h Hr he) (by decide) (by decide) he rfl).imp λσ H Q ⟨ρ,l,S,hl,hs,hm⟩=>by
 refine ⟨ρ,l,S,hl,hs,hm.seq λd S1 hm ρ1 H1 x l1 s1 r1=>?_⟩
 cases hq:FP d S1 with
 | none=>rw [hq] at hm;exact hm.elim
 | some ds=>
  rw [hq] at hm
  have newL:∀a vs,x=.ref a->SqL X.K H1 a vs->At X.K ρ1 H1 ds vs->∃p ys,[x]=[.ref p]/\((SqL X.K H1 p ys/\∀l,H1 l=none->Q (.ref l) (upd H1 l (.tup ys)))∨(SqT X.K H1 p ys/\Q (.ref p) H1)):=λa vs e sq rr=>by
   subst e;refine ⟨a,vs,rfl,.inl ⟨sq,λq hq=>?_⟩⟩;obtain ⟨s2,l2⟩:=Fn (ho:=.tup vs) s1 hq;exact hm _ _ _ (l1.trans l2) s2 (.tup Bg (rr.mono l2))
  cases r1 with
  | @tup _ a vs h1 h2=>cases hq;exact ⟨a,vs,rfl,.inr ⟨.inl (.inl h1),hm ρ1 H1 _ l1 s1 (.tup h1 h2)⟩⟩
  | @fro _ a vs h1 h2=>cases hq;exact newL a vs rfl h1.sq h2
  | @ref n a hn=>
   obtain ⟨o,ho,ro⟩:=s1.there hn;unfold FP at hq;simp only [ho] at hq
   cases o with
   | lst es=>cases hq;obtain ⟨vs,e,rr⟩:=ro;exact newL a vs rfl (.inl (.inl e)) rr
   | _=>cases hq
  | _=>cases hq
variable {o:Expr} {apos cpos:Pos} {mo ma:ME}
end
section
variable {X:Cx} {E:EW}
def Ga:List D->Option (List Int)
 | []=>some []
 | .int b :: ds=>(Ga ds).map (b :: ·)
 | _ :: _=>none
theorem Ir:∀ {ds:List D} {ns:List Int},Ga ds=some ns->ds=ns.map D.int
 | [],_,h=>by cases h;rfl
 | .int b :: ds,ns,h=>by
  unfold Ga at h
  cases hq:Ga ds with
  | none=>rw [hq] at h;cases h
  | some cs=>rw [hq] at h;cases h;rw [Ir hq];rfl
 | .non :: _,_,h=>by cases h
 | .bl _ :: _,_,h=>by cases h
 | .str _ :: _,_,h=>by cases h
 | .tup _ :: _,_,h=>by cases h
 | .fro _ :: _,_,h=>by cases h
 | .ref _ :: _,_,h=>by cases h
 | .exc _ :: _,_,h=>by cases h
variable {e:Expr} {m:ME} {ml:ML} {p pos:Pos}
def rIsi (K:AA) (c:V) (cv:AB):List V->Hp->VK->Prop:=λxs H Q=>∃x t b,xs=[x,c]/\LZ K H x t/\Mh K t cv=some b/\Q (.bl b) H
theorem X5 {c:V} {cv:AB} (hv:∀u,RelV c u->u=cv):IP X (.builtin "isinstance") (rIsi X.K c cv):=by
 intro pins s σ H xs us Q I r h;obtain ⟨x,t,b,rfl,ty,e,q⟩:=h;obtain ⟨u,w,rfl,r1,r2⟩:=vals2 r;rw [hv w r2]
 exact U0 I r1 ty e λtk=>⟨.bl b,H,I.tok tk,rfl,q⟩
end
def En {α:Type} (r r':Res α):Res α:=match r with
 | .bad=>r'
 | r=>r
theorem Ur {α:Type} (r r':Res α):En r r'=r∨En r r'=r':=by cases r <;> simp [En]
def op2 (f g:D->D->Sto->Res D):D->D->Sto->Res D:=λx y S=>En (f x y S) (g x y S)
theorem XN (f g:D->D->Sto->Res D) (ma mb:ME) (l:Lo) (S:Sto):m2 (op2 f g) ma mb l S=m2 f ma mb l S∨m2 (op2 f g) ma mb l S=m2 g ma mb l S:=by
 unfold m2
 cases ma l S with
 | ok x S1=>
  dsimp only [Res.bind]
  cases mb l S1 with
  | ok y S2=>
   dsimp only [Res.bind];unfold op2
   rcases Ur (f x y S2) (g x y S2) with e | e <;> rw [e] <;> simp
  | err c S2=>exact .inl rfl
  | bad=>exact .inl rfl
 | err c S1=>exact .inl rfl
 | bad=>exact .inl rfl
section
variable {X:Cx} {E:EW} {e o i:Expr} {pos:Pos} {m m1 m2':ME}
theorem dA {m m1 m2:ME} (h1:GE X E e m1) (h2:GE X E e m2) (h:∀l S,m l S=m1 l S∨m l S=m2 l S):GE X E e m:=λpins s σ H Q I ⟨ρ,l,S,hl,hs,a⟩=>by
 rcases h l S with q | q
 ·rw [q] at a;exact h1 pins s σ H Q I ⟨ρ,l,S,hl,hs,a⟩
 ·rw [q] at a;exact h2 pins s σ H Q I ⟨ρ,l,S,hl,hs,a⟩
theorem Xh {t t1 t2:MT} (h1:GT X E e t1) (h2:GT X E e t2) (h:∀l S,t l S=t1 l S∨t l S=t2 l S):GT X E e t:=λpins s σ H Q I ⟨ρ,l,S,hl,hs,a⟩=>by
 rcases h l S with q | q
 ·rw [q] at a;exact h1 pins s σ H Q I ⟨ρ,l,S,hl,hs,a⟩
 ·rw [q] at a;exact h2 pins s σ H Q I ⟨ρ,l,S,hl,hs,a⟩
theorem c5 {tg:Expr} {t t1 t2:MI} (h1:GI X E tg e t1) (h2:GI X E tg e t2) (h:∀l S,t l S=t1 l S∨t l S=t2 l S):GI X E tg e t:=λpins s σ H R I ⟨ρ,l,S,hl,hs,a⟩=>by
 rcases h l S with q | q
 ·rw [q] at a;exact h1 pins s σ H R I ⟨ρ,l,S,hl,hs,a⟩
 ·rw [q] at a;exact h2 pins s σ H R I ⟨ρ,l,S,hl,hs,a⟩
theorem aa {m m1 m2:ME} (h:∀l S,m l S=m1 l S∨m l S=m2 l S) (l:Lo) (S:Sto):mB m l S=mB m1 l S∨mB m l S=mB m2 l S:=by
 unfold mB
 rcases h l S with q | q <;> rw [q] <;> simp
abbrev inA (neg:Bool):=op2 (inD neg) (IQ neg)
variable {mi mo:ME}
theorem RC (hu:X.A.units+64 < D6) (hi:GE X E i mi) (ho:GE X E o mo) (h1:CW .In o=false:=by with_unfolding_all rfl):GT X E (.Compare i [.In] [o] pos) (mB (m2 (inA false) mi mo)):=
 Xh (D3 (fQ hu) hi ho h1) (cw (by lia) hi ho h1) (aa λ_ _=>XN _ _ _ _ _ _)
theorem Iu (hu:X.A.units+64 < D6) (hi:GE X E i mi) (ho:GE X E o mo) (h1:CW .NotIn o=false:=by with_unfolding_all rfl):GT X E (.Compare i [.NotIn] [o] pos) (mB (m2 (inA true) mi mo)):=
 Xh (D3 (W5 hu) hi ho h1) (U6 (by lia) hi ho h1) (aa λ_ _=>XN _ _ _ _ _ _)
abbrev ixA:=op2 ixD Jh
theorem Dm (hu:X.A.units+64 < D6) (ho:GE X E o mo) (hi:GE X E i mi) (hs:QA i:=by intro _ _;rfl):GE X E (.Subscript o i pos) (m2 ixA mo mi):=
 dA (ft fP ho hi hs) (Z1 (by lia) ho hi hs) λ_ _=>XN _ _ _ _ _ _
def Fi (d:D):Gm:=match d with
 | .tup ds=>Gz ds
 | d=>Lk d
def FU (m:ME):MI:=λe S=>(m e S).bind λd S1=>match Fi d S1 with
 | some _=>.ok (Fi d) S1
 | none=>.bad
theorem Gb {tg:Expr} (h:GE X E e m):GI X E tg e (FU m):=c5 (c0 h) (cz h) λl S=>by
 unfold FU fm ag
 cases m l S with
 | ok d S1=>
  dsimp only [Res.bind]
  cases d <;> first | exact .inl rfl | exact .inr rfl
 | err c S1=>exact .inl rfl
 | bad=>exact .inl rfl
def HZ (m:ME):ME:=λe S=>(m e S).bind λd S1=>match FP d S1 with
 | some ds=>.ok (.int ds.length) S1
 | none=>.bad
variable {p:Pos} {ml:ML} {es:List Expr}
theorem HG (hg:Gl X "len") (hm:X.mg "len" = none) (h:GE X E e m) (he:AU [e] X.env=(false,Bx e X.env) :: AU [] X.env:=by rfl):GE X E (.Call (.Name "len" p) [e] [] pos) (HZ m):=
 (Tv P5 bf hg hm YS (ah h) (by decide) (by decide) he).imp λσ H Q ⟨ρ,l,S,hl,hs,a⟩=>⟨ρ,l,S,hl,hs,by
  have q:mQ ff (Q4 m) l S=HZ m l S:=by
   unfold mQ Q4 HZ
   cases m l S with
   | ok d S1=>
    dsimp only [Res.bind]
    cases FP d S1 <;> rfl
   | err c S1=>rfl
   | bad=>rfl
  rw [q];exact a⟩
theorem Tw {a b:Expr} (hc:X.calm=true) (hg:Gl X "min") (hm:X.mg "min" = none) (h:GA X E [a,b] ml) (he:AU [a,b] X.env=(false,Bx a X.env) :: AU [b] X.env:=by rfl) (hpl:(C4 pos (AU [b] X.env)).any (·.1)=false:=by rfl):GE X E (.Call (.Name "min" p) [a,b] [] pos) (mQ Lp ml):=
 T0 (VP hc) aG hg hm Mj h (by decide) (by decide) he hpl
theorem Zy {a b:Expr} (hc:X.calm=true) (hg:Gl X "max") (hm:X.mg "max" = none) (h:GA X E [a,b] ml) (he:AU [a,b] X.env=(false,Bx a X.env) :: AU [b] X.env:=by rfl) (hpl:(C4 pos (AU [b] X.env)).any (·.1)=false:=by rfl):GE X E (.Call (.Name "max" p) [a,b] [] pos) (mQ Ol ml):=
 T0 (VR hc) aH hg hm gX h (by decide) (by decide) he hpl
end
abbrev MJ:=Str->Lo->Sto->Res Str
def cp:MJ:=λacc _ S=>if acc.length<=sizeLine then .ok acc S else .bad
def Tp (m:ME) (r:MJ):MJ:=λacc e S=>(m e S).bind λd S1=>match d with
 | .str y=>if (acc++y).length<=sizeLine then r (acc++y) e S1 else .bad
 | _=>.bad
def gJ (K:AA) (E:EW) (m:MJ) (acc:Str):TE:=λσ H Q=>∃ρ e S,D4 K ρ H e σ/\Bs K ρ S H/\Ba K (λc=>E c σ) ρ H (m acc e S) λy S'=>∀ρ' H',Le K ρ H ρ' H'->Bs K ρ' S' H'->Q (.str y) H'
def GJ (X:Cx) (E:EW) (es:List Expr) (m:MJ):Prop:=∀(acc:Str) (pins:List (AH×Obj)) (s:AD) (σ:St) (H:Hp) (Q:VK),Inv X pins σ H s->gJ X.K E m acc σ H Q->Ad (AT X.prog X.w) X.A (joinParts acc (evalEach es X.env)) (EP X pins σ Q) X.xe s
def aZ (m:MJ):ME:=λe S=>(m RX e S).bind λy S1=>.ok (.str y) S1
def fY (m:ME):ME:=λe S=>(m e S).bind λd S1=>match d with
 | .int i=>if i.natAbs.log2 < 1920 then .ok (.str (toString i)) S1 else .bad
 | _=>.bad
section
variable {X:Cx} {E:EW} {e a b:Expr} {es:List Expr} {pos:Pos} {m:ME} {mj:MJ}
theorem cy:GJ X E [] cp:=λacc pins s σ H Q I ⟨ρ,l,S,hl,hs,hm⟩=>by
 unfold cp at hm;split at hm
 ·rename_i hz
  exact joinParts_nil ⟨.str acc,H,I.tok _,⟨_,rfl⟩,hm ρ H .refl hs⟩ hz
 ·exact hm.elim
theorem Pt (h:GE X E e m) (hr:GJ X E es mj):GJ X E (e :: es) (Tp m mj):=λacc pins s σ H Q I ⟨ρ,l,S,hl,hs,hm⟩=>by
 show Ad _ _ (joinParts acc (Bx e X.env :: evalEach es X.env)) _ _ s;refine joinParts_cons (thn (h pins s σ H (λx H1=>∃y,x=.str y/\(acc++y).length<=sizeLine/\gJ X.K E mj (acc++y) σ H1 Q) I ⟨ρ,l,S,hl,hs,Ba.seq hm λd S1 hm ρ1 H1 x l1 s1 r1=>?_⟩) λu s1 ⟨x,H1,I1,rx,y,ex,hz,q⟩=>?_)
 ·cases d <;> first | exact hm.elim | skip
  dsimp only at hm;split at hm
  ·rename_i y hz
   cases r1;exact ⟨y,rfl,hz,ρ1,l,S1,hl.mono l1,s1,hm.go l1 λ_ _ k ρ2 H2 l2 s2=>k ρ2 H2 (l1.trans l2) s2⟩
  ·exact hm.elim
 ·subst ex
  obtain ⟨t,rfl⟩:=rx;exact ⟨hz,hr _ pins s1 σ H1 Q I1 q⟩
theorem Z0 (h:GJ X E (a :: b :: es) mj):GE X E (.JoinedStr (a :: b :: es) pos) (aZ mj):=λpins s σ H Q I ⟨ρ,l,S,hl,hs,hm⟩=>by
 refine JoinedStr_many (h RX pins s σ H Q I ⟨ρ,l,S,hl,hs,Ba.seq hm λy S1 hm ρ1 H1 l1 s1=>hm ρ1 H1 _ l1 s1 (.str y)⟩)
theorem c8 (h:GE X E e m):GE X E (.FormattedValue e (-1) none pos) (fY m):=λpins s σ H Q I ⟨ρ,l,S,hl,hs,hm⟩=>by
 refine FormattedValue_plain (thn (h pins s σ H (λx H1=>∃i:Int,x=.int i/\i.natAbs.log2 < 1920/\Q (.str (toString i)) H1) I ⟨ρ,l,S,hl,hs,Ba.seq hm λd S1 hm ρ1 H1 x l1 s1 r1=>?_⟩) λu s1 ⟨x,H1,I1,rx,i,ex,hz,q⟩=>?_)
 ·cases d <;> first | exact hm.elim | skip
  dsimp only at hm;split at hm
  ·rename_i hz
   cases r1;exact ⟨_,rfl,hz,hm ρ1 H1 _ l1 s1 (.str _)⟩
  ·exact hm.elim
 ·subst ex
  obtain ⟨t,rfl⟩:=rx;exact wpAny_formatField_int hz ⟨.str (toString i),H1,I1.tok _,⟨_,rfl⟩,q⟩
end
section
variable {X:Cx} {E:EW} {o e:Expr} {apos cpos:Pos} {mo ma:ME}
end
def Yk (sc:Gs) (x:Str):Bool:=decide (sc.names.lookup x=some .local)||decide (sc.names.lookup x=some .cell)||decide (sc.names.lookup x=some .free)
def X1 (X:Cx) (scope:Gs) (own N':List Str):Bool:=
 decide (scope.kind=.function)&&scope.names.all (λy=>!decide (y.2=.cell))&&scope.names.all (λy=>!decide (y.2=.local)||decide (scope.names.lookup y.1=some .local)) &&
 scope.names.all (λy=>!decide (y.2=.free)||decide (X.env.kindOf y.1=some .cell)||decide (X.env.kindOf y.1=some .free))&&decide (N'.length=own.length+X.N.length) &&
 ((N'.drop own.length).zip X.N).all (λp=>!Yk (HP scope X.env) p.1||(decide (p.1=p.2)&&Yk X.env.scope p.1&&(decide ((HP scope X.env).names.lookup p.1=some .cell)||decide ((HP scope X.env).names.lookup p.1=some .free))&&!decide (X.env.kindOf p.1=some .local))) &&
 (HP scope X.env).names.all (λy=>(!decide (y.2=.cell)&&!decide (y.2=.free))||scope.names.any (λz=>decide (z=(y.1,Gv))))
theorem QX {sc:Gs} {x:Str}:Yk sc x=true↔Vis sc x:=by
 unfold Yk Vis;simp [or_assoc]
theorem Hz {X:Cx} {scope:Gs} {own N':List Str} (h:X1 X scope own N'=true):J2 X scope own N':=by
 unfold X1 at h;simp only [CN] at h;obtain ⟨⟨⟨⟨⟨⟨h1,h2⟩,h3⟩,h4⟩,h5⟩,h6⟩,h7⟩:=h;rw [IH] at h2 h3 h4 h6 h7;refine ⟨of_decide_eq_true h1,λy hy=>?_,λy hy e=>?_,λy hy e=>?_,of_decide_eq_true h5,λi x e v=>?_,λx hx=>?_⟩
 ·simpa using h2 y hy
 ·have:=h3 y hy
  simpa [e] using this
 ·have:=h4 y hy
  simpa [e] using this
 ·have hlen:=of_decide_eq_true h5
  have hi:own.length+i < N'.length:=(AE.mp e).1
  have hx:i < X.N.length:=by lia
  have hm:(x,X.N[i])∈(N'.drop own.length).zip X.N:=by
   rw [List.mem_iff_getElem?];refine ⟨i,?_⟩;rw [List.getElem?_zip_eq_some];exact ⟨by rw [Eb];exact e,by simp [hx]⟩
  have:=h6 _ hm;rw [QX.mpr v] at this;simp only [Hg,bE,CN,Bool.or_eq_true,decide_eq_true_eq,Vv,decide_eq_false_iff_not] at this;obtain ⟨⟨⟨z1,z2⟩,z3⟩,z4⟩:=this;exact ⟨by rw [z1];simp [hx],QX.mp z2,z3,z4⟩
 ·have key:∀k,(HP scope X.env).names.lookup x=some k->(k=.cell∨k=.free)->(x,Gv)∈scope.names:=λk e hk=>by
   have:=h7 _ (DK e)
   rcases hk with rfl | rfl
   ·simpa using this
   ·simpa using this
  rcases hx with e | e
  ·exact key _ e (.inl rfl)
  ·exact key _ e (.inr rfl)
structure Dfn (K:AA) (mg:Str->Option AB) (x qual:Str) (st:Cw) (ps:List Str) where
 f:AH
 fd:C6
 F:Fun K x qual st f fd
 b:Binds K fd ps []
 m:mg x=some (.ref f)
theorem Dfn.kp {K:AA} {mg:Str->Option AB} {x qual:Str} {st:Cw} {ps:List Str} (d:Dfn K mg x qual st ps):Ec K (.ref d.f)=true:=d.F.kp
structure Mtd (K:AA) (x qual:Str) (st:Cw) (ps:List Str) where
 f:AH
 fd:C6
 F:Fun K x qual st f fd
 b:Binds K fd ps []
structure Own (K:AA) (mg:Str->Option AB) (x:Str) (C f:AH):Prop where
 cl:Cls K C
 mk':Mk K C f
 m:mg x=some (.ref C)
structure Xcl (K:AA) (mg:Str->Option AB) (x:Str) (C:AH):Prop where
 xc:XCl K C
 m:mg x=some (.ref C)
abbrev wN:Nat:=1000000
structure XIs (K:AA) (C:AH):Prop where
 cl:(YG K C).isSome=true
 ga:By K (.ref C) "__getattribute__" = some (some (.builtin "BaseException.__getattribute__"))
 gn:By K (.ref C) "__getattr__" = some none
 ca:By K (.ref C) "__class__" = some (some (.builtin "object.__class__"))
 sp:J9 K (.builtin "object.__class__") "__get__" = some (some (.builtin "getset_descriptor.__get__"))
 tk:Lz K (.builtin "object.__class__")=some true
 ob:G9 K C (.type "object")=some true
 be:G9 K C (.type "BaseException")=some true
section
variable {prog:Ah} {w:A1} {A:Aw} {E:AB->AD->Prop} {s:AD} {K:AA} {a C:AH} {o:Obj}
end
section
variable {X:Cx} {E:EW} {e ce:Expr} {p pos:Pos} {m:ME} {c:V} {cv:AB} {tab:String->Option Bool} {tabC:AH->Option Bool}
end
end L2
namespace Srt
open PySem PyProof.Rows
structure Ord (U:Ag->Prop) (lt:Ag->Ag->Bool):Prop where
 asym:∀x y,U x->U y->lt x y=true->lt y x=false
 ntr:∀x y z,U x->U y->U z->lt y x=false->lt z y=false->lt z x=false
theorem Ord.irr {U:Ag->Prop} {lt:Ag->Ag->Bool} (o:Ord U lt) {x:Ag} (h:U x):lt x x=false:=by
 cases e:lt x x with
 | false=>rfl
 | true=>exact (o.asym x x h h e).symm.trans e |>.symm▸rfl
def ix (xs:Array Ag) (i:Nat):Ag:=xs.getD i (.none,.none)
theorem Ha {xs ys:Array Ag} {i j:Nat} (h:xs[i]?=ys[j]?):ix xs i=ix ys j:=by
 unfold ix;rw [De,De,h]
theorem Cd {xs:Array Ag} {i:Nat} (h:i < xs.size):xs[i]?=some (ix xs i):=by
 unfold ix;rw [De,getElem?_pos xs i h];rfl
theorem Uz {xs:Array Ag} {src d:Nat} (hs:src < xs.size) (hd:d<=src) (k:Nat) :
  ix (ax xs src d) k=if k=src - d then ix xs src else if src - d < k/\k<=src then ix xs (k - 1) else ix xs k:=by
 have e:=getElem?_bubble hs d hd k;split
 ·rename_i h;rw [qX h] at e;exact Ha e
 ·rename_i h
  rw [qY h] at e;split
  ·rename_i h2;rw [qX h2] at e;exact Ha e
  ·rename_i h2;rw [qY h2] at e;exact Ha e
theorem DJ {xs:Array Ag} {i j:Nat} (hj:j<=xs.size) (k:Nat) :
  ix (Hi xs i j ((j - i) / 2)) k=if i<=k/\k < j then ix xs (i+j - 1 - k) else ix xs k:=by
 have e:=getElem?_mirror_all (i:=i) hj k;split
 ·rename_i h;rw [qX h] at e;exact Ha e
 ·rename_i h;rw [qY h] at e;exact Ha e
section
variable {prog:Ah} {w:A1} {A:Aw} {E:AB->AD->Prop} {s:AD} {a₀:Array Ag} {κ:EF} {lt:Ag->Ag->Bool}
def IN (prog:Ah) (w:A1) (A:Aw) (s:AD) (a₀:Array Ag) (κ:EF) (lt:Ag->Ag->Bool):Prop:=
 ∀x y,x∈a₀->y∈a₀->∀(Q:Bool->AD->Prop) (E:AB->AD->Prop),Q (lt x y) s->Ad (AT prog w) A (keyLt' κ x.1 y.1) Q E s
structure Good (a₀:Array Ag) (κ:EF) (st:BA):Prop where
 perm:(AQ st).Perm a₀
 kind:kindOf st=κ
 failed:Gq st=none
theorem Good.size {st:BA} (g:Good a₀ κ st):(AQ st).size=a₀.size:=g.perm.size_eq
theorem Good.mem {st:BA} (g:Good a₀ κ st) {i:Nat} (h:i < a₀.size):ix (AQ st) i∈a₀:=by
 have h':i < (AQ st).size:=by rw [g.size];exact h
 have e:=Cd h';have:=CG e;exact BI.mp ((Ds.mp g.perm).mem_iff.mp (BI.mpr this))
theorem Good.setArr {st:BA} (g:Good a₀ κ st) {xs:Array Ag} (hp:xs.Perm (AQ st)):Good a₀ κ (setArr st xs):=⟨hp.trans g.perm,g.kind,g.failed⟩
theorem Mp {st:BA} {x y:Ag} {Q:Option Bool->BA->Prop} (C:IN prog w A s a₀ κ lt) (g:Good a₀ κ st) (hx:x∈a₀) (hy:y∈a₀) (h:Q (some (lt x y)) st):wpS (AT prog w) A E s (lt' x y) Q st:=by
 rw [lt'_eq];refine AL (FW ?_);rw [g.kind];refine AL (wpS_lift (MN ?_));refine C x y hx hy _ _ ⟨rfl,?_⟩;exact AM h
theorem K6 {st:BA} {i j:Nat} {Q:Option Bool->BA->Prop} (C:IN prog w A s a₀ κ lt) (g:Good a₀ κ st) (hi:i < a₀.size) (hj:j < a₀.size) (h:Q (some (lt (ix (AQ st) i) (ix (AQ st) j))) st) :
  wpS (AT prog w) A E s (dc i j) Q st:=by
 rw [ltAt'_eq];refine AL (FW ?_);show wpS _ _ _ _ (do let x <-elem' (AQ st) i;let y <-elem' (AQ st) j;lt' x y) Q st;rw [YQ,YQ,Cd (by rw [g.size];exact hi),Cd (by rw [g.size];exact hj)];exact AL (AM (AL (AM (Mp C g (g.mem hi) (g.mem hj) h))))
def Up (lt:Ag->Ag->Bool) (xs:Array Ag) (lo hi:Nat):Prop:=∀i j,lo<=i->i<=j->j < hi->lt (ix xs j) (ix xs i)=false
def Dn (lt:Ag->Ag->Bool) (xs:Array Ag) (lo hi:Nat):Prop:=∀i j,lo<=i->i<=j->j < hi->lt (ix xs i) (ix xs j)=false
def Out (xs ys:Array Ag) (lo hi:Nat):Prop:=∀i,(i < lo∨hi<=i)->ix ys i=ix xs i
theorem Out.refl {xs:Array Ag} {lo hi:Nat}:Out xs xs lo hi:=λ_ _=>rfl
theorem Out.trans {xs ys zs:Array Ag} {lo hi:Nat} (a:Out xs ys lo hi) (b:Out ys zs lo hi):Out xs zs lo hi:=λi h=>(b i h).trans (a i h)
theorem Up.out {xs ys:Array Ag} {lo hi l h:Nat} (u:Up lt xs l h) (o:Out xs ys lo hi) (d:h<=lo∨hi<=l):Up lt ys l h:=λi j h1 h2 h3=>by
 rw [o i (by lia),o j (by lia)];exact u i j h1 h2 h3
theorem Up.grow {st:BA} (O:Ord (·∈a₀) lt) (g:Good a₀ κ st) {lo hi:Nat} (hs:hi < a₀.size) (u:Up lt (AQ st) lo hi) (h0:lo < hi) (h:lt (ix (AQ st) hi) (ix (AQ st) (hi - 1))=false):Up lt (AQ st) lo (hi+1):=λi j h1 h2 h3=>by
 by_cases hj:j < hi
 ·exact u i j h1 h2 hj
 ·have:j=hi:=by lia
  subst this
  by_cases hi':i=j
  ·subst hi';exact O.irr (g.mem hs)
  ·exact O.ntr _ _ _ (g.mem (by lia)) (g.mem (show j - 1 < _ by omega)) (g.mem hs) (u i (j - 1) h1 (by lia) (by lia)) h
theorem wpS_binarySort {st:BA} {lo n ok:Nat} {Q:Bool->BA->Prop} (C:IN prog w A s a₀ κ lt) (O:Ord (·∈a₀) lt) (hn:lo+n<=a₀.size) (hok:ok<=n) (g:Good a₀ κ st) (u:Up lt (AQ st) lo (lo+ok))
  (h:∀st',Good a₀ κ st'->Up lt (AQ st') lo (lo+n)->Out (AQ st) (AQ st') lo (lo+n)->AR st'=AR st->Q true st'):wpS (AT prog w) A E s (binarySort' lo n ok) Q st:=by
 rw [binarySort'_eq]
 refine AL (Ca (Bi (I:=λk c st'=>c=(none,())/\Good a₀ κ st'/\Up lt (AQ st') lo (lo+min k n)/\Out (AQ st) (AQ st') lo (lo+n)/\AR st'=AR st)
  (Q:=λc st'=>c=(none,())/\Good a₀ κ st'/\Up lt (AQ st') lo (lo+n)/\Out (AQ st) (AQ st') lo (lo+n)/\AR st'=AR st) ?step ?fin ?init) ?post)
 case post=>
  rintro c st' ⟨rfl,g',u',o',p'⟩;exact AM (h st' g' u' o' p')
 case init=>
  refine ⟨rfl,g,λi j h1 h2 h3=>?_,.refl,rfl⟩
  by_cases h0:ok=0
  ·have:i=j:=by lia
   subst this;exact O.irr (g.mem (by omega))
  ·exact u i j h1 h2 (by lia)
 case fin=>
  rintro c st' ⟨hc,g',u',o',p'⟩;refine ⟨hc,g',?_,o',p'⟩;rwa [show min (max (max ok 1) n) n=n by lia] at u'
 case step=>
  rintro k c st1 hak hkn ⟨rfl,g1,u1,o1,p1⟩;rw [show min k n=k by lia] at u1
  have hk:lo+k < a₀.size:=by lia
  refine AL (Ca (Bi (I:=λx c st2=>st2=st1/\∃l r,c=(none,l,r)/\l<=r/\r<=k/\r - l<=k - x /\
    (∀i,i < l->lt (ix (AQ st1) (lo+k)) (ix (AQ st1) (lo+i))=false)/\(∀i,r<=i->i < k->lt (ix (AQ st1) (lo+k)) (ix (AQ st1) (lo+i))=true))
   (Q:=λc st2=>st2=st1/\∃l r,c=(none,l,r)/\l<=k /\
    (∀i,i < l->lt (ix (AQ st1) (lo+k)) (ix (AQ st1) (lo+i))=false)/\(∀i,l<=i->i < k->lt (ix (AQ st1) (lo+k)) (ix (AQ st1) (lo+i))=true)) ?istep ?ifin ?iinit) ?ipost)
  case iinit=>exact ⟨rfl,0,k,rfl,by lia,by lia,by lia,λi hi=>by lia,λi h1 h2=>by lia⟩
  case ifin=>
   rintro c st2 ⟨rfl,l,r,rfl,hlr,hrk,hm,hlo,hhi⟩
   have:l=r:=by lia
   subst this;exact ⟨rfl,l,l,rfl,hrk,hlo,hhi⟩
  case istep=>
   rintro x c st2 _ hxk ⟨rfl,l,r,rfl,hlr,hrk,hm,hlo,hhi⟩;dsimp only
   by_cases hge:l ≥ r
   ·rw [qX hge]
    have:l=r:=by lia
    subst this;exact AM ⟨rfl,l,l,rfl,hrk,hlo,hhi⟩
   ·rw [qY hge]
    refine AL (K6 C g1 hk (by lia) ?_)
    cases hless:lt (ix (AQ st2) (lo+k)) (ix (AQ st2) (lo+(l+r) / 2)) with
    | true=>
     refine AM ⟨rfl,l,(l+r) / 2,rfl,by lia,by lia,by omega,hlo,λi h1 h2=>?_⟩
     cases e:lt (ix (AQ st2) (lo+k)) (ix (AQ st2) (lo+i)) with
     | true=>rfl
     | false=>
      have:=O.ntr _ _ _ (g1.mem (show lo+(l+r) / 2 < _ by lia)) (g1.mem (show lo+i < _ by lia)) (g1.mem hk) (u1 (lo+(l+r) / 2) (lo+i) (by lia) (by lia) (by lia)) e;rw [hless] at this;cases this
    | false=>
     refine AM ⟨rfl,(l+r) / 2+1,r,rfl,by lia,by omega,by omega,λi h1=>?_,hhi⟩;exact O.ntr _ _ _ (g1.mem (show lo+i < _ by lia)) (g1.mem (show lo+(l+r) / 2 < _ by lia)) (g1.mem hk) (u1 (lo+i) (lo+(l+r) / 2) (by lia) (by lia) (by lia)) hless
  case ipost=>
   rintro c st2 ⟨rfl,l,r,rfl,hlk,hlo,hhi⟩;show wpS _ _ _ _ (do moveDown' (lo+k) (lo+l);pure (FO (none,()))) _ _;rw [moveDown'_eq]
   have hks:lo+k < (AQ st2).size:=by rw [g1.size];exact hk
   have e:∀i,ix (ax (AQ st2) (lo+k) (lo+k - (lo+l))) i=if i=lo+l then ix (AQ st2) (lo+k) else if lo+l < i/\i<=lo+k then ix (AQ st2) (i - 1) else ix (AQ st2) i:=λi=>by
    rw [Uz hks (by lia),show lo+k - (lo+k - (lo+l))=lo+l by lia]
   refine AL (Cn (AM ⟨rfl,g1.setArr (bubble_perm _ _ _),?_,o1.trans λi hi=>?_,p1⟩))
   ·rw [show min (k+1) n=k+1 by lia]
    intro i j h1 h2 h3;show lt (ix (ax (AQ st2) (lo+k) (lo+k - (lo+l))) j) (ix (ax (AQ st2) (lo+k) (lo+k - (lo+l))) i)=false;rw [e,e]
    repeat' split
    all_goals first
     | (exfalso;lia)
     | exact O.irr (g1.mem hk)
     | (have q:=hlo (i - lo) (by lia);rw [show lo+(i - lo)=i by lia] at q;exact q)
     | (have q:=hhi (j - 1 - lo) (by omega) (by omega);rw [show lo+(j - 1 - lo)=j - 1 by lia] at q;exact O.asym _ _ (g1.mem hk) (g1.mem (by lia)) q)
     | exact u1 _ _ (by omega) (by omega) (by lia)
   ·show ix (ax (AQ st2) (lo+k) (lo+k - (lo+l))) i=ix (AQ st2) i
    rw [e,qY (by lia),qY (by lia)]
end
section
variable {prog:Ah} {w:A1} {A:Aw} {E:AB->AD->Prop} {s:AD} {a₀:Array Ag} {κ:EF} {lt:Ag->Ag->Bool}
theorem HW {σ:Type} {M:Rt} {r:String} {Q:PUnit->σ->Prop} {st:σ} (h:Q ⟨⟩ st):wpS M A E s (liftM (rule r):StateT σ Sem PUnit) Q st:=wpS_lift (ap ⟨rfl,h⟩)
theorem Dn.flip {xs:Array Ag} {lo hi:Nat} (hs:hi<=xs.size) (d:Dn lt xs lo hi):Up lt (Hi xs lo hi ((hi - lo) / 2)) lo hi:=λi j h1 h2 h3=>by
 rw [DJ hs,DJ hs,qX (by lia),qX (by lia)];exact d _ _ (by omega) (by omega) (by omega)
theorem Dn.part {xs:Array Ag} {lo hi m:Nat} (hs:hi<=xs.size) (hm:lo<=m) (hmh:m<=hi) (d:Dn lt xs lo hi) (e:Up lt xs m hi):Dn lt (Hi xs m hi ((hi - m) / 2)) lo hi:=λi j h1 h2 h3=>by
 rw [DJ hs,DJ hs]
 by_cases hi':m<=i
 ·rw [qX (by lia),qX (by lia)]
  exact e _ _ (by omega) (by omega) (by omega)
 ·rw [qY (by lia)]
  split
  ·exact d _ _ (by omega) (by lia) (by omega)
  ·exact d _ _ (by omega) (by omega) (by omega)
theorem Hs {xs:Array Ag} {i j lo hi:Nat} (hj:j<=xs.size) (h1:lo<=i) (h2:j<=hi):Out xs (Hi xs i j ((j - i) / 2)) lo hi:=λk hk=>by
 rw [DJ hj,qY (by lia)]
theorem Dn.grow {st:BA} (O:Ord (·∈a₀) lt) (g:Good a₀ κ st) {lo hi:Nat} (hs:hi < a₀.size) (u:Dn lt (AQ st) lo hi) (h0:lo < hi) (h:lt (ix (AQ st) (hi - 1)) (ix (AQ st) hi)=false):Dn lt (AQ st) lo (hi+1):=λi j h1 h2 h3=>by
 by_cases hj:j < hi
 ·exact u i j h1 h2 hj
 ·have:j=hi:=by lia
  subst this
  by_cases hi':i=j
  ·subst hi';exact O.irr (g.mem hs)
  ·exact O.ntr _ _ _ (g.mem hs) (g.mem (show j - 1 < _ by omega)) (g.mem (by lia)) h (u i (j - 1) h1 (by lia) (by lia))
theorem R1 (O:Ord (·∈a₀) lt) {st:BA} (g:Good a₀ κ st) {lo:Nat} (h:lo < a₀.size):Up lt (AQ st) lo (lo+1):=λi j h1 h2 h3=>by
 have e1:i=lo:=by lia
 have e2:j=lo:=by lia
 rw [e1,e2];exact O.irr (g.mem h)
theorem Yb {st:BA} {lo nrem n:Nat} {Q:Option Nat->BA->Prop} (C:IN prog w A s a₀ κ lt) (O:Ord (·∈a₀) lt) (h1:1<=n) (h2:n<=nrem) (hn:lo+nrem<=a₀.size) (g:Good a₀ κ st) (u:Up lt (AQ st) lo (lo+n))
  (h:∀n,1<=n->n<=nrem->Up lt (AQ st) lo (lo+n)->Q (some n) st):wpS (AT prog w) A E s (do
   let mut n:=n
   for _ in [n:nrem] do
    let some smaller <-dc (lo+n) (lo+n - 1) | return none
    if smaller then break
    n:=n+1
   return some n) Q st:=by
 refine AL (Ca (Bi (I:=λx c st'=>st'=st/\c=(none,x)/\Up lt (AQ st) lo (lo+x))
  (Q:=λc st'=>st'=st/\∃n,c=(none,n)/\1<=n/\n<=nrem/\Up lt (AQ st) lo (lo+n)) ?step ?fin ⟨rfl,rfl,u⟩) ?post)
 case fin=>
  rintro c st' ⟨rfl,rfl,u⟩
  have e:max n nrem=nrem:=by lia
  rw [e] at u ⊢;exact ⟨rfl,nrem,rfl,by lia,AO _,u⟩
 case step=>
  rintro x c st' hx1 hx2 ⟨rfl,rfl,u⟩;dsimp only;refine AL (K6 C g (by lia) (by lia) ?_)
  cases hq:lt (ix (AQ st') (lo+x)) (ix (AQ st') (lo+x - 1)) with
  | true=>exact AM ⟨rfl,x,rfl,by lia,by lia,u⟩
  | false=>exact AM ⟨rfl,rfl,Up.grow (hi:=lo+x) O g (by lia) u (by lia) hq⟩
 case post=>
  rintro c st' ⟨rfl,n,rfl,hn1,hn2,u⟩;exact AM (h n hn1 hn2 u)
theorem wpS_countRun {st:BA} {lo nrem:Nat} {Q:Option Nat->BA->Prop} (C:IN prog w A s a₀ κ lt) (O:Ord (·∈a₀) lt) (h1:1<=nrem) (hn:lo+nrem<=a₀.size) (g:Good a₀ κ st)
  (h:∀st' n,Good a₀ κ st'->1<=n->n<=nrem->Up lt (AQ st') lo (lo+n)->Out (AQ st) (AQ st') lo (lo+nrem)->AR st'=AR st->Q (some n) st'):wpS (AT prog w) A E s (countRun' lo nrem) Q st:=by
 rw [countRun'_eq]
 refine AL (Ca (Bi (I:=λx c st'=>st'=st/\c=(none,x)/\Up lt (AQ st) lo (lo+x))
  (Q:=λc st'=>st'=st/\∃n,c=(none,n)/\1<=n/\n<=nrem/\Up lt (AQ st) lo (lo+n)/\(n=nrem∨lt (ix (AQ st) (lo+n)) (ix (AQ st) (lo+n - 1))=true)) ?step ?fin ?init) ?post)
 case init=>
  refine ⟨rfl,rfl,λi j a1 a2 a3=>?_⟩
  have:i=j:=by lia
  subst this;exact O.irr (g.mem (by lia))
 case fin=>
  rintro c st' ⟨rfl,rfl,u⟩
  have e:max 1 nrem=nrem:=by lia
  rw [e] at u ⊢;exact ⟨rfl,nrem,rfl,h1,AO _,u,.inl rfl⟩
 case step=>
  rintro x c st' hx1 hx2 ⟨rfl,rfl,u⟩;dsimp only;refine AL (K6 C g (by lia) (by lia) ?_)
  cases hq:lt (ix (AQ st') (lo+x)) (ix (AQ st') (lo+x - 1)) with
  | true=>exact AM ⟨rfl,x,rfl,hx1,by lia,u,.inr hq⟩
  | false=>exact AM ⟨rfl,rfl,Up.grow (hi:=lo+x) O g (by lia) u (by lia) hq⟩
 case post=>
  rintro c st' ⟨rfl,n,rfl,hn1,hn2,u,hd⟩;dsimp only
  by_cases hnn:n=nrem
  ·rw [qX (by simpa using hnn)]
   exact AM (h st' n g hn1 hn2 u .refl rfl)
  ·rw [qY (by simpa using hnn)]
   have hd':=hd.resolve_left hnn
   have desc:∀(st1:BA),Good a₀ κ st1->Dn lt (AQ st1) lo (lo+(n+1))->Out (AQ st') (AQ st1) lo (lo+nrem)->AR st1=AR st' ->
     wpS (AT prog w) A E s (do
      liftM (rule "list.sort.descending-run")
      let mut n:=n+1
      let mut neq:=0
      for _ in [n:nrem] do
       let some smaller <-dc (lo+n) (lo+n - 1) | return none
       if smaller then
        if neq > 0 then MP (lo+n - (neq+1)) (lo+n)
        neq:=0
       else
        let some larger <-dc (lo+n - 1) (lo+n) | return none
        if larger then break
        neq:=neq+1
       n:=n+1
      if neq > 0 then MP (lo+n - (neq+1)) (lo+n)
      MP lo (lo+n)
      for _ in [n:nrem] do
       let some smaller <-dc (lo+n) (lo+n - 1) | return none
       if smaller then break
       n:=n+1
      return some n) Q st1:=by
    intro st1 g1 d1 o1 p1;refine AL (HW ?_)
    refine AL (Ca (Bi (I:=λx c st2=>Good a₀ κ st2/\∃q,c=(none,x,q)/\q+1<=x/\Dn lt (AQ st2) lo (lo+x)/\Up lt (AQ st2) (lo+x - (q+1)) (lo+x)/\Out (AQ st') (AQ st2) lo (lo+nrem)/\AR st2=AR st')
     (Q:=λc st2=>Good a₀ κ st2/\∃n q,c=(none,n,q)/\n<=nrem/\q+1<=n/\Dn lt (AQ st2) lo (lo+n)/\Up lt (AQ st2) (lo+n - (q+1)) (lo+n)/\Out (AQ st') (AQ st2) lo (lo+nrem)/\AR st2=AR st') ?dstep ?dfin ?dinit) ?dpost)
    case dinit=>
     refine ⟨g1,0,rfl,by lia,d1,?_,o1,p1⟩;have:=R1 O g1 (lo:=lo+n) (by lia);rwa [show lo+(n+1) - (0+1)=lo+n by lia,show lo+(n+1)=lo+n+1 by lia]
    case dfin=>
     rintro c st2 ⟨g2,q,rfl,hq,d2,u2,o2,p2⟩
     have e:max (n+1) nrem=nrem:=by lia
     rw [e] at d2 u2 hq ⊢;exact ⟨g2,nrem,q,rfl,AO _,hq,d2,u2,o2,p2⟩
    case dstep=>
     rintro x c st2 hx1 hx2 ⟨g2,q,rfl,hq,d2,u2,o2,p2⟩;dsimp only;refine AL (K6 C g2 (by lia) (by lia) ?_)
     cases hs:lt (ix (AQ st2) (lo+x)) (ix (AQ st2) (lo+x - 1)) with
     | true=>
      dsimp only;rw [qX rfl];have hlt:=O.asym _ _ (g2.mem (show lo+x < _ by lia)) (g2.mem (show lo+x - 1 < _ by lia)) hs
      by_cases hq0:q > 0
      ·rw [qX hq0,JQ]
       have hsz:lo+x<=(AQ st2).size:=by rw [g2.size];lia
       have g3:Good a₀ κ (setArr st2 (Hi (AQ st2) (lo+x - (q+1)) (lo+x) ((lo+x - (lo+x - (q+1))) / 2))):=g2.setArr (QC _ _ _ _);have d3:=Dn.part (lt:=lt) (lo:=lo) hsz (show lo<=lo+x - (q+1) by lia) (by omega) d2 u2;refine AL (Cn (AM ⟨g3,0,rfl,by lia,?_,?_,o2.trans (Hs hsz (by lia) (by lia)),p2⟩))
       ·refine Dn.grow (hi:=lo+x) O g3 (by lia) d3 (by lia) ?_
        show lt (ix (Hi (AQ st2) (lo+x - (q+1)) (lo+x) ((lo+x - (lo+x - (q+1))) / 2)) (lo+x - 1)) (ix (Hi (AQ st2) (lo+x - (q+1)) (lo+x) ((lo+x - (lo+x - (q+1))) / 2)) (lo+x))=false;rw [DJ hsz,DJ hsz,qX (by omega),qY (by lia)];exact O.ntr _ _ _ (g2.mem (by lia)) (g2.mem (show lo+x - 1 < _ by lia)) (g2.mem (by omega)) hlt (d2 _ _ (by lia) (by omega) (by lia))
       ·have:=R1 O g3 (lo:=lo+x) (by lia)
        rwa [show lo+(x+1) - (0+1)=lo+x by lia,show lo+(x+1)=lo+x+1 by lia]
      ·rw [qY hq0]
       refine AM ⟨g2,0,rfl,by lia,Dn.grow (hi:=lo+x) O g2 (by lia) d2 (by lia) hlt,?_,o2,p2⟩;have:=R1 O g2 (lo:=lo+x) (by lia);rwa [show lo+(x+1) - (0+1)=lo+x by lia,show lo+(x+1)=lo+x+1 by lia]
     | false=>
      dsimp only;rw [qY AS];refine AL (K6 C g2 (by lia) (by lia) ?_)
      cases hl:lt (ix (AQ st2) (lo+x - 1)) (ix (AQ st2) (lo+x)) with
      | true=>exact AM ⟨g2,x,q,rfl,by lia,hq,d2,u2,o2,p2⟩
      | false=>
       refine AM ⟨g2,q+1,rfl,by lia,Dn.grow (hi:=lo+x) O g2 (by lia) d2 (by lia) hl,?_,o2,p2⟩;rw [show lo+(x+1) - (q+1+1)=lo+x - (q+1) by lia];exact Up.grow (hi:=lo+x) O g2 (by lia) u2 (by omega) hs
    case dpost=>
     rintro c st2 ⟨g2,m,q,rfl,hm,hq,d2,u2,o2,p2⟩;dsimp only
     have hsz:lo+m<=(AQ st2).size:=by rw [g2.size];lia
     have last:∀st3,Good a₀ κ st3->Dn lt (AQ st3) lo (lo+m)->Out (AQ st') (AQ st3) lo (lo+nrem)->AR st3=AR st'->∀(R:StateT BA Sem (Option Nat)),R=(do
        let mut n:=m
        for _ in [n:nrem] do
         let some smaller <-dc (lo+n) (lo+n - 1) | return none
         if smaller then break
         n:=n+1
        return some n)->wpS (AT prog w) A E s (do MP lo (lo+m);R) Q st3:=by
      rintro st3 g3 d3 o3 p3 R rfl
      have hsz3:lo+m<=(AQ st3).size:=by rw [g3.size];lia
      rw [JQ];refine AL (Cn ?_);have g4:Good a₀ κ (setArr st3 (Hi (AQ st3) lo (lo+m) ((lo+m - lo) / 2))):=g3.setArr (QC _ _ _ _)
      exact Yb C O (by lia) hm hn g4 (Dn.flip hsz3 d3) λk k1 k2 k3=>h _ k g4 k1 k2 k3 (o3.trans (Hs hsz3 (by lia) (by lia))) p3
     by_cases hq0:q > 0
     ·rw [qX hq0,JQ]
      refine AL (Cn ?_);exact last _ (g2.setArr (QC _ _ _ _)) (Dn.part hsz (by lia) (by omega) d2 u2) (o2.trans (Hs hsz (by lia) (by lia))) p2 _ rfl
     ·rw [qY hq0]
      exact last _ g2 d2 o2 p2 _ rfl
   have hlt:=O.asym _ _ (g.mem (show lo+n < _ by lia)) (g.mem (show lo+n - 1 < _ by omega)) hd'
   by_cases hn0:n > 1
   ·rw [qX hn0]
    refine AL (K6 C g (by lia) (by omega) ?_)
    cases hr:lt (ix (AQ st') lo) (ix (AQ st') (lo+n - 1)) with
    | true=>exact AM (h st' n g hn1 hn2 u .refl rfl)
    | false=>
     dsimp only;rw [qY AS,JQ]
     have hsz:lo+n<=(AQ st').size:=by rw [g.size];lia
     have g1:Good a₀ κ (setArr st' (Hi (AQ st') lo (lo+n) ((lo+n - lo) / 2))):=g.setArr (QC _ _ _ _)
     have al:∀i j,lo<=i->i < lo+n->lo<=j->j < lo+n->lt (ix (AQ st') i) (ix (AQ st') j)=false:=λi j i1 i2 j1 j2=>by
      have q1:=u j (lo+n - 1) (by omega) (by lia) (by omega);have q2:=u lo i (by lia) (by omega) (by omega);exact O.ntr _ _ _ (g.mem (by lia)) (g.mem (show lo < _ by lia)) (g.mem (by lia)) (O.ntr _ _ _ (g.mem (by lia)) (g.mem (show lo+n - 1 < _ by lia)) (g.mem (by lia)) q1 hr) q2
     refine AL (Cn ?_);refine desc _ g1 ?_ (Hs hsz (by lia) (by lia)) rfl;refine Dn.grow (hi:=lo+n) O g1 (by lia) (λi j a1 a2 a3=>?_) (by lia) ?_
     ·show lt (ix (Hi (AQ st') lo (lo+n) ((lo+n - lo) / 2)) i) (ix (Hi (AQ st') lo (lo+n) ((lo+n - lo) / 2)) j)=false
      rw [DJ hsz,DJ hsz,qX (by lia),qX (by lia)];exact al _ _ (by omega) (by omega) (by omega) (by omega)
     ·show lt (ix (Hi (AQ st') lo (lo+n) ((lo+n - lo) / 2)) (lo+n - 1)) (ix (Hi (AQ st') lo (lo+n) ((lo+n - lo) / 2)) (lo+n))=false
      rw [DJ hsz,DJ hsz,qX (by omega),qY (by lia),show lo+(lo+n) - 1 - (lo+n - 1)=lo by omega];exact O.ntr _ _ _ (g.mem (by lia)) (g.mem (show lo+n - 1 < _ by lia)) (g.mem (by lia)) hlt hr
   ·rw [qY hn0]
    have e:n=1:=by lia
    subst e;refine desc _ g (Dn.grow (hi:=lo+1) O g (by lia) (λi j a1 a2 a3=>?_) (by lia) hlt) .refl rfl
    have e1:i=lo:=by lia
    have e2:j=lo:=by lia
    rw [e1,e2];exact O.irr (g.mem (by lia))
end
def fu:Bool->Ag->Array Ag->Nat->Nat->Nat->StateT BA Sem (Option Nat):=sortPriv% PySem.Builtin.gallop
section
variable {prog:Ah} {w:A1} {A:Aw} {E:AB->AD->Prop} {s:AD} {a₀:Array Ag} {κ:EF} {lt:Ag->Ag->Bool}
abbrev BS:=Option (Option Nat)×Nat×Nat
theorem aA {st:BA} {p:Nat->Bool} {n lo hi:Nat} {F:Nat->BS->StateT BA Sem (ForInStep BS)} {T:BS->StateT BA Sem (Option Nat)} {Q:Option Nat->BA->Prop} (hlh:lo<=hi) (hhn:hi<=n)
  (hlo:∀i,i < lo->p i=true) (hhi:∀i,hi<=i->i < n->p i=false) (mono:∀i j,i<=j->j < n->p j=true->p i=true)
  (hF:∀x l h (R:ForInStep BS->BA->Prop),l<=h->h<=n->(l ≥ h->R (.done (none,l,h)) st)->(l < h->p (l+(h - l) / 2)=true->R (.yield (none,l+(h - l) / 2+1,h)) st)->(l < h->p (l+(h - l) / 2)=false->R (.yield (none,l,l+(h - l) / 2)) st) ->
   wpS (AT prog w) A E s (F x (none,l,h)) R st)
  (hT:∀l h,h<=n->(∀i,i < h->p i=true)->(∀i,h<=i->i < n->p i=false)->wpS (AT prog w) A E s (T (none,l,h)) Q st):wpS (AT prog w) A E s (forIn [0:n] (none,lo,hi) F >>= T) Q st:=by
 refine AL (Ca (Bi (I:=λx c st'=>st'=st/\∃l h,c=(none,l,h)/\l<=h/\h<=n/\h - l<=n - x/\(∀i,i < l->p i=true)/\(∀i,h<=i->i < n->p i=false))
  (Q:=λc st'=>st'=st/\∃l h,c=(none,l,h)/\h<=n/\(∀i,i < h->p i=true)/\(∀i,h<=i->i < n->p i=false)) ?step ?fin ⟨rfl,lo,hi,rfl,hlh,hhn,by lia,hlo,hhi⟩) ?post)
 case fin=>
  rintro c st' ⟨rfl,l,h,rfl,h1,h2,h3,h4,h5⟩
  have:l=h:=by lia
  subst this;exact ⟨rfl,l,l,rfl,h2,h4,h5⟩
 case step=>
  rintro x c st' _ hx ⟨rfl,l,h,rfl,h1,h2,h3,h4,h5⟩
  refine hF x l h _ h1 h2 (λhge=>?_) (λhlt hp=>?_) λhlt hp=>?_
  ·have:l=h:=by lia
   subst this;exact ⟨rfl,l,l,rfl,h2,h4,h5⟩
  ·exact ⟨rfl,_,_,rfl,by lia,h2,by omega,λi hi=>mono i (l+(h - l) / 2) (by lia) (by lia) hp,h5⟩
  ·refine ⟨rfl,_,_,rfl,by lia,by lia,by omega,h4,λi hi1 hi2=>?_⟩
   cases e:p i with
   | false=>rfl
   | true=>rw [mono _ i hi1 hi2 e] at hp;cases hp
 case post=>
  rintro c st' ⟨rfl,l,h,rfl,h2,h4,h5⟩;exact hT l h h2 h4 h5
theorem T1 {st:BA} {q:Nat->Bool} {n mx:Nat} {F:Nat->BS->StateT BA Sem (ForInStep BS)} {T:BS->StateT BA Sem (Option Nat)} {Q:Option Nat->BA->Prop} (hm:mx<=n) (q0:q 0=true)
  (hF:∀x a b (R:ForInStep BS->BA->Prop),a < b->(b ≥ mx->R (.done (none,a,b)) st)->(b < mx->q b=false->R (.done (none,a,b)) st)->(b < mx->q b=true->R (.yield (none,b,2 * b+1)) st)->wpS (AT prog w) A E s (F x (none,a,b)) R st)
  (hT:∀a b,a < b->q a=true->(a=0∨a < mx)->(b < mx->q b=false)->wpS (AT prog w) A E s (T (none,a,b)) Q st):wpS (AT prog w) A E s (forIn [0:n] (none,0,1) F >>= T) Q st:=by
 refine AL (Ca (Bi (I:=λx c st'=>st'=st/\∃a b,c=(none,a,b)/\a < b/\x+1<=b/\q a=true/\(a=0∨a < mx))
  (Q:=λc st'=>st'=st/\∃a b,c=(none,a,b)/\a < b/\q a=true/\(a=0∨a < mx)/\(b < mx->q b=false)) ?step ?fin ⟨rfl,0,1,rfl,by lia,by lia,q0,.inl rfl⟩) ?post)
 case fin=>
  rintro c st' ⟨rfl,a,b,rfl,h1,h2,h3,h4⟩;exact ⟨rfl,a,b,rfl,h1,h3,h4,λh=>by lia⟩
 case step=>
  rintro x c st' _ hx ⟨rfl,a,b,rfl,h1,h2,h3,h4⟩
  refine hF x a b _ h1 (λhge=>?_) (λhlt hp=>?_) λhlt hp=>?_
  ·exact ⟨rfl,a,b,rfl,h1,h3,h4,λh=>by lia⟩
  ·exact ⟨rfl,a,b,rfl,h1,h3,h4,λ_=>hp⟩
  ·exact ⟨rfl,b,2 * b+1,rfl,by lia,by lia,hp,.inr hlt⟩
 case post=>
  rintro c st' ⟨rfl,a,b,rfl,h1,h3,h4,h5⟩;exact hT a b h1 h3 h4 h5
theorem Di {st:BA} {left:Bool} {key:Ag} {arr:Array Ag} {base n hint:Nat} {Q:Option Nat->BA->Prop} (C:IN prog w A s a₀ κ lt) (g:Good a₀ κ st) (p:Nat->Bool)
  (hkey:key∈a₀) (harr:∀i,i < n->base+i < arr.size/\ix arr (base+i)∈a₀) (hp:∀i,i < n->p i=if left=true then lt (ix arr (base+i)) key else !lt key (ix arr (base+i)))
  (mono:∀i j,i<=j->j < n->p j=true->p i=true) (hh:hint < n)
  (h:∀k,k<=n->(∀i,i < k->p i=true)->(∀i,k<=i->i < n->p i=false)->Q (some k) st):wpS (AT prog w) A E s (fu left key arr base n hint) Q st:=by
 have bey:∀i,i < n->∀R:Option Bool->BA->Prop,R (some (p i)) st->wpS (AT prog w) A E s (do let x <-elem' arr (base+i);if left=true then lt' x key else do let y <-lt' key x;pure (y.map (!·))) R st:=by
  intro i hi R hR;obtain ⟨h1,h2⟩:=harr i hi;rw [YQ,Cd h1];refine AL (AM ?_);rw [hp i hi] at hR
  cases left with
  | true=>exact Mp C g h2 hkey hR
  | false=>exact AL (Mp C g hkey h2 (AM hR))
 refine (AL ?_:wpS _ _ _ _ (fu left key arr base n hint) Q st);refine bey hint hh _ ?_
 have fin:∀(lo hi:Nat) {F:Nat->BS->StateT BA Sem (ForInStep BS)} {T:BS->StateT BA Sem (Option Nat)},lo<=hi->hi<=n->(∀i,i < lo->p i=true)->(∀i,hi<=i->i < n->p i=false) ->
   (∀x l h' (R:ForInStep BS->BA->Prop),l<=h'->h'<=n->(l ≥ h'->R (.done (none,l,h')) st)->(l < h'->p (l+(h' - l) / 2)=true->R (.yield (none,l+(h' - l) / 2+1,h')) st)->(l < h'->p (l+(h' - l) / 2)=false->R (.yield (none,l,l+(h' - l) / 2)) st) ->
    wpS (AT prog w) A E s (F x (none,l,h')) R st)->(∀l h',T (none,l,h')=pure (some h'))->wpS (AT prog w) A E s (forIn [0:n] (none,lo,hi) F >>= T) Q st:=λlo hi F T h1 h2 h3 h4 hF hT=>
  aA h1 h2 h3 h4 mono hF λl h' q1 q2 q3=>by rw [hT];exact AM (h h' q1 q2 q3)
 cases hq:p hint with
 | true=>
  dsimp only;rw [qX rfl]
  refine T1 (q:=λi=>decide (hint+i < n)&&p (hint+i)) (mx:=n - hint) (by lia) (by simp [hq,hh]) (λx a b R hab r1 r2 r3=>?_) λa b hab qa ha hb=>?_
  ·dsimp only
   by_cases hge:b ≥ n - hint
   ·rw [qX hge];exact AM (r1 hge)
   ·rw [qY hge]
    refine AL (bey (hint+b) (by lia) _ ?_);have hd:decide (hint+b < n)=true:=wX (by lia)
    cases e:p (hint+b) with
    | true=>exact AM (r3 (by lia) (by simp [hd,e]))
    | false=>exact AM (r2 (by lia) (by simp [hd,e]))
  ·dsimp only
   have pa:p (hint+a)=true:=by simp at qa;exact qa.2
   have han:hint+a < n:=by simp at qa;exact qa.1
   refine fin (hint+a+1) (hint+min b (n - hint)) (by omega) (by omega) (λi hi=>mono i (hint+a) (by lia) han pa) (λi h1 h2=>?_) (λx l h' R l1 l2 r1 r2 r3=>?_) λl h'=>rfl
   ·by_cases hbm:b < n - hint
    ·have:=hb hbm
     have hd:decide (hint+b < n)=true:=wX (by lia);rw [hd,bD] at this
     cases e:p i with
     | false=>rfl
     | true=>rw [mono (hint+b) i (by lia) h2 e] at this;cases this
    ·omega
   ·dsimp only
    by_cases hge:l ≥ h'
    ·rw [qX hge];exact AM (r1 hge)
    ·rw [qY hge]
     refine AL (bey (l+(h' - l) / 2) (by lia) _ ?_)
     cases e:p (l+(h' - l) / 2) with
     | true=>exact AM (r2 (by lia) e)
     | false=>exact AM (r3 (by lia) e)
 | false=>
  dsimp only;rw [qY AS]
  refine T1 (q:=λi=>decide (i<=hint)&&!p (hint - i)) (mx:=hint+1) (by lia) (by simp [hq]) (λx a b R hab r1 r2 r3=>?_) λa b hab qa ha hb=>?_
  ·dsimp only
   by_cases hge:b ≥ hint+1
   ·rw [qX hge];exact AM (r1 hge)
   ·rw [qY hge]
    refine AL (bey (hint - b) (by omega) _ ?_);have hd:decide (b<=hint)=true:=wX (by lia)
    cases e:p (hint - b) with
    | true=>exact AM (r2 (by lia) (by simp [hd,e]))
    | false=>exact AM (r3 (by lia) (by simp [hd,e]))
  ·dsimp only
   have pa:p (hint - a)=false:=by simp at qa;exact qa.2
   have han:a<=hint:=by simp at qa;exact qa.1
   refine fin (hint+1 - min b (hint+1)) (hint - a) (by omega) (by omega) (λi hi=>?_) (λi h1 h2=>?_) (λx l h' R l1 l2 r1 r2 r3=>?_) λl h'=>rfl
   ·by_cases hbm:b < hint+1
    ·have:=hb hbm
     have hd:decide (b<=hint)=true:=wX (by lia);rw [hd,bD] at this;exact mono i (hint - b) (by omega) (by lia) (by simpa using this)
    ·omega
   ·cases e:p i with
    | false=>rfl
    | true=>rw [mono (hint - a) i h1 h2 e] at pa;cases pa
   ·dsimp only
    by_cases hge:l ≥ h'
    ·rw [qX hge];exact AM (r1 hge)
    ·rw [qY hge]
     refine AL (bey (l+(h' - l) / 2) (by lia) _ ?_)
     cases e:p (l+(h' - l) / 2) with
     | true=>exact AM (r2 (by lia) e)
     | false=>exact AM (r3 (by lia) e)
end
structure MI (R:Ag->Ag->Prop) (T o ra rb:List Ag):Prop where
 perm:(o++(ra++rb)).Perm T
 srt:o.Pairwise R
 low:∀x∈o,∀y∈ra++rb,R x y
 sa:ra.Pairwise R
 sb:rb.Pairwise R
structure GD (R:Ag->Ag->Prop) (T r:List Ag):Prop where
 perm:r.Perm T
 srt:r.Pairwise R
section
variable {R:Ag->Ag->Prop} {T o ra rb xs:List Ag}
theorem MI.takeA (m:MI R T o (xs++ra) rb) (h:∀x∈xs,∀y∈rb,R x y):MI R T (o++xs) ra rb:=by
 have sa:=BN.mp m.sa;refine ⟨by simpa [Az] using m.perm,BN.mpr ⟨m.srt,sa.1,λx hx y hy=>m.low x hx y (by simp [hy])⟩,λx hx y hy=>?_,sa.2.1,m.sb⟩
 rcases A2.mp hx with hx | hx
 ·exact m.low x hx y (by rcases A2.mp hy with h | h <;> simp [h])
 ·rcases A2.mp hy with hy | hy
  ·exact sa.2.2 x hx y hy
  ·exact h x hx y hy
theorem MI.takeB (m:MI R T o ra (xs++rb)) (h:∀x∈xs,∀y∈ra,R x y):MI R T (o++xs) ra rb:=by
 have sb:=BN.mp m.sb;refine ⟨?_,BN.mpr ⟨m.srt,sb.1,λx hx y hy=>m.low x hx y (by simp [hy])⟩,λx hx y hy=>?_,m.sa,sb.2.1⟩
 ·refine List.Perm.trans ?_ m.perm
  rw [Az];refine Hk o ?_;rw [<-Az,<-Az];exact N7 rb Ru
 ·rcases A2.mp hx with hx | hx
  ·exact m.low x hx y (by rcases A2.mp hy with h | h <;> simp [h])
  ·rcases A2.mp hy with hy | hy
   ·exact h x hx y hy
   ·exact sb.2.2 x hx y hy
theorem MI.endA (m:MI R T o ra []):GD R T (o++ra):=by
 refine ⟨by simpa using m.perm,BN.mpr ⟨m.srt,m.sa,λx hx y hy=>m.low x hx y (by simp [hy])⟩⟩
theorem MI.endB (m:MI R T o [] rb):GD R T (o++rb):=by
 refine ⟨by simpa using m.perm,BN.mpr ⟨m.srt,m.sb,λx hx y hy=>m.low x hx y (by simp [hy])⟩⟩
theorem MI.last (m:MI R T o ra rb) (h:∀y∈rb,∀x∈ra,R y x):GD R T (o++(rb++ra)):=by
 refine ⟨(Hk o Ru).trans m.perm,BN.mpr ⟨m.srt,BN.mpr ⟨m.sb,m.sa,h⟩,λx hx y hy=>m.low x hx y (by rcases A2.mp hy with h | h <;> simp [h])⟩⟩
end
theorem Md {a:Array Ag} {i:Nat} (h:i < a.size):a.toList.drop i=ix a i :: a.toList.drop (i+1):=by
 rw [HM (by simpa using h)]
 congr 1
 have:=Cd h;rw [getElem?_pos a i h] at this;simpa using this
theorem Gi {a:Array Ag} {i k:Nat} (h:i+k<=a.size):a.toList.drop i=(a.extract i (i+k)).toList++a.toList.drop (i+k):=by
 have e:(a.extract i (i+k)).toList=(a.toList.drop i).take k:=by simp [Lf]
 rw [e,<-OV,FM]
theorem MZ {a:Array Ag} {i k:Nat} (h:i+k<=a.size) {x:Ag} (hx:x∈(a.extract i (i+k)).toList):∃j,j < k/\x=ix a (i+j):=by
 rw [BI,MR] at hx;obtain ⟨j,hj,rfl⟩:=hx;refine ⟨j,by lia,?_⟩;have:=Cd (xs:=a) (i:=i+j) (by lia);rw [getElem?_pos a _ (by lia)] at this;simpa using this
theorem Hy (a:Array Ag) (i:Nat):(a.extract i a.size).toList=a.toList.drop i:=by
 simp [Lf];exact DR (by simp)
theorem EV {a:Array Ag} {i:Nat} {x:Ag} (hx:x∈a.toList.drop i):∃j,i<=j/\j < a.size/\x=ix a j:=by
 obtain ⟨k,hk,rfl⟩:=Sy.mp hx;simp at hk;refine ⟨i+k,by lia,by omega,?_⟩;have:=Cd (xs:=a) (i:=i+k) (by omega);rw [getElem?_pos a _ (by omega)] at this;simpa using this
section
variable {prog:Ah} {w:A1} {A:Aw} {E:AB->AD->Prop} {s:AD} {a₀:Array Ag} {κ:EF} {lt:Ag->Ag->Bool}
theorem BP {st:BA} {a:Array Ag} {i:Nat} {Q:Ag->BA->Prop} (h:i < a.size) (hq:Q (ix a i) st):wpS (AT prog w) A E s (elem' a i) Q st:=by
 rw [YQ,Cd h];exact AM hq
def mLo:Array Ag->Array Ag->StateT BA Sem (Array Ag):=sortPriv% PySem.Builtin.mergeLo
def mHi:Array Ag->Array Ag->StateT BA Sem (Array Ag):=sortPriv% PySem.Builtin.mergeHi
structure IR (a₀:Array Ag) (κ:EF) (st st':BA):Prop where
 good:Good a₀ κ st'
 arr:AQ st'=AQ st
 pend:AR st'=AR st
theorem IR.gal {st st':BA} (h:IR a₀ κ st st') (n:Nat):IR a₀ κ st (FF (kindOf st') (AQ st') (AR st') n (Gq st')):=⟨⟨h.good.perm,h.good.kind,h.good.failed⟩,h.arr,h.pend⟩
abbrev Rl (lt:Ag->Ag->Bool) (x y:Ag):Prop:=lt y x=false
theorem Qc (O:Ord (·∈a₀) lt) {a:Array Ag} (ma:∀i,i < a.size->ix a i∈a₀) (sa:a.toList.Pairwise (Rl lt)):∀i j,i<=j->j < a.size->Rl lt (ix a i) (ix a j):=λi j hij hj=>by
 by_cases e:i=j
 ·subst e;exact O.irr (ma i hj)
 ·have hd:=Md (a:=a) (i:=i) (by lia)
  have:=sa.sublist (List.drop_sublist i a.toList);rw [hd] at this;refine (Vf.mp this).1 _ ?_;rw [show a.toList.drop (i+1)=(a.extract (i+1) (i+1+(j - (i+1)))).toList++a.toList.drop (i+1+(j - (i+1))) from Gi (by lia),show i+1+(j - (i+1))=j by lia,Md hj];simp
theorem Pk {a:Array Ag} (ma:∀x∈a.toList,x∈a₀):∀i,i < a.size->ix a i∈a₀:=λi hi=>ma _ (BI.mpr (CG (Cd hi)))
theorem MU {st:BA} {n:Nat} {Q:Unit->BA->Prop} (h:Q () (FF (kindOf st) (AQ st) (AR st) n (Gq st))):wpS (AT prog w) A E s ((sortPriv% PySem.Builtin.setMinGallop) n) Q st:=Cn h
abbrev L7:=Option (Array Ag)×Array Ag×Nat×Nat×Nat×Nat×Nat
theorem YZ {st:BA} {a b:Array Ag} {Q:Array Ag->BA->Prop} (C:IN prog w A s a₀ κ lt) (O:Ord (·∈a₀) lt) (g:Good a₀ κ st)
  (ma:∀x∈a.toList,x∈a₀) (mb:∀x∈b.toList,x∈a₀) (sa:a.toList.Pairwise (Rl lt)) (sb:b.toList.Pairwise (Rl lt)) (na:0 < a.size) (nb:0 < b.size)
  (h0:∀x∈a.toList,Rl lt (ix b 0) x) (h1:∀y∈b.toList,Rl lt y (ix a (a.size - 1)))
  (h:∀r st',IR a₀ κ st st'->GD (Rl lt) (a.toList++b.toList) r.toList->Q r st'):wpS (AT prog w) A E s (mLo a b) Q st:=by
 have ia0:=Pk ma;have ib0:=Pk mb;have ua:=Qc O ia0 sa;have ub:=Qc O ib0 sb
 have tr:∀x y z:Ag,x∈a₀->y∈a₀->z∈a₀->Rl lt x y->Rl lt y z->Rl lt x z:=λx y z hx hy hz h1 h2=>O.ntr x y z hx hy hz h1 h2
 let M (out:Array Ag) (ia ib:Nat):Prop:=MI (Rl lt) (a.toList++b.toList) out.toList (a.toList.drop ia) (b.toList.drop ib)
 have tA:∀out ia ib,M out ia ib->ia < a.size->(∀j,ib<=j->j < b.size->Rl lt (ix a ia) (ix b j))->M (out.push (ix a ia)) (ia+1) ib:=λout ia ib m hia hr=>by
  have m':MI (Rl lt) (a.toList++b.toList) out.toList ([ix a ia]++a.toList.drop (ia+1)) (b.toList.drop ib):=by rw [FN,<-Md hia];exact m
  have:=m'.takeA λx hx y hy=>by
   obtain ⟨j,j1,j2,rfl⟩:=EV hy;rw [Af.mp hx];exact hr j j1 j2
  simpa [M] using this
 have tB:∀out ia ib,M out ia ib->ib < b.size->(∀j,ia<=j->j < a.size->Rl lt (ix b ib) (ix a j))->M (out.push (ix b ib)) ia (ib+1):=λout ia ib m hib hr=>by
  have m':MI (Rl lt) (a.toList++b.toList) out.toList (a.toList.drop ia) ([ix b ib]++b.toList.drop (ib+1)):=by rw [FN,<-Md hib];exact m
  have:=m'.takeB λx hx y hy=>by
   obtain ⟨j,j1,j2,rfl⟩:=EV hy;rw [Af.mp hx];exact hr j j1 j2
  simpa [M] using this
 have sA:∀out ia ib k,M out ia ib->ia+k<=a.size->(∀i j,i < k->ib<=j->j < b.size->Rl lt (ix a (ia+i)) (ix b j))->M (out++a.extract ia (ia+k)) (ia+k) ib:=λout ia ib k m hk hr=>by
  have m':MI (Rl lt) (a.toList++b.toList) out.toList ((a.extract ia (ia+k)).toList++a.toList.drop (ia+k)) (b.toList.drop ib):=by rw [<-Gi hk];exact m
  have:=m'.takeA λx hx y hy=>by
   obtain ⟨j,j1,j2,rfl⟩:=EV hy;obtain ⟨i,i1,rfl⟩:=MZ hk hx;exact hr i j i1 j1 j2
  show MI _ _ (out++a.extract ia (ia+k)).toList _ _;rw [A4];exact this
 have sB:∀out ia ib k,M out ia ib->ib+k<=b.size->(∀i j,i < k->ia<=j->j < a.size->Rl lt (ix b (ib+i)) (ix a j))->M (out++b.extract ib (ib+k)) ia (ib+k):=λout ia ib k m hk hr=>by
  have m':MI (Rl lt) (a.toList++b.toList) out.toList (a.toList.drop ia) ((b.extract ib (ib+k)).toList++b.toList.drop (ib+k)):=by rw [<-Gi hk];exact m
  have:=m'.takeB λx hx y hy=>by
   obtain ⟨j,j1,j2,rfl⟩:=EV hy;obtain ⟨i,i1,rfl⟩:=MZ hk hx;exact hr i j i1 j1 j2
  show MI _ _ (out++b.extract ib (ib+k)).toList _ _;rw [A4];exact this
 have eB:∀out ia ib,M out ia ib->ib=b.size->GD (Rl lt) (a.toList++b.toList) (out++a.extract ia a.size++b.extract ib b.size).toList:=λout ia ib m e=>by
  subst e
  have m':MI (Rl lt) (a.toList++b.toList) out.toList (a.toList.drop ia) []:=by
   have:b.toList.drop b.size=[]:=by simp
   rw [<-this];exact m
  rw [A4,A4,Hy,Hy,show b.toList.drop b.size=[] by simp,BE];exact m'.endA
 have eA:∀out ia ib,M out ia ib->ia=a.size->GD (Rl lt) (a.toList++b.toList) (out++a.extract ia a.size++b.extract ib b.size).toList:=λout ia ib m e=>by
  subst e
  have m':MI (Rl lt) (a.toList++b.toList) out.toList [] (b.toList.drop ib):=by
   have:a.toList.drop a.size=[]:=by simp
   rw [<-this];exact m
  rw [A4,A4,Hy,Hy,show a.toList.drop a.size=[] by simp,BE];exact m'.endB
 have eL:∀out ia ib,M out ia ib->ia+1=a.size->GD (Rl lt) (a.toList++b.toList) (out++b.extract ib b.size++a.extract ia a.size).toList:=λout ia ib m e=>by
  have:=m.last λy hy x hx=>by
   obtain ⟨j,j1,j2,rfl⟩:=EV hx;obtain ⟨i,i1,i2,rfl⟩:=EV hy
   have:j=a.size - 1:=by lia
   subst this;exact h1 _ (BI.mpr (CG (Cd i2)))
  rw [A4,A4,Hy,Hy,Az];exact this
 have m0:M #[] 0 0:=⟨by simp,by simp,by simp,by simpa using sa,by simpa using sb⟩
 have m1:M #[ix b 0] 0 1:=by
  have:=tB #[] 0 0 m0 nb λj _ hj=>h0 _ (BI.mpr (CG (Cd hj)))
  simpa using this
 refine (AL (HW ?_):wpS _ _ _ _ (mLo a b) Q st);refine AL (BP nb ?_)
 by_cases c1:1=b.size
 ·refine (show wpS (AT prog w) A E s (if (1==b.size)=true then _ else _) Q st from ?_)
  rw [qX (by simpa using c1)];exact AM (h _ st ⟨g,rfl,rfl⟩ (eB _ _ _ m1 c1))
 refine (show wpS (AT prog w) A E s (if (1==b.size)=true then _ else _) Q st from ?_);rw [qY (by simpa using c1)]
 by_cases c2:0+1=a.size
 ·rw [qX (by simpa using c2)]
  exact AM (h _ st ⟨g,rfl,rfl⟩ (eL _ _ _ m1 c2))
 rw [qY (by simpa using c2)];refine AL (FW ?_)
 refine AL (Ca (Bi (I:=λx c st'=>IR a₀ κ st st'/\∃out ia ib mg,c=(none,out,ia,ib,mg)/\M out ia ib/\ia+1 < a.size/\ib < b.size/\1+x<=ia+ib)
  (Q:=λc st'=>IR a₀ κ st st'/\∃r z,c=(some r,z)/\GD (Rl lt) (a.toList++b.toList) r.toList) ?step ?fin ?init) ?post)
 case init=>exact ⟨⟨g,rfl,rfl⟩,_,_,_,_,rfl,m1,by lia,by lia,by lia⟩
 case fin=>
  rintro c st' ⟨_,out,ia,ib,mg,_,_,k1,k2,k3⟩
  lia
 case post=>
  rintro c st' ⟨s1,r,z,rfl,f⟩;exact AM (h r st' s1 f)
 case step=>
  rintro x c st1 _ _ ⟨s1,out,ia,ib,mg,rfl,m,k1,k2,k3⟩
  refine AL (Ca (Bi (I:=λy c st'=>st'=st1/\∃out' ia' ib' ac bc,c=(none,out',ia',ib',ac,bc)/\M out' ia' ib'/\ia'+1 < a.size/\ib' < b.size/\ia+ib+y<=ia'+ib')
   (Q:=λc st'=>st'=st1/\((∃r z,c=(some r,z)/\GD (Rl lt) (a.toList++b.toList) r.toList)∨∃out' ia' ib' ac bc,c=(none,out',ia',ib',ac,bc)/\M out' ia' ib'/\ia'+1 < a.size/\ib' < b.size/\ia+ib+1<=ia'+ib')) ?step1 ?fin1 ?init1) ?post1)
  case init1=>exact ⟨rfl,out,ia,ib,0,0,rfl,m,k1,k2,by lia⟩
  case fin1=>
   rintro c st' ⟨rfl,out',ia',ib',ac,bc,rfl,m',q1,q2,q3⟩;exact ⟨rfl,.inr ⟨out',ia',ib',ac,bc,rfl,m',q1,q2,by lia⟩⟩
  case step1=>
   rintro y c st' _ _ ⟨rfl,out',ia',ib',ac,bc,rfl,m',q1,q2,q3⟩;refine AL (BP (i:=ib') q2 ?_);refine AL (BP (i:=ia') (show ia' < a.size by lia) ?_);refine AL (Mp C s1.good (ib0 _ q2) (ia0 _ (by lia)) ?_)
   cases e:lt (ix b ib') (ix a ia') with
   | true=>
    refine AL (BP q2 ?_);have r0:Rl lt (ix b ib') (ix a ia'):=O.asym _ _ (ib0 _ q2) (ia0 _ (by lia)) e
    have m2:=tB out' ia' ib' m' q2 λj j1 j2=>tr _ _ _ (ib0 _ q2) (ia0 _ (by lia)) (ia0 _ j2) r0 (ua ia' j j1 j2)
    refine (show wpS (AT prog w) A E s (if (ib'+1==b.size)=true then _ else _) _ st' from ?_)
    by_cases d:ib'+1=b.size
    ·rw [qX (by simpa using d)]
     exact AM ⟨rfl,.inl ⟨_,_,rfl,eB _ _ _ m2 d⟩⟩
    ·rw [qY (by simpa using d)]
     split
     ·exact AM ⟨rfl,.inr ⟨_,ia',ib'+1,_,_,rfl,m2,by omega,by lia,by lia⟩⟩
     ·exact AM ⟨rfl,_,ia',ib'+1,_,_,rfl,m2,by omega,by lia,by lia⟩
   | false=>
    refine AL (BP (show ia' < a.size by lia) ?_)
    have m2:=tA out' ia' ib' m' (by lia) λj j1 j2=>tr _ _ _ (ia0 _ (by lia)) (ib0 _ q2) (ib0 _ j2) e (ub ib' j j1 j2)
    refine (show wpS (AT prog w) A E s (if (ia'+1+1==a.size)=true then _ else _) _ st' from ?_)
    by_cases d:ia'+1+1=a.size
    ·rw [qX (by simpa using d)]
     exact AM ⟨rfl,.inl ⟨_,_,rfl,eL _ _ _ m2 d⟩⟩
    ·rw [qY (by simpa using d)]
     split
     ·exact AM ⟨rfl,.inr ⟨_,ia'+1,ib',_,_,rfl,m2,by lia,by omega,by lia⟩⟩
     ·exact AM ⟨rfl,_,ia'+1,ib',_,_,rfl,m2,by lia,by omega,by lia⟩
  case post1=>
   rintro c st' ⟨rfl,⟨r,z,rfl,f⟩ | ⟨out',ia',ib',ac,bc,rfl,m',q1,q2,q3⟩⟩
   ·exact AM ⟨s1,_,_,rfl,f⟩
   refine AL (HW ?_)
   refine AL (Ca (Bi (I:=λy c st2=>IR a₀ κ st st2/\∃out2 ia2 ib2 mg2 ac bc,c=(none,out2,ia2,ib2,mg2,ac,bc)/\M out2 ia2 ib2/\ia2+1 < a.size/\ib2 < b.size/\ia+ib+1<=ia2+ib2)
    (Q:=λc st2=>IR a₀ κ st st2/\((∃r z,c=(some r,z)/\GD (Rl lt) (a.toList++b.toList) r.toList)∨∃out2 ia2 ib2 mg2 ac bc,c=(none,out2,ia2,ib2,mg2,ac,bc)/\M out2 ia2 ib2/\ia2+1 < a.size/\ib2 < b.size/\ia+ib+1<=ia2+ib2)) ?step2 ?fin2 ?init2) ?post2)
   case init2=>exact ⟨s1,out',ia',ib',mg+1,ac,bc,rfl,m',q1,q2,q3⟩
   case fin2=>
    rintro c st2 ⟨s2,out2,ia2,ib2,mg2,ac2,bc2,rfl,m2,p1,p2,p3⟩;exact ⟨s2,.inr ⟨out2,ia2,ib2,mg2,ac2,bc2,rfl,m2,p1,p2,p3⟩⟩
   case post2=>
    rintro c st2 ⟨s2,⟨r,z,rfl,f⟩ | ⟨out2,ia2,ib2,mg2,ac2,bc2,rfl,m2,p1,p2,p3⟩⟩
    ·exact AM ⟨s2,_,_,rfl,f⟩
    ·exact AL (MU (AM ⟨s2.gal _,out2,ia2,ib2,mg2+1,rfl,m2,p1,p2,by lia⟩))
   case step2=>
    rintro y c st2 _ _ ⟨s2,out2,ia2,ib2,mg2,ac2,bc2,rfl,m2,p1,p2,p3⟩
    let P:ForInStep L7->BA->Prop:=λr st'=>match r with
     | .done c'=>IR a₀ κ st st'/\((∃r z,c'=(some r,z)/\GD (Rl lt) (a.toList++b.toList) r.toList)∨∃out2 ia2 ib2 mg2 ac bc,c'=(none,out2,ia2,ib2,mg2,ac,bc)/\M out2 ia2 ib2/\ia2+1 < a.size/\ib2 < b.size/\ia+ib+1<=ia2+ib2)
     | .yield c'=>IR a₀ κ st st'/\∃out2 ia2 ib2 mg2 ac bc,c'=(none,out2,ia2,ib2,mg2,ac,bc)/\M out2 ia2 ib2/\ia2+1 < a.size/\ib2 < b.size/\ia+ib+1<=ia2+ib2
    refine Ca (Q:=P) ?_ λr st' h=>by cases r <;> exact h
    refine (show wpS (AT prog w) A E s (if mg2 > 1 then _ else _) P st2 from ?_);split
    all_goals
     refine AL (MU ?_);refine AL (BP (i:=ib2) p2 ?_);refine AL (Di (base:=ia2) (n:=a.size - ia2) (hint:=0) (arr:=a) (key:=ix b ib2) (left:=false) C (s2.gal _).good (λi=>!lt (ix b ib2) (ix a (ia2+i))) (ib0 _ p2) (λi hi=>⟨by lia,ia0 _ (by lia)⟩) (λi hi=>rfl) (λi j hij hj e=>?_) (by lia) λk hk k1 k2=>?_)
     ·have e':lt (ix b ib2) (ix a (ia2+j))=false:=by simpa using e
      have:=tr _ _ _ (ia0 _ (by lia)) (ia0 _ (by lia)) (ib0 _ p2) (ua (ia2+i) (ia2+j) (by lia) (by lia)) e';simpa using this
     ·have far:∀j,ia2+k<=j->j < a.size->Rl lt (ix b ib2) (ix a j):=λj j1 j2=>by
       have:=k2 (j - ia2) (by lia) (by lia);rw [show ia2+(j - ia2)=j by lia] at this;exact O.asym _ _ (ib0 _ p2) (ia0 _ j2) (by simpa using this)
      have m5:=sA out2 ia2 ib2 k m2 (by lia) λi j hi j1 j2=>tr _ _ _ (ia0 _ (by lia)) (ib0 _ p2) (ib0 _ j2) (by simpa using k1 i hi) (ub ib2 j j1 j2)
      refine (show wpS (AT prog w) A E s (if k > 0 then _ else _) P _ from ?_)
      by_cases hk0:k > 0
      ·rw [qX hk0]
       refine (show wpS (AT prog w) A E s (if (ia2+k+1==a.size)=true then _ else _) P _ from ?_)
       by_cases d1:ia2+k+1=a.size
       ·rw [qX (by simpa using d1)]
        exact AM ⟨s2.gal _,.inl ⟨_,_,rfl,eL _ _ _ m5 d1⟩⟩
       rw [qY (by simpa using d1)]
       by_cases d2:ia2+k=a.size
       ·rw [qX (by simpa using d2)]
        exact AM ⟨s2.gal _,.inl ⟨_,_,rfl,eA _ _ _ m5 d2⟩⟩
       rw [qY (by simpa using d2)]
       have c1:ia2+k+1 < a.size:=by lia
       have c3:ia+ib+1<=ia2+k+ib2:=by lia
       have m4:=tB _ _ _ m5 p2 far;refine AL (BP (i:=ib2) p2 ?_);refine (show wpS (AT prog w) A E s (if (ib2+1==b.size)=true then _ else _) P _ from ?_)
       by_cases d:ib2+1=b.size
       ·rw [qX (by simpa using d)]
        exact AM ⟨s2.gal _,.inl ⟨_,_,rfl,eB _ _ _ m4 d⟩⟩
       rw [qY (by simpa using d)];refine AL (BP (i:=ia2+k) (by lia) ?_);refine AL (Di (base:=ib2+1) (n:=b.size - (ib2+1)) (hint:=0) (arr:=b) (key:=ix a (ia2+k)) (left:=true) C (s2.gal _).good (λi=>lt (ix b (ib2+1+i)) (ix a (ia2+k))) (ia0 _ (by lia)) (λi hi=>⟨by lia,ib0 _ (by lia)⟩) (λi hi=>rfl) (λi j hij hj e=>?_) (by lia) λk3 hk3 k4 k5=>?_)
       ·cases e2:lt (ix b (ib2+1+i)) (ix a (ia2+k)) with
        | true=>rfl
        | false=>
         have:=tr _ _ _ (ia0 _ (by lia)) (ib0 _ (by lia)) (ib0 _ (by lia)) e2 (ub (ib2+1+i) (ib2+1+j) (by lia) (by lia));exact nomatch (show true=false from (show lt (ix b (ib2+1+j)) (ix a (ia2+k))=true from e).symm.trans this)
       ·have far2:∀j,ib2+1+k3<=j->j < b.size->Rl lt (ix a (ia2+k)) (ix b j):=λj j1 j2=>by
         have:=k5 (j - (ib2+1)) (by lia) (by omega);rwa [show ib2+1+(j - (ib2+1))=j by lia] at this
        have m6:=sB _ (ia2+k) (ib2+1) k3 m4 (by lia) λi j hi j1 j2=>tr _ _ _ (ib0 _ (by lia)) (ia0 _ (by lia)) (ia0 _ j2) (O.asym _ _ (ib0 _ (by lia)) (ia0 _ (by lia)) (k4 i hi)) (ua (ia2+k) j j1 j2)
        refine (show wpS (AT prog w) A E s (if k3 > 0 then _ else _) P _ from ?_)
        by_cases hk3:k3 > 0
        ·rw [qX hk3]
         refine (show wpS (AT prog w) A E s (if (ib2+1+k3==b.size)=true then _ else _) P _ from ?_)
         by_cases d2:ib2+1+k3=b.size
         ·rw [qX (by simpa using d2)]
          exact AM ⟨s2.gal _,.inl ⟨_,_,rfl,eB _ _ _ m6 d2⟩⟩
         rw [qY (by simpa using d2)];have m7:=tA _ _ _ m6 (by lia) far2;refine AL (BP (i:=ia2+k) (by lia) ?_);refine (show wpS (AT prog w) A E s (if (ia2+k+1+1==a.size)=true then _ else _) P _ from ?_)
         by_cases d3:ia2+k+1+1=a.size
         ·rw [qX (by simpa using d3)]
          exact AM ⟨s2.gal _,.inl ⟨_,_,rfl,eL _ _ _ m7 d3⟩⟩
         rw [qY (by simpa using d3)];split
         ·exact AM ⟨s2.gal _,.inr ⟨_,ia2+k+1,ib2+1+k3,_,_,_,rfl,m7,by lia,by lia,by lia⟩⟩
         ·exact AM ⟨s2.gal _,_,ia2+k+1,ib2+1+k3,_,_,_,rfl,m7,by lia,by lia,by lia⟩
        ·rw [qY hk3]
         have:k3=0:=by lia
         subst this;have m7:=tA _ _ _ m4 (by lia) far2;refine AL (BP (i:=ia2+k) (by lia) ?_);refine (show wpS (AT prog w) A E s (if (ia2+k+1+1==a.size)=true then _ else _) P _ from ?_)
         by_cases d3:ia2+k+1+1=a.size
         ·rw [qX (by simpa using d3)]
          exact AM ⟨s2.gal _,.inl ⟨_,_,rfl,eL _ _ _ m7 d3⟩⟩
         rw [qY (by simpa using d3)];split
         ·exact AM ⟨s2.gal _,.inr ⟨_,ia2+k+1,ib2+1,_,_,_,rfl,m7,by lia,by lia,by lia⟩⟩
         ·exact AM ⟨s2.gal _,_,ia2+k+1,ib2+1,_,_,_,rfl,m7,by lia,by lia,by lia⟩
      ·rw [qY hk0]
       have:k=0:=by lia
       subst this
       have c1:ia2+1 < a.size:=by omega
       have c3:ia+ib+1<=ia2+ib2:=by omega
       have m4:=tB _ _ _ m2 p2 far;refine AL (BP (i:=ib2) p2 ?_);refine (show wpS (AT prog w) A E s (if (ib2+1==b.size)=true then _ else _) P _ from ?_)
       by_cases d:ib2+1=b.size
       ·rw [qX (by simpa using d)]
        exact AM ⟨s2.gal _,.inl ⟨_,_,rfl,eB _ _ _ m4 d⟩⟩
       rw [qY (by simpa using d)];refine AL (BP (i:=ia2) (by lia) ?_);refine AL (Di (base:=ib2+1) (n:=b.size - (ib2+1)) (hint:=0) (arr:=b) (key:=ix a ia2) (left:=true) C (s2.gal _).good (λi=>lt (ix b (ib2+1+i)) (ix a ia2)) (ia0 _ (by lia)) (λi hi=>⟨by lia,ib0 _ (by lia)⟩) (λi hi=>rfl) (λi j hij hj e=>?_) (by lia) λk3 hk3 k4 k5=>?_)
       ·cases e2:lt (ix b (ib2+1+i)) (ix a ia2) with
        | true=>rfl
        | false=>
         have:=tr _ _ _ (ia0 _ (by lia)) (ib0 _ (by lia)) (ib0 _ (by lia)) e2 (ub (ib2+1+i) (ib2+1+j) (by lia) (by lia));exact nomatch (show true=false from (show lt (ix b (ib2+1+j)) (ix a ia2)=true from e).symm.trans this)
       ·have far2:∀j,ib2+1+k3<=j->j < b.size->Rl lt (ix a ia2) (ix b j):=λj j1 j2=>by
         have:=k5 (j - (ib2+1)) (by lia) (by omega);rwa [show ib2+1+(j - (ib2+1))=j by lia] at this
        have m6:=sB _ ia2 (ib2+1) k3 m4 (by lia) λi j hi j1 j2=>tr _ _ _ (ib0 _ (by lia)) (ia0 _ (by lia)) (ia0 _ j2) (O.asym _ _ (ib0 _ (by lia)) (ia0 _ (by lia)) (k4 i hi)) (ua ia2 j j1 j2)
        refine (show wpS (AT prog w) A E s (if k3 > 0 then _ else _) P _ from ?_)
        by_cases hk3:k3 > 0
        ·rw [qX hk3]
         refine (show wpS (AT prog w) A E s (if (ib2+1+k3==b.size)=true then _ else _) P _ from ?_)
         by_cases d2:ib2+1+k3=b.size
         ·rw [qX (by simpa using d2)]
          exact AM ⟨s2.gal _,.inl ⟨_,_,rfl,eB _ _ _ m6 d2⟩⟩
         rw [qY (by simpa using d2)];have m7:=tA _ _ _ m6 (by lia) far2;refine AL (BP (i:=ia2) (by lia) ?_);refine (show wpS (AT prog w) A E s (if (ia2+1+1==a.size)=true then _ else _) P _ from ?_)
         by_cases d3:ia2+1+1=a.size
         ·rw [qX (by simpa using d3)]
          exact AM ⟨s2.gal _,.inl ⟨_,_,rfl,eL _ _ _ m7 d3⟩⟩
         rw [qY (by simpa using d3)];split
         ·exact AM ⟨s2.gal _,.inr ⟨_,ia2+1,ib2+1+k3,_,_,_,rfl,m7,by lia,by lia,by lia⟩⟩
         ·exact AM ⟨s2.gal _,_,ia2+1,ib2+1+k3,_,_,_,rfl,m7,by lia,by lia,by lia⟩
        ·rw [qY hk3]
         have:k3=0:=by lia
         subst this;have m7:=tA _ _ _ m4 (by lia) far2;refine AL (BP (i:=ia2) (by lia) ?_);refine (show wpS (AT prog w) A E s (if (ia2+1+1==a.size)=true then _ else _) P _ from ?_)
         by_cases d3:ia2+1+1=a.size
         ·rw [qX (by simpa using d3)]
          exact AM ⟨s2.gal _,.inl ⟨_,_,rfl,eL _ _ _ m7 d3⟩⟩
         rw [qY (by simpa using d3)];split
         ·exact AM ⟨s2.gal _,.inr ⟨_,ia2+1,ib2+1,_,_,_,rfl,m7,by lia,by lia,by lia⟩⟩
         ·exact AM ⟨s2.gal _,_,ia2+1,ib2+1,_,_,_,rfl,m7,by lia,by lia,by lia⟩
end
theorem MI.last2 {R:Ag->Ag->Prop} {T o ra rb:List Ag} (m:MI R T o ra rb) (h:∀x∈ra,∀y∈rb,R x y):GD R T (o++(ra++rb)):=by
 refine ⟨m.perm,BN.mpr ⟨m.srt,BN.mpr ⟨m.sa,m.sb,h⟩,λx hx y hy=>m.low x hx y hy⟩⟩
theorem GD.rev {lt:Ag->Ag->Bool} {T r:List Ag} (f:GD (λx y=>Rl lt y x) T r):GD (Rl lt) T r.reverse:=⟨r.reverse_perm.trans f.perm,JG.mpr f.srt⟩
theorem TR {a:Array Ag} {i:Nat} (h:i < a.size):(a.toList.take (i+1)).reverse=ix a i :: (a.toList.take i).reverse:=by
 have:=Cd h;rw [getElem?_pos a i h] at this;rw [HU,show a.toList[i]?=some (ix a i) by simpa using Cd h];simp
theorem Qe {a:Array Ag} {i n:Nat} (h:i<=n) (hn:n<=a.size):(a.toList.take n).reverse=(a.extract i n).toList.reverse++(a.toList.take i).reverse:=by
 have e:(a.extract i n).toList=(a.toList.take n).drop i:=by simp [Lf,List.drop_take]
 rw [e,<-List.reverse_append]
 congr 1
 have:=FM i (a.toList.take n);rw [List.take_take,show min i n=i by lia] at this;exact this.symm
theorem EU {a:Array Ag} {n:Nat} {x:Ag} (hx:x∈(a.toList.take n).reverse):∃j,j < n/\j < a.size/\x=ix a j:=by
 rw [YJ] at hx;obtain ⟨k,hk,rfl⟩:=Sy.mp hx;simp at hk;refine ⟨k,by lia,by lia,?_⟩;have:=Cd (xs:=a) (i:=k) (by lia);rw [getElem?_pos a _ (by lia)] at this;simpa using this
theorem Q1 {a:Array Ag} {i n:Nat} {x:Ag} (hx:x∈(a.extract i n).toList.reverse):∃j,i<=j/\j < n/\j < a.size/\x=ix a j:=by
 rw [YJ,BI,MR] at hx;obtain ⟨j,hj,rfl⟩:=hx;refine ⟨i+j,by lia,by omega,by omega,?_⟩;have:=Cd (xs:=a) (i:=i+j) (by omega);rw [getElem?_pos a _ (by omega)] at this;simpa using this
theorem GN (a:Array Ag) (n:Nat):(a.extract 0 n).toList=a.toList.take n:=by simp [Lf]
section
variable {prog:Ah} {w:A1} {A:Aw} {E:AB->AD->Prop} {s:AD} {a₀:Array Ag} {κ:EF} {lt:Ag->Ag->Bool}
theorem Ya {st:BA} {a b:Array Ag} {Q:Array Ag->BA->Prop} (C:IN prog w A s a₀ κ lt) (O:Ord (·∈a₀) lt) (g:Good a₀ κ st)
  (ma:∀x∈a.toList,x∈a₀) (mb:∀x∈b.toList,x∈a₀) (sa:a.toList.Pairwise (Rl lt)) (sb:b.toList.Pairwise (Rl lt)) (pa:0 < a.size) (pb:0 < b.size)
  (h0:∀x∈a.toList,Rl lt (ix b 0) x) (h1:∀y∈b.toList,Rl lt y (ix a (a.size - 1)))
  (h:∀r st',IR a₀ κ st st'->GD (Rl lt) (a.toList++b.toList) r.toList->Q r st'):wpS (AT prog w) A E s (mHi a b) Q st:=by
 have ia0:=Pk ma;have ib0:=Pk mb;have ua:=Qc O ia0 sa;have ub:=Qc O ib0 sb
 have tr:∀x y z:Ag,x∈a₀->y∈a₀->z∈a₀->Rl lt x y->Rl lt y z->Rl lt x z:=λx y z hx hy hz h1 h2=>O.ntr x y z hx hy hz h1 h2
 let M (out:Array Ag) (na nb:Nat):Prop:=MI (λx y=>Rl lt y x) (a.toList++b.toList) out.toList (a.toList.take na).reverse (b.toList.take nb).reverse
 have tA0:∀out na nb,M out (na+1) nb->na < a.size->nb<=b.size->(∀j,j < nb->Rl lt (ix b j) (ix a na))->M (out.push (ix a na)) na nb:=λout na nb m hna hnb hr=>by
  have m':MI (λx y=>Rl lt y x) (a.toList++b.toList) out.toList ([ix a na]++(a.toList.take na).reverse) (b.toList.take nb).reverse:=by rw [FN,<-TR hna];exact m
  have:=m'.takeA λx hx y hy=>by
   obtain ⟨j,j1,j2,rfl⟩:=EU hy;rw [Af.mp hx];exact hr j j1
  simpa [M] using this
 have tB0:∀out na nb,M out na (nb+1)->nb < b.size->na<=a.size->(∀j,j < na->Rl lt (ix a j) (ix b nb))->M (out.push (ix b nb)) na nb:=λout na nb m hnb hna hr=>by
  have m':MI (λx y=>Rl lt y x) (a.toList++b.toList) out.toList (a.toList.take na).reverse ([ix b nb]++(b.toList.take nb).reverse):=by rw [FN,<-TR hnb];exact m
  have:=m'.takeB λx hx y hy=>by
   obtain ⟨j,j1,j2,rfl⟩:=EU hy;rw [Af.mp hx];exact hr j j1
  simpa [M] using this
 have tA:∀out na nb,M out na nb->0 < na->na<=a.size->nb<=b.size->(∀j,j < nb->Rl lt (ix b j) (ix a (na - 1)))->M (out.push (ix a (na - 1))) (na - 1) nb:=λout na nb m h0 hna hnb hr=>
  tA0 out (na - 1) nb (by rw [show na - 1+1=na by lia];exact m) (by omega) hnb hr
 have tB:∀out na nb,M out na nb->0 < nb->nb<=b.size->na<=a.size->(∀j,j < na->Rl lt (ix a j) (ix b (nb - 1)))->M (out.push (ix b (nb - 1))) na (nb - 1):=λout na nb m h0 hnb hna hr=>
  tB0 out na (nb - 1) (by rw [show nb - 1+1=nb by lia];exact m) (by omega) hna hr
 have sA:∀out na nb k,M out na nb->k<=na->na<=a.size->nb<=b.size->(∀i j,k<=i->i < na->j < nb->Rl lt (ix b j) (ix a i))->M (out++(a.extract k na).reverse) k nb:=λout na nb k m hk hna hnb hr=>by
  have m':MI (λx y=>Rl lt y x) (a.toList++b.toList) out.toList ((a.extract k na).toList.reverse++(a.toList.take k).reverse) (b.toList.take nb).reverse:=by rw [<-Qe hk hna];exact m
  have:=m'.takeA λx hx y hy=>by
   obtain ⟨j,j1,j2,rfl⟩:=EU hy;obtain ⟨i,i1,i2,i3,rfl⟩:=Q1 hx;exact hr i j i1 i2 j1
  show MI _ _ (out++(a.extract k na).reverse).toList _ _;rw [A4,Dr];exact this
 have sB:∀out na nb k,M out na nb->k<=nb->nb<=b.size->na<=a.size->(∀i j,k<=i->i < nb->j < na->Rl lt (ix a j) (ix b i))->M (out++(b.extract k nb).reverse) na k:=λout na nb k m hk hnb hna hr=>by
  have m':MI (λx y=>Rl lt y x) (a.toList++b.toList) out.toList (a.toList.take na).reverse ((b.extract k nb).toList.reverse++(b.toList.take k).reverse):=by rw [<-Qe hk hnb];exact m
  have:=m'.takeB λx hx y hy=>by
   obtain ⟨j,j1,j2,rfl⟩:=EU hy;obtain ⟨i,i1,i2,i3,rfl⟩:=Q1 hx;exact hr i j i1 i2 j1
  show MI _ _ (out++(b.extract k nb).reverse).toList _ _;rw [A4,Dr];exact this
 have eA:∀out na nb,M out na nb->na=0->GD (Rl lt) (a.toList++b.toList) (a.extract 0 na++b.extract 0 nb++out.reverse).toList:=λout na nb m e=>by
  subst e
  have m':MI (λx y=>Rl lt y x) (a.toList++b.toList) out.toList [] (b.toList.take nb).reverse:=by simpa [M] using m
  have:=m'.endB.rev;rw [A4,A4,GN,GN,Dr];simpa using this
 have eB:∀out na nb,M out na nb->nb=0->GD (Rl lt) (a.toList++b.toList) (a.extract 0 na++b.extract 0 nb++out.reverse).toList:=λout na nb m e=>by
  subst e
  have m':MI (λx y=>Rl lt y x) (a.toList++b.toList) out.toList (a.toList.take na).reverse []:=by simpa [M] using m
  have:=m'.endA.rev;rw [A4,A4,GN,GN,Dr];simpa using this
 have eF:∀out na nb,M out na nb->nb=1->GD (Rl lt) (a.toList++b.toList) (b.extract 0 nb++a.extract 0 na++out.reverse).toList:=λout na nb m e=>by
  have:=m.last2 λx hx y hy=>by
   obtain ⟨j,j1,j2,rfl⟩:=EU hx;obtain ⟨i,i1,i2,rfl⟩:=EU hy
   have:i=0:=by lia
   subst this;exact h0 _ (BI.mpr (CG (Cd j2)))
  have:=this.rev;rw [A4,A4,GN,GN,Dr];simpa using this
 have m0:M #[] a.size b.size:=by
  refine ⟨?_,by simp,by simp,?_,?_⟩
  ·rw [DR (by simp),DR (by simp)]
   simpa using List.Perm.append a.toList.reverse_perm b.toList.reverse_perm
  ·rw [DR (by simp)];exact JG.mpr sa
  ·rw [DR (by simp)];exact JG.mpr sb
 have m1:M #[ix a (a.size - 1)] (a.size - 1) b.size:=by
  have:=tA #[] a.size b.size m0 pa (AO _) (AO _) λj hj=>h1 _ (BI.mpr (CG (Cd hj)))
  simpa using this
 refine (AL (HW ?_):wpS _ _ _ _ (mHi a b) Q st);refine AL (BP (i:=a.size - 1) (by omega) ?_)
 by_cases c1:a.size - 1=0
 ·refine (show wpS (AT prog w) A E s (if (a.size - 1==0)=true then _ else _) Q st from ?_)
  rw [qX (by simpa using c1)];exact AM (h _ st ⟨g,rfl,rfl⟩ (eA _ _ _ m1 c1))
 refine (show wpS (AT prog w) A E s (if (a.size - 1==0)=true then _ else _) Q st from ?_);rw [qY (by simpa using c1)]
 by_cases c2:b.size=1
 ·rw [qX (by simpa using c2)]
  exact AM (h _ st ⟨g,rfl,rfl⟩ (eF _ _ _ m1 c2))
 rw [qY (by simpa using c2)];refine AL (FW ?_)
 refine AL (Ca (Bi (I:=λx c st'=>IR a₀ κ st st'/\∃out na nb mg,c=(none,na,nb,out,mg)/\M out na nb/\0 < na/\1 < nb/\na<=a.size/\nb<=b.size/\na+nb+1+x<=a.size+b.size)
  (Q:=λc st'=>IR a₀ κ st st'/\∃r z,c=(some r,z)/\GD (Rl lt) (a.toList++b.toList) r.toList) ?step ?fin ?init) ?post)
 case init=>exact ⟨⟨g,rfl,rfl⟩,_,a.size - 1,b.size,_,rfl,m1,by lia,by lia,by omega,by lia,by lia⟩
 case fin=>
  rintro c st' ⟨_,out,na,nb,mg,_,_,k1,k2,k3,k4,k5⟩
  lia
 case post=>
  rintro c st' ⟨s1,r,z,rfl,f⟩;exact AM (h r st' s1 f)
 case step=>
  rintro x c st1 _ _ ⟨s1,out,na,nb,mg,rfl,m,k1,k2,k3,k4,k5⟩
  refine AL (Ca (Bi (I:=λy c st'=>st'=st1/\∃out' na' nb' ac bc,c=(none,na',nb',out',ac,bc)/\M out' na' nb'/\0 < na'/\1 < nb'/\na'<=a.size/\nb'<=b.size/\na'+nb'+y<=na+nb)
   (Q:=λc st'=>st'=st1/\((∃r z,c=(some r,z)/\GD (Rl lt) (a.toList++b.toList) r.toList)∨∃out' na' nb' ac bc,c=(none,na',nb',out',ac,bc)/\M out' na' nb'/\0 < na'/\1 < nb'/\na'<=a.size/\nb'<=b.size/\na'+nb'+1<=na+nb)) ?step1 ?fin1 ?init1) ?post1)
  case init1=>exact ⟨rfl,out,na,nb,0,0,rfl,m,k1,k2,k3,k4,by lia⟩
  case fin1=>
   rintro c st' ⟨rfl,out',na',nb',ac,bc,rfl,m',q1,q2,q3,q4,q5⟩;exact ⟨rfl,.inr ⟨out',na',nb',ac,bc,rfl,m',q1,q2,q3,q4,by lia⟩⟩
  case step1=>
   rintro y c st' _ _ ⟨rfl,out',na',nb',ac,bc,rfl,m',q1,q2,q3,q4,q5⟩;refine AL (BP (i:=nb' - 1) (by lia) ?_);refine AL (BP (i:=na' - 1) (by lia) ?_);refine AL (Mp C s1.good (ib0 _ (by lia)) (ia0 _ (by lia)) ?_)
   cases e:lt (ix b (nb' - 1)) (ix a (na' - 1)) with
   | true=>
    refine AL (BP (i:=na' - 1) (by lia) ?_);have r0:Rl lt (ix b (nb' - 1)) (ix a (na' - 1)):=O.asym _ _ (ib0 _ (by lia)) (ia0 _ (by lia)) e
    have m2:=tA out' na' nb' m' q1 q3 q4 λj j1=>tr _ _ _ (ib0 _ (by lia)) (ib0 _ (by lia)) (ia0 _ (by lia)) (ub j (nb' - 1) (by lia) (by lia)) r0
    refine (show wpS (AT prog w) A E s (if (na' - 1==0)=true then _ else _) _ st' from ?_)
    by_cases d:na' - 1=0
    ·rw [qX (by simpa using d)]
     exact AM ⟨rfl,.inl ⟨_,_,rfl,eA _ _ _ m2 d⟩⟩
    ·rw [qY (by simpa using d)]
     split
     ·exact AM ⟨rfl,.inr ⟨_,na' - 1,nb',_,_,rfl,m2,by lia,by omega,by lia,by omega,by lia⟩⟩
     ·exact AM ⟨rfl,_,na' - 1,nb',_,_,rfl,m2,by lia,by omega,by lia,by omega,by lia⟩
   | false=>
    refine AL (BP (i:=nb' - 1) (by lia) ?_)
    have m2:=tB out' na' nb' m' (by lia) q4 q3 λj j1=>tr _ _ _ (ia0 _ (by lia)) (ia0 _ (by lia)) (ib0 _ (by lia)) (ua j (na' - 1) (by lia) (by lia)) e
    refine (show wpS (AT prog w) A E s (if (nb' - 1==1)=true then _ else _) _ st' from ?_)
    by_cases d:nb' - 1=1
    ·rw [qX (by simpa using d)]
     exact AM ⟨rfl,.inl ⟨_,_,rfl,eF _ _ _ m2 d⟩⟩
    ·rw [qY (by simpa using d)]
     split
     ·exact AM ⟨rfl,.inr ⟨_,na',nb' - 1,_,_,rfl,m2,by omega,by lia,by omega,by lia,by lia⟩⟩
     ·exact AM ⟨rfl,_,na',nb' - 1,_,_,rfl,m2,by omega,by lia,by omega,by lia,by lia⟩
  case post1=>
   rintro c st' ⟨rfl,⟨r,z,rfl,f⟩ | ⟨out',na',nb',ac,bc,rfl,m',q1,q2,q3,q4,q5⟩⟩
   ·exact AM ⟨s1,_,_,rfl,f⟩
   refine AL (HW ?_)
   refine AL (Ca (Bi (I:=λy c st2=>IR a₀ κ st st2/\∃out2 na2 nb2 mg2 ac bc,c=(none,na2,nb2,out2,mg2,ac,bc)/\M out2 na2 nb2/\0 < na2/\1 < nb2/\na2<=a.size/\nb2<=b.size/\na2+nb2+1<=na+nb)
    (Q:=λc st2=>IR a₀ κ st st2/\((∃r z,c=(some r,z)/\GD (Rl lt) (a.toList++b.toList) r.toList)∨∃out2 na2 nb2 mg2 ac bc,c=(none,na2,nb2,out2,mg2,ac,bc)/\M out2 na2 nb2/\0 < na2/\1 < nb2/\na2<=a.size/\nb2<=b.size/\na2+nb2+1<=na+nb)) ?step2 ?fin2 ?init2) ?post2)
   case init2=>exact ⟨s1,out',na',nb',mg+1,ac,bc,rfl,m',q1,q2,q3,q4,q5⟩
   case fin2=>
    rintro c st2 ⟨s2,out2,na2,nb2,mg2,ac2,bc2,rfl,m2,p1⟩;exact ⟨s2,.inr ⟨out2,na2,nb2,mg2,ac2,bc2,rfl,m2,p1⟩⟩
   case post2=>
    rintro c st2 ⟨s2,⟨r,z,rfl,f⟩ | ⟨out2,na2,nb2,mg2,ac2,bc2,rfl,m2,p1,p2,p3,p4,p5⟩⟩
    ·exact AM ⟨s2,_,_,rfl,f⟩
    ·exact AL (MU (AM ⟨s2.gal _,out2,na2,nb2,mg2+1,rfl,m2,p1,p2,p3,p4,by lia⟩))
   case step2=>
    rintro y c st2 _ _ ⟨s2,out2,na2,nb2,mg2,ac2,bc2,rfl,m2,p1,p2,p3,p4,p5⟩
    let P:ForInStep (Option (Array Ag)×Nat×Nat×Array Ag×Nat×Nat×Nat)->BA->Prop:=λr st'=>match r with
     | .done c'=>IR a₀ κ st st'/\((∃r z,c'=(some r,z)/\GD (Rl lt) (a.toList++b.toList) r.toList)∨∃out2 na2 nb2 mg2 ac bc,c'=(none,na2,nb2,out2,mg2,ac,bc)/\M out2 na2 nb2/\0 < na2/\1 < nb2/\na2<=a.size/\nb2<=b.size/\na2+nb2+1<=na+nb)
     | .yield c'=>IR a₀ κ st st'/\∃out2 na2 nb2 mg2 ac bc,c'=(none,na2,nb2,out2,mg2,ac,bc)/\M out2 na2 nb2/\0 < na2/\1 < nb2/\na2<=a.size/\nb2<=b.size/\na2+nb2+1<=na+nb
    refine Ca (Q:=P) ?_ λr st' h=>by cases r <;> exact h
    refine (show wpS (AT prog w) A E s (if mg2 > 1 then _ else _) P st2 from ?_);split
    all_goals
     refine AL (MU ?_);refine AL (BP (i:=nb2 - 1) (by lia) ?_);refine AL (Di (base:=0) (n:=na2) (hint:=na2 - 1) (arr:=a) (key:=ix b (nb2 - 1)) (left:=false) C (s2.gal _).good (λi=>!lt (ix b (nb2 - 1)) (ix a (0+i))) (ib0 _ (by lia)) (λi hi=>⟨by lia,ia0 _ (by lia)⟩) (λi hi=>rfl) (λi j hij hj e=>?_) (by lia) λk hk k1 k2=>?_)
     ·have e':lt (ix b (nb2 - 1)) (ix a (0+j))=false:=by simpa using e
      have:=tr _ _ _ (ia0 _ (by lia)) (ia0 _ (by lia)) (ib0 _ (by lia)) (ua (0+i) (0+j) (by lia) (by lia)) e';simpa using this
     ·have near:∀j,j < k->Rl lt (ix a j) (ix b (nb2 - 1)):=λj j1=>by
       have:=k1 j j1;rw [E7] at this;simpa using this
      have m5:=sA out2 na2 nb2 k m2 hk p3 p4 λi j i1 i2 j1=>by
       have:=k2 i i1 i2;rw [E7] at this;exact tr _ _ _ (ib0 _ (by lia)) (ib0 _ (by lia)) (ia0 _ (by lia)) (ub j (nb2 - 1) (by lia) (by lia)) (O.asym _ _ (ib0 _ (by lia)) (ia0 _ (by lia)) (by simpa using this))
      refine (show wpS (AT prog w) A E s (if na2 - k > 0 then _ else _) P _ from ?_)
      by_cases hk0:na2 - k > 0
      ·rw [qX hk0]
       refine (show wpS (AT prog w) A E s (if (k==0)=true then _ else _) P _ from ?_)
       by_cases d1:k=0
       ·rw [qX (by simpa using d1)]
        exact AM ⟨s2.gal _,.inl ⟨_,_,rfl,eA _ _ _ m5 d1⟩⟩
       rw [qY (by simpa using d1)];have m4:=tB _ _ _ m5 (by lia) p4 (by lia) near;refine AL (BP (i:=nb2 - 1) (by lia) ?_);refine (show wpS (AT prog w) A E s (if (nb2 - 1==1)=true then _ else _) P _ from ?_)
       by_cases d:nb2 - 1=1
       ·rw [qX (by simpa using d)]
        exact AM ⟨s2.gal _,.inl ⟨_,_,rfl,eF _ _ _ m4 d⟩⟩
       rw [qY (by simpa using d)];refine AL (BP (i:=k - 1) (by omega) ?_);refine AL (Di (base:=0) (n:=nb2 - 1) (hint:=nb2 - 1 - 1) (arr:=b) (key:=ix a (k - 1)) (left:=true) C (s2.gal _).good (λi=>lt (ix b (0+i)) (ix a (k - 1))) (ia0 _ (by omega)) (λi hi=>⟨by lia,ib0 _ (by lia)⟩) (λi hi=>rfl) (λi j hij hj e=>?_) (by lia) λk3 hk3 k4 k5=>?_)
       ·cases e2:lt (ix b (0+i)) (ix a (k - 1)) with
        | true=>rfl
        | false=>
         have:=tr _ _ _ (ia0 _ (by lia)) (ib0 _ (by lia)) (ib0 _ (by lia)) e2 (ub (0+i) (0+j) (by lia) (by lia));exact nomatch (show true=false from (show lt (ix b (0+j)) (ix a (k - 1))=true from e).symm.trans this)
       ·have near2:∀j,j < k3->Rl lt (ix b j) (ix a (k - 1)):=λj j1=>by
         have:=k4 j j1;rw [E7] at this;exact O.asym _ _ (ib0 _ (by lia)) (ia0 _ (by omega)) this
        have m6:=sB _ k (nb2 - 1) k3 m4 hk3 (by lia) (by lia) λi j i1 i2 j1=>by
         have:=k5 i i1 i2;rw [E7] at this;exact tr _ _ _ (ia0 _ (by lia)) (ia0 _ (by lia)) (ib0 _ (by lia)) (ua j (k - 1) (by lia) (by lia)) this
        refine (show wpS (AT prog w) A E s (if nb2 - 1 - k3 > 0 then _ else _) P _ from ?_)
        by_cases hk4:nb2 - 1 - k3 > 0
        ·rw [qX hk4]
         refine (show wpS (AT prog w) A E s (if (k3==1)=true then _ else _) P _ from ?_)
         by_cases d2:k3=1
         ·rw [qX (by simpa using d2)]
          exact AM ⟨s2.gal _,.inl ⟨_,_,rfl,eF _ _ _ m6 d2⟩⟩
         rw [qY (by simpa using d2)]
         by_cases d4:k3=0
         ·rw [qX (by simpa using d4)]
          exact AM ⟨s2.gal _,.inl ⟨_,_,rfl,eB _ _ _ m6 d4⟩⟩
         rw [qY (by simpa using d4)];have m7:=tA _ _ _ m6 (by lia) (by lia) (by lia) near2;refine AL (BP (i:=k - 1) (by lia) ?_);refine (show wpS (AT prog w) A E s (if (k - 1==0)=true then _ else _) P _ from ?_)
         by_cases d3:k - 1=0
         ·rw [qX (by simpa using d3)]
          exact AM ⟨s2.gal _,.inl ⟨_,_,rfl,eA _ _ _ m7 d3⟩⟩
         rw [qY (by simpa using d3)];split
         ·exact AM ⟨s2.gal _,.inr ⟨_,k - 1,k3,_,_,_,rfl,m7,by lia,by lia,by lia,by lia,by lia⟩⟩
         ·exact AM ⟨s2.gal _,_,k - 1,k3,_,_,_,rfl,m7,by lia,by lia,by lia,by lia,by lia⟩
        ·rw [qY hk4]
         have:k3=nb2 - 1:=by lia
         subst this;have m7:=tA _ _ _ m4 (by lia) (by lia) (by lia) near2;refine AL (BP (i:=k - 1) (by lia) ?_);refine (show wpS (AT prog w) A E s (if (k - 1==0)=true then _ else _) P _ from ?_)
         by_cases d3:k - 1=0
         ·rw [qX (by simpa using d3)]
          exact AM ⟨s2.gal _,.inl ⟨_,_,rfl,eA _ _ _ m7 d3⟩⟩
         rw [qY (by simpa using d3)];split
         ·exact AM ⟨s2.gal _,.inr ⟨_,k - 1,nb2 - 1,_,_,_,rfl,m7,by lia,by lia,by lia,by lia,by lia⟩⟩
         ·exact AM ⟨s2.gal _,_,k - 1,nb2 - 1,_,_,_,rfl,m7,by lia,by lia,by lia,by lia,by lia⟩
      ·rw [qY hk0]
       have:k=na2:=by lia
       subst this;have m4:=tB _ _ _ m2 (by lia) p4 (by omega) near;refine AL (BP (i:=nb2 - 1) (by lia) ?_);refine (show wpS (AT prog w) A E s (if (nb2 - 1==1)=true then _ else _) P _ from ?_)
       by_cases d:nb2 - 1=1
       ·rw [qX (by simpa using d)]
        exact AM ⟨s2.gal _,.inl ⟨_,_,rfl,eF _ _ _ m4 d⟩⟩
       rw [qY (by simpa using d)];refine AL (BP (i:=k - 1) (by lia) ?_);refine AL (Di (base:=0) (n:=nb2 - 1) (hint:=nb2 - 1 - 1) (arr:=b) (key:=ix a (k - 1)) (left:=true) C (s2.gal _).good (λi=>lt (ix b (0+i)) (ix a (k - 1))) (ia0 _ (by lia)) (λi hi=>⟨by lia,ib0 _ (by lia)⟩) (λi hi=>rfl) (λi j hij hj e=>?_) (by lia) λk3 hk3 k4 k5=>?_)
       ·cases e2:lt (ix b (0+i)) (ix a (k - 1)) with
        | true=>rfl
        | false=>
         have:=tr _ _ _ (ia0 _ (by lia)) (ib0 _ (by lia)) (ib0 _ (by lia)) e2 (ub (0+i) (0+j) (by lia) (by lia));exact nomatch (show true=false from (show lt (ix b (0+j)) (ix a (k - 1))=true from e).symm.trans this)
       ·have near2:∀j,j < k3->Rl lt (ix b j) (ix a (k - 1)):=λj j1=>by
         have:=k4 j j1;rw [E7] at this;exact O.asym _ _ (ib0 _ (by lia)) (ia0 _ (by lia)) this
        have m6:=sB _ k (nb2 - 1) k3 m4 hk3 (by lia) (by omega) λi j i1 i2 j1=>by
         have:=k5 i i1 i2;rw [E7] at this;exact tr _ _ _ (ia0 _ (by lia)) (ia0 _ (by lia)) (ib0 _ (by lia)) (ua j (k - 1) (by lia) (by lia)) this
        refine (show wpS (AT prog w) A E s (if nb2 - 1 - k3 > 0 then _ else _) P _ from ?_)
        by_cases hk4:nb2 - 1 - k3 > 0
        ·rw [qX hk4]
         refine (show wpS (AT prog w) A E s (if (k3==1)=true then _ else _) P _ from ?_)
         by_cases d2:k3=1
         ·rw [qX (by simpa using d2)]
          exact AM ⟨s2.gal _,.inl ⟨_,_,rfl,eF _ _ _ m6 d2⟩⟩
         rw [qY (by simpa using d2)]
         by_cases d4:k3=0
         ·rw [qX (by simpa using d4)]
          exact AM ⟨s2.gal _,.inl ⟨_,_,rfl,eB _ _ _ m6 d4⟩⟩
         rw [qY (by simpa using d4)];have m7:=tA _ _ _ m6 (by omega) (by omega) (by lia) near2;refine AL (BP (i:=k - 1) (by lia) ?_);refine (show wpS (AT prog w) A E s (if (k - 1==0)=true then _ else _) P _ from ?_)
         by_cases d3:k - 1=0
         ·rw [qX (by simpa using d3)]
          exact AM ⟨s2.gal _,.inl ⟨_,_,rfl,eA _ _ _ m7 d3⟩⟩
         rw [qY (by simpa using d3)];split
         ·exact AM ⟨s2.gal _,.inr ⟨_,k - 1,k3,_,_,_,rfl,m7,by lia,by lia,by lia,by lia,by lia⟩⟩
         ·exact AM ⟨s2.gal _,_,k - 1,k3,_,_,_,rfl,m7,by lia,by lia,by lia,by lia,by lia⟩
        ·rw [qY hk4]
         have:k3=nb2 - 1:=by lia
         subst this;have m7:=tA _ _ _ m4 (by omega) (by omega) (by lia) near2;refine AL (BP (i:=k - 1) (by lia) ?_);refine (show wpS (AT prog w) A E s (if (k - 1==0)=true then _ else _) P _ from ?_)
         by_cases d3:k - 1=0
         ·rw [qX (by simpa using d3)]
          exact AM ⟨s2.gal _,.inl ⟨_,_,rfl,eA _ _ _ m7 d3⟩⟩
         rw [qY (by simpa using d3)];split
         ·exact AM ⟨s2.gal _,.inr ⟨_,k - 1,nb2 - 1,_,_,_,rfl,m7,by lia,by lia,by lia,by lia,by lia⟩⟩
         ·exact AM ⟨s2.gal _,_,k - 1,nb2 - 1,_,_,_,rfl,m7,by lia,by lia,by lia,by lia,by lia⟩
end
def wr (arr:Array Ag) (sa:Nat) (l:List (Ag×Nat)):Array Ag:=l.foldl (λa (x:Ag×Nat)=>match x with | (p,j)=>a.setIfInBounds (sa+j) p) arr
theorem PH (sa:Nat):∀(l:List Ag) (k:Nat) (arr:Array Ag),sa+k+l.length<=arr.size->(wr arr sa (l.zipIdx k)).toList=arr.toList.take (sa+k)++l++arr.toList.drop (sa+k+l.length)
 | [],k,arr,h=>by simp [wr]
 | x :: l,k,arr,h=>by
  rw [Au] at h;have e:wr arr sa ((x :: l).zipIdx k)=wr (arr.setIfInBounds (sa+k) x) sa (l.zipIdx (k+1)):=rfl;rw [e,PH sa l (k+1) _ (by simp;lia)]
  have hk:sa+k < arr.toList.length:=by simp;lia
  rw [N9,Au,show sa+(k+1)=sa+k+1 by lia];rw [HU,List.take_set_of_le (AO _),A3 hk,List.drop_set_of_lt (by lia)];simp [show sa+k+1+l.length=sa+k+(l.length+1) by lia]
theorem ix_list (a:Array Ag) (i:Nat):ix a i=(a.toList[i]?).getD (.none,.none):=by
 unfold ix;rw [De];simp
theorem XX {arr m:Array Ag} {sa:Nat} (h:sa+m.size<=arr.size) (i:Nat):ix (wr arr sa m.toList.zipIdx) i=if i < sa then ix arr i else if i < sa+m.size then ix m (i - sa) else ix arr i:=by
 have e:=PH sa m.toList 0 arr (by simpa using h);rw [ix_list,show m.toList.zipIdx=m.toList.zipIdx 0 from rfl,e,Rs]
 have hl:(arr.toList.take sa).length=sa:=by simp;lia
 split
 ·rename_i h1
  rw [Az,AV (by lia),QF h1,ix_list]
 ·rename_i h1
  split
  ·rename_i h2
   rw [Az,As (by lia),hl,AV (by simp;lia),ix_list]
  ·rename_i h2
   rw [As (by simp;lia),Eb,ix_list]
   congr 2
   simp
   lia
theorem ZP {arr m:Array Ag} {sa:Nat} (h:sa+m.size<=arr.size) (hp:m.toList.Perm (arr.extract sa (sa+m.size)).toList):(wr arr sa m.toList.zipIdx).Perm arr:=by
 rw [Ds];have e:=PH sa m.toList 0 arr (by simpa using h);rw [show m.toList.zipIdx=m.toList.zipIdx 0 from rfl,e,Rs]
 have e2:arr.toList=arr.toList.take sa++(arr.extract sa (sa+m.size)).toList++arr.toList.drop (sa+m.toList.length):=by
  rw [Az,BX,<-Gi h,FM]
 conv=>rhs;rw [e2]
 exact N7 _ (Hk _ hp)
theorem SY {a:Array Ag} {lo hi i:Nat} (h:hi<=a.size) (hi':i < hi - lo):ix (a.extract lo hi) i=ix a (lo+i):=by
 apply Ha
 rw [Array.getElem?_extract];simp
 lia
section
variable {prog:Ah} {w:A1} {A:Aw} {E:AB->AD->Prop} {s:AD} {a₀:Array Ag} {κ:EF} {lt:Ag->Ag->Bool}
theorem WJ {a:Array Ag} {lo hi:Nat} (h:hi<=a.size) (u:Up lt a lo hi):(a.extract lo hi).toList.Pairwise (Rl lt):=by
 rw [HK];intro i j hi' hj hij;simp at hi' hj
 have e:∀k (hk:k < (a.extract lo hi).toList.length),(a.extract lo hi).toList[k]=ix a (lo+k):=λk hk=>by
  have hk':k < (a.extract lo hi).size:=by rw [BX] at hk;exact hk
  have:=Cd hk';rw [getElem?_pos (a.extract lo hi) k hk'] at this
  have hs:(a.extract lo hi).size=hi - lo:=by simp;lia
  rw [<-SY h (by lia)];simpa using this
 rw [e,e];exact u _ _ (by lia) (by lia) (by omega)
theorem YY {st st1:BA} {Q:PUnit->BA->Prop} (h:Q ⟨⟩ st1):wpS (AT prog w) A E s (set st1:StateT BA Sem PUnit) Q st:=AM h
theorem QR {st:BA} {i sa na pw sb nb pw2:Nat} {Q:Bool->BA->Prop} (C:IN prog w A s a₀ κ lt) (O:Ord (·∈a₀) lt) (g:Good a₀ κ st)
  (e1:(AR st)[i]?=some (sa,na,pw)) (e2:(AR st)[i+1]?=some (sb,nb,pw2)) (hab:sb=sa+na) (hna:1<=na) (hnb:1<=nb) (hs:sb+nb<=a₀.size)
  (ua:Up lt (AQ st) sa (sa+na)) (ub:Up lt (AQ st) sb (sb+nb))
  (h:∀st',Good a₀ κ st'->AR st'=((AR st).setIfInBounds i (sa,na+nb,pw)).eraseIdxIfInBounds (i+1)->Up lt (AQ st') sa (sa+(na+nb))->Out (AQ st) (AQ st') sa (sa+(na+nb))->Q true st') :
  wpS (AT prog w) A E s (mergeAt' i) Q st:=by
 subst hab;have hsz:=g.size
 have mem:∀j,j < a₀.size->ix (AQ st) j∈a₀:=λj hj=>g.mem hj
 have tr:∀x y z:Ag,x∈a₀->y∈a₀->z∈a₀->Rl lt x y->Rl lt y z->Rl lt x z:=λx y z hx hy hz h1 h2=>O.ntr x y z hx hy hz h1 h2
 refine (AL (FW ?_):wpS _ _ _ _ (mergeAt' i) Q st);rw [show (sortPriv% PySem.Builtin.SortState.pending) st=AR st from rfl,e1,e2];refine AL (YY ?_);generalize hst1:((sortPriv% PySem.Builtin.SortState.mk) (kindOf st) (AQ st) (((AR st).setIfInBounds i (sa,na+nb,pw)).eraseIdxIfInBounds (i+1)) (gallopOf st) (Gq st))=st1
 have g1:Good a₀ κ st1:=by subst hst1;exact ⟨g.perm,g.kind,g.failed⟩
 have a1:AQ st1=AQ st:=by subst hst1;rfl
 have p1:AR st1=((AR st).setIfInBounds i (sa,na+nb,pw)).eraseIdxIfInBounds (i+1):=by subst hst1;rfl
 refine AL (BP (a:=AQ st) (i:=sa+na) (by lia) ?_);refine AL (Di (base:=sa) (n:=na) (hint:=0) (arr:=AQ st) (key:=ix (AQ st) (sa+na)) (left:=false) C g1 (λj=>!lt (ix (AQ st) (sa+na)) (ix (AQ st) (sa+j))) (mem _ (by lia)) (λj hj=>⟨by lia,mem _ (by lia)⟩) (λj hj=>rfl) (λx y hxy hy e=>?_) (by lia) λk hk k1 k2=>?_)
 ·have e':lt (ix (AQ st) (sa+na)) (ix (AQ st) (sa+y))=false:=by simpa using e
  have:=tr _ _ _ (mem _ (by lia)) (mem _ (by lia)) (mem _ (by lia)) (ua (sa+x) (sa+y) (by lia) (by lia) (by lia)) e';simpa using this
 have low:∀j,sa<=j->j < sa+k->Rl lt (ix (AQ st) j) (ix (AQ st) (sa+na)):=λj j1 j2=>by
  have:=k1 (j - sa) (by lia);rw [show sa+(j - sa)=j by lia] at this;simpa using this
 have lowb:∀i j,sa<=i->i < sa+k->sa+na<=j->j < sa+na+nb->Rl lt (ix (AQ st) i) (ix (AQ st) j):=λi j i1 i2 j1 j2=>tr _ _ _ (mem _ (by lia)) (mem _ (by lia)) (mem _ (by lia)) (low i i1 i2) (ub _ _ (by lia) (by omega) (by omega))
 have whole:(∀j,sa<=j->j < sa+na->Rl lt (ix (AQ st) j) (ix (AQ st) (sa+na)))->Up lt (AQ st) sa (sa+(na+nb)):=λhh x y h1 h2 h3=>by
  by_cases c1:y < sa+na
  ·exact ua x y h1 h2 c1
  by_cases c2:x < sa+na
  ·exact tr _ _ _ (mem _ (by lia)) (mem _ (by lia)) (mem _ (by lia)) (hh x h1 c2) (ub _ _ (by lia) (by lia) (by lia))
  ·exact ub x y (by lia) h2 (by lia)
 refine (show wpS (AT prog w) A E s (if (na - k==0)=true then _ else _) Q st1 from ?_)
 by_cases c1:na - k=0
 ·rw [qX (by simpa using c1)]
  refine AM (h st1 g1 p1 ?_ (by rw [a1];exact .refl));rw [a1]
  exact whole λj j1 j2=>low j j1 (by lia)
 rw [qY (by simpa using c1)];refine AL (BP (a:=AQ st) (i:=sa+k+(na - k) - 1) (by omega) ?_);rw [show sa+k+(na - k) - 1=sa+na - 1 by lia];refine AL (Di (base:=sa+na) (n:=nb) (hint:=nb - 1) (arr:=AQ st) (key:=ix (AQ st) (sa+na - 1)) (left:=true) C g1 (λj=>lt (ix (AQ st) (sa+na+j)) (ix (AQ st) (sa+na - 1))) (mem _ (by lia)) (λj hj=>⟨by lia,mem _ (by lia)⟩) (λj hj=>rfl) (λx y hxy hy e=>?_) (by omega) λk3 hk3 k4 k5=>?_)
 ·cases e2:lt (ix (AQ st) (sa+na+x)) (ix (AQ st) (sa+na - 1)) with
  | true=>rfl
  | false=>
   have:=tr _ _ _ (mem _ (by lia)) (mem _ (by lia)) (mem _ (by lia)) e2 (ub (sa+na+x) (sa+na+y) (by lia) (by lia) (by lia));exact nomatch (show true=false from (show lt (ix (AQ st) (sa+na+y)) (ix (AQ st) (sa+na - 1))=true from e).symm.trans this)
 have high:∀j,sa+na+k3<=j->j < sa+na+nb->Rl lt (ix (AQ st) (sa+na - 1)) (ix (AQ st) j):=λj j1 j2=>by
  have:=k5 (j - (sa+na)) (by lia) (by lia);rwa [show sa+na+(j - (sa+na))=j by lia] at this
 refine (show wpS (AT prog w) A E s (if (k3==0)=true then _ else _) Q st1 from ?_)
 by_cases c2:k3=0
 ·rw [qX (by simpa using c2)]
  refine AM (h st1 g1 p1 ?_ (by rw [a1];exact .refl));rw [a1]
  exact whole λj j1 j2=>tr _ _ _ (mem _ (by lia)) (mem _ (by lia)) (mem _ (by lia)) (ua j (sa+na - 1) (by omega) (by lia) (by lia)) (high _ (by lia) (by lia))
 rw [qY (by simpa using c2)]
 let x:=(AQ st).extract (sa+k) (sa+na)
 let y:=(AQ st).extract (sa+na) (sa+na+k3)
 have xs:x.size=na - k:=by simp [x];lia
 have ys:y.size=k3:=by simp [y];lia
 have ixx:∀j,j < na - k->ix x j=ix (AQ st) (sa+k+j):=λj hj=>SY (by lia) (by lia)
 have ixy:∀j,j < k3->ix y j=ix (AQ st) (sa+na+j):=λj hj=>SY (by lia) (by lia)
 have memx:∀z∈x.toList,∃j,j < na - k/\z=ix (AQ st) (sa+k+j):=λz hz=>by
  have hz:z∈((AQ st).extract (sa+k) (sa+k+(na - k))).toList:=by rw [show sa+k+(na - k)=sa+na by lia];exact hz
  exact MZ (by lia) hz
 have memy:∀z∈y.toList,∃j,j < k3/\z=ix (AQ st) (sa+na+j):=λz hz=>MZ (by lia) hz
 have fin:∀(r:Array Ag) (st':BA),IR a₀ κ st1 st'->GD (Rl lt) (x.toList++y.toList) r.toList->∀st2:BA,AQ st2=wr (AQ st') (sa+k) r.toList.zipIdx->kindOf st2=kindOf st'->Gq st2=Gq st'->AR st2=AR st'->Q true st2:=by
  intro r st' sm f st2 q1 q2 q3 q4
  have hr:r.size=na - k+k3:=by
   have:=f.perm.length_eq;simp only [Ac,BX] at this
   lia
  have ha:AQ st'=AQ st:=sm.arr.trans a1;rw [ha] at q1
  have hb:sa+k+r.size<=(AQ st).size:=by lia
  have mm:∀t,t < r.size->∃t',ix r t=ix (AQ st) t'/\sa+k<=t'/\t' < sa+na+k3:=λt ht=>by
   have:ix r t∈r.toList:=BI.mpr (CG (Cd ht))
   rcases A2.mp (f.perm.mem_iff.mp this) with h | h
   ·obtain ⟨j,j1,e⟩:=memx _ h
    exact ⟨_,e,by lia,by lia⟩
   ·obtain ⟨j,j1,e⟩:=memy _ h
    exact ⟨_,e,by lia,by lia⟩
  have rs:=Qc O (a:=r) (λt ht=>by
   obtain ⟨t',e,_,_⟩:=mm t ht;rw [e]
   exact mem _ (by lia)) f.srt
  refine h st2 ⟨?_,?_,?_⟩ (q4.trans (sm.pend.trans p1)) ?_ ?_
  ·rw [q1]
   refine (ZP hb (f.perm.trans ?_)).trans g.perm
   have:(AQ st).toList.drop (sa+k)=x.toList++(AQ st).toList.drop (sa+na):=by
    have:=Gi (a:=AQ st) (i:=sa+k) (k:=na - k) (by lia);rw [show sa+k+(na - k)=sa+na by lia] at this;exact this
   have h2:(AQ st).toList.drop (sa+na)=y.toList++(AQ st).toList.drop (sa+na+k3):=Gi (by lia);have h3:(AQ st).toList.drop (sa+k)=((AQ st).extract (sa+k) (sa+k+r.size)).toList++(AQ st).toList.drop (sa+k+r.size):=Gi hb;rw [this,h2,<-Az,show sa+k+r.size=sa+na+k3 by lia] at h3;rw [show sa+k+r.size=sa+na+k3 by lia];exact S6 (List.append_cancel_right h3)
  ·rw [q2];exact sm.good.kind
  ·rw [q3];exact sm.good.failed
  ·rw [q1]
   intro i j h1 h2 h3;show Rl lt _ _;rw [XX hb,XX hb]
   by_cases i1:i < sa+k
   ·rw [qX i1]
    by_cases j1:j < sa+k
    ·rw [qX j1];exact ua i j h1 h2 (by lia)
    rw [qY j1]
    by_cases j2:j < sa+k+r.size
    ·rw [qX j2]
     obtain ⟨t,e,t1,t2⟩:=mm (j - (sa+k)) (by omega);rw [e]
     by_cases t3:t < sa+na
     ·exact ua i t h1 (by lia) t3
     ·exact lowb i t h1 i1 (by lia) (by lia)
    ·rw [qY j2];exact lowb i j h1 i1 (by lia) (by lia)
   rw [qY i1,qY (show ¬j < sa+k by lia)]
   by_cases i2:i < sa+k+r.size
   ·rw [qX i2]
    by_cases j2:j < sa+k+r.size
    ·rw [qX j2];exact rs _ _ (by lia) (by omega)
    ·rw [qY j2]
     obtain ⟨t,e,t1,t2⟩:=mm (i - (sa+k)) (by omega);rw [e]
     by_cases t3:t < sa+na
     ·exact tr _ _ _ (mem _ (by lia)) (mem _ (by lia)) (mem _ (by lia)) (ua t (sa+na - 1) (by lia) (by lia) (by lia)) (high j (by lia) (by lia))
     ·exact ub t j (by lia) (by lia) (by lia)
   ·rw [qY i2,qY (show ¬j < sa+k+r.size by lia)]
    exact ub i j (by lia) h2 (by lia)
  ·rw [q1]
   intro i hi;rw [XX hb]
   by_cases i1:i < sa+k
   ·rw [qX i1]
   ·rw [qY i1,qY (by lia)]
 have args:∀ {P:Prop},((∀z∈x.toList,z∈a₀)->(∀z∈y.toList,z∈a₀)->x.toList.Pairwise (Rl lt)->y.toList.Pairwise (Rl lt)->0 < x.size->0 < y.size->(∀z∈x.toList,Rl lt (ix y 0) z)->(∀z∈y.toList,Rl lt z (ix x (x.size - 1)))->P)->P:=by
  intro P hP
  refine hP (λz hz=>?_) (λz hz=>?_) (WJ (by lia) λi j h1 h2 h3=>ua i j (by lia) h2 h3) (WJ (by lia) λi j h1 h2 h3=>ub i j h1 h2 (by lia)) (by lia) (by lia) (λz hz=>?_) λz hz=>?_
  ·obtain ⟨j,j1,rfl⟩:=memx z hz
   exact mem _ (by lia)
  ·obtain ⟨j,j1,rfl⟩:=memy z hz
   exact mem _ (by lia)
  ·obtain ⟨j,j1,rfl⟩:=memx z hz
   rw [ixy 0 (by lia)];have:=k2 (k+j) (by lia) (by lia);rw [show sa+(k+j)=sa+k+j by lia] at this;exact O.asym _ _ (mem _ (by lia)) (mem _ (by lia)) (by simpa using this)
  ·obtain ⟨j,j1,rfl⟩:=memy z hz
   rw [xs,ixx _ (by lia),show sa+k+(na - k - 1)=sa+na - 1 by lia];exact O.asym _ _ (mem _ (by lia)) (mem _ (by lia)) (k4 j j1)
 refine (show wpS (AT prog w) A E s (if na - k<=k3 then mLo x y >>= _ else mHi x y >>= _) Q st1 from ?_);split
 ·refine AL (args λb1 b2 b3 b4 b5 b6 b7 b8=>YZ C O g1 b1 b2 b3 b4 b5 b6 b7 b8 λr st' sm f=>?_)
  refine AL (Cn (AL (FW (AM ?_))));have q:=fin r st' sm f (setArr st' (wr (AQ st') (sa+k) r.toList.zipIdx)) rfl rfl rfl rfl;rw [<-show (Gq st').isNone=true by rw [sm.good.failed];rfl] at q;exact q
 ·refine AL (args λb1 b2 b3 b4 b5 b6 b7 b8=>Ya C O g1 b1 b2 b3 b4 b5 b6 b7 b8 λr st' sm f=>?_)
  refine AL (Cn (AL (FW (AM ?_))));have q:=fin r st' sm f (setArr st' (wr (AQ st') (sa+k) r.toList.zipIdx)) rfl rfl rfl rfl;rw [<-show (Gq st').isNone=true by rw [sm.good.failed];rfl] at q;exact q
end
theorem Zs {c:Prop} [Decidable c] {z:Nat} (h:1 < z):(if c then z - 2 - 1 else z - 2)+1 < z:=by split <;> omega
def Stk (lt:Ag->Ag->Bool) (arr:Array Ag):List (Nat×Nat×Nat)->Nat->Nat->Prop
 | [],lo,hi=>lo=hi
 | (s,n,_) :: r,lo,hi=>s=lo/\1<=n/\Up lt arr s (s+n)/\Stk lt arr r (s+n) hi
section
variable {lt:Ag->Ag->Bool} {arr arr':Array Ag}
theorem Stk.le:∀ {l:List (Nat×Nat×Nat)} {lo hi:Nat},Stk lt arr l lo hi->lo+l.length<=hi
 | [],lo,hi,h=>by cases h;simp
 | (s,n,_) :: r,lo,hi,⟨h1,h2,_,h4⟩=>by
  have:=Stk.le h4;rw [Au]
  lia
theorem Stk.app:∀ {l r:List (Nat×Nat×Nat)} {lo hi:Nat},Stk lt arr (l++r) lo hi↔∃mid,Stk lt arr l lo mid/\Stk lt arr r mid hi
 | [],r,lo,hi=>⟨λh=>⟨lo,rfl,h⟩,λ⟨_,e,h⟩=>by cases e;exact h⟩
 | (s,n,_) :: l,r,lo,hi=>by
  constructor
  ·rintro ⟨h1,h2,h3,h4⟩
   obtain ⟨mid,a,b⟩:=Stk.app.mp h4;exact ⟨mid,⟨h1,h2,h3,a⟩,b⟩
  ·rintro ⟨mid,⟨h1,h2,h3,h4⟩,b⟩
   exact ⟨h1,h2,h3,Stk.app.mpr ⟨mid,h4,b⟩⟩
theorem Stk.pw {f:Nat×Nat×Nat->Nat×Nat×Nat} (hf:∀x,(f x).1=x.1/\(f x).2.1=x.2.1):∀ {l:List (Nat×Nat×Nat)} {lo hi:Nat} (i:Nat),Stk lt arr l lo hi->Stk lt arr (l.modify i f) lo hi
 | [],lo,hi,i,h=>by cases i <;> exact h
 | (s,n,p) :: r,lo,hi,0,h=>by
  obtain ⟨e1,e2⟩:=hf (s,n,p);show Stk lt arr (f (s,n,p) :: r) lo hi;generalize f (s,n,p)=q at e1 e2;obtain ⟨s',n',p'⟩:=q;dsimp only at e1 e2;subst e1 e2;exact h
 | (s,n,p) :: r,lo,hi,i+1,⟨h1,h2,h3,h4⟩=>⟨h1,h2,h3,Stk.pw hf i h4⟩
theorem Stk.out:∀ {l:List (Nat×Nat×Nat)} {lo hi x y:Nat},Stk lt arr l lo hi->Out arr arr' x y->(hi<=x∨y<=lo)->Stk lt arr' l lo hi
 | [],lo,hi,x,y,h,o,d=>h
 | (s,n,_) :: r,lo,hi,x,y,⟨h1,h2,h3,h4⟩,o,d=>by
  have:=h4.le;exact ⟨h1,h2,h3.out o (by lia),Stk.out h4 o (by lia)⟩
end
section
variable {prog:Ah} {w:A1} {A:Aw} {E:AB->AD->Prop} {s:AD} {a₀:Array Ag} {κ:EF} {lt:Ag->Ag->Bool}
theorem Out.wide {xs ys:Array Ag} {l h l' h':Nat} (o:Out xs ys l h) (h1:l'<=l) (h2:h<=h'):Out xs ys l' h':=λi hi=>o i (by lia)
theorem Hm {st:BA} {i hi:Nat} {Q:Bool->BA->Prop} (C:IN prog w A s a₀ κ lt) (O:Ord (·∈a₀) lt) (g:Good a₀ κ st) (k:Stk lt (AQ st) (AR st).toList 0 hi) (hs:hi<=a₀.size) (hi1:i+1 < (AR st).size)
  (h:∀st',Good a₀ κ st'->Stk lt (AQ st') (AR st').toList 0 hi->(AR st').size+1=(AR st).size->Out (AQ st) (AQ st') 0 hi->Q true st'):wpS (AT prog w) A E s (mergeAt' i) Q st:=by
 obtain ⟨sa,na,pw,e1⟩:∃sa na pw,(AR st)[i]?=some (sa,na,pw):=⟨_,_,_,getElem?_pos (AR st) i (by lia)⟩
 obtain ⟨sb,nb,pw2,e2⟩:∃sa na pw,(AR st)[i+1]?=some (sa,na,pw):=⟨_,_,_,getElem?_pos (AR st) (i+1) hi1⟩
 obtain ⟨l,r,el,hl⟩:∃l r,(AR st).toList=l++(sa,na,pw) :: (sb,nb,pw2) :: r/\l.length=i:=by
  have a1:(AR st).toList[i]?=some (sa,na,pw):=by simpa using e1
  have a2:(AR st).toList[i+1]?=some (sb,nb,pw2):=by simpa using e2
  obtain ⟨b1,c1⟩:=AE.mp a1;obtain ⟨b2,c2⟩:=AE.mp a2;refine ⟨(AR st).toList.take i,(AR st).toList.drop (i+2),?_,by rw [CM];lia⟩
  conv=>lhs;rw [<-FM i (AR st).toList,HM b1,HM b2,c1,c2]
 rw [el] at k;obtain ⟨mid,k1,⟨q1,q2,q3,⟨q4,q5,q6,q7⟩⟩⟩:=Stk.app.mp k;have hle:=q7.le;have hle1:=k1.le
 refine QR C O g e1 e2 q4 q2 q5 (by lia) q3 q6 λst' g' p' u' o'=>?_
 have pl:(AR st').toList=l++(sa,na+nb,pw) :: r:=by
  rw [p',Array.toList_eraseIdxIfInBounds,N9,el];rw [List.set_append_right _ _ (by lia),hl,L3,List.set_cons_zero,List.eraseIdx_append_of_length_le (by lia),show i+1 - l.length=1 by lia];rfl
 refine h st' g' ?_ ?_ (o'.wide (by lia) (by lia))
 ·rw [pl]
  refine Stk.app.mpr ⟨mid,k1.out o' (.inl (by lia)),q1,by lia,u',?_⟩
  have e:sb+nb=sa+(na+nb):=by lia
  rw [e] at q7;exact q7.out o' (.inr (by lia))
 ·have z1:=congrArg DQ pl
  have z2:=congrArg DQ el;simp at z1 z2
  lia
theorem wpS_sortRuns {st:BA} {Q:Unit->BA->Prop} (C:IN prog w A s a₀ κ lt) (O:Ord (·∈a₀) lt) (g:Good a₀ κ st) (hp:AR st = #[])
  (h:∀st',Good a₀ κ st'->Up lt (AQ st') 0 a₀.size->Q () st'):wpS (AT prog w) A E s sortRuns' Q st:=by
 rw [sortRuns'_eq];refine AL (FW ?_);dsimp only;rw [g.size];generalize minRun' a₀.size a₀.size 0=mr
 refine AL (Ca (Bi (I:=λx c st'=>∃lo,c=(none,lo)/\Good a₀ κ st'/\Stk lt (AQ st') (AR st').toList 0 lo/\lo<=a₀.size/\min x a₀.size<=lo)
  (Q:=λc st'=>c=(none,a₀.size)/\Good a₀ κ st'/\Stk lt (AQ st') (AR st').toList 0 a₀.size) ?step ?fin ?init) ?post)
 case init=>exact ⟨0,rfl,g,by rw [hp];rfl,by lia,by lia⟩
 case fin=>
  rintro c st' ⟨lo,rfl,g',k',h1,h2⟩
  have:lo=a₀.size:=by lia
  subst this;exact ⟨rfl,g',k'⟩
 case step=>
  rintro x c st1 _ hx ⟨lo,rfl,g1,k1,h1,h2⟩;dsimp only
  by_cases hge:lo ≥ a₀.size
  ·rw [qX hge]
   have:lo=a₀.size:=by lia
   subst this;exact AM ⟨rfl,g1,k1⟩
  rw [qY hge];refine AL (wpS_countRun C O (by lia) (by lia) g1 λst2 n g2 n1 n2 u2 o2 p2=>?_);dsimp only
  have k2:Stk lt (AQ st2) (AR st2).toList 0 lo:=by
   rw [p2];exact k1.out o2 (.inl (AO _))
  by_cases hm:n < mr
  ·rw [qX hm]
   refine AL (HW ?_);refine AL (wpS_binarySort C O (by lia) (by omega) g2 u2 λst3 g3 u3 o3 p3=>?_)
   have k3:Stk lt (AQ st3) (AR st3).toList 0 lo:=by
    rw [p3];exact k2.out o3 (.inl (AO _))
   rw [qY (by simp)];refine AL (FW ?_)
   cases hb:(AR st3).back? with
   | none=>
    dsimp only;refine AL (Cn (AM ⟨lo+min (a₀.size - lo) mr,rfl,⟨g3.perm,g3.kind,g3.failed⟩,?_,by lia,by lia⟩));show Stk lt (AQ st3) ((AR st3).push (lo,min (a₀.size - lo) mr,0)).toList 0 (lo+min (a₀.size - lo) mr);rw [HN];exact Stk.app.mpr ⟨lo,k3,rfl,by omega,u3,rfl⟩
   | some t=>
    obtain ⟨s1,n1,z⟩:=t;dsimp only;generalize power' a₀.size (2 * s1+n1) (2 * s1+n1+n1+min (a₀.size - lo) mr) a₀.size=pw
    refine AL (Ca (Bi (I:=λ_ c st4=>c=(none,())/\Good a₀ κ st4/\Stk lt (AQ st4) (AR st4).toList 0 lo/\Up lt (AQ st4) lo (lo+min (a₀.size - lo) mr))
     (Q:=λc st4=>c=(none,())/\Good a₀ κ st4/\Stk lt (AQ st4) (AR st4).toList 0 lo/\Up lt (AQ st4) lo (lo+min (a₀.size - lo) mr)) ?_ (λc st4 h=>h) ⟨rfl,g3,k3,u3⟩) ?_)
    ·rintro x' c' st4 _ _ ⟨rfl,g4,k4,u4⟩
     refine AL (FW ?_)
     by_cases hz:(AR st4).size > 1
     ·rw [qX hz]
      obtain ⟨s2,n2,older,e2⟩:∃s2 n2 older,(AR st4)[(AR st4).size - 2]?=some (s2,n2,older):=⟨_,_,_,getElem?_pos (AR st4) ((AR st4).size - 2) (by lia)⟩
      rw [e2];dsimp only
      by_cases ho:older<=pw
      ·rw [qX ho]
       exact AM ⟨rfl,g4,k4,u4⟩
      ·rw [qY ho]
       refine AL (Hm C O g4 k4 (by omega) (by lia) λst5 g5 k5 _ o5=>?_);exact AM ⟨rfl,g5,k5,u4.out o5 (.inr (by lia))⟩
     ·rw [qY hz]
      exact AM ⟨rfl,g4,k4,u4⟩
    ·rintro c' st4 ⟨rfl,g4,k4,u4⟩
     dsimp only;refine AL (Cn (AL (Cn (AM ⟨lo+min (a₀.size - lo) mr,rfl,⟨g4.perm,g4.kind,g4.failed⟩,?_,by lia,by lia⟩))));show Stk lt (AQ st4) ((((AR st4).modify ((AR st4).size - 1) λx=>(x.fst,x.2.fst,pw))).push (lo,min (a₀.size - lo) mr,0)).toList 0 (lo+min (a₀.size - lo) mr);rw [HN,TB];exact Stk.app.mpr ⟨lo,Stk.pw (f:=λx=>(x.fst,x.2.fst,pw)) (λx=>⟨rfl,rfl⟩) _ k4,rfl,by omega,u4,rfl⟩
  ·rw [qY hm]
   refine AL (FW ?_)
   cases hb:(AR st2).back? with
   | none=>
    dsimp only;refine AL (Cn (AM ⟨lo+n,rfl,⟨g2.perm,g2.kind,g2.failed⟩,?_,by lia,by lia⟩));show Stk lt (AQ st2) ((AR st2).push (lo,n,0)).toList 0 (lo+n);rw [HN];exact Stk.app.mpr ⟨lo,k2,rfl,by omega,u2,rfl⟩
   | some t=>
    obtain ⟨s1,n1,z⟩:=t;dsimp only;generalize power' a₀.size (2 * s1+n1) (2 * s1+n1+n1+n) a₀.size=pw
    refine AL (Ca (Bi (I:=λ_ c st4=>c=(none,())/\Good a₀ κ st4/\Stk lt (AQ st4) (AR st4).toList 0 lo/\Up lt (AQ st4) lo (lo+n))
     (Q:=λc st4=>c=(none,())/\Good a₀ κ st4/\Stk lt (AQ st4) (AR st4).toList 0 lo/\Up lt (AQ st4) lo (lo+n)) ?_ (λc st4 h=>h) ⟨rfl,g2,k2,u2⟩) ?_)
    ·rintro x' c' st4 _ _ ⟨rfl,g4,k4,u4⟩
     refine AL (FW ?_)
     by_cases hz:(AR st4).size > 1
     ·rw [qX hz]
      obtain ⟨s2,n2,older,e2⟩:∃s2 n2 older,(AR st4)[(AR st4).size - 2]?=some (s2,n2,older):=⟨_,_,_,getElem?_pos (AR st4) ((AR st4).size - 2) (by lia)⟩
      rw [e2];dsimp only
      by_cases ho:older<=pw
      ·rw [qX ho]
       exact AM ⟨rfl,g4,k4,u4⟩
      ·rw [qY ho]
       refine AL (Hm C O g4 k4 (by omega) (by lia) λst5 g5 k5 _ o5=>?_);exact AM ⟨rfl,g5,k5,u4.out o5 (.inr (by lia))⟩
     ·rw [qY hz]
      exact AM ⟨rfl,g4,k4,u4⟩
    ·rintro c' st4 ⟨rfl,g4,k4,u4⟩
     dsimp only;refine AL (Cn (AL (Cn (AM ⟨lo+n,rfl,⟨g4.perm,g4.kind,g4.failed⟩,?_,by lia,by lia⟩))));show Stk lt (AQ st4) ((((AR st4).modify ((AR st4).size - 1) λx=>(x.fst,x.2.fst,pw))).push (lo,n,0)).toList 0 (lo+n);rw [HN,TB];exact Stk.app.mpr ⟨lo,Stk.pw (f:=λx=>(x.fst,x.2.fst,pw)) (λx=>⟨rfl,rfl⟩) _ k4,rfl,by omega,u4,rfl⟩
 case post=>
  rintro c st1 ⟨rfl,g1,k1⟩;dsimp only
  refine AL (Ca (Bi (I:=λx c st4=>c=(none,())/\Good a₀ κ st4/\Stk lt (AQ st4) (AR st4).toList 0 a₀.size/\((AR st4).size<=1∨(AR st4).size+x<=a₀.size))
   (Q:=λc st4=>c=(none,())/\Good a₀ κ st4/\Stk lt (AQ st4) (AR st4).toList 0 a₀.size/\(AR st4).size<=1) ?_ ?_ ?_) ?_)
  ·rintro x c st4 _ _ ⟨rfl,g4,k4,d⟩
   refine AL (FW ?_)
   by_cases hz:(AR st4).size<=1
   ·rw [qX hz]
    exact AM ⟨rfl,g4,k4,hz⟩
   ·rw [qY hz]
    refine AL (Hm C O g4 k4 (AO _) (Zs (by lia)) λst5 g5 k5 z5 o5=>?_);exact AM ⟨rfl,g5,k5,.inr (by lia)⟩
  ·rintro c st4 ⟨rfl,g4,k4,d⟩
   exact ⟨rfl,g4,k4,by lia⟩
  ·refine ⟨rfl,g1,k1,.inr ?_⟩
   have:=k1.le;simp at this;omega
  ·rintro c st4 ⟨rfl,g4,k4,d⟩
   refine AM (h st4 g4 ?_);generalize hl:(AR st4).toList=l at k4
   have hd:l.length<=1:=by rw [<-hl];simpa using d
   match l,k4,hd with
   | [],k4,_=>exact λi j h1 h2 h3=>by have:(0:Nat)=a₀.size:=k4;lia
   | [(s,n,_)],⟨e1,_,u,e2⟩,_=>
    have e2:s+n=a₀.size:=e2;rw [e2,e1] at u;exact u
end
def ltL:List Int->List Int->Bool
 | [],[]=>false
 | [],_ :: _=>true
 | _ :: _,[]=>false
 | x :: xs,y :: ys=>if x=y then ltL xs ys else decide (x < y)
theorem NM:∀x y,ltL x y=true->ltL y x=false
 | [],[],h=>by cases h
 | [],_ :: _,_=>rfl
 | _ :: _,[],h=>by cases h
 | x :: xs,y :: ys,h=>by
  unfold ltL at h ⊢
  by_cases e:x=y
  ·rw [qX e] at h;rw [qX e.symm];exact NM xs ys h
  ·rw [qY e] at h;rw [qY (Bm e)];simp at h ⊢;lia
theorem Ph:∀x y z,ltL y x=false->ltL z y=false->ltL z x=false
 | [],y,[],_,_=>rfl
 | [],[],_ :: _,_,_=>rfl
 | [],_ :: _,_ :: _,_,_=>rfl
 | x :: xs,[],z,h,_=>by cases h
 | _,y :: ys,[],_,h=>by cases h
 | x :: xs,y :: ys,z :: zs,h1,h2=>by
  unfold ltL at h1 h2 ⊢
  by_cases e1:y=x
  ·rw [qX e1] at h1
   subst e1
   by_cases e2:z=y
   ·rw [qX e2] at h2 ⊢
    exact Ph xs ys zs h1 h2
   ·rw [qY e2] at h2 ⊢;exact h2
  ·rw [qY e1] at h1
   by_cases e2:z=y
   ·subst e2;rw [qY e1];exact h1
   ·rw [qY e2] at h2
    by_cases e3:z=x
    ·subst e3;simp at h1 h2;lia
    ·rw [qY e3];simp at h1 h2 ⊢;lia
theorem To:∀x y,ltL x y=false->ltL y x=false->x=y
 | [],[],_,_=>rfl
 | [],_ :: _,h,_=>by cases h
 | _ :: _,[],_,h=>by cases h
 | x :: xs,y :: ys,h1,h2=>by
  unfold ltL at h1 h2
  by_cases e:x=y
  ·rw [qX e] at h1;rw [qX e.symm] at h2;rw [e,To xs ys h1 h2]
  ·rw [qY e] at h1;rw [qY (Bm e)] at h2;simp at h1 h2;lia
def ltK (f:AB->List Int) (x y:Ag):Bool:=ltL (f x.1) (f y.1)
theorem ZZ (f:AB->List Int) (U:Ag->Prop):Ord U (ltK f):=⟨λx y _ _ h=>NM _ _ h,λx y z _ _ _ h1 h2=>Ph _ _ _ h1 h2⟩
section
variable {prog:Ah} {w:A1} {A:Aw} {E:AB->AD->Prop} {s:AD}
theorem SL {a b:Int} {t u:Tok} (o:Bool) {Q:Bool->AD->Prop} (h:Q (decide (a < b)) s):Ad (AT prog w) A (oneLt' o (.int a t) (.int b u)) Q E s:=by
 cases o with
 | true=>exact oneLt_int h
 | false=>
  rw [oneLt'_eq];simp only [Bp,if_false];exact AC (wpAny_lt_int (Ck h))
def Sq (s:AD) (v:AB) (ns:List Int):Prop:=∃a its,v=.ref a/\s.heap.IsTuple a its/\Dh its.toList ns
def gC (o:Bool):(AB×AB)×Nat->Option Bool×Unit->Sem (ForInStep (Option Bool×Unit)):=λe _=>match e with
 | ((p,q),i)=>eqBool p q >>= λc=>if (!c)=true then oneLt' (o&&i==0) p q >>= λb=>pure (.done (some b,())) else pure (.yield (none,()))
theorem XV (o:Bool) (x y:AB):keyLt' (dZ o) x y=(Gx x >>= λr=>Gx y >>= λq=>forIn (r.toList.zip q.toList).zipIdx ((none,()):Option Bool×Unit) (gC o) >>= λz=>match z.1 with
  | some b=>pure b
  | none=>pure (decide (r.size < q.size))):=by kernel_rfl
theorem X4 (o:Bool) {n0:Nat}:∀ {is js:List AB} {ns ms:List Int} (k:Nat) {Q:Bool->AD->Prop},Dh is ns->Dh js ms->Q (ltL ns ms) s ->
  Ad (AT prog w) A (forIn ((is.zip js).zipIdx k) ((none,()):Option Bool×Unit) (gC o) >>= λz=>match z.1 with
   | some b=>pure b
   | none=>pure (decide (n0+is.length < n0+js.length))) Q E s:=by
 intro is
 induction is with
 | nil=>
  intro js ns ms k Q h1 h2 hq;cases h1;rw [List.zip_nil_left,YU,aO];refine AC (AN (AN ?_))
  cases h2 with
  | nil=>simpa [ltL] using hq
  | cons m t h=>simpa [ltL] using hq
 | cons v is ih=>
  intro js ns ms k Q h1 h2 hq
  cases h1 with
  | cons n t h1=>
   cases h2 with
   | nil=>
    rw [List.zip_nil_right,YU,aO];refine AC (AN (AN ?_));rw [wY (by rw [Au,EZ];lia)];exact hq
   | cons m u h2=>
    rw [List.zip_cons_cons,YI,YV];rw [bind_assoc];unfold ltL at hq;refine AC ?_;refine AC (dv ?_)
    by_cases e:n=m
    ·rw [qX e] at hq
     rw [qY (by simp [e])];refine AN ?_;have:=ih (k+1) h1 h2 hq;simpa [Nat.add_lt_add_iff_left] using this
    ·rw [qY e] at hq
     rw [qX (by simp [e])];refine AC (SL _ (AN ?_));exact AC (AN (AN hq))
end
section
variable {prog:Ah} {w:A1} {A:Aw} {E:AB->AD->Prop} {s:AD}
theorem LB {v:AB} {ns:List Int} (h:Sq s v ns):∃its:Array AB,Dh its.toList ns/\s.TypeIs v "tuple"/\∀(E:AB->AD->Prop) (Q:Array AB->AD->Prop),Q its s->Ad (AT prog w) A (Gx v) Q E s:=by
 obtain ⟨a,its,rfl,⟨o,ho,hc,n,hd⟩,hi⟩:=h;exact ⟨its,hi,⟨o,ho,hc⟩,λE Q q=>listItems_at ho hd q⟩
theorem Z8 {x y:AB} {ns ms:List Int} (o:Bool) (hx:Sq s x ns) (hy:Sq s y ms) {Q:Bool->AD->Prop} (h:Q (ltL ns ms) s):Ad (AT prog w) A (keyLt' (dZ o) x y) Q E s:=by
 obtain ⟨r,hr,_,wr⟩:=LB (prog:=prog) (w:=w) (A:=A) hx;obtain ⟨q,hq,_,wq⟩:=LB (prog:=prog) (w:=w) (A:=A) hy;rw [XV];refine AC (wr E _ (AC (wq E _ ?_)));have:=X4 (prog:=prog) (w:=w) (A:=A) (E:=E) (n0:=0) o 0 hr hq h;simp only [E7,BX] at this;exact this
theorem U8 {v:AB} {n:Int} {ns:List Int} (h:Sq s v (n :: ns)) {Q:Option AB->AD->Prop} (hq:∀t,Q (some (.int n t)) s):Ad (AT prog w) A (UL v) Q E s:=by
 obtain ⟨r,hr,ty,wr⟩:=LB (prog:=prog) (w:=w) (A:=A) h;refine (AC (Vj ty ?_):Ad _ _ (UL v) Q E s);refine (show Ad (AT prog w) A (if (EY "tuple" != EY "tuple")=true then _ else _) Q E s from ?_);rw [qY (by simp)];refine AC (wr E _ (AN ?_));generalize hl:r.toList=l at hr
 cases hr with
 | cons _ t h2=>
  have:r[0]?=some (.int n t):=by
   rw [<-Array.getElem?_toList,hl];rfl
  rw [this];exact hq t
theorem Nd:∀ {vs:List AB},(∀v∈vs,∃n ns,Sq s v (n :: ns))->∀ {Q:List (Option AB)->AD->Prop},(∀is ns,Dh is ns->is.length=vs.length->Q (is.map some) s)->Ad (AT prog w) A (vs.mapM UL) Q E s
 | [],_,Q,h=>by
  rw [List.mapM_nil];exact AN (h [] [] .nil rfl)
 | v :: vs,hv,Q,h=>by
  obtain ⟨n,ns,hn⟩:=hv v Al;rw [List.mapM_cons];refine AC (U8 hn λt=>AC (Nd (λv hv'=>hv v (Aa _ hv')) λis ms h1 h2=>AN ?_));exact h (.int n t :: is) (n :: ms) (.cons n t h1) (by rw [Au,h2,Au])
theorem Pa {is:List AB} {ns:List Int} (h:Dh is ns) (h0:is≠[]):oneTypeOnly' is.toArray=pure (some (.type "int")):=by
 rw [oneTypeOnly'_eq,Vq,mapM_typeOf_ints h];simp only [map_pure,pure_bind]
 cases is with
 | nil=>exact zX rfl h0
 | cons v is=>
  have e0:(OU (λ_=>EY "int") (v :: is)).toArray[0]?=some (EY "int"):=by simp
  have e1:((OU (λ_=>EY "int") (v :: is)).toArray.all λx=>x==EY "int")=true:=by
   simp only [List.all_toArray,dj,IH]
   exact λ_ _=>rfl
  rw [e0];simp only [e1,if_true]
theorem XT {vs:List AB} (hv:∀v∈vs,∃n ns,Sq s v (n :: ns)) (h0:vs≠[]) {Q:EF->AD->Prop} (h:Q (dZ true) s):Ad (AT prog w) A (keyKind' vs.toArray) Q E s:=by
 rw [keyKind'_eq,Vq];refine AC ?_;rw [map_eq_pure_bind];refine AC (Nd hv λis ns h1 h2=>AN ?_)
 have hall:((is.map some).toArray.all λx=>x.isSome)=true:=by simp
 rw [qX hall];refine AC (ap ?_)
 have hf:(is.map some).toArray.filterMap id=is.toArray:=by simp
 rw [hf,Pa h1 (by intro e;subst e;cases vs with | nil=>exact h0 rfl | cons=>simp at h2)];refine AC (AN (AN ?_));exact h
end
section
variable {prog:Ah} {w:A1} {A:Aw} {E:AB->AD->Prop} {s:AD}
theorem FC {vs:List AB} {x:Ag} (h:x∈IT vs):x.1∈vs/\x.1=x.2:=by
 have:x∈(IT vs).toList:=BI.mpr h;rw [pairsOf_toList] at this;exact ⟨(mem_zip_self this).2,(mem_zip_self this).1⟩
theorem Uq (vs:List AB):(IT vs).map (·.2)=vs.toArray:=by
 apply Array.ext'
 rw [Hl,pairsOf_toList];simp [List.map_snd_zip]
def P7 (prog:Ah) (w:A1) (A:Aw) (s:AD) (vs:List AB) (f:AB->List Int):Prop:=
 ∃κ:EF,(∀(Q:EF->AD->Prop) (E:AB->AD->Prop),Q κ s->Ad (AT prog w) A (keyKind' vs.toArray) Q E s)/\IN prog w A s (IT vs) κ (ltK f)
theorem ON {a:AH} {vs:List AB} {n:Nat} {P:Fin->AD->Prop} {f:AB->List Int} (ho:s.heap.get? a=some (G8 "list" vs.toArray n)) (hz:vs.length<=sizeLine)
  (hk:2<=vs.length->∀s':AD,(∀b o,b≠a->s.heap.get? b=some o->s'.heap.get? b=some o)->P7 prog w A s' vs f)
  (h:∀out:Array AB,out.toList.Perm vs->out.toList.Pairwise (λx y=>ltL (f y) (f x)=false)->P (.done (.ret .none)) { s with heap:=av s.heap a vs out }) :
  Ad (AT prog w) A (Builtin.«list.sort» ⟨[.ref a],[]⟩) P E s:=by
 have ha:a < s.heap.objs.size:=AW ho
 have hsz:vs.toArray.size=vs.length:=by simp
 obtain ⟨e1,ho1⟩:∃e1,(s.heap.update a (HB λ_=>#[])).get? a=some (G8 "list" #[] e1):=⟨_,get?_update_seq ho (λ_=>#[])⟩
 have ho6:(((s.heap.update a (HB λ_=>#[])).push (G8 "tuple" vs.toArray 0)).push (G8 "list" #[] 0)).get? a=some (G8 "list" #[] e1):=
  AI _ (AI _ ho1)
 have old:∀b o,b≠a->s.heap.get? b=some o->(((s.heap.update a (HB λ_=>#[])).push (G8 "tuple" vs.toArray 0)).push (G8 "list" #[] 0)).get? b=some o:=λb o hb hg=>
  AI _ (AI _ (by rw [UR _ _ _ _ hb];exact hg))
 have fin:∀st':BA,(AQ st').Perm (IT vs)->(AQ st').toList.Pairwise (Rl (ltK f))->P (.done (.ret .none)) { s with heap:=av s.heap a vs ((AQ st').map (·.2)) }:=by
  intro st' hp hs
  have hmem:∀x∈(AQ st').toList,x.1=x.2:=λx hx=>by
   have:x∈(IT vs).toList:=(Ds.mp hp).mem_iff.mp hx;exact (FC (BI.mp this)).2
  refine h _ ?_ ?_
  ·have:=(Ds.mp hp).map (·.2)
   rw [<-Hl,<-Hl,Uq] at this;simpa using this
  ·rw [Hl,CC]
   refine hs.imp_of_mem λ{x y} hx hy r=>?_
   rw [<-hmem x hx,<-hmem y hy];exact r
 have last:∀st':BA,(AQ st').Perm (IT vs)->Gq st'=none->(AQ st').toList.Pairwise (Rl (ltK f))->(((AQ st').map (·.2)).size<=sizeLine+1):=λst' hp _ _=>by
  rw [Array.size_map,hp.size_eq,pairsOf_size]
  lia
 rw [list_sort_plain];refine AC (listItems_at ho rfl (AC (UK ho rfl (AC (YO ho1 rfl (AC (wpAny_newTuple (AC (wpAny_newList (MM ?_)))))) ) (by rw [hsz];exact hz) (Cp _))));show Ad (AT prog w) A _ P E { s with heap:=((s.heap.update a (HB λ_=>#[])).push (G8 "tuple" vs.toArray 0)).push (G8 "list" #[] 0) };dsimp only
 by_cases h2:vs.toArray.size < 2
 ·rw [qX h2,qX h2]
  refine AC (AN ?_);rw [StateT.run_pure]
  have hs0:(AQ (FF Rh (vs.toArray.zip vs.toArray) #[] 7 none)).toList.Pairwise (Rl (ltK f)):=by
   have:(AQ (FF Rh (vs.toArray.zip vs.toArray) #[] 7 none)).toList.length < 2:=by
    rw [BX];show (IT vs).size < 2;rw [pairsOf_size];omega
   generalize (AQ (FF Rh (vs.toArray.zip vs.toArray) #[] 7 none)).toList=l at this
   match l,this with
   | [],_=>exact .nil
   | [x],_=>exact Ed _ _
   | _ :: _ :: _,h=>simp at h;lia
  refine AC (AN (AC (YO ho6 rfl (AC (UK ho6 rfl ?_ (Cp _) (last (FF Rh (vs.toArray.zip vs.toArray) #[] 7 none) (Ku _) rfl hs0))))));simp only [bne_self_eq_false,Bp,if_false];exact AN (fin (FF Rh (vs.toArray.zip vs.toArray) #[] 7 none) (Ku _) hs0)
 ·rw [qY h2,qY h2]
  obtain ⟨κ,kk,C⟩:=hk (by lia) { s with heap:=((s.heap.update a (HB λ_=>#[])).push (G8 "tuple" vs.toArray 0)).push (G8 "list" #[] 0) } old;refine AC (kk _ _ ?_)
  refine AC (E3 (Srt.wpS_sortRuns (a₀:=IT vs) (st:=FF κ (vs.toArray.zip vs.toArray) #[] 7 none)
   (Q:=λ_ st'=>(AQ st').Perm (IT vs)/\Gq st'=none/\(AQ st').toList.Pairwise (Rl (ltK f))) C (ZZ f _) ⟨Ku _,rfl,rfl⟩ rfl λst' g u=>⟨g.perm,g.failed,?_⟩) ?_ λ_ _ e=>e)
  ·have:=WJ (a:=AQ st') (lo:=0) (hi:=(AQ st').size) (AO _) (by rw [g.size];exact u)
   rwa [Hy,List.drop_zero] at this
  rintro ⟨⟨⟩,st'⟩ s' ⟨rfl,hp,hf,hs⟩;refine AC (YO ho6 rfl (AC (UK ho6 rfl ?_ (Cp _) (last st' hp hf hs))));rw [hf];simp only [bne_self_eq_false,Bp,if_false];exact AN (fin st' hp hs)
theorem UZ {vs:List AB} {f:AB->List Int} (h:∀v∈vs,Sq s v (f v)/\f v≠[]) (h0:vs≠[]):P7 prog w A s vs f:=
 ⟨dZ true,λQ E q=>XT (λv hv=>by
  obtain ⟨h1,h2⟩:=h v hv
  cases e:f v with
  | nil=>exact zX e h2
  | cons n ns=>exact ⟨n,ns,by rw [<-e];exact h1⟩) h0 q,λx y hx hy Q E q=>Z8 true (h _ (FC hx).1).1 (h _ (FC hy).1).1 q⟩
def W3 (v:AB):List Int:=[numOf v]
theorem Ua {vs:List AB} {ns:List Int} (h:Dh vs ns) (h2:2<=vs.length):P7 prog w A s vs W3:=by
 refine ⟨oneType',λQ E q=>?_,λx y hx hy Q E q=>?_⟩
 ·match vs,h2,h with
  | v :: u :: r,_,h=>rw [keyKind_ints h];exact AN q
 ·obtain ⟨n,t,e1⟩:=h.all _ (FC hx).1
  obtain ⟨m,u,e2⟩:=h.all _ (FC hy).1;rw [keyLt'_oneType,e1,e2];refine oneLt_int ?_
  have:ltK W3 x y=decide (n < m):=by
   unfold ltK W3;rw [e1,e2];show (if n=m then false else decide (n < m))=_;split
   ·rename_i e;simp [e]
   ·rfl
  rw [<-this];exact q
end
def OR (h:BW) (d:AH) (es:Array Lh) (ep:Nat):Prop:=∃o,h.get? d=some o/\o.ExactDict/\o.data=.dict es ep
theorem OR.at' {h h':BW} {d:AH} {es:Array Lh} {ep:Nat} (x:OR h d es ep) (e:∀o,h.get? d=some o->h'.get? d=some o):OR h' d es ep:=let ⟨o,ho,r⟩:=x;⟨o,e _ ho,r⟩
theorem OR.ty {s:AD} {d:AH} {es:Array Lh} {ep:Nat} (x:OR s.heap d es ep):s.TypeIs (.ref d) "dict":=let ⟨o,ho,hc,_⟩:=x;⟨o,ho,hc.1⟩
section
variable {prog:Ah} {w:A1} {A:Aw} {E:AB->AD->Prop} {s:AD} {d it:AH} {es:Array Lh} {ep i:Nat}
theorem We {Q:AB->AD->Prop} (hd:(d==C3)=false) (hm:OR s.heap d es ep)
  (kq:Q (.ref s.heap.objs.size) { s with heap:=s.heap.push { cls:=.type "dict_keyiterator",data:=.fields #[.ref d,.int 0 0,.int es.size 0,.int ep 0] } }):Ad (AT prog w) A (pyIter (.ref d)) Q E s:=by
 have hT:=hm.ty;obtain ⟨o,ho,hc,hdat⟩:=hm;refine wpAny_pyIter_slot hT O7 (C0 O7 hT PySem.F.entry_dict_iter ?_ (PySem.F.args_dict_iter_1 _));unfold Builtin.«dict.__iter__»;refine AC ?_;unfold gc;refine AC (wpAny_notOrdered_dict hT (show Ad _ _ (pure (Ax d)) _ _ s from AN ?_));refine (show Ad _ _ (Mo d >>= _) _ _ s from ?_);unfold Mo;rw [qY (by simp [hd])];refine AC (AN (AC (N0 ho hdat (AC (QI ho hdat (AC (BU (AN ⟨_,rfl, "dict_keyiterator",_,⟨_,AX _ rfl,rfl⟩,B4.lookup,?_⟩))))))));simpa [DW] using kq
theorem Wc {Q:Option AB->AD->Prop} (ki:s.heap.IsKeyIter it d i es.size ep) (hm:OR s.heap d es ep) (hi:i < es.size)
  (kq:∀h',h'.IsKeyIter it d (i+1) es.size ep->DT it s.heap h'->Q (some es[i].key) { s with heap:=h' }):Ad (AT prog w) A (O4 (.ref it)) Q E s:=by
 obtain ⟨o,ho,hc,hd⟩:=id ki;obtain ⟨od,hod,hcd,hdd⟩:=hm;unfold O4;refine AC (MN (Cm (name:=Gr "__next__") ki.typeIs B4 (C0 B4 ki.typeIs JY (AC (AN (AC (AC ?_)))) (JR _))))
 first | refine AC (Dc ki.typeIs (AN (AC (Kv ho hd ?_)))) | refine AC (Ew ki.typeIs (AN (AC (Kv ho hd ?_))))
 simp only [show IW "dict_keyiterator" = false by decide,Bp,if_false];refine (show Ad _ _ (if (Ax d==BL)=true then _ else _) _ _ s from ?_);rw [qY (λz:(Ax d==BL)=true=>AS z)];refine AC (AN (AC (N0 hod hdd ?_)));rw [qY (by simp)];refine AC (AN (AC (QI hod hdd ?_)));rw [qY (by simp)];refine AN ?_;simp only [show ¬((i:Int) < 0) by lia,if_false,A5,OY hi];refine AC ?_
 first | refine AC (Dc ki.typeIs (AN (AC (J8 ki.typeIs ?_)))) | refine AC (Ew ki.typeIs (AN (AC (J8 ki.typeIs ?_))))
 refine (show Ad _ _ (YN (.ref it) 1 (DW ((i:Int)+1)) >>= _) _ _ s from ?_);have ki':(s.heap.update it (CQ (·.setIfInBounds 1 (DW ((i:Int)+1))))).IsKeyIter it d (i+1) es.size ep:=⟨_,Dd _ ho (Df (Bq hd _)),(He ..).trans hc,by rw [Bq hd];simp [DW]⟩;refine AC (EE ho hd (by simp) (AC (MM (AC (J8 (s:={ s with heap:=s.heap.update it (CQ (·.setIfInBounds 1 (DW ((i:Int)+1)))) }) ki'.typeIs ?_)))));exact (show Ad _ _ (pure es[i].key) _ _ _ from AN (AN ⟨_,rfl,AN (kq _ ki' (E8 ..))⟩))
theorem Y8 {Q:Option AB->AD->Prop} (h0:A.handled=none) (ki:s.heap.IsKeyIter it d i es.size ep) (hm:OR s.heap d es ep) (hi:es.size<=i)
  (kq:∀h',S8 it s.heap h'->Q none { s with heap:=h' }):Ad (AT prog w) A (O4 (.ref it)) Q E s:=by
 obtain ⟨o,ho,hc,hd⟩:=id ki;obtain ⟨od,hod,hcd,hdd⟩:=hm;unfold O4;refine AC (MN (Cm (name:=Gr "__next__") ki.typeIs B4 (C0 B4 ki.typeIs JY (AC (AN (AC (AC ?_)))) (JR _))))
 first | refine AC (Dc ki.typeIs (AN (AC (Kv ho hd ?_)))) | refine AC (Ew ki.typeIs (AN (AC (Kv ho hd ?_))))
 simp only [show IW "dict_keyiterator" = false by decide,Bp,if_false];refine (show Ad _ _ (if (Ax d==BL)=true then _ else _) _ _ s from ?_);rw [qY (λz:(Ax d==BL)=true=>AS z)];refine AC (AN (AC (N0 hod hdd ?_)));rw [qY (by simp)];refine AC (AN (AC (QI hod hdd ?_)));rw [qY (by simp)];refine AN ?_;simp only [show ¬((i:Int) < 0) by lia,if_false,A5,Array.getElem?_eq_none hi];refine AC ?_
 first | refine AC (Dc ki.typeIs (AN (show Ad _ _ (YN (.ref it) 0 .none >>= _) _ _ s from ?_))) | refine AC (Ew ki.typeIs (AN (show Ad _ _ (YN (.ref it) 0 .none >>= _) _ _ s from ?_)))
 refine AC (EE ho hd (by simp) (show Ad _ _ (newExc (.type "StopIteration") [] >>= _) _ _ _ from AC ?_));simp only [newExc,newTuple];refine AC (BU (AC (m:=Kx _ _) (YM (a:=BL) (by first | rfl | (simp only [Kx];rfl)) (BU ?_ (by size_fits)))) (by size_fits));simp only [raiseNew];refine AC (wpAny_handled ?_);rw [show A.in1.handled=none from h0];refine AC (AN (wpAny_throw ?_));refine AC (dr (T:="StopIteration") (b:=true) ⟨_,AX _ rfl,rfl⟩ isSubtype_stop (AN ?_));exact kq _ (((E8 ..).extBut.push _).push _)
theorem Uh (h0:A.handled=none) (I:AH) (hne:d≠I):Walks prog w A I [I,d] [I] es.size (λi v=>∃h:i < es.size,v=es[i].key) (λi h=>h.IsKeyIter I d i es.size ep/\OR h d es ep) where
 sub:=λx hx=>by simp at hx;simp [hx]
 frame:=λ_ _ _ st keep=>⟨st.1.at λo e=>keep I (by simp) o e,st.2.at' λo e=>keep d (by simp) o e⟩
 item:=λi s Q E hi st kq=>Wc st.1 st.2 hi λh' ki' hs'=>kq _ h' s.toks ⟨hi,rfl⟩ ⟨ki',st.2.at' λo e=>hs'.extBut d o hne e⟩ λb o hb e=>hs'.extBut b o (λh=>hb (by simp [h])) e
 done:=λs Q E st kq=>Y8 h0 st.1 st.2 (AO _) λh' he'=>kq h' s.toks λb o hb e=>he' b o (λh=>hb (by simp [h])) e
 self:=λ_ _ _ _ st kq=>wpAny_pyIter_keyiter st.1 kq
theorem TY (lo:(d==C3)=false):PySem.W.KdlSrc prog w "dict" d d es.size (λi v=>∃h:i < es.size,v=es[i].key) (λh=>OR h d es ep) where
 type:=λ_ hm=>hm.ty
 there:=λ_ hm=>⟨let ⟨_,ho,_⟩:=hm;AW ho,let ⟨_,ho,_⟩:=hm;AW ho⟩
 keep:=λ_ _ hm hk=>hm.at' λo e=>hk d (.inl rfl) o e
 notList:=by decide
 notTuple:=by decide
 hint:=λ_ _ _ _ hm hq=>PySem.W.kdl_hint_dict hm.ty hq
 iter:=λ_ _ h0 hm=>⟨_,_,(λ_ _ hq=>We lo hm hq),Uh h0 _ (Am (let ⟨_,ho,_⟩:=hm;AW ho)),⟨⟨_,AX _ rfl,rfl,rfl⟩,hm.at' λo e=>AI _ e⟩⟩
end
end Srt
namespace PySem.SetTable
end PySem.SetTable
namespace PySem
open SetTable
end PySem
namespace PySem
open Sem (wp)
open SetTable PyProof.Rows
section
variable {prog:Ah} {w:A1} {A:Aw} {E:AB->AD->Prop} {s:AD}
end
section
variable {prog:Ah} {w:A1} {A:Aw} {E:AB->AD->Prop} {s:AD} {a it T:AH} {es:Array (Int×AB)} {ep i:Nat} {t:SetTable}
end
section
variable {prog:Ah} {w:A1} {A:Aw} {E:AB->AD->Prop} {s:AD} {a it T:AH} {es:Array (Int×AB)} {ep i:Nat} {t:SetTable}
end
section
variable {prog:Ah} {w:A1} {A:Aw} {E:AB->AD->Prop} {s:AD} {a:AH} {es:Array (Int×AB)} {ep:Nat} {t:SetTable}
end
end PySem
namespace L2
open PySem PySem.Spec PyProof.Rows
open Srt (ltL)
theorem Qv {α β:Type} {R:α->β->Prop} {l2 l2':List β} (p:l2.Perm l2'):∀ {l1:List α},E6 R l1 l2->∃l1',E6 R l1' l2'/\l1'.Perm l1:=by
 induction p with
 | nil=>intro l1 h;cases h;exact ⟨[],.nil,.refl _⟩
 | cons x _ ih=>
  intro l1 h
  cases h with
  | cons r t=>
   obtain ⟨l',h1,h2⟩:=ih t;exact ⟨_ :: l',.cons r h1,h2.cons _⟩
 | swap x y l=>
  intro l1 h
  cases h with
  | cons r t=>
   cases t with
   | cons r2 t=>exact ⟨_ :: _ :: _,.cons r2 (.cons r t),List.Perm.swap _ _ _⟩
 | trans _ _ ih1 ih2=>
  intro l1 h;obtain ⟨a,h1,h2⟩:=ih1 h;obtain ⟨b,h3,h4⟩:=ih2 h1;exact ⟨b,h3,h4.trans h2⟩
theorem KU {α β γ:Type} {R:α->β->Prop} {f:α->γ} {g:β->γ}:∀ {l1:List α} {l2:List β},E6 R l1 l2->(∀a∈l1,∀b,R a b->g b=f a)->l2.map g=l1.map f
 | _,_,.nil,_=>rfl
 | _,_,.cons r t,h=>by rw [Ap,Ap,h _ Al _ r,KU t λa ha=>h a (Aa _ ha)]
theorem M9 {α β:Type} {R:α->β->Prop}:∀ {l1:List α} {l2:List β} {b:β},E6 R l1 l2->b∈l2->∃a∈l1,R a b
 | _,_,_,.nil,h=>nomatch h
 | _,_,b,.cons r t,h=>by
  rcases A6.mp h with h | h
  ·subst h;exact ⟨_,Al,r⟩
  ·obtain ⟨a,ha,e⟩:=M9 t h
   exact ⟨a,Aa _ ha,e⟩
def OK:V->Int
 | .int n=>n
 | _=>0
def Uf (H:Hp):AB->List Int
 | .int n _=>[n]
 | .ref b=>match H b with
  | some (.tup xs)=>xs.map OK
  | _=>[]
 | _=>[]
theorem LK (r:List Int):(r.map V.int).map OK=r:=by
 rw [A7];exact (BY λa _=>rfl).trans (List.map_id' r)
def gK (K:AA) (H:Hp) (p:AH) (G:List V->Prop):Prop:=
 (∃vs,(SqL K H p vs∨SqT K H p vs)/\G vs)∨(∃kvs,H p=some (.dK kvs)/\G (kvs.map λx=>kV x.1)) ∨
  ∃kvs,H p=some (.dT kvs)/\∀bs:List AH,E6 (λ(k:List Key×V) b=>H b=some (.tup (k.1.map kV))) kvs bs->G (bs.map V.ref)
def O2 (H:Hp) (f:V->List Int) (vs:List V):Prop:=(∀v∈vs,∃n,v=.int n/\f v=[n])∨∀v∈vs,∃b,v=.ref b/\H b=some (.tup ((f v).map V.int))/\f v≠[]
def et (K:AA):List V->Hp->VK->Prop:=λxs H Q=>∃p,xs=[.ref p]/\gK K H p λvs=>∃f:V->List Int,O2 H f vs /\
 ∀out,out.Perm vs->out.Pairwise (λx y=>ltL (f y) (f x)=false)->∀l,H l=none->Q (.ref l) (upd H l (.lst out))
theorem O2.rel {H:Hp} {f:V->List Int} {vs:List V} (h:O2 H f vs):∀v∈vs,∀u,RelV v u->Uf H u=f v:=λv hv u r=>by
 rcases h with h | h
 ·obtain ⟨n,rfl,e⟩:=h v hv
  obtain ⟨t,rfl⟩:=r;exact e.symm
 ·obtain ⟨b,rfl,e,_⟩:=h v hv
  cases r;show (match H b with | some (.tup xs)=>xs.map OK | _=>[])=_;rw [e];exact LK _
theorem Qj {X:Cx} {pins:List (AH×Obj)} {s:AD} {σ:St} {H:Hp} {p:AH} {G:List V->Prop} (hc:X.calm=true) (I:Inv X pins σ H s) (h:gK X.K H p G) :
  ∃vs its,G vs/\Bh vs its/\its.length<=sizeLine/\∀(R:List AB->AD->Prop) (E:AB->AD->Prop),(∀(g:BW) (tk:Nat),(∀b o,s.heap.get? b=some o->g.get? b=some o)->R its { s with heap:=g,toks:=tk })->Ad (AT X.prog X.w) X.A.in1 (collect (.ref p)) R E s:=by
 have hh:X.A.handled=none:=I.ok.hd hc
 rcases h with ⟨vs,sq,g⟩ | ⟨kvs,e,g⟩ | ⟨kvs,e,g⟩
 ·rcases sq with sq | sq
  ·obtain ⟨its,rv,pl,hz⟩:=I.list sq
   refine ⟨vs,its,g,rv,by rw [<-rv.length];exact hz,λR E k=>collect_list pl.isList (k _ s.toks λb o e=>?_) (by rw [<-rv.length];exact hz)⟩;rw [UR _ _ _ _ (Am (AW e))];exact AI _ e
  ·obtain ⟨its,rv,⟨o,ho,hcl,n,hd⟩,hz⟩:=I.tuple sq
   have hz':its.length<=sizeLine:=by rw [<-rv.length];exact hz
   exact ⟨vs,its,g,rv,hz',λR E k=>wpAny_collect_seq p (.inr rfl) ho hcl hd (λh' kp=>by simpa using k h' s.toks kp) (by simpa using hz')⟩
 ·obtain ⟨hz,sm,us,kv,o,es,ep,g1,g2,g3,g5,g6,_⟩:=(show CJ X.prog X.w H s.heap p (.dK kvs) from I.hok p _ e)
  have hlen:es.size=kvs.length:=by
   have a1:=g6.length;have a2:kvs.length=us.length:=DA kv;rw [BX] at a1
   lia
  have hv:Bh (kvs.map λx=>kV x.1) (es.toList.map (·.key)):=by
   have key:∀ {l:List Lh} {us:List (Key×AB)} {kvs:List (Key×V)},Pairs (C1 X.prog X.w) l us->KV kvs us->Bh (kvs.map λx=>kV x.1) (l.map (·.key)):=by
    intro l us kvs hp
    induction hp generalizing kvs with
    | nil=>intro h;cases h;exact .nil
    | cons q1 q2 _ ih=>
     intro h
     cases h with
     | cons r t=>
      refine .cons ?_ (ih t);dsimp only;rw [r.1]
      rcases Ch q1 with ⟨i,t,e1,e2⟩ | ⟨x,t,e1,e2⟩
      ·rw [e1,e2];exact ⟨t,rfl⟩
      ·rw [e1,e2];exact ⟨t,rfl⟩
   exact key g6 kv
  refine ⟨_,es.toList.map (·.key),g,hv,by rw [AF,BX,hlen];exact hz,λR E k=>?_⟩
  refine RY (Srt.TY (es:=es) (ep:=ep) sm) hh ⟨o,g1,g2,g3⟩ (by rw [hlen];exact hz) λg' tk acc kp ac=>?_
  have:acc.toList=es.toList.map (·.key):=by
   apply Lg
   intro j
   by_cases hj:j < es.size
   ·have hj2:j < acc.size:=by rw [ac.1];exact hj
    obtain ⟨_,e2⟩:=ac.2 j acc[j] (by simp [hj2]);simp [hj,hj2,e2]
   ·have hj2:¬j < acc.size:=by rw [ac.1];exact hj
    simp [hj,hj2]
  rw [this];exact k g' tk kp
 ·obtain ⟨hz,sm,xs,rr,o,es,ep,g1,g2,g3,g4,_⟩:=(show CJ X.prog X.w H s.heap p (.dT kvs) from I.hok p _ e)
  have hlen:es.size=kvs.length:=by
   have a1:=congrArg DQ g4;have a2:kvs.length=xs.length:=DA rr;rw [BX,AF] at a1
   lia
  have hb:E6 (λ(k:List Key×V) b=>H b=some (.tup (k.1.map kV))) kvs (xs.map (·.2.1)):=by
   have key:∀ {kvs:List (List Key×V)} {xs:List (List Key×AH×AB)},E6 (λ(p:List Key×V) (q:List Key×AH×AB)=>p.1=q.1/\H q.2.1=some (.tup (p.1.map kV))/\RelV p.2 q.2.2) kvs xs->E6 (λ(k:List Key×V) b=>H b=some (.tup (k.1.map kV))) kvs (xs.map (·.2.1)):=by
    intro kvs xs h
    induction h with
    | nil=>exact .nil
    | cons r _ ih=>exact .cons r.2.1 ih
   exact key rr
  have hk:es.toList.map (·.key)=(xs.map (·.2.1)).map Ax:=by
   rw [g4,A7,A7];rfl
  have hv:∀l:List AH,Bh (l.map V.ref) (l.map Ax):=λl=>by
   induction l with
   | nil=>exact .nil
   | cons a l ih=>exact .cons rfl ih
  refine ⟨_,(xs.map (·.2.1)).map Ax,g _ hb,hv _,by rw [AF,AF,<-DA rr];exact hz,λR E k=>?_⟩
  refine RY (Srt.TY (es:=es) (ep:=ep) sm) hh ⟨o,g1,g2,g3⟩ (by rw [hlen];exact hz) λg' tk acc kp ac=>?_
  have:acc.toList=(xs.map (·.2.1)).map Ax:=by
   rw [<-hk]
   apply Lg
   intro j
   by_cases hj:j < es.size
   ·have hj2:j < acc.size:=by rw [ac.1];exact hj
    obtain ⟨_,e2⟩:=ac.2 j acc[j] (by simp [hj2]);simp [hj,hj2,e2]
   ·have hj2:¬j < acc.size:=by rw [ac.1];exact hj
    simp [hj,hj2]
  rw [this];exact k g' tk kp
theorem Qm {X:Cx} {s:AD} {H:Hp} {f:V->List Int} {vs:List V} {its:List AB} (I:∀b xs,H b=some (.tup xs)->∃is:List AB,Bh xs is/\dm s.heap b is.toArray) (h:O2 H f vs) (rv:Bh vs its) (h2:2<=its.length) {A:Aw}:Srt.P7 X.prog X.w A s its (Uf H):=by
 rcases id h with hi | ht
 ·have:∃ns,Dh its ns:=by
   have key:∀ {vs:List V} {its:List AB},Bh vs its->(∀v∈vs,∃n,v=.int n/\f v=[n])->∃ns,Dh its ns:=by
    intro vs its r
    induction r with
    | nil=>exact λ_=>⟨[],.nil⟩
    | cons r _ ih=>
     intro hv
     obtain ⟨ns,hns⟩:=ih λv hv'=>hv v (Aa _ hv')
     obtain ⟨n,rfl,_⟩:=hv _ Al;obtain ⟨t,rfl⟩:=r;exact ⟨n :: ns,.cons n t hns⟩
   exact key rv hi
  obtain ⟨ns,hns⟩:=this;obtain ⟨κ,k1,k2⟩:=Srt.Ua (prog:=X.prog) (w:=X.w) (A:=A) (s:=s) hns h2;refine ⟨κ,k1,λx y hx hy Q E q=>k2 x y hx hy Q E ?_⟩;obtain ⟨n,t,e1⟩:=hns.all _ (Srt.FC hx).1;obtain ⟨m,u,e2⟩:=hns.all _ (Srt.FC hy).1
  have e:Srt.ltK Srt.W3 x y=Srt.ltK (Uf H) x y:=by
   unfold Srt.ltK Srt.W3;rw [e1,e2];rfl
  rw [e];exact q
 ·refine Srt.UZ (λu hu=>?_) (by intro e;subst e;simp at h2)
  obtain ⟨v,hv,r⟩:=M9 rv hu;rw [h.rel v hv u r];obtain ⟨b,rfl,e,ne⟩:=ht v hv;cases r;refine ⟨⟨b,?_⟩,ne⟩;obtain ⟨is,r,o,ho,hcl,n,hd⟩:=I b _ e;exact ⟨is.toArray,rfl,⟨o,ho,hcl,n,hd⟩,by simpa using intsAre_of r⟩
theorem VN {X:Cx} (hc:X.calm=true):IP X (.builtin "sorted") (et X.K):=by
 intro pins s σ H xs us Q I r h;obtain ⟨p,rfl,src⟩:=h;obtain ⟨u,rfl,rx⟩:=vals1 r;cases rx;obtain ⟨vs,its,⟨f,rows,q⟩,rv,hz,col⟩:=Qj hc I src;refine Calls.call_function_entry kind_sorted plain_sorted entry_sorted (args_sorted1 _) ?_;unfold Builtin.«sorted»;refine AC (m:=checkCount "sorted" 1 1 _) (AN (AC (col _ _ λg tk kp=>?_)));refine AC (wpAny_newList ?_ hz);have I1:Inv X pins σ H { s with heap:=g,toks:=tk }:=I.kept kp;have hl:(g.push (G8 "list" its.toArray 0)).get? g.objs.size=some (G8 "list" its.toArray 0):=AX _ rfl;refine AC (MM (C0 slot_list_sort ⟨_,hl,rfl⟩ entry_list_sort (Srt.ON (f:=Uf H) hl hz (λh2 s' keep=>?_) λout po so=>⟨_,rfl,AN ⟨_,rfl,?_⟩⟩) (args_list_sort _)))
 ·refine Qm (λb xs e=>?_) rows rv h2
  obtain ⟨_,is,r,o,ho,hcl,n,hd⟩:=(show CJ X.prog X.w H g b (.tup xs) from I1.hok b _ e);exact ⟨is,r,o,keep b o (Am (AW ho)) (AI _ ho),hcl,n,hd⟩
 ·obtain ⟨vo,ro,pv⟩:=Qv po.symm rv
  have so':vo.Pairwise (λx y=>ltL (f y) (f x)=false):=by
   have e:out.toList.map (Uf H)=vo.map f:=KU ro λa ha b rb=>rows.rel a (pv.mem_iff.mp ha) b rb
   have:=(CC (f:=Uf H) (R:=λx y=>ltL y x=false)).mpr so;rw [e] at this;exact CC.mp this
  obtain ⟨k,hk⟩:=sortedHeap_at (out:=out) hl
  have hlen:vo.length<=sizeLine:=by rw [pv.length_eq,rv.length];exact hz
  have I2:=I1.laid (a:=g.objs.size) (o:=.lst vo) (t':=tk) (h':=av (g.push (G8 "list" its.toArray 0)) g.objs.size its out)
   (λb u z=>by
    have lt:b < g.objs.size:=AW z;rw [sortedHeap_old (Am lt) (by rw [size_push'];exact Hf lt)]
    exact AI _ z) (AO _) ⟨hlen,out.toList,k,ro,hk⟩
  exact ⟨.ref g.objs.size,_,I2,rfl,q vo pv so' _ (I1.hok.fresh (AO _))⟩
def EQ (ns:List Int):List Int:=ns.mergeSort (λa b=>decide (a<=b))
@[simp] theorem Ub:EQ []=[]:=by unfold EQ;simp
theorem EI (ns:List Int):(EQ ns).Perm ns:=UO ns _
theorem Qk (ns:List Int):(EQ ns).Pairwise (·<=·):=by
 have:=QN (le:=λa b:Int=>decide (a<=b)) (by intro a b c h1 h2;simp at h1 h2 ⊢;lia) (by intro a b;simp;lia) ns
 exact this.imp λh=>by simpa using h
def Ig (rs:List (List Int)):List (List Int):=rs.mergeSort (λa b=>!ltL b a)
theorem E9 (rs:List (List Int)):(Ig rs).Perm rs:=UO rs _
theorem M3 (rs:List (List Int)):(Ig rs).Pairwise (λa b=>ltL b a=false):=by
 have:=QN (le:=λa b:List Int=>!ltL b a) (by intro a b c h1 h2;simp at h1 h2 ⊢;exact Srt.Ph _ _ _ h1 h2) (by
  intro a b
  cases e:ltL b a with
  | false=>simp
  | true=>simp [Srt.NM _ _ e]) rs
 exact this.imp λh=>by simpa using h
theorem Od {l l':List (List Int)} (p:l.Perm l') (h:l.Pairwise (λa b=>ltL b a=false)) (h':l'.Pairwise (λa b=>ltL b a=false)):l=l':=
 p.eq_of_pairwise (λa b _ _ h1 h2=>Srt.To a b h2 h1) h h'
def XU:Key->D
 | .inl i=>.int i
 | .inr x=>.str x
def Hu (d:D) (S:Sto):Option (List D):=match d with
 | .fro ds=>some ds
 | .tup ds=>some ds
 | .ref n=>match S[n]? with
  | some (.lst ds)=>some ds
  | some (.dK kvs)=>some (kvs.map λx=>XU x.1)
  | some (.dT kvs)=>some (kvs.map λx=>.tup (x.1.map XU))
  | _=>none
 | _=>none
def JT (r:List Int):D:=.tup (r.map D.int)
def Je:List D->Option (List (List Int))
 | []=>some []
 | .tup ds :: r=>match Ga ds,Je r with
  | some (n :: ns),some rs=>some ((n :: ns) :: rs)
  | _,_=>none
 | _ :: _=>none
def Jd (ds:List D):Option (List D):=match Ga ds with
 | some ns=>some ((EQ ns).map D.int)
 | none=>match Je ds with
  | some rs=>some ((Ig rs).map JT)
  | none=>none
def Fv (m:ME):ME:=λe S=>(m e S).bind λd S1=>match Hu d S1 with
 | some ds=>match Jd ds with
  | some es=>.ok (.ref S1.length) (S1++[.lst es])
  | none=>.bad
 | none=>.bad
section
variable {X:Cx} {E:EW} {e:Expr} {p pos:Pos} {m:ME}
theorem Zq (x y:Int):ltL [y] [x]=decide (y < x):=by
 show (if y=x then false else decide (y < x))=_;split
 ·rename_i e;simp [e]
 ·rfl
def OG (H:Hp):V->List Int
 | .int n=>[n]
 | .ref b=>match H b with
  | some (.tup xs)=>xs.map OK
  | _=>[]
 | _=>[]
theorem Qn {K:AA} {ρ:List AH} {H:Hp}:∀ {ds:List D} {rs:List (List Int)} {vs:List V},Je ds=some rs->At K ρ H ds vs->vs.map (OG H)=rs/\∀v∈vs,∃b,v=.ref b/\H b=some (.tup ((OG H v).map V.int))/\OG H v≠[]
 | [],_,_,h,.nil=>by cases h;exact ⟨rfl,λv hv=>nomatch hv⟩
 | .tup ts :: ds,rs,_,h,.cons r t=>by
  unfold Je at h;split at h
  ·rename_i n ns rs' h1 h2
   cases h;obtain ⟨i1,i2⟩:=Qn h2 t
   cases r with
   | @tup _ b ws hb rr=>
    have:=Ir h1;subst this;have:=rr.ints;subst this
    have e:OG H (.ref b)=n :: ns:=by
     show (match H b with | some (.tup xs)=>xs.map OK | _=>[])=_;rw [hb];exact LK _
    refine ⟨by rw [Ap,e,i1],λv hv=>?_⟩
    rcases A6.mp hv with hv | hv
    ·subst hv
     refine ⟨b,rfl,?_,?_⟩
     ·rw [e];exact hb
     ·rw [e];exact List.cons_ne_nil _ _
    ·exact i2 v hv
  ·cases h
 | .non :: _,_,_,h,_=>by cases h
 | .bl _ :: _,_,_,h,_=>by cases h
 | .int _ :: _,_,_,h,_=>by cases h
 | .str _ :: _,_,_,h,_=>by cases h
 | .fro _ :: _,_,_,h,_=>by cases h
 | .ref _ :: _,_,_,h,_=>by cases h
 | .exc _ :: _,_,_,h,_=>by cases h
theorem Qq {K:AA} {ρ:List AH} {H:Hp}:∀ {vs:List V},(∀v∈vs,∃b,v=.ref b/\H b=some (.tup ((OG H v).map V.int))/\OG H v≠[])->At K ρ H ((vs.map (OG H)).map JT) vs
 | [],_=>.nil
 | v :: vs,h=>by
  obtain ⟨b,e,hb,_⟩:=h v Al;refine .cons ?_ (Qq λu hu=>h u (Aa _ hu));subst e;exact .tup hb (At.of_ints _)
theorem WS {K:AA} {ρ:List AH} {H:Hp} {ds es:List D} {vs:List V} (h:Jd ds=some es) (r:At K ρ H ds vs) :
  ∃f:V->List Int,O2 H f vs/\∀out,out.Perm vs->out.Pairwise (λx y=>ltL (f y) (f x)=false)->At K ρ H es out:=by
 unfold Jd at h;split at h
 ·rename_i ns hz
  cases h;have:=Ir hz;subst this;have:=r.ints;subst this;refine ⟨λv=>[OK v],.inl λv hv=>?_,λout po so=>?_⟩
  ·obtain ⟨n,_,rfl⟩:=BH.mp hv
   exact ⟨n,rfl,rfl⟩
  ·have e1:out=(out.map OK).map V.int:=by
    rw [A7]
    conv=>lhs;rw [<-Mn out]
    refine BY λv hv=>?_
    obtain ⟨n,_,rfl⟩:=BH.mp (po.mem_iff.mp hv);rfl
   have e2:out.map OK=EQ ns:=by
    have p1:(out.map OK).Perm (EQ ns):=by
     have:=po.map OK;rw [LK] at this;exact this.trans (EI ns).symm
    refine p1.eq_of_pairwise (λa b _ _ h1 h2=>Int.le_antisymm h1 h2) ?_ (Qk ns);rw [CC]
    refine so.imp λ{x y} hxy=>?_
    rw [Zq] at hxy;simp at hxy;exact hxy
   rw [e1,e2];exact At.of_ints _
 ·split at h
  ·rename_i rs hr
   cases h;obtain ⟨i1,i2⟩:=Qn hr r;refine ⟨OG H,.inr i2,λout po so=>?_⟩
   have e2:out.map (OG H)=Ig rs:=by
    refine Od ?_ (CC.mpr so) (M3 rs);have:=po.map (OG H);rw [i1] at this;exact this.trans (E9 rs).symm
   rw [<-e2]
   exact Qq λv hv=>i2 v (po.mem_iff.mp hv)
  ·cases h
theorem NR {K:AA} {ρ:List AH} {H:Hp}:∀ks:List Key,At K ρ H (ks.map XU) (ks.map kV)
 | []=>.nil
 | .inl i :: ks=>.cons (.int i) (NR ks)
 | .inr x :: ks=>.cons (.str x) (NR ks)
theorem NQ {K:AA} {ρ:List AH} {H:Hp}:∀ {kvs:List (Key×D)} {kvs':List (Key×V)},KVR K ρ H kvs kvs'->At K ρ H (kvs.map λx=>XU x.1) (kvs'.map λx=>kV x.1)
 | _,_,.nil=>.nil
 | (k,_) :: _,(k',_) :: _,.cons r t=>by
  have e:k=k':=r.1;subst e
  cases k with
  | inl i=>exact .cons (.int i) (NQ t)
  | inr x=>exact .cons (.str x) (NQ t)
theorem Q7 {K:AA} {ρ:List AH} {H:Hp}:∀ {kvs:List (List Key×D)} {kvs':List (List Key×V)} {bs:List AH},KVR K ρ H kvs kvs'->E6 (λ(k:List Key×V) b=>H b=some (.tup (k.1.map kV))) kvs' bs->At K ρ H (kvs.map λx=>.tup (x.1.map XU)) (bs.map V.ref)
 | _,_,_,.nil,.nil=>.nil
 | (k,_) :: _,(k',_) :: _,_,.cons r t,.cons r2 t2=>by
  have e:k=k':=r.1;subst e;exact .cons (.tup r2 (NR k)) (Q7 t t2)
theorem LS (hc:X.calm=true) (hg:Gl X "sorted") (hm:X.mg "sorted" = none) (h:GE X E e m) (he:AU [e] X.env=(false,Bx e X.env) :: AU [] X.env:=by rfl):GE X E (.Call (.Name "sorted" p) [e] [] pos) (Fv m):=
 (Il (VN hc) hg hm gW (FH h Hr he) (by decide) (by decide) he rfl).imp λσ H Q ⟨ρ,l,S,hl,hs,hm⟩=>by
 refine ⟨ρ,l,S,hl,hs,hm.seq λd S1 hm ρ1 H1 x l1 s1 r1=>?_⟩
 cases hq:Hu d S1 with
 | none=>rw [hq] at hm;exact hm.elim
 | some ds=>
  rw [hq] at hm;dsimp only at hm
  cases hi:Jd ds with
  | none=>rw [hi] at hm;exact hm.elim
  | some es=>
   rw [hi] at hm
   have fin:∀vs:List V,At X.K ρ1 H1 es vs->∀q,H1 q=none->Q (.ref q) (upd H1 q (.lst vs)):=λvs rr q hq=>by
    have le:Le X.K ρ1 H1 (ρ1++[q]) (upd H1 q (.lst vs)):=Le.alloc hq;obtain ⟨s4,l4,at4⟩:=s1.alloc (ho:=.lst vs) (o:=.lst es) hq ⟨_,Bg,rr.mono le⟩;exact hm _ _ _ (l1.trans l4) s4 (.ref at4)
   have out:∀vs,At X.K ρ1 H1 ds vs->∃f:V->List Int,O2 H1 f vs/\∀out,out.Perm vs->out.Pairwise (λx y=>ltL (f y) (f x)=false)->∀l,H1 l=none->Q (.ref l) (upd H1 l (.lst out)):=λvs rr=>by
    obtain ⟨f,k1,k2⟩:=WS hi rr;exact ⟨f,k1,λout po so=>fin out (k2 out po so)⟩
   cases r1 with
   | fro h1 h2=>cases hq;exact ⟨_,rfl,.inl ⟨_,.inl h1.sq,out _ h2⟩⟩
   | tup h1 h2=>cases hq;exact ⟨_,rfl,.inl ⟨_,.inr (.inl (.inl h1)),out _ h2⟩⟩
   | @ref n a hn=>
    obtain ⟨o,ho,ro⟩:=s1.there hn;unfold Hu at hq;simp only [ho] at hq
    cases o with
    | lst ys=>cases hq;obtain ⟨vs,e,rr⟩:=ro;exact ⟨_,rfl,.inl ⟨vs,.inl (.inl (.inl e)),out _ rr⟩⟩
    | dK kvs=>cases hq;obtain ⟨vs,e,rr⟩:=ro;exact ⟨_,rfl,.inr (.inl ⟨vs,e,out _ (NQ rr)⟩)⟩
    | dT kvs=>cases hq;obtain ⟨vs,e,rr⟩:=ro;exact ⟨_,rfl,.inr (.inr ⟨vs,e,λbs hb=>out _ (Q7 rr hb)⟩)⟩
    | ins C fs=>cases hq
   | _=>cases hq
end
end L2
namespace L2
open PySem PySem.Spec PyProof.Rows
def WR (K:AA):Sp:=λvs H Q _=>∃(a:AH) (ns:List Int),vs=[.ref a]/\OS K H a (ns.map V.int)/\ns.length<=63/\∀H',Q (.bl true) H'
theorem XR {P:Ah} {w:A1} {K:AA} {mg:Str->Option AB} {base:BW} {k:Nat} {fa:AH} {fd:C6} {f:List D->Sto->Res D} (F:EM P w K mg base (CXG P w) k fa fd ["script"] (spM K 1 f))
  (h:∀ns:List Int,ns.length<=63->∃S',f [.fro (ns.map D.int)] []=.ok (.bl true) S'):EM P w K mg base (CXG P w) k fa fd ["script"] (WR K):=F.imp λvs H Q E ⟨a,ns,e,hS,hl,q⟩=>by
 subst e;obtain ⟨S',e⟩:=h ns hl;refine ⟨[],[.fro (ns.map D.int)],[],rfl,.cons (.fro hS (At.of_ints ns)) .nil,⟨rfl,λi j a hi=>by simp at hi,λn o a hn=>by simp at hn⟩,?_⟩;rw [e]
 exact λρ' H' x _ _ r=>by cases r;exact q H'
theorem dC {K:AA} {H:Hp} {a:AH} {ns:List Int} (hO:aI H) (hS:SqL K H a (ns.map V.int)):OS K H a (ns.map V.int):=by
 rcases hS with (h | h) | h
 ·rcases hO a with z | ⟨o,xs,z⟩ <;> rw [z] at h <;> cases h
 ·exact .inl h
 ·exact .inr h
theorem Jy {K:AA} {C:AH} {v:AB} {b:Bool} (h:G9 K C v=some b):(YG K C).isSome=true:=by
 obtain ⟨cd,a,_⟩:=O8.mp h;rw [a];rfl
theorem dM {P:Ah} {w:A1} {H:Hp} {s:AD} {e:AB} {s':AD} (h:CXG P w [] H s (λ_ _ _=>False) e s'):False:=by
 obtain ⟨_,_,_,_,_,_,_,_,_,z⟩:=h;exact z
end L2
namespace L2
open PySem
def ao (I:Lo->Sto->Prop) (R:Fl->Sto->Prop) (f:Fl) (S:Sto):Prop:=match f with
 | .nx e=>I e S
 | .ct e=>I e S
 | .bk e=>R (.nx e) S
 | .rt d=>R (.rt d) S
 | .ex c e=>R (.ex c e) S
theorem Z2 {v:Gm} {g:MG} {b:MS} {xs:List D} (I:Nat->Lo->Sto->Prop) (R:Fl->Sto->Prop) (hv:∀i e S,I i e S->v S=some xs)
  (step:∀i d e S,xs[i]?=some d->I i e S->∃e1 S1,g d e S=.ok e1 S1/\∃f S2,b e1 S1=.ok f S2/\ao (I (i+1)) R f S2)
  (fin:∀e S,I xs.length e S->R (.nx e) S):∀(k i:Nat) (e:Lo) (S:Sto),I i e S->i<=xs.length->xs.length<=i+k->∃f S',Hd v g b k i e S=.ok f S'/\R f S':=by
 intro k
 induction k with
 | zero=>
  intro i e S h h1 h2
  have:i=xs.length:=by lia
  subst this;refine ⟨.nx e,S,?_,fin e S h⟩;unfold Hd;rw [hv _ e S h];simp
 | succ k ih=>
  intro i e S h h1 h2;unfold Hd;rw [hv _ e S h];dsimp only
  by_cases hi:i < xs.length
  ·have hd:xs[i]?=some xs[i]:=by simp [hi]
   rw [hd];dsimp only;obtain ⟨e1,S1,q1,f,S2,q2,t⟩:=step i _ e S hd h;rw [q1];dsimp only [Res.bind];rw [q2];dsimp only [Res.bind]
   cases f with
   | nx e2=>exact ih (i+1) e2 S2 t (by lia) (by lia)
   | ct e2=>exact ih (i+1) e2 S2 t (by lia) (by lia)
   | bk e2=>exact ⟨_,_,rfl,t⟩
   | rt d=>exact ⟨_,_,rfl,t⟩
   | ex c e2=>exact ⟨_,_,rfl,t⟩
  ·have:i=xs.length:=by lia
   subst this;rw [show xs[xs.length]?=none by simp];exact ⟨.nx e,S,rfl,fin e S h⟩
theorem Pv {v:Gm} {g:MG} {b:MS} {xs:List D} {e:Lo} {S:Sto} (I:Nat->Lo->Sto->Prop) (R:Fl->Sto->Prop) (h0:I 0 e S) (hv:∀i e S,I i e S->v S=some xs)
  (step:∀i d e S,xs[i]?=some d->I i e S->∃e1 S1,g d e S=.ok e1 S1/\∃f S2,b e1 S1=.ok f S2/\ao (I (i+1)) R f S2)
  (fin:∀e S,I xs.length e S->R (.nx e) S):∃f S',Hd v g b (CK v S) 0 e S=.ok f S'/\R f S':=by
 have hl:CK v S=xs.length:=by unfold CK;rw [hv 0 e S h0]
 rw [hl];exact Z2 I R hv step fin _ _ _ _ h0 (Cp _) (by lia)
theorem X0 {v:Gm} {g:MG} {c:MT} {m:ME} {xs:List D} (I:Nat->Lo->Sto->List D->Prop) (hv:∀i e S acc,I i e S acc->v S=some xs)
  (step:∀i d e S acc,xs[i]?=some d->I i e S acc->acc.length < sizeLine/\∃e1 S1,g d e S=.ok e1 S1/\∃b S2,c e1 S1=.ok b S2/\((b=true/\∃y S3,m e1 S2=.ok y S3/\I (i+1) e1 S3 (acc++[y]))∨(b=false/\I (i+1) e1 S2 acc))) :
  ∀(k i:Nat) (e:Lo) (S:Sto) (acc:List D),I i e S acc->i<=xs.length->xs.length<=i+k->∃r S',EC v g c m k i e S acc=.ok r S'/\∃e',I xs.length e' S' r:=by
 intro k
 induction k with
 | zero=>
  intro i e S acc h h1 h2
  have:i=xs.length:=by lia
  subst this;refine ⟨acc,S,?_,e,h⟩;unfold EC;rw [hv _ e S acc h];simp
 | succ k ih=>
  intro i e S acc h h1 h2;unfold EC;rw [hv _ e S acc h];dsimp only
  by_cases hi:i < xs.length
  ·have hd:xs[i]?=some xs[i]:=by simp [hi]
   rw [hd];dsimp only;obtain ⟨hz,e1,S1,q1,b,S2,q2,t⟩:=step i _ e S acc hd h;rw [qX hz,q1];dsimp only [okR,Res.bind];rw [q2];dsimp only [okR,Res.bind]
   rcases t with ⟨rfl,y,S3,q3,t⟩ | ⟨rfl,t⟩
   ·rw [qX rfl,q3]
    exact ih (i+1) e1 S3 _ t (by lia) (by lia)
   ·rw [qY AS]
    exact ih (i+1) e1 S2 acc t (by lia) (by lia)
  ·have:i=xs.length:=by lia
   subst this;rw [show xs[xs.length]?=none by simp];exact ⟨acc,S,rfl,e,h⟩
theorem P0 {v:Gm} {g:MG} {c:MT} {m:ME} {xs:List D} {e:Lo} {S:Sto} (I:Nat->Lo->Sto->List D->Prop) (h0:I 0 e S []) (hv:∀i e S acc,I i e S acc->v S=some xs)
  (step:∀i d e S acc,xs[i]?=some d->I i e S acc->acc.length < sizeLine/\∃e1 S1,g d e S=.ok e1 S1/\∃b S2,c e1 S1=.ok b S2/\((b=true/\∃y S3,m e1 S2=.ok y S3/\I (i+1) e1 S3 (acc++[y]))∨(b=false/\I (i+1) e1 S2 acc))) :
  ∃r S',EC v g c m (CK v S) 0 e S []=.ok r S'/\∃e',I xs.length e' S' r:=by
 have hl:CK v S=xs.length:=by unfold CK;rw [hv 0 e S [] h0]
 rw [hl];exact X0 I hv step _ _ _ _ _ h0 (Cp _) (by lia)
theorem XO {j:Int} (h:-1000000<=j):-(2 ^ 62)<=j:=Int.le_trans (by decide) h
theorem Xf {j:Int} (h:j<=1000000):j < 2 ^ 62:=Int.lt_of_le_of_lt h (by decide)
theorem Xc {ml:ML} {e:Lo} {S S1:Sto} {j:Int} (h:ml e S=.ok [.int j] S1) (h0:-1000000<=j) (h1:j<=1000000):iR1 ml e S=.ok (Gz (ET 0 j.toNat)) S1:=by
 unfold iR1;rw [h];dsimp only [Res.bind];rw [qX ⟨XO h0,Xf h1⟩]
theorem cr {ml:ML} {e:Lo} {S S1:Sto} {i j:Int} (h:ml e S=.ok [.int i,.int j] S1) (h0:-1000000<=i) (h1:i<=1000000) (h2:-1000000<=j) (h3:j<=1000000):iR2 ml e S=.ok (Gz (ET i (j - i).toNat)) S1:=by
 unfold iR2;rw [h];dsimp only [Res.bind];rw [qX ⟨XO h0,Xf h1,XO h2,Xf h3⟩]
theorem Ug (lo:Int) (n:Nat):(ET lo n).length=n:=by simp [ET]
theorem WZ {lo:Int} {n i:Nat} {d:D} (h:(ET lo n)[i]?=some d):i < n/\d=.int (lo+i):=by
 rw [Og] at h;split at h
 ·rename_i hi
  cases h;exact ⟨hi,rfl⟩
 ·cases h
theorem Xr {i j:Int} {S:Sto} (h:0 < j) (h1:j<=1000000):G3 (.int i) (.int j) S=.ok (.int (i / j)) S:=by
 show (if YD i j then _ else _)=_;rw [qX ⟨h,by lia⟩]
theorem Tj {i j:Int} {S:Sto} (h:0 < j):JV (.int i) (.int j) S=.ok (.int (i % j)) S:=by
 show (if 0 < j then _ else _)=_;rw [qX h]
theorem Co {f:D->D->Sto->Res D} {ma mb:ME} {e:Lo} {S S1 S2 S3:Sto} {x y d:D} (ha:ma e S=.ok x S1) (hb:mb e S1=.ok y S2) (hf:f x y S2=.ok d S3):m2 f ma mb e S=.ok d S3:=by
 unfold m2;rw [ha];dsimp only [Res.bind];rw [hb];dsimp only [Res.bind];rw [hf];rfl
theorem Hq {m:ME} {e:Lo} {S S1:Sto} {d:D} {i:Nat} (h:m e S=.ok d S1):CP i m e S=.ok (.nx (e.set i (some d))) S1:=by
 unfold CP en;rw [h];rfl
theorem LH {m:ME} {e:Lo} {S S1:Sto} {d:D} (h:m e S=.ok d S1):Ea m e S=.ok (.rt d) S1:=by
 unfold Ea;rw [h];rfl
theorem Eu {m:ME} {e:Lo} {S S1:Sto} {d:D} (h:m e S=.ok d S1):Eh m e S=.ok (.nx e) S1:=by
 unfold Eh;rw [h];rfl
theorem Hb {t:MT} {a b:MS} {e:Lo} {S S1:Sto} {c:Bool} (h:t e S=.ok c S1):sIf t a b e S=if c=true then a e S1 else b e S1:=by
 unfold sIf;rw [h];rfl
theorem Nb {m:MI} {g:MG} {b:MS} {e:Lo} {S S1:Sto} {v:Gm} (h:m e S=.ok v S1):Ih m g b e S=Hd v g b (CK v S1) 0 e S1:=by
 unfold Ih;rw [h];rfl
theorem GB {n:Nat} {f:List D->Sto->Res D} {m:ML} {e:Lo} {S S1:Sto} {ds:List D} (h:m e S=.ok ds S1) (hn:ds.length=n):CB n f m e S=f ds S1:=by
 unfold CB;rw [h];dsimp only [Res.bind];rw [qX hn]
theorem Bl {a b:MS} {e e1:Lo} {S S1:Sto} (h:a e S=.ok (.nx e1) S1):Bd a b e S=b e1 S1:=by unfold Bd;rw [h];rfl
theorem SF {a b:MS} {e:Lo} {S S1:Sto} {d:D} (h:a e S=.ok (.rt d) S1):Bd a b e S=.ok (.rt d) S1:=by unfold Bd;rw [h];rfl
theorem SG {a b:MS} {e e1:Lo} {S S1:Sto} {c:AH} (h:a e S=.ok (.ex c e1) S1):Bd a b e S=.ok (.ex c e1) S1:=by unfold Bd;rw [h];rfl
theorem Ii {n:Nat} {mb:MS} {ds:List D} {S S1:Sto} {d:D} (h:mb (GY n ds) S=.ok (.rt d) S1):FQ n mb ds S=.ok d S1:=by unfold FQ;rw [h];rfl
theorem SH {n:Nat} {mb:MS} {ds:List D} {S S1:Sto} {e:Lo} (h:mb (GY n ds) S=.ok (.nx e) S1):FQ n mb ds S=.ok .non S1:=by unfold FQ;rw [h];rfl
theorem bj {n:Nat} {mb:MS} {ds:List D} {S S1:Sto} {c:AH} {e:Lo} (h:mb (GY n ds) S=.ok (.ex c e) S1):FQ n mb ds S=.err c S1:=by unfold FQ;rw [h];rfl
def Keeps (S S':Sto):Prop:=S.length<=S'.length/\∀j,j < S.length->S'[j]?=S[j]?
theorem Keeps.refl (S:Sto):Keeps S S:=⟨AO _,λ_ _=>rfl⟩
theorem Keeps.trans {S S1 S2:Sto} (a:Keeps S S1) (b:Keeps S1 S2):Keeps S S2:=⟨Ao a.1 b.1,λj h=>(b.2 j (Ab h a.1)).trans (a.2 j h)⟩
theorem Keeps.app (S:Sto) (G:Sto):Keeps S (S++G):=⟨by simp,λj h=>AV h⟩
theorem Keeps.set {S S1:Sto} (a:Keeps S S1) {m:Nat} (h:S.length<=m) (o:Ob):Keeps S (S1.set m o):=⟨by simpa using a.1,λj hj=>by rw [Ay (by lia)];exact a.2 j hj⟩
theorem Keeps.at {S S1:Sto} (a:Keeps S S1) {j:Nat} {o:Ob} (h:S[j]?=some o):S1[j]?=some o:=by
 rw [a.2 j (AE.mp h).1];exact h
theorem Nt {mo ma:ME} {e:Lo} {S S1 S2:Sto} {n:Nat} {xs xs2:List D} {y:D} (h1:mo e S=.ok (.ref n) S1) (h2:S1[n]?=some (.lst xs)) (h3:ma e S1=.ok y S2) (h4:S2[n]?=some (.lst xs2)) (h5:xs2.length < sizeLine) :
  Jt mo ma e S=.ok .non (S2.set n (.lst (xs2++[y]))):=by
 unfold Jt;rw [h1];dsimp only [Res.bind];rw [h2];dsimp only;rw [h3];dsimp only [Res.bind];rw [h4];dsimp only;rw [qX h5]
theorem GK {n:Nat} {S:Sto} {xs:List D} (h:S[n]?=some (.lst xs)):Fi (.ref n) S=some xs:=by
 unfold Fi Lk;dsimp only;rw [h]
theorem Kh {m:ME} {e:Lo} {S S1:Sto} {n:Nat} {xs:List D} (h:m e S=.ok (.ref n) S1) (hx:S1[n]?=some (.lst xs)):FU m e S=.ok (Fi (.ref n)) S1:=by
 unfold FU;rw [h];dsimp only [Res.bind];rw [GK hx]
theorem Kg {m:ME} {e:Lo} {S S1:Sto} {xs:List D} (h:m e S=.ok (.tup xs) S1):FU m e S=.ok (Gz xs) S1:=by
 unfold FU;rw [h];rfl
theorem Pf {ml:ML} {e:Lo} {S S1:Sto} {ds:List D} (h:ml e S=.ok ds S1):Ey ml e S=.ok (.ref S1.length) (S1++[.lst ds]):=by
 unfold Ey;rw [h];rfl
theorem Dp (S:Sto) (o:Ob):(S++[o])[S.length]?=some o:=by simp
theorem Dj {n:Nat} {S:Sto} {ds:List D} (h:S[n]?=some (.lst ds)):FP (.ref n) S=some ds:=by
 unfold FP;dsimp only;rw [h]
theorem NU {n:Nat} {S:Sto} {ds:List D} (h:S[n]?=some (.lst ds)):Hu (.ref n) S=some ds:=by
 unfold Hu;dsimp only;rw [h]
theorem LD {m:ME} {e:Lo} {S S1:Sto} {d:D} {ds es:List D} (h:m e S=.ok d S1) (hi:Hu d S1=some ds) (hs:Jd ds=some es):Fv m e S=.ok (.ref S1.length) (S1++[.lst es]):=by
 unfold Fv;rw [h];dsimp only [Res.bind];rw [hi];dsimp only;rw [hs]
theorem KQ {m:ME} {e:Lo} {S S1:Sto} {d:D} {ds:List D} (h:m e S=.ok d S1) (hq:FP d S1=some ds):Fe m e S=.ok (.tup ds) S1:=by
 unfold Fe;rw [h];dsimp only [Res.bind];rw [hq]
theorem SX {m:ME} {e:Lo} {S S1:Sto} {d:D} {ds:List D} (h:m e S=.ok d S1) (hq:FP d S1=some ds):HZ m e S=.ok (.int ds.length) S1:=by
 unfold HZ;rw [h];dsimp only [Res.bind];rw [hq]
theorem PQ {C:AH} {f:Str} {mo mv:ME} {e:Lo} {S S1 S2:Sto} {n:Nat} {fs:List (Str×D)} {v:D} (hv:mv e S=.ok v S1) (ho:mo e S1=.ok (.ref n) S2) (hs:S2[n]?=some (.ins C fs)) (hl:fs.length < 1000) :
  Of C f mo mv e S=.ok (.nx e) (S2.set n (.ins C (MB f v fs))):=by
 unfold Of;rw [hv];dsimp only [Res.lift];rw [ho];dsimp only [Res.lift];rw [hs];dsimp only;rw [qX ⟨rfl,hl⟩]
theorem Pw {C:AH} {f:Str} {m:ME} {e:Lo} {S S1:Sto} {n:Nat} {fs:List (Str×D)} {v:D} (h:m e S=.ok (.ref n) S1) (hs:S1[n]?=some (.ins C fs)) (hl:fs.lookup f=some v):Gu C f m e S=.ok v S1:=by
 unfold Gu;rw [h];dsimp only [Res.bind];rw [hs];dsimp only;rw [qX rfl,hl]
theorem Zn {C:AH} {n:Nat} {f:List D->Sto->Res D} {ml:ML} {e:Lo} {S S1 S2:Sto} {ds:List D} (h:ml e S=.ok ds S1) (hn:ds.length+1=n) (hf:f (.ref S1.length :: ds) (S1++[.ins C []])=.ok .non S2):NH C n f ml e S=.ok (.ref S1.length) S2:=by
 unfold NH;rw [h];dsimp only [Res.bind];rw [qX hn,hf]
theorem Cu {m:ME} {r:ML} {e:Lo} {S S1 S2:Sto} {d:D} {ds:List D} (h:m e S=.ok d S1) (hr:r e S1=.ok ds S2):AY m r e S=.ok (d :: ds) S2:=by
 unfold AY;rw [h];dsimp only [Res.bind];rw [hr]
theorem Me {n:Nat} {mi:MI} {g:MG} {c:MT} {m:ME} {e:Lo} {S S1:Sto} {v:Gm} (h:mi e S=.ok v S1):FT n mi g c m e S=EC v g c m (CK v S1) 0 (BG n none++e) S1 []:=by
 unfold FT;rw [h];rfl
theorem JX {m:ME} {e:Lo} {S S1:Sto} {b:Bool} (h:m e S=.ok (.bl b) S1):mB m e S=.ok b S1:=by
 unfold mB;rw [h];rfl
theorem Tn {f g:D->D->Sto->Res D} {ma mb mc:ME} {e:Lo} {S S1 S2 S3 S4 S5:Sto} {x y w d:D} (ha:ma e S=.ok x S1) (hb:mb e S1=.ok y S2) (hf:f x y S2=.ok (.bl true) S3) (hc:mc e S3=.ok w S4) (hg:g y w S4=.ok d S5):m3 f g ma mb mc e S=.ok d S5:=by
 unfold m3;rw [ha];dsimp only [Res.bind];rw [hb];dsimp only [Res.bind];rw [hf];dsimp only [Res.bind,okR];rw [hc];dsimp only [Res.bind];rw [hg]
theorem ae {f g:D->D->Sto->Res D} {ma mb mc:ME} {e:Lo} {S S1 S2 S3:Sto} {x y:D} (ha:ma e S=.ok x S1) (hb:mb e S1=.ok y S2) (hf:f x y S2=.ok (.bl false) S3):m3 f g ma mb mc e S=.ok (.bl false) S3:=by
 unfold m3;rw [ha];dsimp only [Res.bind];rw [hb];dsimp only [Res.bind];rw [hf];rfl
theorem NP {i j:Int} {S:Sto} {b:Bool} (h:decide (i<=j)=b):leD (.int i) (.int j) S=.ok (.bl b) S:=by subst h;rfl
theorem NN {i j:Int} {S:Sto} {b:Bool} (h:decide (i < j)=b):ltD (.int i) (.int j) S=.ok (.bl b) S:=by subst h;rfl
theorem dB {i j:Int} {S:Sto} {b:Bool} (h:decide (j<=i)=b):geD (.int i) (.int j) S=.ok (.bl b) S:=by subst h;rfl
theorem dH {i j:Int} {S:Sto} {b:Bool} (h:decide (i=j)=b):eqD false (.int i) (.int j) S=.ok (.bl b) S:=by
 subst h;show Res.ok (D.bl (i==j)) S=_;rfl
theorem cW {i j:Int} {S:Sto} {b:Bool} (h:decide (i≠j)=b):eqD true (.int i) (.int j) S=.ok (.bl b) S:=by
 subst h;show Res.ok (D.bl (!(i==j))) S=_
 by_cases e:i=j <;> simp [e]
theorem NE {m:MT} {e:Lo} {S S1:Sto} {b:Bool} (h:m e S=.ok b S1):MH m e S=.ok (!b) S1:=by
 unfold MH;rw [h];rfl
theorem Qt {C:AH} {ml:ML} {e:Lo} {S S1:Sto} {ds:List D} (h:ml e S=.ok ds S1) (hl:ds.length<=30):DY C ml e S=.ok (.ex C e) S1:=by
 unfold DY;rw [h];dsimp only [Res.lift];rw [qX (Ao hl (by decide))]
theorem WK {ml:ML} {e:Lo} {S S1:Sto} {ds:List D} (h:ml e S=.ok ds S1) (hl:ds.length<=1000):MF ml e S=.ok (.tup ds) S1:=by
 unfold MF;rw [h];dsimp only [Res.bind];rw [qX (Ao hl (by decide))]
theorem W2 {ta tb:MT} {e:Lo} {S S1:Sto} (h:ta e S=.ok true S1):mOr ta tb e S=.ok true S1:=by
 unfold mOr;rw [h];rfl
theorem W1 {ta tb:MT} {e:Lo} {S S1:Sto} (h:ta e S=.ok false S1):mOr ta tb e S=tb e S1:=by
 unfold mOr;rw [h];rfl
theorem aF {ta tb:MT} {e:Lo} {S S1:Sto} (h:ta e S=.ok true S1):NK ta tb e S=tb e S1:=by
 unfold NK;rw [h];rfl
theorem aE {ta tb:MT} {e:Lo} {S S1:Sto} (h:ta e S=.ok false S1):NK ta tb e S=.ok false S1:=by
 unfold NK;rw [h];rfl
theorem ei {m:ME} {e:Lo} {S S1:Sto} {d:D} {ds:List D} (h:m e S=.ok d S1) (hq:FP d S1=some ds):Q4 m e S=.ok ds S1:=by
 unfold Q4;rw [h];dsimp only [Res.bind];rw [hq]
theorem ZA {f:List D->Sto->Res D} {ml:ML} {e:Lo} {S S1 S2:Sto} {ds:List D} {d:D} (h:ml e S=.ok ds S1) (hf:f ds S1=.ok d S2):mQ f ml e S=.ok d S2:=by
 unfold mQ;rw [h];dsimp only [Res.bind];rw [hf];rfl
theorem Q6 {n:Nat} {S:Sto} {ds:List D} (h:S[n]?=some (.lst ds)):Pi (.ref n) S=some ds:=by
 unfold Pi;dsimp only;rw [h]
end L2
namespace L2
open PySem PySem.Spec PyProof.Rows
section
variable {X:Cx} {E:EW} {e:Expr} {tg:Expr}
end
section
variable {X:Cx} {E:EW} {e:Expr} {es:List Expr} {p pos p2:Pos} {x1:Nat} {m:ME} {c:V} {cs:List V} {Cs:List AH} {tabC:AH->Option Bool}
end
section
variable {X:Cx} {E:EW} {e st:Expr} {te:TE} {lo hi:Option Expr} {tl th ts:TO} {pos p2:Pos} {m:ME} {ml mh ms:MO}
end
section
variable {X:Cx} {E:EW} {e:Expr} {p pos:Pos} {m:ME}
end
end L2
namespace PySem
open Sem (wp)
open AutoSeq1 (wpAny_loadPart')
theorem Ip (l:AH) (items:Array AB) (n:Nat) (dct:Option AH) (sl:Array (Option AB)) :
  Meets (Builtin.«enumerate.__new__» ⟨[.type "enumerate",.ref l],[]⟩) (λ_ R s=>s.heap.get? l=some { cls:=.type "tuple",dict:=dct,data:=.seq items n,slots:=sl } /\
   R (.ok (.ret (.ref (s.heap.push { cls:=.type "tuple_iterator",data:=.fields #[.ref l,.int 0 0] }).objs.size)))
    { s with heap:=(s.heap.push { cls:=.type "tuple_iterator",data:=.fields #[.ref l,.int 0 0] }).push { cls:=.type "enumerate",data:=.fields #[.none,.bool false,.ref s.heap.objs.size,DW 0,.none,.none] } }):=
 .of_wp λprog w A R s h=>by
  obtain ⟨hp,g,d,tk,os⟩:=s;obtain ⟨hl,h⟩:=h;have hsub:=sub_enumerate;have hL:BW.IsTuple (AD.heap ⟨hp,g,d,tk,os⟩) l items:=⟨_,hl,rfl,n,rfl⟩
  wp_walk using G7 hl
  refine wpAny_stack_any λst=>AN ?_
  split
  ·rename_i c _ _ _ _ _
   cases (c==EY "enumerate")
   ·wp_walk using G7 hl,E2 hL
    exact ⟨_,rfl,h⟩
   ·wp_walk using G7 hl,E2 hL
    exact ⟨_,rfl,h⟩
  ·wp_walk using G7 hl,E2 hL
   exact ⟨_,rfl,h⟩
section
variable {prog:Ah} {w:A1} {A:Aw} {E:AB->AD->Prop} {s:AD}
theorem JB {l:AH} {items:Array AB} {Q:AB->AD->Prop} (hL:s.heap.IsTuple l items)
  (h:∀h',PB h' (s.heap.objs.size+1) s.heap.objs.size 0 .none->h'.IsTupleIter s.heap.objs.size l 0->h'.objs.size=s.heap.objs.size+2 ->
   (∀b o,s.heap.get? b=some o->h'.get? b=some o)->Q (.ref (s.heap.objs.size+1)) { s with heap:=h' }) :
  Ad (AT prog w) A (call (.type "enumerate") [.ref l]) Q E s:=by
 obtain ⟨⟨c,dct,dt,sl⟩,hl,hc,n,hd⟩:=hL
 replace hc:c=.type "tuple":=hc
 replace hd:dt=.seq items n:=hd
 subst hc hd
 refine callType_new F.called_enumerate (by decide) (F.typeCall_enumerate_1 _) (F.newCall_enumerate_1 _) (λobj=>Vu obj _) F.entry_enumerate_new
  (Ip l items n dct sl) ⟨hl,?_⟩
 have hz:(s.heap.push { cls:=.type "tuple_iterator",data:=.fields #[.ref l,.int 0 0] }).objs.size=s.heap.objs.size+1:=E0 ..;show _/\_;rw [hz]
 have he:PB ((s.heap.push { cls:=.type "tuple_iterator",data:=.fields #[.ref l,.int 0 0] }).push
   { cls:=.type "enumerate",data:=.fields #[.none,.bool false,.ref s.heap.objs.size,DW 0,.none,.none] }) (s.heap.objs.size+1) s.heap.objs.size 0 .none:=by
  have:=AX (s.heap.push { cls:=.type "tuple_iterator",data:=.fields #[.ref l,.int 0 0] })
   (o:={ cls:=.type "enumerate",data:=.fields #[.none,.bool false,.ref s.heap.objs.size,DW 0,.none,.none] }) rfl
  rw [hz] at this;exact this
 refine ⟨⟨_,he,rfl⟩,h _ he ⟨_,AI _ (AX _ rfl),rfl,rfl⟩ (by rw [E0,hz]) λb o x=>AI _ (AI _ x)⟩
theorem Ka {it t:AH} {i:Nat} {items} {x:AB} {Q:AB->AD->Prop} (hit:s.heap.IsTupleIter it t i)
  (ht:s.heap.IsTuple t items) (hx:items[i]?=some x)
  (hQ:∀h',h'.IsTupleIter it t (i+1)->DT it s.heap h'->Q x { s with heap:=h' }) :
  Ad (AT prog w) A (DN (.ref it)) Q E s:=by
 obtain ⟨o,ho,hc,hd⟩:=id hit;obtain ⟨ol,hol,_,nl,hdl⟩:=ht;unfold DN
 refine AC (Cm (name:=Gr "__next__") hit.typeIs D8
  (C0 D8 hit.typeIs QG ?_ (PD _)))
 show Ad _ _ (field (.ref it) 0 >>= _) _ _ s;refine AC (Cb ho hd (x:=.ref t) rfl ?_);show Ad _ _ (if (Ax t==BL)=true then _ else _) _ _ s;rw [qY (show ¬((Ax t==BL)=true) from AS)];show Ad _ _ (field (.ref it) 1 >>= _) _ _ s;refine AC (Cb ho hd (x:=.int i 0) rfl ?_);show Ad _ _ (seqItems? (.ref t) >>= _) _ _ s;refine AC (wpAny_seqItems hol hdl ?_);simp only [A5,hx];refine AC (EE ho hd (by simp) (AN ⟨x,rfl,AN (hQ _ ?_ (E8 ..))⟩))
 exact ⟨_,Dd _ ho (Df (Bq hd _)),(He ..).trans hc,by
  rw [Bq hd];simp [DW]⟩
theorem HY {it t:AH} {i:Nat} {items} {Q:AB->AD->Prop} (hh:A.handled=none)
  (hit:s.heap.IsTupleIter it t i) (ht:s.heap.IsTuple t items) (hx:items[i]?=none)
  (hE:∀h' e,S8 it s.heap h'->(∃o,h'.get? e=some o/\o.cls=.type "StopIteration")->E (.ref e) { s with heap:=h' }) :
  Ad (AT prog w) A (DN (.ref it)) Q E s:=by
 obtain ⟨o,ho,hc,hd⟩:=id hit;obtain ⟨ol,hol,_,nl,hdl⟩:=ht;unfold DN
 refine AC (Cm (name:=Gr "__next__") hit.typeIs D8
  (C0 D8 hit.typeIs QG ?_ (PD _)))
 show Ad _ _ (field (.ref it) 0 >>= _) _ _ s;refine AC (Cb ho hd (x:=.ref t) rfl ?_);show Ad _ _ (if (Ax t==BL)=true then _ else _) _ _ s;rw [qY (show ¬((Ax t==BL)=true) from AS)];show Ad _ _ (field (.ref it) 1 >>= _) _ _ s;refine AC (Cb ho hd (x:=.int i 0) rfl ?_);show Ad _ _ (seqItems? (.ref t) >>= _) _ _ s;refine AC (wpAny_seqItems hol hdl ?_);simp only [A5,hx];refine AC (ap (AC (EE ho hd (by simp) ?_)));show Ad _ _ (newExc (.type "StopIteration") [] >>= _) _ _ _;refine AC ?_;simp only [newExc,newTuple];refine AC (BU ?_ (by size_fits));refine AC (m:=Kx _ _) (YM (a:=BL) (by first | rfl | (simp only [Kx];rfl)) ?_);refine BU ?_ (by size_fits);simp only [raiseNew];refine AC (wpAny_handled ?_)
 first | rw [show A.in1.handled=none from hh] | rw [hh]
 refine AC (AN (wpAny_throw ?_));exact hE _ _ (((E8 ..).extBut.push _).push _) ⟨_,AX _ rfl,rfl⟩
theorem RV {prog:Ah} {w:A1} {A:Aw} (hh:A.handled=none) (it l:AH) (hne:l≠it) (items:Array AB) :
  Draws prog w A it [it,l] items.size (λi v=>items[i]?=some v) (λi h=>h.IsTupleIter it l i/\h.IsTuple l items) where
 live:=λ_ _ st=>let ⟨o,ho,_⟩:=st.1;⟨o,ho⟩
 frame:=λ_ _ _ st hk=>⟨st.1.at λo e=>hk it (by simp) o e,let ⟨o,ho,r⟩:=st.2;⟨o,hk l (by simp) o ho,r⟩⟩
 item:=λi s Q E hi st hQ=>by
  refine Ka st.1 st.2 (x:=items[i]) (by simp [hi]) λh' hit' hs'=>?_
  exact hQ _ h' s.toks (by simp [hi]) ⟨hit',st.2.extBut hs'.extBut hne⟩ hs'
 done:=λs Q E st hE=>HY hh st.1 st.2 (by simp) hE
theorem JU {e it l:AH} {i:Nat} {items:Array AB} {old:AB} {Q:Option AB->AD->Prop} (hh:A.handled=none)
  (he:PB s.heap e it i old) (hit:s.heap.IsTupleIter it l i) (hl:s.heap.IsTuple l items) (hx:items[i]?=none)
  (hQ:∀h',S8 it s.heap h'->Q none { s with heap:=h' }):Ad (AT prog w) A (O4 (.ref e)) Q E s:=by
 have hT:s.TypeIs (.ref e) "enumerate":=⟨_,he,rfl⟩;unfold O4
 refine AC (MN (Cm (name:=Gr "__next__") hT Vi
  (C0 Vi hT F.entry_enumerate_next ?_ (F.args_enumerate_next_1 _))))
 show Ad _ _ (field (.ref e) 2 >>= _) _ _ _;refine AC (Cb he rfl (x:=.ref it) rfl ?_);refine AC (HY hh hit hl hx λh' x he' hx'=>?_);obtain ⟨o,ho,hc⟩:=hx';refine AC (dr (T:="StopIteration") (b:=true) ⟨o,ho,hc⟩ isSubtype_stop ?_);exact AN (hQ _ he')
end
end PySem
namespace L2
open PySem PySem.Spec PyProof.Rows
theorem Inv.turned2 {X:Cx} {pins:List (AH×Obj)} {σ:List (Option V)} {H:Hp} {s:AD} {h':BW} {t':Nat} {e it a:AH} {o:HO} (I:Inv X pins σ H s) (k:∀b u,b≠e->b≠it->s.heap.get? b=some u->h'.get? b=some u)
  (fe:J1 X pins H e) (fi:J1 X pins H it) (ha:s.heap.objs.size<=a) (new:CJ X.prog X.w (upd H a o) h' a o):Inv X pins σ (upd H a o) { s with heap:=h',toks:=t' }:=by
 have hn:=I.hok.fresh ha
 have nit:∀b u,H b=some u->b≠e/\b≠it:=λb u q=>⟨λz=>(by rw [z,fe.1] at q;cases q),λz=>(by rw [z,fi.1] at q;cases q)⟩
 have out:∀b:AH,b∉[e,it]->b≠e/\b≠it:=λb hb=>⟨λz=>hb (by simp [z]),λz=>hb (by simp [z])⟩
 refine I.step (g':=s.gens) (d':=s.drawn) (ch:=[e,it]) (λb hb=>?_) (λb o _ _ hc q _=>k b o (out b hc).1 (out b hc).2 q) (λb o _ _ hc q _=>⟨o.slots,k b o (out b hc).1 (out b hc).2 q⟩) (λb o _ q n=>?_)
  (λb o hc q=>⟨o,k b o (out b hc).1 (out b hc).2 q⟩) (λb xs q=>by rw [BZ (Bu q hn)];exact q) (λb o u q=>by rw [BZ (Bu q hn)];exact q) (λb ps q=>⟨#[],by rw [BZ (Bu q hn),q];simp⟩) (λm hm=>?_) (λb u q=>?_) I.bare
 ·have hb':b=e∨b=it:=by simpa using hb
  rcases hb' with z | z
  ·subst z;exact ⟨fe.2.2.2.1,fe.2.1,fe.2.2.2.2.1,fe.2.2.2.2.2⟩
  ·subst z;exact ⟨fi.2.2.2.1,fi.2.1,fi.2.2.2.2.1,fi.2.2.2.2.2⟩
 ·rw [BZ (Am (Ab (AW q) ha))];exact n
 ·obtain ⟨o,es,ep,ho,r⟩:=hm
  exact ⟨o,es,ep,k _ o (Bm fe.2.1) (Bm fi.2.1) ho,r⟩
 ·by_cases hb:b=a
  ·subst hb;rw [Bg] at q;cases q;exact new
  ·rw [BZ hb] at q
   refine (I.hok b u q).stay (λc v hc r=>?_) (λc r=>by rw [BZ (Bu r hn)];exact r) λc xs r=>by rw [BZ (Bu r hn)];exact r
   have:c≠e/\c≠it:=by
    rcases hc with z | z
    ·rw [z];exact nit b u q
    ·exact nit c _ z
   exact k c v this.1 this.2 r
def Ite (sq:Hp->List V->Prop):It:=
 ⟨λi H=>∃xs x,sq H xs/\xs[i]?=some x,λi H y H'=>∃p x,H p=none/\y=.ref p/\H'=upd H p (.tup [.int i,x])/\∀xs,sq H xs->xs[i]?=some x,λi H=>∃xs,sq H xs/\xs.length<=i⟩
section
variable {P:Ah} {w:A1} {K:AA} {elts:List Expr} {x1:Nat} {pos:Pos}
theorem Os {X:Cx} {pins:List (AH×Obj)} {σ:St} {H:Hp} {s:AD} {E:AB->AD->Prop} {sq:Hp->List V->Prop} {e it:AH} {i:Nat} {x:V} {u:AB} {tk:Nat} {h':BW} {tn:Nat->BW->Prop}
  (I:Inv X pins σ H s) (hne:e≠it) (hf:∀b∈[e,it],J1 X pins H b) (le:e < s.heap.objs.size) (li:it < s.heap.objs.size) (ru:RelV x u) (hx:∀xs,sq H xs->xs[i]?=some x)
  (ho:IsEnumOut h' e it ((i:Int)+1) u s.heap.objs.size) (hT:h'.get? s.heap.objs.size=some { cls:=.type "tuple",data:=.seq #[.int i tk,u] }) (hk:∀b o,b≠e->b≠it->s.heap.get? b=some o->h'.get? b=some o)
  (ht:∀h2,DT e h' h2->(∃old,PB h2 e it ((i+1:Nat):Int) old)->tn (i+1) h2) :
  Ad (AT X.prog X.w) X.A (J4 (.Tuple elts x1 pos) (.ref e) (.ref s.heap.objs.size)) (λ_ s2=>∃y H',Inv X pins σ H' s2/\RelV y (.ref s.heap.objs.size)/\(Ite sq).yld i H y H'/\tn (i+1) s2.heap/\∀b∈[e,it],H' b=none) E { s with heap:=h',toks:=tk+1 }:=by
 have fe:=hf e (by simp);have fi:=hf it (by simp);have ne:e≠s.heap.objs.size:=Am le;have ni:it≠s.heap.objs.size:=Am li
 have new:CJ X.prog X.w (upd H s.heap.objs.size (.tup [.int i,x])) h' s.heap.objs.size (.tup [.int i,x]):=
  ⟨⟨Ao (show 2<=1000 by decide) (by decide),_,hT,rfl⟩,[.int i tk,u],.cons ⟨tk,rfl⟩ (.cons ru .nil),_,hT,rfl,_,rfl⟩
 have I1:=I.turned2 (t':=tk+1) hk fe fi (AO _) new
 refine wpAny_letOwnedTupleGo_enum (s:={ s with heap:=h',toks:=tk+1 }) ho λh2 he2 hs2=>?_
 have hs2':DT e h' h2:=hs2;have I2:=I1.turned (t':=tk+1) (h':=h2) (it:=e) (λb o hb q=>(hs2'.2 b hb).trans q) (by rw [BZ ne];exact fe.1) fe.2.1 fe.2.2.2.1 fe.2.2.2.2.1 fe.2.2.2.2.2;refine ⟨.ref s.heap.objs.size,_,I2,rfl,⟨s.heap.objs.size,x,I.hok.fresh (AO _),rfl,rfl,hx⟩,ht h2 hs2' ⟨u,by rw [Int.natCast_add,Int.natCast_one];exact he2⟩,λb hb=>?_⟩
 have hb':b=e∨b=it:=by simpa using hb
 rcases hb' with z | z
 ·rw [z,BZ ne];exact fe.1
 ·rw [z,BZ ni];exact fi.1
theorem R6 (a e it:AH) (hne:e≠it):RU P w K (.Tuple elts x1 pos) (Ite λH xs=>SqL K H a xs) [e,it] e (λi h=>(∃old,PB h e it i old)/\h.IsListIter it a i) where
 mem:=by simp
 obj:=λi h st b hb=>by
  have hb':b=e∨b=it:=by simpa using hb
  rcases hb' with z | z
  ·subst z
   obtain ⟨⟨old,he⟩,_⟩:=st
   exact ⟨_,he,λv z=>by
    have z':S9 _=YK v:=z
    cases z'⟩
  ·subst z
   obtain ⟨_,o,e,c,d⟩:=st;exact ⟨o,e,λv z=>by rw [d] at z;cases z⟩
 keep:=λi h h' st k=>⟨st.1.imp λold he=>k e (by simp) _ he,st.2.at λo q=>k it (by simp) o q⟩
 item:=by
  intro X hP hw hK hc i pins s σ H E I hf st hg;subst hP hw hK;obtain ⟨xs,x,hq,hx⟩:=hg;obtain ⟨its,rv,p,hz⟩:=I.list hq;obtain ⟨u,hu,ru⟩:=rv.get hx;obtain ⟨⟨old,he⟩,hit⟩:=st
  have li:it < s.heap.objs.size:=by obtain ⟨o,q,_⟩:=hit;exact AW q
  refine wpAny_pyNext_enum_item he hit p.isList (x:=u) (by simpa using hu) hne λh' ho hit' hT hsz hk=>?_
  exact ⟨_,rfl,Os (sq:=λH xs=>SqL X.K H a xs) (tn:=λi h=>(∃old,PB h e it i old)/\h.IsListIter it a i) I hne hf (AW he) li ru (λys hy=>by rw [I.list_inj hy hq];exact hx) ho hT hk λh2 hs2 he2=>⟨he2,hit'.at λo q=>(hs2.2 it (Bm hne)).trans q⟩⟩
 done:=by
  intro X hP hw hK hc i pins s σ H E I hf st hg;subst hP hw hK;obtain ⟨xs,hq,hx⟩:=hg;obtain ⟨its,rv,p,hz⟩:=I.list hq;obtain ⟨⟨old,he⟩,hit⟩:=st;obtain ⟨f0,f1,f2,f3,f4,f5⟩:=hf it (by simp);have hl:=rv.length
  exact wpAny_pyNext_enum_end (I.ok.hd hc) he hit p.isList (by simp;lia) λh' eb=>⟨rfl,I.turned (t':=s.toks) (λb o hb e=>eb b o hb e) f0 f1 f3 f4 f5⟩
 self:=λ_ _ _ _ _ st h=>by
  obtain ⟨⟨old,he⟩,_⟩:=st;exact IS he h
theorem R5 (a e it:AH) (hne:e≠it) (hae:a≠it) (hef:e≠a):RU P w K (.Tuple elts x1 pos) (Ite λH xs=>SqT K H a xs) [e,it] e (λi h=>(∃old,PB h e it i old)/\h.IsTupleIter it a i) where
 mem:=by simp
 obj:=λi h st b hb=>by
  have hb':b=e∨b=it:=by simpa using hb
  rcases hb' with z | z
  ·subst z
   obtain ⟨⟨old,he⟩,_⟩:=st
   exact ⟨_,he,λv z=>by
    have z':S9 _=YK v:=z
    cases z'⟩
  ·subst z
   obtain ⟨_,o,e,c,d⟩:=st;exact ⟨o,e,λv z=>by rw [d] at z;cases z⟩
 keep:=λi h h' st k=>⟨st.1.imp λold he=>k e (by simp) _ he,st.2.at λo q=>k it (by simp) o q⟩
 item:=by
  intro X hP hw hK hc i pins s σ H E I hf st hg;subst hP hw hK;obtain ⟨xs,x,hq,hx⟩:=hg;obtain ⟨its,rv,p,hz⟩:=I.tuple hq;have p':s.heap.IsTuple a its.toArray:=p;obtain ⟨u,hu,ru⟩:=rv.get hx
  have hlt:i < its.toArray.size:=by
   have:=(AE.mp hu).1;simpa using this
  obtain ⟨⟨old,he⟩,hit⟩:=st
  have li:it < s.heap.objs.size:=by obtain ⟨o,q,_⟩:=hit;exact AW q
  refine wpAny_pyNext_enum_itemD (RV (A:=X.A.in1) (I.ok.hd hc) it a hae its.toArray) he ⟨hit,p'⟩ hlt hne (by simp [hne,hef]) λu' h' tk hu' ho hst' hT hsz hk=>?_
  have:u'=u:=by
   have hu2:its[i]?=some u':=by simpa using hu'
   rw [hu] at hu2;cases hu2;rfl
  subst this;exact ⟨_,rfl,Os (sq:=λH xs=>SqT X.K H a xs) (tn:=λi h=>(∃old,PB h e it i old)/\h.IsTupleIter it a i) I hne hf (AW he) li ru (λys hy=>by rw [I.tuple_inj hy hq];exact hx) ho hT hk λh2 hs2 he2=>⟨he2,hst'.1.at λo q=>(hs2.2 it (Bm hne)).trans q⟩⟩
 done:=by
  intro X hP hw hK hc i pins s σ H E I hf st hg;subst hP hw hK;obtain ⟨xs,hq,hx⟩:=hg;obtain ⟨its,rv,p,hz⟩:=I.tuple hq;obtain ⟨⟨old,he⟩,hit⟩:=st;obtain ⟨f0,f1,f2,f3,f4,f5⟩:=hf it (by simp);have hl:=rv.length
  exact JU (I.ok.hd hc) he hit (show s.heap.IsTuple a its.toArray from p) (by simp;lia) λh' eb=>⟨rfl,I.turned (t':=s.toks) (λb o hb e=>eb b o hb e) f0 f1 f3 f4 f5⟩
 self:=λ_ _ _ _ _ st h=>by
  obtain ⟨⟨old,he⟩,_⟩:=st;exact IS he h
end
section
variable {X:Cx} {E:EW} {e:Expr} {elts:List Expr} {x1:Nat} {p pos ptg:Pos} {m:ME} {ta:TA}
def fq (K:AA) (ta:TA):TI:=λσ H R=>ta σ H λvs H1=>∃a,vs=[.ref a]/\(((∃xs,SqL K H1 a xs)/\R (Ite λH xs=>SqL K H a xs) H1)∨((∃xs,SqT K H1 a xs)/\R (Ite λH xs=>SqT K H a xs) H1))
theorem ZM (hg:Gl X "enumerate") (hm:X.mg "enumerate" = none) (ha:PA X [e] ta) (hs:AU [e] X.env=[(false,Bx e X.env)]:=by rfl):PI X (.Tuple elts x1 ptg) (.Call (.Name "enumerate" p) [e] [] pos) (fq X.K ta):=by
 intro pins s σ H R I h;refine Call_ (Ju I hg hm boot_enumerate (B1 (thn (ha pos pins s σ H _ I h) λus s1 ⟨vs,H1,I1,r1,q1⟩=>?_) hs rfl));obtain ⟨a,rfl,q1⟩:=q1;obtain ⟨u,rfl,ru⟩:=vals1 r1;cases ru
 have fp:∀ {h':BW} (b:AH),b∈[s1.heap.objs.size+1,s1.heap.objs.size]->J1 X pins H1 b:=λb hb=>by
  have hb':b=s1.heap.objs.size+1∨b=s1.heap.objs.size:=by simpa using hb
  rcases hb' with z | z
  ·rw [z];exact I1.fpOk (Nv _) (I1.hok.fresh (Nv _))
  ·rw [z];exact I1.fpOk (AO _) (I1.hok.fresh (AO _))
 rcases q1 with ⟨⟨xs,sq⟩,q⟩ | ⟨⟨xs,sq⟩,q⟩
 ·obtain ⟨its,rv,pl,hz⟩:=I1.list sq
  refine call_enumerate_list pl.isList λh' he hit hsz hk=>IS he ?_
  exact ⟨_,[s1.heap.objs.size+1,s1.heap.objs.size],_,_,H1,rfl,I1.kept (t':=s1.toks) hk,R6 a _ _ (YT _),⟨⟨_,he⟩,hit⟩,fp (h':=h'),q⟩
 ·obtain ⟨its,rv,pl,hz⟩:=I1.tuple sq
  have pl':s1.heap.IsTuple a its.toArray:=pl
  have la:a < s1.heap.objs.size:=by obtain ⟨o,q,_⟩:=pl';exact AW q
  refine JB pl' λh' he hit hsz hk=>IS he ?_
  exact ⟨_,[s1.heap.objs.size+1,s1.heap.objs.size],_,_,H1,rfl,I1.kept (t':=s1.toks) hk,R5 a _ _ (YT _) (Am la) (L5 (Hf la)),⟨⟨_,he⟩,hit⟩,fp (h':=h'),q⟩
def LW (ds:List D):List D:=ds.zipIdx.map λx=>.tup [.int x.2,x.1]
def TF (v:Gm):Gm:=λS=>(v S).map LW
def Pn (m:ME):MI:=λe S=>(m e S).bind λd S1=>match Fi d S1 with
 | some _=>.ok (TF (Fi d)) S1
 | none=>.bad
theorem Nh (ds:List D) (i:Nat):(LW ds)[i]?=(ds[i]?).map λd=>.tup [.int i,d]:=by
 unfold LW;rw [Ae,List.getElem?_zipIdx]
 cases ds[i]? <;> simp
theorem Lj {K:AA} {ρ:List AH} {H:Hp} {J:It} {v:Gm} {sq:Hp->List V->Prop} (hJ:LY K ρ H J v) (h1:∀i H,J.go i H->∃xs x,sq H xs/\xs[i]?=some x) (h2:∀i H,J.stop i H->∃xs,sq H xs/\xs.length<=i)
  (h3:∀i H x,(∀xs,sq H xs->xs[i]?=some x)->J.yld i H x H):LY K ρ H (Ite sq) (TF v):=by
 intro ρ2 H2 S ds i l s hv;unfold TF at hv
 cases hd:v S with
 | none=>rw [hd] at hv;cases hv
 | some ds0=>
  rw [hd] at hv;cases hv;obtain ⟨a1,a2⟩:=hJ ρ2 H2 S ds0 i l s hd;refine ⟨λhn=>?_,λd hd'=>?_⟩
  ·rw [Nh] at hn
   refine h2 i H2 (a1 ?_)
   cases hq:ds0[i]? with
   | none=>rfl
   | some d=>rw [hq] at hn;cases hn
  ·rw [Nh] at hd'
   cases hq:ds0[i]? with
   | none=>rw [hq] at hd';cases hd'
   | some d0=>
    rw [hq] at hd';cases hd';obtain ⟨b1,b2⟩:=a2 d0 hq;refine ⟨h1 i H2 b1,λy H' hy=>?_⟩;obtain ⟨p,x,hp,rfl,rfl,hx⟩:=hy;obtain ⟨ρ3,l3,s3,r3⟩:=b2 x H2 (h3 i H2 x hx);obtain ⟨s4,l4⟩:=Fn (ho:=.tup [.int i,x]) s3 hp;exact ⟨ρ3,l3.trans l4,s4,.tup Bg (.cons (.int _) (.cons (r3.mono l4) .nil))⟩
theorem Zu (hg:Gl X "enumerate") (hm:X.mg "enumerate" = none) (h:GE X E e m) (he:AU [e] X.env=[(false,Bx e X.env)]:=by rfl):GI X E (.Tuple elts x1 ptg) (.Call (.Name "enumerate" p) [e] [] pos) (Pn m):=
 (ZM hg hm (FH h Hr he) he).imp λσ H R ⟨ρ,l,S,hl,hs,hm⟩=>by
 refine ⟨ρ,l,S,hl,hs,hm.seq λd S1 hm ρ1 H1 x l1 s1 r1=>?_⟩
 cases d with
 | tup ds=>
  have hm':=hm
  cases r1 with
  | @tup _ a vs q1 q2=>
   exact ⟨a,rfl,.inr ⟨⟨vs,.inl (.inl q1)⟩,hm' ρ1 H1 _ l1 s1 (Lj (Ms q1 q2) (λi H z=>z) (λi H z=>z) λi H x z=>⟨rfl,z⟩)⟩⟩
 | _=>
  cases hv:Fi _ S1 with
  | none=>rw [hv] at hm;exact hm.elim
  | some ds=>
   rw [hv] at hm
   have:∃a,x=.ref a:=by
    cases r1 <;> first | exact ⟨_,rfl⟩ | (cases hv;done)
   obtain ⟨a,rfl⟩:=this;obtain ⟨xs,sq,_⟩:=Mv s1 r1 hv;exact ⟨a,rfl,.inl ⟨⟨xs,sq⟩,hm ρ1 H1 _ l1 s1 (Lj (Mu r1) (λi H z=>z) (λi H z=>z) λi H x z=>⟨rfl,z⟩)⟩⟩
end
def X7 (f:Int->Int->Bool):List Int->Option Int
 | []=>none
 | a :: r=>some (r.foldl (λm x=>if f x m=true then x else m) a)
theorem Kp (f:Int->Int->Bool) (a:Int) (r:List Int):∀k,k<=r.length->(a :: r).getD (HR (λi j=>f ((a :: r).getD i 0) ((a :: r).getD j 0)) k) 0=(r.take k).foldl (λm x=>if f x m=true then x else m) a
 | 0,_=>by simp [HR]
 | k+1,h=>by
  have ih:=Kp f a r k (by lia)
  have hk:k < r.length:=by lia
  have e1:r.take (k+1)=r.take k++[r[k]]:=by rw [HU];simp [hk]
  have e2:(a :: r).getD (k+1) 0=r[k]:=by simp [hk]
  rw [e1,Vr,<-ih];show (a :: r).getD (if f ((a :: r).getD (k+1) 0) ((a :: r).getD (HR (λi j=>f ((a :: r).getD i 0) ((a :: r).getD j 0)) k) 0)=true then k+1 else HR (λi j=>f ((a :: r).getD i 0) ((a :: r).getD j 0)) k) 0=_;rw [e2];show _=(if f r[k] _=true then r[k] else _);split
  ·exact e2
  ·rfl
theorem Nr (bt:Nat->Nat->Bool):∀k,HR bt k<=k
 | 0=>AO _
 | k+1=>by
  show (if bt (k+1) (HR bt k)=true then k+1 else HR bt k)<=k+1;have:=Nr bt k
  split <;> lia
def ltZ (x m:Int):Bool:=decide (x < m)
theorem X6 (f:Int->Int->Bool) {ns:List Int} {b:Int} (h:X7 f ns=some b):0 < ns.length/\ns[HR (λi j=>f (ns.getD i 0) (ns.getD j 0)) (ns.length - 1)]?=some b:=by
 cases ns with
 | nil=>cases h
 | cons a r=>
  cases h;refine ⟨by simp,?_⟩;have e:=Kp f a r r.length (AO _);rw [FV] at e;have hl:=Nr (λi j=>f ((a :: r).getD i 0) ((a :: r).getD j 0)) r.length;rw [<-e,show (a :: r).length - 1=r.length by simp]
  have hlt:HR (λi j=>f ((a :: r).getD i 0) ((a :: r).getD j 0)) r.length < (a :: r).length:=by rw [Au];exact Nat.lt_succ_of_le hl
  rw [BC hlt,Gw,BC hlt];rfl
theorem Jp {ns:List Int} {us:List AB} (r:Bh (ns.map V.int) us) {i:Nat} {v:AB} (h:us[i]?=some v):∃t,v=.int (ns.getD i 0) t:=by
 have hi:i < ns.length:=by
  have:=(AE.mp h).1;have hl:=r.length;rw [AF] at hl
  lia
 obtain ⟨u,hu,ru⟩:=r.get (i:=i) (x:=.int (ns.getD i 0)) (by rw [Ae,BC hi,Gw,BC hi];rfl);rw [h] at hu;cases hu;exact ru
section
variable {X:Cx}
def aY (K:AA) (f:Int->Int->Bool):List V->Hp->VK->Prop:=λxs H Q=>∃a ns b,xs=[.ref a]/\(SqL K H a (ns.map V.int)∨SqT K H a (ns.map V.int))/\X7 f ns=some b/\Q (.int b) H
theorem Tf {s:AD} {o:Obj} {h':BW} (hk:∀b u,b∉[s.heap.objs.size]->(s.heap.push o).get? b=some u->h'.get? b=some u):∀b u,s.heap.get? b=some u->h'.get? b=some u:=λb u e=>
 hk b u (λhm=>zX (Af.mp hm▸AW e) (DD _)) (AI _ e)
theorem ai {s:AD} {o:Obj} {l:AH} (hl:l < s.heap.objs.size):∀b∈[s.heap.objs.size,l],b < (s.heap.push o).objs.size:=λb hb=>by
 rw [E0]
 have hb':b=s.heap.objs.size∨b=l:=by simpa using hb
 rcases hb' with rfl | rfl
 ·exact CO _
 ·exact Hf hl
theorem VQ (hc:X.calm=true):IP X (.builtin "min") (aY X.K ltZ):=by
 intro pins s σ H xs us Q I r h;obtain ⟨a,ns,b,rfl,sq,hb,q⟩:=h;obtain ⟨u,rfl,ru⟩:=vals1 r;cases ru;obtain ⟨hpos,hat⟩:=X6 ltZ hb;have hh:=I.ok.hd hc
 have fin:∀(its:List AB) (v:AB) (h':BW) (tk:Nat),Bh (ns.map V.int) its->its.toArray[HR (λi j=>decide (ns.getD i 0 < ns.getD j 0)) (its.toArray.size - 1)]?=some v->(∀b o,s.heap.get? b=some o->h'.get? b=some o)->EP X pins σ Q v { s with heap:=h',toks:=tk }:=λits v h' tk rv hP hk=>by
  have hl:=rv.length;rw [AF] at hl;rw [List.getElem?_toArray,Ai,<-hl] at hP;obtain ⟨t,rfl⟩:=Jp rv hP;refine ⟨.int b,H,I.kept hk,⟨t,?_⟩,q⟩
  have e:ns.getD (HR (λi j=>decide (ns.getD i 0 < ns.getD j 0)) (ns.length - 1)) 0=b:=by
   rw [Gw];unfold ltZ at hat;rw [hat];rfl
  rw [e]
 rcases sq with sq | sq
 ·obtain ⟨its,rv,pl,hz⟩:=I.list sq
  have hl:=rv.length;rw [AF] at hl
  have la:a < s.heap.objs.size:=by obtain ⟨o,q,_⟩:=pl.isList;exact AW q
  refine call_min_walk (dX pl.isList ?_);refine ⟨_,_,_,_,_,_,_,rfl,Walks.list (A:=X.A.in1) hh _ a (Am la) its.toArray,⟨⟨_,AX _ rfl,rfl,rfl⟩,pl.isList.push _⟩,ai la,by rw [Ai];lia,aS (λi=>ns.getD i 0) (λi v hv=>Jp rv (by simpa using hv)),λv h' tk hP hk=>fin its v h' tk rv hP (Tf hk)⟩
 ·obtain ⟨its,rv,pl,hz⟩:=I.tuple sq
  have hl:=rv.length;rw [AF] at hl;have pl':s.heap.IsTuple a its.toArray:=pl
  have la:a < s.heap.objs.size:=by obtain ⟨o,q,_⟩:=pl';exact AW q
  refine call_min_walk (E2 pl' ?_);refine ⟨_,_,_,_,_,_,_,rfl,Walks.tuple (A:=X.A.in1) hh _ a (Am la) its.toArray,⟨⟨_,AX _ rfl,rfl,rfl⟩,pl'.push _⟩,ai la,by rw [Ai];lia,aS (λi=>ns.getD i 0) (λi v hv=>Jp rv (by simpa using hv)),λv h' tk hP hk=>fin its v h' tk rv hP (Tf hk)⟩
variable {E:EW} {e:Expr} {p pos:Pos} {m:ME}
def UC (f:Int->Int->Bool) (ds:List D) (S:Sto):Res D:=match Ga ds with
 | some ns=>match X7 f ns with
  | some b=>.ok (.int b) S
  | none=>.bad
 | none=>.bad
theorem Y0 {f:Int->Int->Bool}:dQ X.K (aY X.K f) (UC f):=λρ H S ds q xs d S' Q hs rr sq hm k=>by
 unfold UC at hm;split at hm
 ·rename_i ns hi
  split at hm
  ·rename_i b hb
   cases hm;rw [Ir hi] at rr;rw [rr.ints] at sq;exact ⟨q,ns,b,rfl,sq,hb,k ρ H _ .refl hs (.int _)⟩
  ·cases hm
 ·cases hm
abbrev Oj:=UC ltZ
theorem Zx (hc:X.calm=true) (hg:Gl X "min") (hm:X.mg "min" = none) (h:GE X E e m) (he:AU [e] X.env=(false,Bx e X.env) :: AU [] X.env:=by rfl):GE X E (.Call (.Name "min" p) [e] [] pos) (mQ Oj (Q4 m)):=
 Tv (VQ hc) Y0 hg hm Mj (ah h) (by decide) (by decide) he
end
end L2
namespace PySem
open Sem (wp)
open AutoSeq1 (wpAny_loadPart')
namespace F
end F
section
variable {prog:Ah} {w:A1} {A:Aw} {E:AB->AD->Prop} {s:AD} {I:AH} {fp wr:List AH} {G:Array K0->Array K0->Prop} {n:Nat} {P:Nat->AB->Prop} {St:Nat->AD->Prop}
end
end PySem
namespace L2
open PySem PySem.Spec PyProof.Rows
section
variable {X:Cx} {E:EW} {e:Expr} {p p2 pos pos2:Pos} {m:ME} {te:TE}
end
end L2
namespace L2
open PySem
theorem LX {α:Type} {xs:List α} {j:Int} {x:α} (h0:0<=j) (h:xs[j.toNat]?=some x):atI xs j=some x:=by
 have hlt:=(AE.mp h).1;unfold atI ixN;rw [qX (by omega),qX (by lia)];simpa using h
theorem ci {α:Type}:∀ {l:List α},l.length=1->∃x1,l=[x1]
 | [a],_=>⟨a,rfl⟩
theorem NO {α:Type}:∀ {l:List α},l.length=2->∃x1 x2,l=[x1,x2]
 | y :: _,q=>by
  obtain ⟨x2,rfl⟩:=ci (J5 q);exact ⟨y,x2,rfl⟩
theorem cg {α:Type}:∀ {l:List α},l.length=3->∃x1 x2 x3,l=[x1,x2,x3]
 | y :: _,q=>by
  obtain ⟨x2,x3,rfl⟩:=NO (J5 q);exact ⟨y,x2,x3,rfl⟩
theorem len4 {α:Type}:∀ {l:List α},l.length=4->∃x1 x2 x3 x4,l=[x1,x2,x3,x4]
 | y :: _,q=>by
  obtain ⟨x2,x3,x4,rfl⟩:=cg (J5 q);exact ⟨y,x2,x3,x4,rfl⟩
end L2
namespace L2
open PySem PySem.Spec PyProof.Rows
section
variable {X:Cx} {E:EW} {e:Expr} {m:ME} {pos:Pos}
end
section
variable {X:Cx} {E:EW} {tg e a b:Expr} {p p2 pos pos2:Pos} {m:ME} {ml:ML} {ta:TA}
def IL (lo:Int) (n:Nat):List V:=(Bo n).map λk:Nat=>V.int (lo+k)
theorem Qp {lo:Int}:∀ {n:Nat} {acc:List AB},acc.length=n->(∀(k:Nat) v,acc[k]?=some v->∃t,v=.int (lo+k) t)->Bh (IL lo n) acc
 | 0,acc,hl,_=>by
  have:acc=[]:=List.eq_nil_of_length_eq_zero hl;subst this;exact .nil
 | n+1,acc,hl,h=>by
  cases acc with
  | nil=>cases hl
  | cons v r=>
   have hl':r.length=n:=J5 hl;obtain ⟨t,e⟩:=h 0 v rfl
   have ih:=Qp (lo:=lo+1) hl' λk v hv=>by
    obtain ⟨t,e⟩:=h (k+1) v hv;exact ⟨t,by rw [e];congr 1;lia⟩
   have e2:IL lo (n+1)=.int lo :: IL (lo+1) n:=by
    unfold IL;rw [IU,Ap,A7]
    congr 1
    ·congr 1;lia
    ·apply BY
     intro k _;show V.int (lo+((k+1:Nat):Int))=V.int (lo+1+k)
     congr 1
     lia
   rw [e2];refine .cons ⟨t,?_⟩ ih;rw [e]
   congr 1
   lia
theorem Y3 {K:AA} {ρ:List AH} {H:Hp} (lo:Int) (n:Nat):At K ρ H (ET lo n) (IL lo n):=by
 unfold ET IL
 induction Bo n with
 | nil=>exact .nil
 | cons k r ih=>exact .cons (.int _) ih
end
end L2
namespace PySem
open Sem (wp)
open PyProof.Rows (IntsAre)
section
variable {prog:Ah} {w:A1} {A:Aw} {E:AB->AD->Prop} {s:AD}
theorem P1 {R:Vn->AD->Prop} {r:AH} {a b c:Int} {t u v:Tok} {n:Nat} (hh:A.handled=none) (hr:dn s.heap r a b c t u v) (hsm:E1 a b c=true) (hn:CI a b c=n) (hl:n<=2 ^ 24)
  (hR:∀(h':BW) (tk:Nat) (acc:Array AB) (c':Nat),(∀b o,s.heap.get? b=some o->h'.get? b=some o)->h'.get? s.heap.objs.size=some { cls:=.type "list",data:=.seq acc c' }->dk (λi v=>∃t,v=.int (a+i * c) t) acc n->R (.ok (.ret (.ref s.heap.objs.size))) { s with heap:=h',toks:=tk }) :
  HQ (AT prog w) A (.builtin "proto.collect" ⟨[.ref r],[]⟩) R s:=by
 refine QJ F.entry_proto_collect ?_;rw [JJ F.plain_proto_collect _];show Ad _ A.in1 (newList [] >>= λl=>Vb (.builtin "list.__iadd__" ⟨[l,.ref r],[]⟩)) _ _ s;refine AC (BU (AN ⟨plainId_quiet aR _,QJ F.entry_list_iadd ?_⟩));rw [JJ aR _];show Ad _ A.in1 (gb (.ref s.heap.objs.size) (.ref r) (.ref s.heap.objs.size)) _ _ _;have hS₀:(s.heap.push { cls:=.type "list",data:=.seq ([]:List AB).toArray }).get? s.heap.objs.size=some { cls:=.type "list",data:=.seq #[] 0 }:=AX _ rfl
 exact wpAny_extend_range (A:=A) (R:=R) (s:={ s with heap:=s.heap.push { cls:=.type "list",data:=.seq ([]:List AB).toArray } }) hh (AI _ hr) hsm hn hl s.heap.objs.size (.ref s.heap.objs.size) 0 hS₀ λh' tk acc c' hk hS hacc=>
  hR h' tk acc c' (λb o e=>hk b o (Am (AW e)) (AI _ e)) hS hacc
theorem RP {Q:List AB->AD->Prop} {r:AH} {a b c:Int} {t u v:Tok} {n:Nat} (hh:A.handled=none) (hr:dn s.heap r a b c t u v) (hsm:E1 a b c=true) (hn:CI a b c=n) (hl:n<=2 ^ 24)
  (hQ:∀(h':BW) (tk:Nat) (acc:Array AB),(∀b o,s.heap.get? b=some o->h'.get? b=some o)->dk (λi v=>∃t,v=.int (a+i * c) t) acc n->Q acc.toList { s with heap:=h',toks:=tk }):Ad (AT prog w) A (collect (.ref r)) Q E s:=by
 unfold collect;refine AC (wpAny_runValue (P1 hh hr hsm hn hl λh' tk acc c' hk hS hacc=>?_));show Ad _ A (load s.heap.objs.size >>= _) _ _ _;exact AC (wpAny_load hS (AN (hQ h' tk acc hk hacc)))
theorem Nm {Q₁:AB->AD->Prop} {r:AH} {a b c:Int} {t u v:Tok} {n:Nat} (hh:A.handled=none) (hr:dn s.heap r a b c t u v) (hsm:E1 a b c=true) (hn:CI a b c=n) (hl:n<=2 ^ 24) (hsz:n<=sizeLine)
  (h:∀(h':BW) (tk:Nat) (acc:Array AB),(∀b o,s.heap.get? b=some o->h'.get? b=some o)->dk (λi v=>∃t,v=.int (a+i * c) t) acc n->Q₁ (.ref h'.objs.size) { s with heap:=h'.push { cls:=.type "tuple",data:=.seq acc },toks:=tk }) :
  HQ (AT prog w) A (.call (.builtin "tuple.__new__") ⟨[.type "tuple",.ref r],[]⟩) (wants Q₁ E) s:=by
 refine codeAny_of_tree ?_;show Ad _ A.in1 (do checkBuiltinCall "tuple.__new__" ⟨[.type "tuple",.ref r],[]⟩;Vb (.builtin "tuple.__new__" ⟨[.type "tuple",.ref r],[]⟩)) _ _ s;refine AC (YM (F.newCall_tuple_1 _) (AN ⟨plainId_quiet aQ _,QJ F.entry_tuple_new ?_⟩));rw [JJ aQ _];have hsub:=sub_tuple_self;have hinit:=init_tuple_lookup;have hmh:=madeHere_tuple;have hTI:s.TypeIs (.ref r) "range":=⟨_,hr,rfl⟩
 have hh1:A.in1.handled=none:=by simp [hh]
 wp_walk using Vj hTI,RP hh1 hr hsm hn hl
 intro h' tk acc hk hacc;show Ad _ _ (CD acc.toList.toArray >>= λv=>ret v) _ _ _;unfold CD;refine AC (BU ?_ (by show acc.toList.toArray.size<=sizeLine;simp only [Array.toArray_toList];rw [hacc.1];exact hsz));refine AN ?_
 have e:acc.toList.toArray=acc:=by simp
 rw [e];exact h h' tk acc hk hacc
theorem No {Q:AB->AD->Prop} {r:AH} {a b c:Int} {t u v:Tok} {n:Nat} (hh:A.handled=none) (hr:dn s.heap r a b c t u v) (hsm:E1 a b c=true) (hn:CI a b c=n) (hl:n<=2 ^ 24) (hsz:n<=sizeLine)
  (hQ:∀(h':BW) (tk:Nat) (acc:Array AB),(∀b o,s.heap.get? b=some o->h'.get? b=some o)->dk (λi v=>∃t,v=.int (a+i * c) t) acc n->Q (.ref h'.objs.size) { s with heap:=h'.push { cls:=.type "tuple",data:=.seq acc },toks:=tk }) :
  Ad (AT prog w) A (call (.type "tuple") [.ref r]) Q E s:=by
 refine callType_codes (Q₁:=λobj s₁=>s₁.TypeIs obj "tuple"/\Q obj s₁) QO (F.typeCall_tuple_1 _) F.entry_object_init
  (Nm hh hr hsm hn hl hsz λh' tk acc hk hacc=>⟨⟨_,AX _ rfl,rfl⟩,hQ h' tk acc hk hacc⟩) λobj s₁ h₁=>?_
 exact ⟨h₁.1,Vu obj _,object_init_meets QO.init.lookup QO.made (by decide) prog w A.in1 _ s₁ ⟨h₁.1,rfl,h₁.2⟩⟩
end
end PySem
namespace L2
open PySem PySem.Spec PyProof.Rows
section
variable {X:Cx} {E:EW} {a b:Expr} {p p2 pos pos2:Pos} {ml:ML} {ta:TA}
theorem Qr {K:AA} {ρ:List AH} {H:Hp}:∀ {ns:List Int} {vs:List V},At K ρ H (ns.map D.int) vs->vs=ns.map V.int
 | [],_,.nil=>rfl
 | n :: ns,_,.cons r t=>by
  cases r;rw [Qr t];rfl
theorem Qd {pins:List (AH×Obj)} {σ:St} {H:Hp} {s:AD} {Q:VK} {i j:Int} {t u v:Tok} {tk:Nat} (hc:X.calm=true) (I:Inv X pins σ H s) (b1:-1000000<=i/\i<=1000000/\-1000000<=j/\j<=1000000)
  (q:∀q,H q=none->Q (.ref q) (upd H q (.tup (IL i (j - i).toNat)))) :
  Ad (AT X.prog X.w) X.A (call (.type "tuple") [.ref s.heap.objs.size]) (EP X pins σ Q) X.xe { s with heap:=s.heap.push { cls:=.type "range",data:=.fields #[.int i t,.int j u,.int 1 v] },toks:=tk }:=by
 obtain ⟨b1,b2,b3,b4⟩:=b1
 have hn:CI i j 1=((j - i).toNat:Nat):=by rw [rangeSize_one];split <;> lia
 have hz2:(j - i).toNat<=2000000:=by lia
 refine No (s:={ s with heap:=s.heap.push { cls:=.type "range",data:=.fields #[.int i t,.int j u,.int 1 v] },toks:=tk }) (I.ok.hd hc) (aP ..) (small_one (XO b1) (Xf b2) (XO b3) (Xf b4)) hn (Ao hz2 (by decide)) (Ao hz2 (by decide)) λh' tk' acc hk hacc=>?_
 have k:∀b o,s.heap.get? b=some o->(h'.push { cls:=.type "tuple",data:=.seq acc }).get? b=some o:=λb o e=>AI _ (hk b o (AI _ e))
 have hr:Bh (IL i (j - i).toNat) acc.toList:=Qp (by have:=hacc.1;simpa using this) λk v hv=>by
  obtain ⟨t,e⟩:=hacc.2 k v (by simpa using hv);exact ⟨t,by rw [e];congr 1;lia⟩
 have hz:s.heap.objs.size<=h'.objs.size:=by
  have:=hk s.heap.objs.size _ (AX s.heap rfl);exact IY (AW this)
 refine ⟨.ref _,upd H _ (.tup (IL i (j - i).toNat)),I.laid (t':=tk') k hz ?_,rfl,q _ (I.hok.fresh hz)⟩;refine ⟨⟨?_,_,AX _ rfl,rfl⟩,acc.toList,hr,_,AX _ rfl,rfl,0,by simp⟩;rw [hr.length,show acc.toList.length=(j - i).toNat by have:=hacc.1;simpa using this];exact Ao hz2 (by decide)
def aU (ta:TA):TE:=λσ H Q=>ta σ H λvs H1=>∃i j:Int,(vs=[.int i,.int j]∨vs=[.int j]/\i=0)/\(-1000000<=i/\i<=1000000/\-1000000<=j/\j<=1000000)/\∀q,H1 q=none->Q (.ref q) (upd H1 q (.tup (IL i (j - i).toNat)))
theorem Ww (hc:X.calm=true) (hg:Gl X "tuple") (hm:X.mg "tuple" = none) (hg2:Gl X "range") (hm2:X.mg "range" = none) (ha:PA X [a] ta)
  (hs:AU [a] X.env=[(false,Bx a X.env)]:=by rfl)
  (he2:AU [.Call (.Name "range" p2) [a] [] pos2] X.env=(false,Bx (.Call (.Name "range" p2) [a] [] pos2) X.env) :: AU [] X.env:=by rfl) :
  PE X (.Call (.Name "tuple" p) [.Call (.Name "range" p2) [a] [] pos2] [] pos) (aU ta):=by
 intro pins s σ H Q I hq;refine E4 (Ju I hg hm L1 ?_ (by decide) (by decide));refine B1 ?_ he2 rfl;rw [he2];show Ad _ _ (spliced ((false,Bx (.Call (.Name "range" p2) [a] [] pos2) X.env) :: C4 pos (AU [] X.env))) _ _ s;refine US ?_;refine Call_ (Ju I hg2 hm2 ay (B1 (thn (ha pos2 pins s σ H _ I hq) λus s1 ⟨vs,H1,I1,r1,q1⟩=>?_) hs rfl));obtain ⟨i,j,e,bb,q⟩:=q1
 rcases e with e | ⟨e,rfl⟩
 ·subst e
  cases r1 with
  | cons r rr=>
   cases rr with
   | cons r' rr=>
    cases rr;obtain ⟨t,rfl⟩:=r;obtain ⟨t',rfl⟩:=r';exact call_range_2 (K5 (Qd hc I1 bb q))
 ·subst e
  cases r1 with
  | cons r rr=>
   cases rr;obtain ⟨t,rfl⟩:=r;exact call_range_1 (K5 (Qd hc I1 bb q))
def Y4 (ds:List D) (S:Sto):Res D:=match ds with
 | [.int i,.int j]=>if -1000000<=i/\i<=1000000/\-1000000<=j/\j<=1000000 then .ok (.tup (ET i (j - i).toNat)) S else .bad
 | [.int j]=>if -1000000<=j/\j<=1000000 then .ok (.tup (ET 0 j.toNat)) S else .bad
 | _=>.bad
def Q2 (ml:ML):ME:=λe S=>(ml e S).bind Y4
theorem WM {es:List Expr} {σ:St} {H:Hp} {Q:VK} (h:gE X.K E (Q2 ml) σ H Q):aU (gA X.K E ml) σ H Q:=by
 obtain ⟨ρ,l,S,hl,hs,hm⟩:=h;refine ⟨ρ,l,S,hl,hs,hm.seq λds S1 hm ρ1 H1 xs l1 s1 r1=>?_⟩
 have fin:∀(i j:Int),(Ba X.K (λc=>E c σ) ρ H (Res.ok (.tup (ET i (j - i).toNat)) S1) λd S'=>∀ρ' H' x,Le X.K ρ H ρ' H'->Bs X.K ρ' S' H'->Be X.K ρ' H' d x->Q x H')->∀q,H1 q=none->Q (.ref q) (upd H1 q (.tup (IL i (j - i).toNat))):=λi j hm q hq=>by
  obtain ⟨s4,l4⟩:=Fn (ho:=.tup (IL i (j - i).toNat)) s1 hq;exact hm _ _ _ (l1.trans l4) s4 (.tup Bg (Y3 _ _))
 unfold Y4 at hm;split at hm
 ·rename_i i j
  split at hm
  ·rename_i hb
   cases r1 with
   | cons r rr=>
    cases rr with
    | cons r' rr=>
     cases rr;cases r;cases r';exact ⟨i,j,.inl rfl,hb,fin i j hm⟩
  ·exact hm.elim
 ·rename_i j
  split at hm
  ·rename_i hb
   cases r1 with
   | cons r rr=>
    cases rr;cases r;exact ⟨0,j,.inr ⟨rfl,rfl⟩,⟨by lia,by lia,hb.1,hb.2⟩,fin 0 j (by rw [Int.sub_zero];exact hm)⟩
  ·exact hm.elim
 ·exact hm.elim
theorem Xj (hc:X.calm=true) (hg:Gl X "tuple") (hm:X.mg "tuple" = none) (hg2:Gl X "range") (hm2:X.mg "range" = none) (ha:GA X E [a] ml)
  (hs:AU [a] X.env=[(false,Bx a X.env)]:=by rfl)
  (he2:AU [.Call (.Name "range" p2) [a] [] pos2] X.env=(false,Bx (.Call (.Name "range" p2) [a] [] pos2) X.env) :: AU [] X.env:=by rfl) :
  GE X E (.Call (.Name "tuple" p) [.Call (.Name "range" p2) [a] [] pos2] [] pos) (Q2 ml):=(Ww hc hg hm hg2 hm2 ha hs he2).imp λ_ _ _ h=>WM (es:=[]) h
end
end L2
namespace PySem
open Sem (wp)
open AutoSeq1 (wpAny_loadPart')
section
variable {prog:Ah} {w:A1} {A:Aw} {E:AB->AD->Prop} {s:AD}
end
end PySem
namespace PySem
section
variable {prog:Ah} {w:A1} {A:Aw} {E:AB->AD->Prop} {s:AD}
end
end PySem
namespace L2
open PySem PySem.Spec PyProof.Rows
section
variable {P:Ah} {w:A1} {K:AA} {elts:List Expr} {x1:Nat} {pos:Pos}
end
section
variable {X:Cx} {E:EW} {e:Expr} {elts:List Expr} {x1:Nat} {p pos ptg kp vp:Pos} {j1:Nat} {m:ME} {ta:TA}
end
end L2
namespace PySem
open Sem (wp)
section
variable {prog:Ah} {w:A1} {A:Aw} {E:AB->AD->Prop} {s:AD}
end
end PySem
namespace L2
open PySem PySem.Spec PyProof.Rows
section
variable {X:Cx} {E:EW} {e a b c:Expr} {p p2 pos pos2:Pos} {m:ME} {te:TE} {ml:ML} {ta:TA} {tg:Expr}
end
section
variable {X:Cx} {E:EW} {a b c:Expr} {p pos:Pos} {ml:ML} {ta:TA} {tg:Expr}
end
section
variable {X:Cx} {E:EW} {e a b c:Expr} {p p2 pos pos2:Pos} {m:ME} {te:TE} {ml:ML} {ta:TA} {tg:Expr}
end
def NJ (mk mv:ME):ME:=λe S=>(mk e (S++[.dK []])).bind λx S1=>(mv e S1).bind λy S2=>match S2[S.length]?,XW x with
 | some (.dK []),some k=>.ok (.ref S.length) (S2.set S.length (.dK (FB [] k y)))
 | _,_=>.bad
section
variable {X:Cx} {E:EW} {k v:Expr} {pos:Pos} {mk mv:ME}
theorem Xo (hk:GE X E k mk) (hv:GE X E v mv):GE X E (.Dict [some k] [v] pos) (NJ mk mv):=
 (ZR (Wp hk hv ZJ) rfl rfl (by simp) (by simp)).imp λσ H Q ⟨ρ,l,S,hl,hs,hm⟩ p hp=>by
 obtain ⟨s0,l0,at0⟩:=hs.alloc (ho:=.dK []) (o:=.dK []) hp ⟨[],Bg,.nil⟩;refine ⟨ρ++[p],l,S++[.dK []],hl.mono l0,s0,(hm.later l0).seq λx S1 hm ρ1 H1 u l1 s1 r1=>⟨ρ1,l,S1,hl.mono (l0.trans l1),s1,(hm.later l1).seq λy S2 hm ρ2 H2 w l2 s2 r2=>?_⟩⟩;have r0:Be X.K (ρ++[p]) (upd H p (.dK [])) (.ref S.length) (.ref p):=.ref at0;have r0':=r0.mono (l1.trans l2)
 show H2 p=some (.dK [])/\∃kvs:List (Key×V),[(u,w)]=kvs.map (λkv=>(kV kv.1,kv.2))/\kvs.length<=15/\Q (.ref p) (upd H2 p (.dK (LM [] kvs)))
 split at hm
 ·rename_i ky h4 hk'
  cases r0' with
  | @ref _ a hn=>
   obtain ⟨kvs',e,r⟩:=s2.ob S.length _ _ h4 hn;cases r;rw [Mb (r1.mono l2) hk'];have le:Le X.K ρ2 H2 ρ2 (upd H2 p (.dK (Ft [] ky w))):=Le.write hn (by rw [e];trivial);obtain ⟨s5,l5⟩:=s2.write (ho:=.dK (Ft [] ky w)) (o:=.dK (FB [] ky y)) hn ⟨_,Bg,(KVR.put ky r2 .nil).mono le⟩;exact ⟨e,[(ky,w)],rfl,by simp,hm ρ2 _ _ (l0.trans (l1.trans (l2.trans l5))) s5 ((r0.mono (l1.trans l2)).mono l5)⟩
 ·exact hm.elim
end
end L2
namespace PySem
end PySem
namespace L2
open PySem PySem.Spec PyProof.Rows
section
variable {X:Cx} {E:EW} {o e:Expr} {apos cpos:Pos} {mo ma:ME}
end
section
variable {X:Cx} {o e:Expr} {apos cpos:Pos} {td ty:TE}
end
section
variable {X:Cx} {E:EW} {o e:Expr} {apos cpos:Pos} {mo ma:ME}
end
section
variable {X:Cx}
end
section
variable {X:Cx} {E:EW} {o e f:Expr} {apos cpos:Pos} {mo mi my:ME}
end
end L2
namespace PySem
open Sem (wp)
section
variable {prog:Ah} {w:A1} {A:Aw} {E:AB->AD->Prop} {s:AD}
end
end PySem
namespace L2
open PySem PySem.Spec PyProof.Rows
section
variable {P:Ah} {w:A1} {K:AA} {elts:List Expr} {x1:Nat} {pos:Pos}
end
section
variable {X:Cx} {E:EW} {e1 e2:Expr} {elts:List Expr} {x1:Nat} {p pos ptg:Pos} {ml:ML} {ta:TA}
end
end L2
namespace HT
open PySem PySem.Spec PyProof.Rows
section
variable {prog:Ah} {w:A1} {A:Aw} {E:AB->AD->Prop} {s:AD}
end
end HT
namespace L2
open PySem PySem.Spec PyProof.Rows
section
variable {X:Cx}
variable {E:EW} {e:Expr} {lo hi:Option Expr} {pos p2:Pos} {m:ME} {ml mh:MO}
end
section
variable {X:Cx}
instance (i j:Int):Decidable ((λ_ j:Int=>0<=j) i j):=inferInstanceAs (Decidable (0<=j))
end
section
variable {X:Cx} {E:EW} {CX:CXT} {k n:Nat} {f C:AH} {fd:C6} {ps:List Str} {m:Str} {pos apos:Pos} {o e:Expr} {es:List Expr} {mo:ME} {ml:ML} {g:List D->Sto->Res D}
end
section
variable {X:Cx} {E:EW} {o:Expr} {apos cpos:Pos} {mo:ME}
end
section
variable {X:Cx}
end
section
variable {X:Cx} {E:EW} {g:Str} {gp hpos pos:Pos} {G:AH} {cs:List AH} {body suite:List Cw} {b₀:Cw} {mb mh:MS}
end
end L2
namespace L2
open PySem PySem.Spec PyProof.Rows PySem.SeqAt
section
variable {X:Cx} {K:AA} {ρ:List AH} {H:Hp}
variable {pins:List (AH×Obj)} {σ:St} {s:AD}
end
section
variable {P:Ah} {w:A1} {K:AA} {mg:Str->Option AB} {base:BW}
theorem Js {N ps:List Str} {sc:Gs} (h1:N.Nodup:=by decide +kernel) (h2:∀x∈ps,sc.names.lookup x=some .local∨sc.names.lookup x=some .cell:=by decide +kernel) (h3:∀y∈sc.names,y.2≠.free:=by decide +kernel) (h4:sc.kind=.function:=by rfl) (h5:sc.isCoroutine=false:=by rfl) (h6:sc.isGenerator=false:=by rfl) (h7:N.take ps.length=ps:=by rfl):CU N ps sc:=⟨h4,h5,h6,h1,h7,h2,h3⟩
theorem DP {x qual:Str} {st:Cw} {f:AH} {fd:C6} {N ps:List Str} {k n:Nat} (F:Fun K x qual st f fd) (Sc:CU N ps (A0 st)) (hn:ps.length=n) {mb:MS}
  (hbody:∀(cdv:AB) (A:Aw) (outer:List Env) (s:AD) (H:Hp) (E:XK),Fg k (A.deeper (Jm qual (A0 st) s.heap.objs.size f cdv))->IM (Pz (CXG P w) P w K mg base N qual (A0 st) f cdv A outer s H E)->(A.deeper (Jm qual (A0 st) s.heap.objs.size f cdv)).units+64 < D6->N.Nodup ->
   ∀pn E',GSs ((Pz (CXG P w) P w K mg base N qual (A0 st) f cdv A outer s H E).w' pn E') E' (CL st) mb) :
  EM P w K mg base (CXG P w) (k+1) f fd ps (spM K n (FQ N.length mb)):=dD F Sc hn λcdv A outer s H E hr=>hbody cdv A outer s H E hr ⟨rfl,rfl,rfl⟩ hr.units Sc.nd
end
section
variable {X:Cx} {E:EW} {e:Expr} {m:ME} {pos:Pos}
theorem D0 {x:Str} (i:Nat) (hN:X.N.Nodup) (hi:X.N[i]?=some x:=by rfl) (hx:Loc X.env.scope x:=by first | exact Nu rfl | exact Ld rfl) (hf:X.fn x=true∨X.env.scope.names.lookup x=some .local:=by first | exact .inl rfl | exact .inr rfl | assumption):GG X (.Name x pos) (tgN i):=Zv (ZO hN hi hx hf)
theorem DB {x:Str} {pos':Pos} (i:Nat) (hN:X.N.Nodup) (he:GE X E e m) (hi:X.N[i]?=some x:=by rfl) (hx:Loc X.env.scope x:=by first | exact Nu rfl | exact Ld rfl) (hs:EX e (some (.Name x pos')) pos.line X.env=pure false:=by rfl)
  (hf:X.fn x=true∨X.env.scope.names.lookup x=some .local:=by first | exact .inl rfl | exact .inr rfl | assumption):GS X E (.Assign [.Name x pos'] e pos) (CP i m):=cx hN hi hx he hs hf
end
end L2
namespace PySem
open Sem (wp)
section
variable {prog:Ah} {w:A1} {A:Aw} {R:Vn->AD->Prop} {z B:AH} {fp wr:List AH} {n:Nat} {P:Nat->AB->Prop} {St:Nat->BW->Prop} {bt:Nat->Nat->Bool} {J:BW->Prop}
variable {E:AB->AD->Prop} {s:AD}
end
end PySem
namespace L2
open PySem PySem.Spec PyProof.Rows
section
variable {X:Cx} {E:EW} {e:Expr} {p pos:Pos} {m:ME}
end
end L2
namespace L2
open PySem PySem.Spec PyProof.Rows Srt
section
variable {X:Cx} {E:EW} {e a b c:Expr} {p p2 pos pos2:Pos} {m:ME} {te:TE} {ml:ML} {ta:TA} {tg:Expr}
end
end L2
namespace Srt
open PySem PyProof.Rows
section
variable {prog:Ah} {w:A1} {A:Aw} {E:AB->AD->Prop} {s:AD}
end
end Srt
namespace L2
open PySem PySem.Spec PyProof.Rows
open Srt (ltL)
end L2
namespace PySem
open Sem (wp)
section
variable {prog:Ah} {w:A1} {A:Aw} {E:AB->AD->Prop} {s:AD} {I:AH} {fp wr:List AH} {G:Array K0->Array K0->Prop} {n:Nat} {P:Nat->AB->Prop} {St:Nat->AD->Prop}
end
end PySem
namespace L2
open PySem PySem.Spec PyProof.Rows
section
variable {X:Cx} {E:EW} {e:Expr} {p p2 pos pos2:Pos} {m:ME} {te:TE}
end
section
variable {X:Cx} {E:EW} {a b c:Expr} {p pos:Pos} {ml:ML} {ta:TA} {tg:Expr}
end
end L2
namespace L2
open PySem PySem.Spec PyProof.Rows
open AutoSeq1 (wpAny_loadPart')
open MeetsSeq
theorem L6 {M:Rt} {A:Aw} {E:AB->AD->Prop} {s:AD} {β:Type} (f:Nat->β->Sem (ForInStep β)) (I:List Nat->β->AD->Prop) (Q:β->AD->Prop)
  (turn:∀x rest b s,I (x :: rest) b s->Ad M A (f x b) (λr s'=>match r with | .yield b'=>I rest b' s' | .done b'=>Q b' s') E s)
  (fin:∀b s,I [] b s->Q b s) (n:Nat) (b:β) (h:I (d8 0 n) b s):Ad M A (forIn [0:n] b f) Q E s:=by
 rw [aN];refine wpAny_forIn_list f I Q turn fin _ b ?_;simpa [aM] using h
theorem PM (l:AH) (items:Array AB) (n:Nat) (dd:Option AH) (sl:Array (Option AB)) (x:AB) (e:AB->Bool) (he:∀y,y∈items->EqGives y x (e y)) (j:Nat) (hj:j < items.size)
  (hit:e items[j]=true) (hno:∀m (hm:m < items.size),m < j->e items[m]=false) :
  Meets (Builtin.«tuple.index» ⟨[.ref l,x],[]⟩)
   (λ_ R s=>s.heap.get? l=some { cls:=.type "tuple",dict:=dd,data:=.seq items n,slots:=sl }/\R (.ok (.ret (.int j s.toks))) { s with toks:=s.toks+1 }):=
 .of_wp λprog w A R s h=>by
  obtain ⟨hp,g,d,tk,os⟩:=s;obtain ⟨hl,h⟩:=h
  wp_walk using G7 hl,L6 _ (λrest b s'=>b.1=none/\s'=⟨hp,g,d,tk,os⟩/\∃i,i<=j/\rest=d8 i (items.size - i)) _
  case turn=>
   rintro i rest b s' ⟨hb,rfl,k,hk,er⟩
   have hlt:k < items.size:=by omega
   rw [show items.size - k=(items.size - (k+1))+1 by omega,List.range'_succ] at er;cases er;rw [OY hlt];refine AC (he _ (Array.getElem_mem hlt) prog w _ _ _ _ ?_)
   by_cases c:i=j
   ·subst c
    rw [hit]
    wp_walk
    exact ⟨_,rfl,h⟩
   ·rw [hno i hlt (by omega)]
    wp_walk
    exact ⟨rfl,rfl,i+1,by omega,rfl⟩
  case fin=>
   rintro b s' ⟨hb,rfl,k,hk,er⟩;have:=congrArg DQ er;rw [List.length_range',EZ] at this;omega
  case h=>
   exact ⟨rfl,rfl,0,Cp _,by simp⟩
def Jv (k:Int):List Int->Option Nat
 | []=>none
 | x :: l=>if x=k then some 0 else (Jv k l).map (· + 1)
theorem Pm {k:Int}:∀ {l:List Int} {j:Nat},Jv k l=some j->∃h:j < l.length,l[j]=k/\∀m (hm:m < l.length),m < j->l[m]≠k
 | [],j,h=>by cases h
 | x :: l,j,h=>by
  unfold Jv at h;split at h
  ·rename_i c
   cases h;exact ⟨by simp,c,λm _ hm=>zX hm (JF _)⟩
  ·rename_i c
   cases hq:Jv k l with
   | none=>rw [hq] at h;cases h
   | some i=>
    rw [hq] at h;cases h;obtain ⟨h1,h2,h3⟩:=Pm hq;refine ⟨by simp;omega,h2,λm hm hlt=>?_⟩
    cases m with
    | zero=>exact c
    | succ m=>exact h3 m (by simp at hm;omega) (Nat.lt_of_succ_lt_succ hlt)
theorem isInt_at {k:Int}:∀ {vs:List AB} {ns:List Int},Dh vs ns->∀(j:Nat) (h:j < vs.length) (h':j < ns.length),isInt k vs[j]=(ns[j]==k)
 | _,_,.nil,j,h,_=>zX h (JF _)
 | _,_,.cons n t r,0,_,_=>rfl
 | _,_,.cons n t r,j+1,h,h'=>isInt_at r j (by simp at h;omega) (by simp at h';omega)
def rIdx:V->List V->Hp->VK->Prop:=λx vs H Q=>∃p ns k j,x=.ref p/\vs=[.int k]/\H p=some (.tup (ns.map V.int))/\Jv k ns=some j/\Q (.int j) H
section
variable {X:Cx}
theorem XC:MtM X "tuple.index" rIdx:=by
 intro pins s σ H x vs v us Q I rx rv h;obtain ⟨p,ns,k,j,rfl,rfl,hH,hj,q⟩:=h;cases rx;obtain ⟨u,rfl,ru⟩:=vals1 rv;obtain ⟨t,rfl⟩:=ru;obtain ⟨_,its,r,⟨cl,dd,dt,sl⟩,ho,hcl,n,hd⟩:=(show CJ X.prog X.w H s.heap p (.tup (ns.map V.int)) from I.hok p _ hH);dsimp only at hcl hd;subst hcl hd;have hi:Dh its ns:=intsAre_of r
 have hlen:its.length=ns.length:=by have:=r.length;rw [AF] at this;exact this.symm
 obtain ⟨h1,h2,h3⟩:=Pm hj
 refine call_meets N5 ⟨_,ho,rfl⟩ PySem.F.entry_tuple_index (PySem.F.args_tuple_index_2 _ _)
  (PM p its.toArray n dd sl (.int k t) (isInt k) (λy hy=>eq_isInt k t hi y (by simpa using hy)) j (by simpa [hlen] using h1) ?_ λm hm hlt=>?_) ⟨ho,.int j,H,I.kept (t':=s.toks+1) (h':=s.heap) (λ_ _ e=>e),⟨_,rfl⟩,q⟩
 ·rw [Sz,isInt_at hi j (by omega) h1,h2]
  simp
 ·rw [Ai] at hm
  rw [Sz,isInt_at hi m hm (by omega)];exact beq_false_of_ne (h3 m (by omega) hlt)
variable {o e:Expr} {es:List Expr} {to:TE} {t:TA} {name:Str} {apos cpos:Pos} {id:String} {r:V->List V->Hp->VK->Prop}
theorem cI (pa:PlainAttrs "tuple") (slot:Slot "tuple" name id) (hty:typeOf (.builtin id)=pure (.type "method_descriptor")) (hm:MtM X id r) (ho:PE X o to) (ha:PA X (e :: es) t)
  (hbase:Ex o name X.env (Bx o X.env)=Bx o X.env:=by rfl)
  (hfew:((C4 cpos (AU (e :: es) X.env)).all (λx=>!x.1)&&(YR cpos (QD [] X.env)).all (λx=>x.1.isSome)
    &&decide ((e :: es).length+([]:List Jo).length+(if ([]:List Jo).isEmpty then 0 else 1) < 30))=true:=by rfl)
  (hline:(apos.endLine==cpos.line)=true:=by rfl) (hs:AU (e :: es) X.env=(false,Bx e X.env) :: AU es X.env:=by rfl) (hplain:(C4 cpos (AU es X.env)).any (·.1)=false:=by rfl) :
  PE X (.Call (.Attribute o name apos) (e :: es) [] cpos) (λσ H Q=>to σ H λx H1=>(∃p xs,x=.ref p/\H1 p=some (.tup xs))/\t σ H1 λxs H2=>r x xs H2 Q):=by
 intro pins s σ H Q I h;refine Vk hbase hfew hline rfl (thn (ho pins s σ H _ I h) λv s1 ⟨x,H1,I1,r1,⟨p,xs,ex,hp⟩,q1⟩=>?_);subst ex;have rv:=r1;cases r1;obtain ⟨⟨_,o2,e2,c2⟩,its,_,o3,e3,c3,_⟩:=(show CJ X.prog X.w H1 s1.heap p (.tup xs) from I1.hok p _ hp);refine ⟨"tuple",id,pa,slot,hty,⟨o3,e3,c3⟩,λa ea=>by cases ea;exact ⟨o2,e2,c2⟩,?_⟩;have hA:=ha cpos pins s1 σ H1 _ I1 q1;rw [hs] at hA ⊢;refine QP (by show (false||(C4 cpos (AU es X.env)).any (·.1))=false;rw [hplain] <;> rfl) (JS ?_)
 exact thn hA λus s2 ⟨vs,H2,I2,r2,q2⟩=>hm pins s2 σ H2 _ vs _ us Q I2 rv r2 q2
end
def NI (mo mi:ME):ME:=λe S=>(mo e S).bind λd S1=>match d with
 | .tup ds=>(mi e S1).bind λx S2=>match Ga ds,x with
  | some ns,.int k=>match Jv k ns with
   | some j=>.ok (.int j) S2
   | none=>.bad
  | _,_=>.bad
 | _=>.bad
section
variable {X:Cx} {E:EW} {o e:Expr} {mo mi:ME} {apos cpos:Pos}
theorem RF (ho:GE X E o mo) (he:GE X E e mi) (hbase:Ex o "index" X.env (Bx o X.env)=Bx o X.env:=by rfl)
  (hfew:((C4 cpos (AU [e] X.env)).all (λx=>!x.1)&&(YR cpos (QD [] X.env)).all (λx=>x.1.isSome)
    &&decide ([e].length+([]:List Jo).length+(if ([]:List Jo).isEmpty then 0 else 1) < 30))=true:=by rfl)
  (hline:(apos.endLine==cpos.line)=true:=by rfl) (hs:AU [e] X.env=(false,Bx e X.env) :: AU [] X.env:=by rfl) (hplain:(C4 cpos (AU [] X.env)).any (·.1)=false:=by rfl) :
  GE X E (.Call (.Attribute o "index" apos) [e] [] cpos) (NI mo mi):=(cI PySem.F.plainAttrs_tuple N5 PySem.F.type_tuple_index XC ho (FH he Hr hs) hbase hfew hline hs hplain).imp λσ H Q ⟨ρ,l,S,hl,hs,hm⟩=>by
 refine ⟨ρ,l,S,hl,hs,hm.seq λd S1 hm ρ1 H1 v l1 s1 r1=>?_⟩
 cases d <;> first | exact hm.elim | skip
 rename_i ds
 cases r1 with
 | @tup _ a vs h1 h2=>
  refine ⟨⟨a,vs,rfl,h1⟩,ρ1,l,S1,hl.mono l1,s1,(hm.later l1).seq λx S2 hm2 ρ2 H2 u l2 s2 r2=>?_⟩;split at hm2
  ·rename_i ns k hns
   split at hm2
   ·rename_i j hj
    cases r2;have e1:=Ir hns;subst e1;have e2:=Qr h2;subst e2;exact ⟨a,ns,k,j,rfl,rfl,l2.tup _ _ h1,hj,hm2 ρ2 H2 _ (l1.trans l2) s2 (.int _)⟩
   ·exact hm2.elim
  ·exact hm2.elim
end
section
variable {X:Cx} {E:EW} {e:Expr} {m:ME} {p pos:Pos}
def Tk (m:ME):ME:=λe S=>(m e S).bind λd S1=>match d with
 | .ref n=>match S1[n]? with
  | some (.dK kvs)=>.ok (.int kvs.length) S1
  | _=>.bad
 | _=>.bad
theorem Zz (hg:Gl X "len") (hm:X.mg "len" = none) (h:GE X E e m) (he:AU [e] X.env=(false,Bx e X.env) :: AU [] X.env:=by rfl):GE X E (.Call (.Name "len" p) [e] [] pos) (Tk m):=
 (Il VU hg hm YS (FH h Hr he) (by decide) (by decide) he rfl).imp λσ H Q ⟨ρ,l,S,hl,hs,hm⟩=>by
 refine ⟨ρ,l,S,hl,hs,hm.seq λd S1 hm2 ρ1 H1 x l1 s1 r1=>?_⟩
 cases d <;> first | exact hm2.elim | skip
 rename_i n
 cases r1 with
 | @ref _ a hn=>
  dsimp only at hm2
  cases hk:S1[n]? with
  | none=>rw [hk] at hm2;exact hm2.elim
  | some ob=>
   rw [hk] at hm2
   cases ob <;> first | exact hm2.elim | skip
   rename_i kvs;obtain ⟨kvs',e1,rr⟩:=s1.ob n _ a hk hn;have hl:kvs.length=kvs'.length:=DA rr;exact ⟨a,kvs',rfl,e1,by rw [<-hl];exact hm2 ρ1 H1 _ l1 s1 (.int _)⟩
structure gM (K:AA) (C:AH):Prop where
 cl:Cls K C
 ha:By K (.ref C) "__class__" = some (some (.builtin "object.__class__"))
 hn:J9 K (.builtin "object.__class__") "__get__" = some (some (.builtin "getset_descriptor.__get__"))
 htk:Lz K (.builtin "object.__class__")=some true
 hm:G9 K C (.type "object")=some true
 ki:Mh K (.ref C) (.ref C)=some true
def Zp (C:AH) (m:ME):ME:=λe S=>(m e S).bind λd S1=>match d with
 | .ref n=>match S1[n]? with
  | some (.ins C' _)=>if C'=C then .ok (.bl true) S1 else .bad
  | _=>.bad
 | _=>.bad
theorem c7 {C:AH} {ce:Expr} (O:gM X.K C) (hg:Gl X "isinstance") (hm:X.mg "isinstance" = none) (h:GE X E e m) (hce:PE X ce (tC (.ref C)))
  (he:AU [e,ce] X.env=(false,Bx e X.env) :: AU [ce] X.env:=by rfl) (he2:AU [ce] X.env=(false,Bx ce X.env) :: AU [] X.env:=by rfl) (hpl:(C4 pos (AU [ce] X.env)).any (·.1)=false:=by rfl):GE X E (.Call (.Name "isinstance" p) [e,ce] [] pos) (Zp C m):=
 (Il (X5 (c:=.ref C) (cv:=.ref C) λ_ r=>r) hg hm gY (FH h (FH hce Hr he2) he) (by decide) (by decide) he hpl).imp λσ H Q ⟨ρ,l,S,hl,hs,hm⟩=>by
 refine ⟨ρ,l,S,hl,hs,hm.seq λd S1 hm2 ρ1 H1 x l1 s1 r1=>?_⟩
 cases d <;> first | exact hm2.elim | skip
 rename_i n
 cases r1 with
 | @ref _ a hn=>
  dsimp only at hm2
  cases hk:S1[n]? with
  | none=>rw [hk] at hm2;exact hm2.elim
  | some ob=>
   rw [hk] at hm2
   cases ob <;> first | exact hm2.elim | skip
   rename_i C' fs;dsimp only at hm2
   by_cases ec:C'=C
   ·rw [qX ec] at hm2
    subst ec;obtain ⟨dx,fs',e1,rr⟩:=s1.ob n _ a hk hn;exact ⟨.ref a,_,true,rfl,.ins e1 O.cl O.ha O.hn O.htk O.hm,O.ki,hm2 ρ1 H1 _ l1 s1 (.bl _)⟩
   ·rw [qY ec] at hm2
    exact hm2.elim
end
end L2
namespace L4
open PySem L2
inductive Cel where
 | no | fz (o:Ob) | ow (i:Nat)
abbrev Fz:=Nat->Cel
inductive Sl where
 | u | v (d:D) | z (o:Ob) | y (o:Ob) | w (i:Nat) (o:Ob) | q (P:(Nat->Option Ob)->D->Prop)
def Sl.ok (S0:Sto) (F:Fz) (S:Sto):Sl->Option D->Prop
 | .u,_=>True
 | .v d,x=>x=some d
 | .z o,x=>∃n,x=some (.ref n)/\F n=.fz o
 | .y o,x=>∃n,x=some (.ref n)/\F n=.fz o/\S0.length<=n
 | .w i o,x=>∃n,x=some (.ref n)/\F n=.ow i/\S[n]?=some o
 | .q P,x=>∃d,x=some d/\∀L:Nat->Option Ob,(∀n o,F n=.fz o->L n=some o)->P L d
structure Vs (S0:Sto) (A:List Sl) (e:Lo) (F:Fz) (S:Sto):Prop where
 kp:Keeps S0 S
 fz:∀n o,F n=.fz o->S[n]?=some o
 ow:∀n i,F n=.ow i->S0.length<=n/\n < S.length
 hi:∀n,S.length<=n->F n=.no
 sl:∀(i:Nat) (a:Sl),A[i]?=some a->∃x,e[i]?=some x/\a.ok S0 F S x
def Fle (F F':Fz):Prop:=∀n o,F n=.fz o->F' n=.fz o
theorem Fle.refl (F:Fz):Fle F F:=λ_ _ h=>h
theorem Fle.trans {F G H:Fz} (a:Fle F G) (b:Fle G H):Fle F H:=λn o h=>b n o (a n o h)
def LV (F:Fz) (S S':Sto):Fz:=λn=>if n < S.length then F n else match S'[n]? with
 | some o=>.fz o
 | none=>.no
section
variable {S0 S S':Sto} {A B:List Sl} {e:Lo} {F:Fz} {α β γ ρ σ τ:Type}
theorem Gh {n:Nat} (h:n < S.length):LV F S S' n=F n:=qX h
theorem Nf {n:Nat} {o:Ob} (h:S.length<=n) (ho:S'[n]?=some o):LV F S S' n=.fz o:=by
 unfold LV;rw [qY (Kz.mpr h),ho]
theorem D9 {n:Nat} {o:Ob} (h:S[n]?=some o):n < S.length:=(AE.mp h).1
theorem Sl.mono {S0:Sto} {F F':Fz} {S S':Sto} {a:Sl} {x:Option D} (h:a.ok S0 F S x) (h1:∀n o,F n=.fz o->F' n=.fz o) (h2:∀n i o,F n=.ow i->S[n]?=some o->F' n=.ow i/\S'[n]?=some o):a.ok S0 F' S' x:=by
 cases a with
 | u=>trivial
 | v d=>exact h
 | z o=>obtain ⟨n,h3,h4⟩:=h;exact ⟨n,h3,h1 _ _ h4⟩
 | y o=>obtain ⟨n,h3,h4,h5⟩:=h;exact ⟨n,h3,h1 _ _ h4,h5⟩
 | w i o=>obtain ⟨n,h3,h4,h5⟩:=h;exact ⟨n,h3,h2 _ _ _ h4 h5⟩
 | q P=>obtain ⟨d,h3,h4⟩:=h;exact ⟨d,h3,λL hL=>h4 L λn o q=>hL n o (h1 n o q)⟩
theorem Vs.fle (h:Vs S0 A e F S) (S':Sto):Fle F (LV F S S'):=λn o q=>by rw [Gh (D9 (h.fz n o q))];exact q
theorem Vs.grow (h:Vs S0 A e F S) (k:Keeps S S'):Vs S0 A e (LV F S S') S':=by
 refine ⟨h.kp.trans k,λn o q=>?_,λn i q=>?_,λn hn=>?_,λi a ha=>?_⟩
 ·unfold LV at q
  split at q
  ·rename_i hn
   rw [k.2 n hn];exact h.fz n o q
  ·cases hs:S'[n]? with
   | none=>rw [hs] at q;cases q
   | some o'=>rw [hs] at q;cases q;rfl
 ·unfold LV at q
  split at q
  ·exact ⟨(h.ow n i q).1,Ab (h.ow n i q).2 k.1⟩
  ·cases hs:S'[n]? with
   | none=>rw [hs] at q;cases q
   | some o'=>rw [hs] at q;cases q
 ·unfold LV
  rw [qY (Kz.mpr (Ao k.1 hn)),CH hn]
 ·obtain ⟨x,h1,h2⟩:=h.sl i a ha
  exact ⟨x,h1,Sl.mono h2 (h.fle S') λn i o q1 q2=>⟨by rw [Gh (D9 q2)];exact q1,by rw [k.2 n (D9 q2)];exact q2⟩⟩
theorem Vs.cons (h:Vs S0 A e F S) {a:Sl} {x:Option D} (hx:a.ok S0 F S x):Vs S0 (a :: A) (x :: e) F S:=
 ⟨h.kp,h.fz,h.ow,h.hi,λi b hb=>by
  cases i with
  | zero=>cases hb;exact ⟨x,rfl,hx⟩
  | succ i=>exact h.sl i b hb⟩
theorem Vs.set (h:Vs S0 A e F S) {a:Sl} {x:Option D} (i:Nat) (hx:a.ok S0 F S x):Vs S0 (A.set i a) (e.set i x) F S:=
 ⟨h.kp,h.fz,h.ow,h.hi,λj b hb=>by
  by_cases c:i=j
  ·subst c
   rw [HV] at hb;rw [qX rfl] at hb;split at hb
   ·rename_i hl
    cases hb;obtain ⟨y,hy,_⟩:=h.sl i (A[i]) (BC hl);exact ⟨x,by rw [HV];rw [qX rfl,qX (AE.mp hy).1],hx⟩
   ·cases hb
  ·rw [Ay c] at hb ⊢
   exact h.sl j b hb⟩
inductive Wk:List Sl->List Sl->Prop where
 | nil:Wk [] []
 | same {a:Sl} {A B:List Sl}:Wk A B->Wk (a :: A) (a :: B)
 | drop {a:Sl} {A B:List Sl}:Wk A B->Wk (a :: A) (.u :: B)
 | less {o:Ob} {A B:List Sl}:Wk A B->Wk (.y o :: A) (.z o :: B)
theorem Wk.at:∀ {A B:List Sl},Wk A B->∀(i:Nat) (b:Sl),B[i]?=some b->∃a,A[i]?=some a/\(b=.u∨b=a∨∃o,a=.y o/\b=.z o)
 | _,_,.nil,i,b,h=>by simp at h
 | _,_,.same w,0,b,h=>by cases h;exact ⟨_,rfl,.inr (.inl rfl)⟩
 | _,_,.less w,0,b,h=>by cases h;exact ⟨_,rfl,.inr (.inr ⟨_,rfl,rfl⟩)⟩
 | _,_,.less w,i+1,b,h=>Wk.at w i b h
 | _,_,.drop w,0,b,h=>by cases h;exact ⟨_,rfl,.inl rfl⟩
 | _,_,.same w,i+1,b,h=>Wk.at w i b h
 | _,_,.drop w,i+1,b,h=>Wk.at w i b h
theorem Vs.weak (h:Vs S0 A e F S) (w:Wk A B):Vs S0 B e F S:=⟨h.kp,h.fz,h.ow,h.hi,λi b hb=>by
 obtain ⟨a,h1,h2⟩:=w.at i b hb;obtain ⟨x,h3,h4⟩:=h.sl i a h1
 rcases h2 with rfl | rfl | ⟨o,rfl,rfl⟩
 ·exact ⟨x,h3,trivial⟩
 ·exact ⟨x,h3,h4⟩
 ·obtain ⟨n,h5,h6,_⟩:=h4
  exact ⟨x,h3,n,h5,h6⟩⟩
def Sl.oth (i:Nat):Sl->Bool
 | .w k _=>!(Nat.beq k i)
 | _=>true
theorem cL {i j k:Nat} {o:Ob} (h:((A.set i .u).all (Sl.oth i))=true) (hj:j≠i) (ha:A[j]?=some (.w k o)):k≠i:=by
 have h1:(A.set i .u)[j]?=some (.w k o):=by rw [Ay (Bm hj)];exact ha
 have:=IH.mp h _ (Av h1);intro e;subst e;have h2:(!(Nat.beq k k))=true:=this;rw [Nat.beq_refl] at h2;cases h2
theorem Vs.put (h:Vs S0 A e F S) {i n:Nat} {o o':Ob} (ht:((A.set i .u).all (Sl.oth i))=true) (ha:A[i]?=some (.w i o)) (hx:e[i]?=some (some (.ref n))) (hn:F n=.ow i):Vs S0 (A.set i (.w i o')) e F (S.set n o'):=by
 have hl:=h.ow n i hn;refine ⟨h.kp.set hl.1 o',λk q hq=>?_,λk j q=>by rw [GH];exact h.ow k j q,λk hk=>h.hi k (by rw [GH] at hk;exact hk),λj b hb=>?_⟩
 ·have:n≠k:=λc=>by subst c;rw [hn] at hq;cases hq
  rw [Ay this];exact h.fz k q hq
 ·by_cases c:i=j
  ·subst c
   rw [HV] at hb;rw [qX rfl] at hb;split at hb
   ·cases hb
    exact ⟨_,hx,n,rfl,hn,by rw [HV];rw [qX rfl,qX hl.2]⟩
   ·cases hb
  ·rw [Ay c] at hb
   obtain ⟨x,h1,h2⟩:=h.sl j b hb;refine ⟨x,h1,?_⟩
   cases b with
   | u=>trivial
   | v d=>exact h2
   | z q=>exact h2
   | y q=>exact h2
   | q P=>exact h2
   | w k q=>
    obtain ⟨m,h3,h4,h5⟩:=h2;refine ⟨m,h3,h4,?_⟩
    have:n≠m:=λz=>by
     subst z;rw [hn] at h4;cases h4;exact cL ht (λz=>c z.symm) hb rfl
    rw [Ay this];exact h5
theorem Vs.own (h:Vs S0 A e F S) (k:Keeps S S') {i n:Nat} {o:Ob} (hn:S.length<=n) (ho:S'[n]?=some o):∃F',Vs S0 (A.set i (.w i o)) (e.set i (some (.ref n))) F' S'/\Fle F F':=by
 have g:=h.grow k;have hnl:=D9 ho
 have fl:Fle F (λj=>if j=n then Cel.ow i else LV F S S' j):=λj q hq=>by
  have:j≠n:=λc=>by subst c;exact zX (D9 (h.fz _ _ hq)) (Kz.mpr hn)
  show (if j=n then Cel.ow i else _)=_;rw [qY this];exact h.fle S' _ _ hq
 refine ⟨λj=>if j=n then .ow i else LV F S S' j,(Vs.set (a:=.w i o) (x:=some (.ref n)) ⟨g.kp,λj q hq=>?_,λj q hq=>?_,λj hj=>?_,λj b hb=>?_⟩ i ⟨n,rfl,qX rfl,ho⟩),fl⟩
 ·split at hq
  ·cases hq
  ·exact g.fz j q hq
 ·split at hq
  ·rename_i c;subst c;exact ⟨Ao h.kp.1 hn,hnl⟩
  ·exact g.ow j q hq
 ·have:j≠n:=λc=>by subst c;exact zX hnl (Kz.mpr hj)
  show (if j=n then Cel.ow i else _)=_;rw [qY this];exact g.hi j hj
 ·obtain ⟨x,h1,h2⟩:=h.sl j b hb
  refine ⟨x,h1,Sl.mono h2 fl λm j q q1 q2=>?_⟩;have hm:=D9 q2
  have:m≠n:=λc=>by subst c;exact zX hm (Kz.mpr hn)
  refine ⟨?_,by rw [k.2 m hm];exact q2⟩;show (if m=n then Cel.ow i else _)=_;rw [qY this,Gh hm];exact q1
abbrev Rk (α:Type):=α->Sto->D->Sto->Prop
def rV (enc:α->D):Rk α:=λv _ d _=>d=enc v
def rO (ob:α->Ob):Rk α:=λv _ d S=>∃n,d=.ref n/\S[n]?=some (ob v)
def rN (ob:α->Ob):Rk α:=λv S0 d S=>∃n,d=.ref n/\S0.length<=n/\S[n]?=some (ob v)
def VE (A:List Sl) (m:ME) (R:Rk α) (p:Option α):Prop:=∀v,p=some v->∀S0 e F S,Vs S0 A e F S->∃d S',m e S=.ok d S'/\Keeps S S'/\R v S d S'
def VB (A:List Sl) (t:MT) (p:Option Bool):Prop:=∀v,p=some v->∀S0 e F S,Vs S0 A e F S->∃S',t e S=.ok v S'/\Keeps S S'
def VL (A:List Sl) (ml:ML) (enc:α->D) (p:Option (List α)):Prop:=∀v,p=some v->∀S0 e F S,Vs S0 A e F S->∃S',ml e S=.ok (v.map enc) S'/\Keeps S S'
def VK (A:List Sl) (mi:MI) (enc:α->D) (p:Option (List α)):Prop:=∀v,p=some v->∀S0 e F S,Vs S0 A e F S->∃w S',mi e S=.ok w S'/\Keeps S S'/\∀S'',Keeps S' S''->w S''=some (v.map enc)
def VI (A:List Sl) (mi:MI) (enc:α->D) (p:Option (List α)):Prop:=∀v,p=some v->∀S0 e F S,Vs S0 A e F S->∃w S',mi e S=.ok w S'/\Keeps S S'/\∀F'' S'',Fle (LV F S S') F''->(∀n o,F'' n=.fz o->S''[n]?=some o)->w S''=some (v.map enc)
theorem VI.k {mi:MI} {enc:α->D} {p:Option (List α)} (h:VI A mi enc p):VK A mi enc p:=λv hv S0 e F S hs=>by
 obtain ⟨w,S',h1,h2,h3⟩:=h v hv S0 e F S hs;have g:=hs.grow h2;exact ⟨w,S',h1,h2,λS'' k=>h3 _ S'' (g.fle S'') (g.grow k).fz⟩
def eT (enc:α->D) (l:List α):D:=.tup (l.map enc)
def eP (a:α->D) (b:β->D) (x:α×β):D:=.tup [a x.1,b x.2]
def eU (_:Unit):D:=.non
def eF (l:List Int):D:=.fro (l.map D.int)
def oL (enc:α->D) (l:List α):Ob:=.lst (l.map enc)
theorem bP {m:ME} {R R':Rk α} {p:Option α} (h:VE A m R p) (i:∀v S d S',R v S d S'->R' v S d S'):VE A m R' p:=λv hv S0 e F S hs=>by
 obtain ⟨d,S',h1,h2,h3⟩:=h v hv S0 e F S hs;exact ⟨d,S',h1,h2,i _ _ _ _ h3⟩
theorem Mw {m:ME} {ob:α->Ob} {p:Option α} (h:VE A m (rN ob) p):VE A m (rO ob) p:=bP h λv S d S' ⟨n,h1,_,h2⟩=>⟨n,h1,h2⟩
theorem Ak {enc:α->D} {v:α} {i:Nat} (h:A[i]?=some (.v (enc v))):VE A (AK i) (rV enc) (some v):=λ_ hv S0 e F S hs=>by
 cases hv;obtain ⟨x,h1,h2⟩:=hs.sl i _ h;cases h2;exact ⟨_,S,by unfold AK;rw [h1],Keeps.refl S,rfl⟩
theorem Ef {ob:α->Ob} {v:α} {i:Nat} (h:A[i]?=some (.z (ob v))):VE A (AK i) (rO ob) (some v):=λ_ hv S0 e F S hs=>by
 cases hv;obtain ⟨x,h1,n,rfl,h2⟩:=hs.sl i _ h;exact ⟨_,S,by unfold AK;rw [h1],Keeps.refl S,n,rfl,hs.fz _ _ h2⟩
theorem Cr {ob:α->Ob} {v:α} {i:Nat} (h:A[i]?=some (.y (ob v))):VE A (AK i) (rO ob) (some v):=λ_ hv S0 e F S hs=>by
 cases hv;obtain ⟨x,h1,n,rfl,h2,_⟩:=hs.sl i _ h;exact ⟨_,S,by unfold AK;rw [h1],Keeps.refl S,n,rfl,hs.fz _ _ h2⟩
theorem Fk {ob:α->Ob} {v:α} {i k:Nat} (h:A[i]?=some (.w k (ob v))):VE A (AK i) (rO ob) (some v):=λ_ hv S0 e F S hs=>by
 cases hv;obtain ⟨x,h1,n,rfl,h2,h3⟩:=hs.sl i _ h;exact ⟨_,S,by unfold AK;rw [h1],Keeps.refl S,n,rfl,h3⟩
theorem EG {enc:α->D} {v:α} {d:D} (h:d=enc v):VE A (mC d) (rV enc) (some v):=λ_ hv S0 e F S hs=>by
 cases hv;exact ⟨d,S,rfl,Keeps.refl S,h⟩
theorem BK {p:Option α} {q:α->Option β} {v:β} (h:p.bind q=some v):∃x,p=some x/\q x=some v:=O8.mp h
theorem GU {f:D->D->Sto->Res D} {a b:ME} {ea:α->D} {eb:β->D} {ec:γ->D} {pa:Option α} {pb:Option β} {g:α->β->Option γ} (ha:VE A a (rV ea) pa) (hb:VE A b (rV eb) pb)
  (hf:∀x y z S,g x y=some z->f (ea x) (eb y) S=.ok (ec z) S):VE A (m2 f a b) (rV ec) (pa.bind λx=>pb.bind λy=>g x y):=λv hv S0 e F S hs=>by
 obtain ⟨x,h1,hv⟩:=BK hv;obtain ⟨y,h2,h3⟩:=BK hv;obtain ⟨d1,S1,q1,k1,rfl⟩:=ha x h1 S0 e F S hs;obtain ⟨d2,S2,q2,k2,rfl⟩:=hb y h2 S0 e _ S1 (hs.grow k1);exact ⟨_,S2,Co q1 q2 (hf x y v S2 h3),k1.trans k2,rfl⟩
theorem V8 {f:D->D->Sto->Res D} {a b:ME} {ea:α->D} {ob:β->Ob} {ec:γ->D} {pa:Option α} {pb:Option β} {g:α->β->Option γ} (ha:VE A a (rV ea) pa) (hb:VE A b (rO ob) pb)
  (hf:∀x y z S (n:Nat),S[n]?=some (ob y)->g x y=some z->f (ea x) (.ref n) S=.ok (ec z) S):VE A (m2 f a b) (rV ec) (pa.bind λx=>pb.bind λy=>g x y):=λv hv S0 e F S hs=>by
 obtain ⟨x,h1,hv⟩:=BK hv;obtain ⟨y,h2,h3⟩:=BK hv;obtain ⟨d1,S1,q1,k1,rfl⟩:=ha x h1 S0 e F S hs;obtain ⟨d2,S2,q2,k2,n,rfl,hn⟩:=hb y h2 S0 e _ S1 (hs.grow k1);exact ⟨_,S2,Co q1 q2 (hf x y v S2 n hn h3),k1.trans k2,rfl⟩
theorem WG {f:D->D->Sto->Res D} {a b:ME} {ob:α->Ob} {eb:β->D} {ec:γ->D} {pa:Option α} {pb:Option β} {g:α->β->Option γ} (ha:VE A a (rO ob) pa) (hb:VE A b (rV eb) pb)
  (hf:∀x y z S (n:Nat),S[n]?=some (ob x)->g x y=some z->f (.ref n) (eb y) S=.ok (ec z) S):VE A (m2 f a b) (rV ec) (pa.bind λx=>pb.bind λy=>g x y):=λv hv S0 e F S hs=>by
 obtain ⟨x,h1,hv⟩:=BK hv;obtain ⟨y,h2,h3⟩:=BK hv;obtain ⟨d1,S1,q1,k1,n,rfl,hn⟩:=ha x h1 S0 e F S hs;obtain ⟨d2,S2,q2,k2,rfl⟩:=hb y h2 S0 e _ S1 (hs.grow k1);exact ⟨_,S2,Co q1 q2 (hf x y v S2 n (k2.at hn) h3),k1.trans k2,rfl⟩
theorem Ia {m:ME} {p:Option Bool} (h:VE A m (rV D.bl) p):VB A (mB m) p:=λv hv S0 e F S hs=>by
 obtain ⟨d,S',h1,h2,rfl⟩:=h v hv S0 e F S hs;exact ⟨S',JX h1,h2⟩
theorem R0 {m:ME} {p:Option Bool} (h:VE A m (rV D.bl) p):VB A (OM m) p:=λv hv S0 e F S hs=>by
 obtain ⟨d,S',h1,h2,rfl⟩:=h v hv S0 e F S hs;refine ⟨S',?_,h2⟩;unfold OM;rw [h1];rfl
theorem TN:VB A Ji (some true):=λv hv S0 e F S hs=>by cases hv;exact ⟨S,rfl,Keeps.refl S⟩
theorem Mz {t:MT} {p:Option Bool} (h:VB A t p):VB A (MH t) (p.bind λb=>some (!b)):=λv hv S0 e F S hs=>by
 obtain ⟨x,h1,h2⟩:=BK hv;cases h2;obtain ⟨S',h3,h4⟩:=h x h1 S0 e F S hs;exact ⟨S',NE h3,h4⟩
theorem PK {t u:MT} {p q:Option Bool} (h:VB A t p) (hu:VB A u q):VB A (NK t u) (p.bind λb=>if b=true then q else some false):=λv hv S0 e F S hs=>by
 obtain ⟨x,h1,h2⟩:=BK hv;obtain ⟨S1,h3,h4⟩:=h x h1 S0 e F S hs
 cases x with
 | true=>
  obtain ⟨S2,h5,h6⟩:=hu v h2 S0 e _ S1 (hs.grow h4);exact ⟨S2,(aF h3).trans h5,h4.trans h6⟩
 | false=>cases h2;exact ⟨S1,aE h3,h4⟩
theorem aT {t u:MT} {p q:Option Bool} (h:VB A t p) (hu:VB A u q):VB A (mOr t u) (p.bind λb=>if b=true then some true else q):=λv hv S0 e F S hs=>by
 obtain ⟨x,h1,h2⟩:=BK hv;obtain ⟨S1,h3,h4⟩:=h x h1 S0 e F S hs
 cases x with
 | false=>
  obtain ⟨S2,h5,h6⟩:=hu v h2 S0 e _ S1 (hs.grow h4);exact ⟨S2,(W1 h3).trans h5,h4.trans h6⟩
 | true=>cases h2;exact ⟨S1,W2 h3,h4⟩
theorem Ik {enc:α->D}:∀(v:α) (S S1:Sto) (d:D) (S':Sto),S.length<=S1.length->rV enc v S1 d S'->rV enc v S d S':=λ_ _ _ _ _ _ h=>h
theorem Qu {ob:α->Ob}:∀(v:α) (S S1:Sto) (d:D) (S':Sto),S.length<=S1.length->rN ob v S1 d S'->rN ob v S d S':=λ_ _ _ _ _ l ⟨n,h1,h2,h3⟩=>⟨n,h1,Ao l h2,h3⟩
inductive Fw (ρ σ:Type) where
 | rt (r:ρ) | nx (s:σ) | bk (s:σ) | ct (s:σ)
def VG (S0:Sto) (F:Fz) (S':Sto) (R:Rk ρ) (B:σ->List Sl) (g:Fl):Fw ρ σ->Prop
 | .nx s=>∃e' F',g=.nx e'/\Vs S0 (B s) e' F' S'/\Fle F F'
 | .ct s=>∃e' F',g=.ct e'/\Vs S0 (B s) e' F' S'/\Fle F F'
 | .bk s=>∃e' F',g=.bk e'/\Vs S0 (B s) e' F' S'/\Fle F F'
 | .rt r=>∃d,g=.rt d/\R r S0 d S'/\Keeps S0 S'
def VS (A:List Sl) (b:MS) (R:Rk ρ) (p:Option (Fw ρ σ)) (B:σ->List Sl):Prop:=∀f,p=some f->∀S0 e F S,Vs S0 A e F S->∃g S',b e S=.ok g S'/\VG S0 F S' R B g f
def CF (p:Option (Fw ρ σ)) (q:σ->Option (Fw ρ τ)):Option (Fw ρ τ):=match p with
 | some (.nx s)=>q s
 | some (.rt r)=>some (.rt r)
 | _=>none
theorem VG.up {S0:Sto} {F F1:Fz} {S':Sto} {R:Rk ρ} {B:σ->List Sl} {g:Fl} {f:Fw ρ σ} (l:Fle F F1) (h:VG S0 F1 S' R B g f):VG S0 F S' R B g f:=by
 cases f with
 | rt r=>exact h
 | nx s=>obtain ⟨e',F',h1,h2,h3⟩:=h;exact ⟨e',F',h1,h2,l.trans h3⟩
 | bk s=>obtain ⟨e',F',h1,h2,h3⟩:=h;exact ⟨e',F',h1,h2,l.trans h3⟩
 | ct s=>obtain ⟨e',F',h1,h2,h3⟩:=h;exact ⟨e',F',h1,h2,l.trans h3⟩
theorem Bz {a b:MS} {R:Rk ρ} {p:Option (Fw ρ σ)} {q:σ->Option (Fw ρ τ)} {B:σ->List Sl} {C:τ->List Sl} (ha:VS A a R p B) (hb:∀s,VS (B s) b R (q s) C):VS A (Bd a b) R (CF p q) C:=λf hf S0 e F S hs=>by
 cases p with
 | none=>cases hf
 | some w=>
  obtain ⟨g,S1,h1,h2⟩:=ha _ rfl S0 e F S hs
  cases w with
  | nx s=>
   obtain ⟨e1,F1,rfl,h2,h3⟩:=h2;obtain ⟨g2,S2,h4,h5⟩:=hb s f hf S0 e1 F1 S1 h2;exact ⟨g2,S2,(Bl h1).trans h4,h5.up h3⟩
  | rt r=>
   cases hf;obtain ⟨d,rfl,h2,h3⟩:=h2;exact ⟨_,S1,SF h1,d,rfl,h2,h3⟩
  | bk s=>cases hf
  | ct s=>cases hf
theorem II {R:Rk ρ} {B:σ->List Sl} {s:σ} (w:Wk A (B s)):VS A sNx R (some (.nx s)) B:=λf hf S0 e F S hs=>by
 cases hf;exact ⟨_,S,rfl,e,F,rfl,hs.weak w,Fle.refl F⟩
def LN (g:σ->τ) (p:Option (Fw ρ σ)):Option (Fw ρ τ):=match p with
 | some (.nx s)=>some (.nx (g s))
 | some (.rt r)=>some (.rt r)
 | some (.bk s)=>some (.bk (g s))
 | some (.ct s)=>some (.ct (g s))
 | none=>none
theorem HC {b:MS} {R:Rk ρ} {p:Option (Fw ρ σ)} {g:σ->τ} {B:σ->List Sl} {C:τ->List Sl} (h:VS A b R p B) (w:∀s,Wk (B s) (C (g s))):VS A b R (LN g p) C:=λf hf S0 e F S hs=>by
 cases p with
 | none=>cases hf
 | some x=>
  obtain ⟨g,S1,h1,h2⟩:=h _ rfl S0 e F S hs
  cases x with
  | nx s=>cases hf;obtain ⟨e1,F1,rfl,h2,h3⟩:=h2;exact ⟨_,S1,h1,e1,F1,rfl,h2.weak (w s),h3⟩
  | rt r=>cases hf;exact ⟨_,S1,h1,h2⟩
  | bk s=>cases hf;obtain ⟨e1,F1,rfl,h2,h3⟩:=h2;exact ⟨_,S1,h1,e1,F1,rfl,h2.weak (w s),h3⟩
  | ct s=>cases hf;obtain ⟨e1,F1,rfl,h2,h3⟩:=h2;exact ⟨_,S1,h1,e1,F1,rfl,h2.weak (w s),h3⟩
theorem GR {m:ME} {enc:α->D} {R:Rk ρ} {p:Option α} {i:Nat} (h:VE A m (rV enc) p):VS A (CP i m) R (p.bind λv=>some (.nx v)) (λv=>A.set i (.v (enc v))):=λf hf S0 e F S hs=>by
 obtain ⟨v,h1,h2⟩:=BK hf;cases h2;obtain ⟨d,S',h3,h4,rfl⟩:=h v h1 S0 e F S hs;exact ⟨_,S',Hq h3,_,_,rfl,(hs.grow h4).set i rfl,hs.fle S'⟩
theorem JL {m:ME} {ob:α->Ob} {R:Rk ρ} {p:Option α} {i:Nat} (h:VE A m (rN ob) p):VS A (CP i m) R (p.bind λv=>some (.nx v)) (λv=>A.set i (.y (ob v))):=λf hf S0 e F S hs=>by
 obtain ⟨v,h1,h2⟩:=BK hf;cases h2;obtain ⟨d,S',h3,h4,n,rfl,h5,h6⟩:=h v h1 S0 e F S hs;exact ⟨_,S',Hq h3,_,_,rfl,(hs.grow h4).set (a:=.y (ob v)) i ⟨n,rfl,Nf h5 h6,Ao hs.kp.1 h5⟩,hs.fle S'⟩
theorem MV {m:ME} {ob:α->Ob} {R:Rk ρ} {p:Option α} {i:Nat} (h:VE A m (rN ob) p):VS A (CP i m) R (p.bind λv=>some (.nx v)) (λv=>A.set i (.w i (ob v))):=λf hf S0 e F S hs=>by
 obtain ⟨v,h1,h2⟩:=BK hf;cases h2;obtain ⟨d,S',h3,h4,n,rfl,h5,h6⟩:=h v h1 S0 e F S hs;obtain ⟨F',h7,h8⟩:=hs.own h4 (i:=i) h5 h6;exact ⟨_,S',Hq h3,_,F',rfl,h7,h8⟩
theorem Ee {m:ME} {enc:ρ->D} {p:Option ρ} {B:σ->List Sl} (h:VE A m (rV enc) p):VS A (Ea m) (rV enc) (p.bind λv=>some (.rt v)) B:=λf hf S0 e F S hs=>by
 obtain ⟨v,h1,h2⟩:=BK hf;cases h2;obtain ⟨d,S',h3,h4,rfl⟩:=h v h1 S0 e F S hs;exact ⟨_,S',LH h3,_,rfl,rfl,hs.kp.trans h4⟩
theorem Yf {m:ME} {ob:ρ->Ob} {p:Option ρ} {B:σ->List Sl} (h:VE A m (rN ob) p):VS A (Ea m) (rN ob) (p.bind λv=>some (.rt v)) B:=λf hf S0 e F S hs=>by
 obtain ⟨v,h1,h2⟩:=BK hf;cases h2;obtain ⟨d,S',h3,h4,n,rfl,h5,h6⟩:=h v h1 S0 e F S hs;exact ⟨_,S',LH h3,_,rfl,⟨n,rfl,Ao hs.kp.1 h5,h6⟩,hs.kp.trans h4⟩
theorem Ye {i:Nat} {ob:ρ->Ob} {v:ρ} {B:σ->List Sl} {k:Nat} (h:A[i]?=some (.w k (ob v))):VS A (Ea (AK i)) (rN ob) (some (.rt v)) B:=λf hf S0 e F S hs=>by
 cases hf;obtain ⟨x,h1,n,rfl,h2,h3⟩:=hs.sl i _ h;exact ⟨_,S,LH (d:=.ref n) (by unfold AK;rw [h1]),_,rfl,⟨n,rfl,(hs.ow _ _ h2).1,h3⟩,hs.kp⟩
theorem IJ {t:MT} {a b:MS} {R:Rk ρ} {pt:Option Bool} {p q:Option (Fw ρ σ)} {B:σ->List Sl} (ht:VB A t pt) (ha:VS A a R p B) (hb:VS A b R q B):VS A (sIf t a b) R (pt.bind λc=>if c=true then p else q) B:=λf hf S0 e F S hs=>by
 obtain ⟨c,h1,h2⟩:=BK hf;obtain ⟨S1,h3,h4⟩:=ht c h1 S0 e F S hs
 cases c with
 | true=>
  obtain ⟨g,S2,h5,h6⟩:=ha f h2 S0 e _ S1 (hs.grow h4);exact ⟨g,S2,(Hb h3).trans h5,h6.up (hs.fle S1)⟩
 | false=>
  obtain ⟨g,S2,h5,h6⟩:=hb f h2 S0 e _ S1 (hs.grow h4);exact ⟨g,S2,(Hb h3).trans h5,h6.up (hs.fle S1)⟩
def YB (l:List α) (x:α):Option (List α):=if l.length < 1000000 then some (l++[x]) else none
theorem cb {n:Nat} (h:n < 1000000):n < sizeLine:=Ab h (by decide)
theorem le24 {n:Nat} (h:n<=1000000):n<=sizeLine:=Ao h (by decide)
theorem V1 {m:ME} {enc:α->D} {R:Rk ρ} {p:Option α} {i:Nat} {l:List α} (hi:A[i]?=some (.w i (oL enc l))) (h:VE A m (rV enc) p) (ht:((A.set i .u).all (Sl.oth i))=true) :
  VS A (Eh (Jt (AK i) m)) R (p.bind λv=>(YB l v).bind λl'=>some (.nx l')) (λl'=>A.set i (.w i (oL enc l'))):=λf hf S0 e F S hs=>by
 obtain ⟨v,h1,h2⟩:=BK hf;obtain ⟨l',h2,h0⟩:=BK h2;cases h0;unfold YB at h2;split at h2
 ·rename_i hl
  cases h2;obtain ⟨x,g1,n,rfl,g2,g3⟩:=hs.sl i _ hi;obtain ⟨d,S',h3,h4,rfl⟩:=h v h1 S0 e F S hs;have hg:=hs.grow h4;have hx:=Nt (mo:=AK i) (e:=e) (S:=S) (S1:=S) (n:=n) (by unfold AK;rw [g1]) g3 h3 (h4.at g3) (by rw [AF];exact cb hl);rw [show l.map enc++[enc v]=(l++[v]).map enc by simp] at hx;exact ⟨_,_,Eu hx,e,_,rfl,hg.put ht hi g1 (by rw [Gh (D9 g3)];exact g2),hs.fle S'⟩
 ·cases h2
theorem Yi {m:ME} {Rm:Rk α} {R:Rk ρ} {p:Option α} (h:VE A m Rm p):VS A (Eh m) R (p.bind λ_=>some (.nx ())) (λ_:Unit=>A):=λf hf S0 e F S hs=>by
 obtain ⟨v,h1,h2⟩:=BK hf;cases h2;obtain ⟨d,S',h3,h4,_⟩:=h v h1 S0 e F S hs;exact ⟨_,S',Eu h3,e,_,rfl,hs.grow h4,hs.fle S'⟩
def VT (g:MG) (enc:α->D) (t:α->List Sl->List Sl):Prop:=∀x S0 A e F S,Vs S0 A e F S->∃e',g (enc x) e S=.ok e' S/\Vs S0 (t x A) e' F S
theorem KG {enc:α->D} {i:Nat}:VT (tgN i) enc (λx A=>A.set i (.v (enc x))):=λx S0 A e F S hs=>⟨_,rfl,hs.set (a:=.v (enc x)) i rfl⟩
theorem Yd {a:α->D} {b:β->D} {i j:Nat}:VT (IK 2 (C7 (tgN i) (C7 (tgN j) Ic))) (eP a b) (λx A=>(A.set i (.v (a x.1))).set j (.v (b x.2))):=λx S0 A e F S hs=>⟨_,rfl,(hs.set (a:=.v (a x.1)) i rfl).set (a:=.v (b x.2)) j rfl⟩
def Gf:List α->σ->(σ->α->Option (Fw ρ σ))->Option (Fw ρ σ)
 | [],s,_=>some (.nx s)
 | x :: l,s,q=>match q s x with
  | some (.nx s')=>Gf l s' q
  | some (.ct s')=>Gf l s' q
  | some (.bk s')=>some (.nx s')
  | some (.rt r)=>some (.rt r)
  | none=>none
theorem Yh {enc:α->D} {g:MG} {t:α->List Sl->List Sl} {b:MS} {R:Rk ρ} {q:σ->α->Option (Fw ρ σ)} {B:σ->List Sl} (hg:VT g enc t) (hb:∀s x,VS (t x (B s)) b R (q s x) B) {w:Gm} {S0:Sto} {F1:Fz} {full:List α}
  (hw:∀F'' S'',Fle F1 F''->(∀n o,F'' n=.fz o->S''[n]?=some o)->w S''=some (full.map enc)):∀(l:List α) (k:Nat),full.drop k=l->∀(s:σ) (f:Fw ρ σ),Gf l s q=some f->∀e F S,Vs S0 (B s) e F S->Fle F1 F->∃h S',Hd w g b (l.length) k e S=.ok h S'/\VG S0 F1 S' R B h f:=by
 intro l
 induction l with
 | nil=>
  intro k hk s f hf e F S hs hF;cases hf
  have:full.length<=k:=by
   have:=congrArg DQ hk;rw [Cq,EZ] at this
   lia
  refine ⟨_,S,?_,e,F,rfl,hs,hF⟩;unfold Hd;rw [hw F S hF hs.fz];dsimp only;rw [CH (by rw [AF];exact this)]
 | cons x l ih=>
  intro k hk s f hf e F S hs hF
  have hx:full[k]?=some x:=by
   have:=congrArg (λz=>z[0]?) hk;rw [Eb] at this;simpa using this
  have hk':full.drop (k+1)=l:=by
   have e1:full.drop (k+1)=(full.drop k).drop 1:=by rw [OV]
   exact e1.trans (congrArg (List.drop 1) hk)
  obtain ⟨e1,g1,g2⟩:=hg x S0 _ e F S hs
  have run:∀h S',b e1 S=.ok h S'->Hd w g b ((x :: l).length) k e S=(match h with
    | .nx e2=>Hd w g b l.length (k+1) e2 S'
    | .ct e2=>Hd w g b l.length (k+1) e2 S'
    | .bk e2=>.ok (.nx e2) S'
    | .rt d=>.ok (.rt d) S'
    | .ex c e2=>.ok (.ex c e2) S'):=λh S' hb'=>by
   show Hd w g b (l.length+1) k e S=_
   conv=>lhs;unfold Hd
   rw [hw F S hF hs.fz];dsimp only;rw [Ae,hx];dsimp only [di];rw [g1];dsimp only [Res.bind];rw [hb']
   all_goals (cases h <;> rfl)
  unfold Gf at hf;split at hf
  ·rename_i s' hq
   obtain ⟨h,S1,h1,e2,F2,rfl,h2,h3⟩:=hb s x _ hq S0 e1 F S g2;rw [run _ _ h1];exact ih (k+1) hk' s' f hf e2 F2 S1 h2 (hF.trans h3)
  ·rename_i s' hq
   obtain ⟨h,S1,h1,e2,F2,rfl,h2,h3⟩:=hb s x _ hq S0 e1 F S g2;rw [run _ _ h1];exact ih (k+1) hk' s' f hf e2 F2 S1 h2 (hF.trans h3)
  ·rename_i s' hq
   cases hf;obtain ⟨h,S1,h1,e2,F2,rfl,h2,h3⟩:=hb s x _ hq S0 e1 F S g2;rw [run _ _ h1];exact ⟨_,S1,rfl,e2,F2,rfl,h2,hF.trans h3⟩
  ·rename_i r hq
   cases hf;obtain ⟨h,S1,h1,d,rfl,h2,h3⟩:=hb s x _ hq S0 e1 F S g2;rw [run _ _ h1];exact ⟨_,S1,rfl,d,rfl,h2,h3⟩
  ·cases hf
theorem K7 {enc:α->D} {mi:MI} {g:MG} {t:α->List Sl->List Sl} {b:MS} {R:Rk ρ} {p:Option (List α)} {q:σ->α->Option (Fw ρ σ)} {B:σ->List Sl} {s0:σ} (hi:VI A mi enc p) (hg:VT g enc t) (w0:Wk A (B s0)) (hb:∀s x,VS (t x (B s)) b R (q s x) B) :
  VS A (Ih mi g b) R (p.bind λl=>Gf l s0 q) B:=λf hf S0 e F S hs=>by
 obtain ⟨l,h1,h2⟩:=BK hf;obtain ⟨w,S1,h3,h4,h5⟩:=hi l h1 S0 e F S hs;have hg1:=hs.grow h4
 have hl:CK w S1=l.length:=by unfold CK;rw [h5 _ S1 (Fle.refl _) hg1.fz];exact AF _
 obtain ⟨h,S2,h6,h7⟩:=Yh hg hb h5 l 0 rfl s0 f h2 e _ S1 (hg1.weak w0) (Fle.refl _);refine ⟨h,S2,?_,h7.up (hs.fle S1)⟩;rw [Nb h3,hl];exact h6
def Nk (c:α->Option Bool) (m:α->Option β):List α->Option (List β)
 | []=>some []
 | x :: l=>(c x).bind λb=>if b=true then (m x).bind λy=>(Nk c m l).bind λys=>some (y :: ys) else Nk c m l
def JA (l:List α) (c:α->Option Bool) (m:α->Option β):Option (List β):=if l.length<=1000000 then Nk c m l else none
theorem V2 {enc:α->D} {eb:β->D} {g:MG} {P:List (Option D)->Prop} {T:α->List Sl} {c:MT} {m:ME} {pc:α->Option Bool} {pm:α->Option β}
  (hg:∀x S0 e F S pre,P pre->Vs S0 A e F S->∃pre',g (enc x) (pre++e) S=.ok (pre'++e) S/\P pre'/\Vs S0 (T x) (pre'++e) F S)
  (hc:∀x,VB (T x) c (pc x)) (hm:∀x,VE (T x) m (rV eb) (pm x)) {w:Gm} {S0:Sto} {e:Lo} {full:List α} {S1:Sto} (hf:full.length<=1000000) (hw:∀S'',Keeps S1 S''->w S''=some (full.map enc)) :
  ∀(l:List α) (k:Nat),full.drop k=l->∀(r:List β),Nk pc pm l=some r->∀pre F S acc,P pre->Vs S0 A e F S->Keeps S1 S->acc.length<=k->∃S',EC w g c m l.length k (pre++e) S acc=.ok (acc++r.map eb) S'/\Keeps S S':=by
 intro l
 induction l with
 | nil=>
  intro k hk r hr pre F S acc hp hs hk1 ha;cases hr
  have:full.length<=k:=by
   have:=congrArg DQ hk;rw [Cq,EZ] at this
   lia
  refine ⟨S,?_,Keeps.refl S⟩;unfold EC;rw [hw S hk1];dsimp only;rw [CH (by rw [AF];exact this),IV,BE]
 | cons x l ih=>
  intro k hk r hr pre F S acc hp hs hk1 ha
  have hx:full[k]?=some x:=by
   have:=congrArg (λz=>z[0]?) hk;rw [Eb] at this;simpa using this
  have hk':full.drop (k+1)=l:=by
   have e1:full.drop (k+1)=(full.drop k).drop 1:=by rw [OV]
   exact e1.trans (congrArg (List.drop 1) hk)
  have hkl:k < full.length:=(AE.mp hx).1;obtain ⟨pre',g1,g2,g3⟩:=hg x S0 e F S pre hp hs;unfold Nk at hr;obtain ⟨b,h1,h2⟩:=BK hr;obtain ⟨S2,h3,h4⟩:=hc x b h1 S0 _ F S g3;have hs2:=hs.grow h4
  show ∃S',EC w g c m (l.length+1) k (pre++e) S acc=_/\_
  conv=>arg 1;ext S';arg 1;lhs;unfold EC
  rw [hw S hk1];dsimp only;rw [Ae,hx];dsimp only [di];rw [qX (BV ha (cb (Ab hkl hf))),g1];dsimp only [okR,Res.bind];rw [h3];dsimp only [okR,Res.bind]
  cases b with
  | true=>
   rw [qX rfl] at h2 ⊢;obtain ⟨y,h5,h6⟩:=BK h2;obtain ⟨ys,h6',h7⟩:=BK h6;cases h7;obtain ⟨d,S3,h8,h9,rfl⟩:=hm x y h5 S0 _ _ S2 (g3.grow h4);rw [h8];obtain ⟨S4,q1,q2⟩:=ih (k+1) hk' ys h6' pre' _ S3 (acc++[eb y]) g2 (hs2.grow h9) (hk1.trans (h4.trans h9)) (by rw [Ac,A9];lia);refine ⟨S4,?_,(h4.trans h9).trans q2⟩;show EC w g c m l.length (k+1) (pre'++e) S3 (acc++[eb y])=_;rw [q1,Az];rfl
  | false=>
   rw [qY AS] at h2 ⊢;obtain ⟨S4,q1,q2⟩:=ih (k+1) hk' r h2 pre' _ S2 acc g2 hs2 (hk1.trans h4) (by lia);exact ⟨S4,q1,h4.trans q2⟩
theorem TD {enc:α->D} {eb:β->D} {n:Nat} {mi:MI} {g:MG} {P:List (Option D)->Prop} {T:α->List Sl} {c:MT} {m:ME} {p:Option (List α)} {pc:α->Option Bool} {pm:α->Option β} (hi:VK A mi enc p) (h0:P (BG n none))
  (hg:∀x S0 e F S pre,P pre->Vs S0 A e F S->∃pre',g (enc x) (pre++e) S=.ok (pre'++e) S/\P pre'/\Vs S0 (T x) (pre'++e) F S)
  (hc:∀x,VB (T x) c (pc x)) (hm:∀x,VE (T x) m (rV eb) (pm x)):VL A (FT n mi g c m) eb (p.bind λl=>JA l pc pm):=λr hr S0 e F S hs=>by
 obtain ⟨l,h1,h2⟩:=BK hr;obtain ⟨w,S1,h3,h4,h5⟩:=hi l h1 S0 e F S hs;unfold JA at h2;split at h2
 ·rename_i hl
  have hs1:=hs.grow h4;obtain ⟨S2,h6,h7⟩:=V2 hg hc hm hl h5 l 0 rfl r h2 _ _ S1 [] h0 hs1 (Keeps.refl _) (AO _);refine ⟨S2,?_,h4.trans h7⟩;rw [Me h3,show CK w S1=l.length by unfold CK;rw [h5 S1 (Keeps.refl _)];exact AF _];exact h6
 ·cases h2
theorem QW {enc:α->D} {eb:β->D} {mi:MI} {c:MT} {m:ME} {p:Option (List α)} {pc:α->Option Bool} {pm:α->Option β} (hi:VK A mi enc p) (hc:∀x,VB (.v (enc x) :: A) c (pc x)) (hm:∀x,VE (.v (enc x) :: A) m (rV eb) (pm x)) :
  VL A (FT 1 mi (tgN 0) c m) eb (p.bind λl=>JA l pc pm):=
 TD (P:=λpre=>∃z,pre=[z]) hi ⟨none,rfl⟩ (λx S0 e F S pre hp hs=>by
  obtain ⟨z,rfl⟩:=hp
  exact ⟨[some (enc x)],rfl,⟨_,rfl⟩,hs.cons (a:=.v (enc x)) rfl⟩) hc hm
theorem QV {a:α->D} {b:γ->D} {eb:β->D} {mi:MI} {c:MT} {m:ME} {p:Option (List (α×γ))} {pc:α×γ->Option Bool} {pm:α×γ->Option β} (hi:VK A mi (eP a b) p) (hc:∀x:α×γ,VB (.v (a x.1) :: .v (b x.2) :: A) c (pc x)) (hm:∀x:α×γ,VE (.v (a x.1) :: .v (b x.2) :: A) m (rV eb) (pm x)) :
  VL A (FT 2 mi (IK 2 (C7 (tgN 0) (C7 (tgN 1) Ic))) c m) eb (p.bind λl=>JA l pc pm):=
 TD (P:=λpre=>∃z y,pre=[z,y]) hi ⟨none,none,rfl⟩ (λx S0 e F S pre hp hs=>by
  obtain ⟨z,y,rfl⟩:=hp
  exact ⟨[some (a x.1),some (b x.2)],rfl,⟨_,_,rfl⟩,(hs.cons (a:=.v (b x.2)) rfl).cons (a:=.v (a x.1)) rfl⟩) hc hm
theorem Hn {ml:ML} {enc:α->D} {p:Option (List α)} (h:VL A ml enc p):VE A (Ey ml) (rN (oL enc)) p:=λv hv S0 e F S hs=>by
 obtain ⟨S',h1,h2⟩:=h v hv S0 e F S hs;exact ⟨_,_,Pf h1,h2.trans (Keeps.app _ _),_,rfl,h2.1,Dp _ _⟩
inductive Ar where
 | v (d:D) | z (o:Ob) | q (P:(Nat->Option Ob)->D->Prop)
def Ar.ok (S:Sto):Ar->D->Prop
 | .v d,x=>x=d
 | .z o,x=>∃n,x=.ref n/\S[n]?=some o
 | .q P,x=>∀L:Nat->Option Ob,(∀n o,S[n]?=some o->L n=some o)->P L x
def Ar.sl:Ar->Sl
 | .v d=>.v d
 | .z o=>.z o
 | .q P=>.q P
def Jl (S:Sto):List Ar->List D->Prop
 | [],[]=>True
 | a :: as,d :: ds=>a.ok S d/\Jl S as ds
 | _,_=>False
theorem Jl.len {S:Sto}:∀ {as:List Ar} {ds:List D},Jl S as ds->ds.length=as.length
 | [],[],_=>rfl
 | _ :: as,_ :: ds,h=>by rw [Au,Au,Jl.len h.2]
 | [],_ :: _,h=>h.elim
 | _ :: _,[],h=>h.elim
theorem Jl.at {S:Sto}:∀ {as:List Ar} {ds:List D},Jl S as ds->∀(i:Nat) (a:Ar),as[i]?=some a->∃d,ds[i]?=some d/\a.ok S d
 | [],[],_,i,a,h=>by simp at h
 | b :: as,d :: ds,h,0,a,q=>by cases q;exact ⟨d,rfl,h.1⟩
 | b :: as,d :: ds,h,i+1,a,q=>Jl.at h.2 i a q
 | [],_ :: _,h,_,_,_=>h.elim
 | _ :: _,[],h,_,_,_=>h.elim
def VF (f:List D->Sto->Res D) (as:List Ar) (R:Rk α) (p:Option α):Prop:=∀v,p=some v->∀S ds,Jl S as ds->∃d S',f ds S=.ok d S'/\Keeps S S'/\R v S d S'
def VA (A:List Sl) (ml:ML) (p:Option γ) (ar:γ->List Ar):Prop:=∀v,p=some v->∀S0 e F S,Vs S0 A e F S->∃ds S',ml e S=.ok ds S'/\Keeps S S'/\Jl S' (ar v) ds
theorem DX:VA A BM (some ()) (λ_=>[]):=λv hv S0 e F S hs=>⟨[],S,rfl,Keeps.refl S,trivial⟩
theorem Fa {m:ME} {ml:ML} {enc:α->D} {p:Option α} {q:Option γ} {ar:γ->List Ar} (h:VE A m (rV enc) p) (hl:VA A ml q ar):VA A (AY m ml) (p.bind λx=>q.bind λy=>some (x,y)) (λz=>.v (enc z.1) :: ar z.2):=λv hv S0 e F S hs=>by
 obtain ⟨x,h1,h2⟩:=BK hv;obtain ⟨y,h2',h3⟩:=BK h2;cases h3;obtain ⟨d,S1,h4,h5,rfl⟩:=h x h1 S0 e F S hs;obtain ⟨ds,S2,h6,h7,h8⟩:=hl y h2' S0 e _ S1 (hs.grow h5);exact ⟨_,S2,Cu h4 h6,h5.trans h7,rfl,h8⟩
theorem KN {m:ME} {ml:ML} {ob:α->Ob} {p:Option α} {q:Option γ} {ar:γ->List Ar} (h:VE A m (rO ob) p) (hl:VA A ml q ar):VA A (AY m ml) (p.bind λx=>q.bind λy=>some (x,y)) (λz=>.z (ob z.1) :: ar z.2):=λv hv S0 e F S hs=>by
 obtain ⟨x,h1,h2⟩:=BK hv;obtain ⟨y,h2',h3⟩:=BK h2;cases h3;obtain ⟨d,S1,h4,h5,n,rfl,h0⟩:=h x h1 S0 e F S hs;obtain ⟨ds,S2,h6,h7,h8⟩:=hl y h2' S0 e _ S1 (hs.grow h5);exact ⟨_,S2,Cu h4 h6,h5.trans h7,⟨n,rfl,h7.at h0⟩,h8⟩
theorem Ct {f:List D->Sto->Res D} {n:Nat} {ml:ML} {p:Option γ} {ar:γ->List Ar} {R:Rk α} {q:γ->Option α} (ha:VA A ml p ar) (hf:∀z,VF f (ar z) R (q z)) (hn:∀z,(ar z).length=n) (hR:∀v S S1 d S',S.length<=S1.length->R v S1 d S'->R v S d S'):VE A (CB n f ml) R (p.bind q):=λv hv S0 e F S hs=>by
 obtain ⟨z,h1,h2⟩:=BK hv;obtain ⟨ds,S1,h3,h4,h5⟩:=ha z h1 S0 e F S hs;obtain ⟨d,S2,h6,h7,h8⟩:=hf z v h2 S1 ds h5;exact ⟨d,S2,(GB h3 (h5.len.trans (hn z))).trans h6,h4.trans h7,hR _ _ _ _ _ h4.1 h8⟩
def O1 (S:Sto):Fz:=λn=>match S[n]? with
 | some o=>.fz o
 | none=>.no
theorem Vs.start {as:List Ar} {ds:List D} {n:Nat} (h:Jl S as ds):Vs S (as.map Ar.sl++BG (n - as.length) .u) (GY n ds) (O1 S) S:=by
 refine ⟨Keeps.refl S,λn o q=>?_,λn i q=>?_,λn hn=>by unfold O1;rw [CH hn],λi a ha=>?_⟩
 ·unfold O1 at q
  split at q
  ·rename_i o' ho;cases q;exact ho
  ·cases q
 ·unfold O1 at q
  split at q <;> cases q
 ·unfold GY
  by_cases c:i < as.length
  ·rw [AV (by rw [AF];exact c),Ae] at ha
   rw [AV (by rw [AF,h.len];exact c),Ae]
   cases hq:as[i]? with
   | none=>rw [hq] at ha;cases ha
   | some b=>
    rw [hq] at ha;cases ha;obtain ⟨d,h1,h2⟩:=h.at i b hq;refine ⟨some d,by rw [h1];rfl,?_⟩
    cases b with
    | v x=>exact congrArg some h2
    | z o=>obtain ⟨m,h3,h4⟩:=h2;exact ⟨m,congrArg some h3,by unfold O1;rw [h4]⟩
    | q P=>exact ⟨d,rfl,λL hL=>h2 L λn o q=>hL n o (by unfold O1;rw [q])⟩
  ·rw [As (by rw [AF];lia)] at ha
   rw [AF,CY] at ha;split at ha
   ·rename_i hlt
    cases ha;refine ⟨none,?_,trivial⟩;rw [As (by rw [AF,h.len];lia),AF,h.len,CY,qX hlt]
   ·cases ha
def KW (p:Option (Fw ρ σ)):Option ρ:=match p with
 | some (.rt r)=>some r
 | _=>none
def ZY (p:Option (Fw Unit σ)):Option Unit:=match p with
 | some (.rt r)=>some ()
 | some (.nx _)=>some ()
 | _=>none
end
section
variable {S0 S S':Sto} {A B:List Sl} {e:Lo} {F:Fz} {α β γ δ ρ σ τ:Type}
section
variable {a b c:ME} {pa pb pc:Option Int}
theorem Rz (ha:VE A a (rV D.int) pa) (hb:VE A b (rV D.int) pb):VE A (m2 OQ a b) (rV D.int) (pa.bind λx=>pb.bind λy=>some (x+y)):=GU ha hb λx y z S h=>by cases h;rfl
theorem V6 (ha:VE A a (rV D.int) pa) (hb:VE A b (rV D.int) pb):VE A (m2 Yx a b) (rV D.int) (pa.bind λx=>pb.bind λy=>some (x - y)):=GU ha hb λx y z S h=>by cases h;rfl
def Uu (x y:Int):Option Int:=if VX x y then some (x * y) else none
def Ls (x y:Int):Option Int:=if YD x y then some (x / y) else none
def OL (x y:Int):Option Int:=if 0 < y then some (x % y) else none
def SJ (x y:Int):Option Int:=if aK x y then some (x ^ y.toNat) else none
theorem WA (ha:VE A a (rV D.int) pa) (hb:VE A b (rV D.int) pb):VE A (m2 Zm a b) (rV D.int) (pa.bind λx=>pb.bind λy=>Uu x y):=GU ha hb λx y z S h=>by
 unfold Uu at h;split at h
 ·rename_i hc;cases h;exact qX hc
 ·cases h
theorem MW (ha:VE A a (rV D.int) pa) (hb:VE A b (rV D.int) pb):VE A (m2 G3 a b) (rV D.int) (pa.bind λx=>pb.bind λy=>Ls x y):=GU ha hb λx y z S h=>by
 unfold Ls at h;split at h
 ·rename_i hc;cases h;exact qX hc
 ·cases h
theorem LA (ha:VE A a (rV D.int) pa) (hb:VE A b (rV D.int) pb):VE A (m2 JV a b) (rV D.int) (pa.bind λx=>pb.bind λy=>OL x y):=GU ha hb λx y z S h=>by
 unfold OL at h;split at h
 ·rename_i hc;cases h;exact Tj hc
 ·cases h
theorem Rx (ha:VE A a (rV D.int) pa) (hb:VE A b (rV D.int) pb):VE A (m2 Wq a b) (rV D.int) (pa.bind λx=>pb.bind λy=>SJ x y):=GU ha hb λx y z S h=>by
 unfold SJ at h;split at h
 ·rename_i hc;cases h;exact qX hc
 ·cases h
theorem HX {k:Int} (hk:(decide (0 < k)&&decide (k<=1000000))=true) (ha:VE A a (rV D.int) pa):VE A (m2 G3 a (mC (.int k))) (rV D.int) (pa.bind λx=>some (x / k)):=λv hv S0 e F S hs=>by
 obtain ⟨x,h1,h2⟩:=BK hv;cases h2;obtain ⟨d,S',h3,h4,rfl⟩:=ha x h1 S0 e F S hs;have hk':=CN _ _▸hk;exact ⟨_,S',Co h3 rfl (Xr (of_decide_eq_true hk'.1) (of_decide_eq_true hk'.2)),h4,rfl⟩
theorem JN {k:Int} (hk:decide (0 < k)=true) (ha:VE A a (rV D.int) pa):VE A (m2 JV a (mC (.int k))) (rV D.int) (pa.bind λx=>some (x % k)):=λv hv S0 e F S hs=>by
 obtain ⟨x,h1,h2⟩:=BK hv;cases h2;obtain ⟨d,S',h3,h4,rfl⟩:=ha x h1 S0 e F S hs;exact ⟨_,S',Co h3 rfl (Tj (of_decide_eq_true hk)),h4,rfl⟩
theorem bN (ha:VE A a (rV D.int) pa):VE A (SV a) (rV D.int) (pa.bind λx=>some (-x)):=λv hv S0 e F S hs=>by
 obtain ⟨x,h1,h2⟩:=BK hv;cases h2;obtain ⟨d,S',h3,h4,rfl⟩:=ha x h1 S0 e F S hs;exact ⟨_,S',by unfold SV;rw [h3];rfl,h4,rfl⟩
theorem eJ (ha:VE A a (rV D.int) pa) (hb:VE A b (rV D.int) pb):VE A (m2 ltD a b) (rV D.bl) (pa.bind λx=>pb.bind λy=>some (decide (x < y))):=GU ha hb λx y z S h=>by cases h;rfl
theorem eK (ha:VE A a (rV D.int) pa) (hb:VE A b (rV D.int) pb):VE A (m2 leD a b) (rV D.bl) (pa.bind λx=>pb.bind λy=>some (decide (x<=y))):=GU ha hb λx y z S h=>by cases h;rfl
theorem eM (ha:VE A a (rV D.int) pa) (hb:VE A b (rV D.int) pb):VE A (m2 gtD a b) (rV D.bl) (pa.bind λx=>pb.bind λy=>some (decide (y < x))):=GU ha hb λx y z S h=>by cases h;rfl
theorem WF {f g:D->D->Sto->Res D} {P Q:Int->Int->Bool} (hf:∀x y S,f (.int x) (.int y) S=.ok (.bl (P x y)) S) (hg:∀x y S,g (.int x) (.int y) S=.ok (.bl (Q x y)) S) (ha:VE A a (rV D.int) pa) (hb:VE A b (rV D.int) pb) (hc:VE A c (rV D.int) pc) :
  VE A (m3 f g a b c) (rV D.bl) (pa.bind λx=>pb.bind λy=>if P x y=true then pc.bind λz=>some (Q y z) else some false):=λv hv S0 e F S hs=>by
 obtain ⟨x,h1,hv⟩:=BK hv;obtain ⟨y,h2,h3⟩:=BK hv;obtain ⟨d1,S1,q1,k1,rfl⟩:=ha x h1 S0 e F S hs;obtain ⟨d2,S2,q2,k2,rfl⟩:=hb y h2 S0 e _ S1 (hs.grow k1);have e1:=hf x y S2
 cases hp:P x y with
 | false=>
  rw [hp] at h3 e1;cases h3;exact ⟨_,S2,ae q1 q2 e1,k1.trans k2,rfl⟩
 | true=>
  rw [hp] at h3 e1;rw [qX rfl] at h3;obtain ⟨w,h4,h5⟩:=BK h3;cases h5;obtain ⟨d3,S3,q3,k3,rfl⟩:=hc w h4 S0 e _ S2 ((hs.grow k1).grow k2);exact ⟨_,S3,Tn q1 q2 e1 q3 (hg y w S3),(k1.trans k2).trans k3,rfl⟩
theorem gD (x y:Int) (S:Sto):ltD (.int x) (.int y) S=.ok (.bl (decide (x < y))) S:=rfl
theorem gF (x y:Int) (S:Sto):leD (.int x) (.int y) S=.ok (.bl (decide (x<=y))) S:=rfl
theorem Yo (ha:VE A a (rV D.int) pa) (hb:VE A b (rV D.int) pb):VE A (mQ Lp (AY a (AY b BM))) (rV D.int) (pa.bind λx=>pb.bind λy=>some (if y < x then y else x)):=λv hv S0 e F S hs=>by
 obtain ⟨x,h1,hv⟩:=BK hv;obtain ⟨y,h2,h3⟩:=BK hv;cases h3;obtain ⟨d1,S1,q1,k1,rfl⟩:=ha x h1 S0 e F S hs;obtain ⟨d2,S2,q2,k2,rfl⟩:=hb y h2 S0 e _ S1 (hs.grow k1);exact ⟨_,S2,ZA (Cu q1 (Cu q2 rfl)) rfl,k1.trans k2,rfl⟩
theorem Yr {pa pb:Option Bool} (ha:VE A a (rV D.bl) pa) (hb:VE A b (rV D.bl) pb):VE A (Q5 a b) (rV D.bl) (pa.bind λx=>if x=true then pb else some false):=λv hv S0 e F S hs=>by
 obtain ⟨x,h1,h2⟩:=BK hv;obtain ⟨d,S',h3,h4,rfl⟩:=ha x h1 S0 e F S hs
 cases x with
 | true=>
  obtain ⟨d,S2,h5,h6,rfl⟩:=hb v h2 S0 e _ S' (hs.grow h4);exact ⟨_,S2,by unfold Q5;rw [h3];exact h5,h4.trans h6,rfl⟩
 | false=>cases h2;exact ⟨_,S',by unfold Q5;rw [h3];rfl,h4,rfl⟩
end
def EqN (n:Nat) (enc:α->D) [DecidableEq α]:Prop:=∀x y,eqP n (enc x) (enc y)=some (decide (x=y))
def NL (enc:α->D):Prop:=∀x S,Pi (enc x) S=none
theorem C2 {n:Nat}:EqN n D.int:=λx y=>by
 have:Jw (.int x) (.int y)=some (decide (x=y)):=rfl
 cases n <;> exact this
theorem T8 {n:Nat} {enc:α->D} [DecidableEq α] (h:EqN n enc):EqN (n+1) (eT enc):=by
 have key:∀l k:List α,eqL (eqP n) (l.map enc) (k.map enc)=some (decide (l=k)):=by
  intro l
  induction l with
  | nil=>intro k;cases k <;> rfl
  | cons x l ih=>
   intro k
   cases k with
   | nil=>rfl
   | cons y k=>
    rw [Ap,Ap];unfold eqL;rw [h x y,ih k]
    by_cases c:x=y <;> by_cases d:l=k <;> simp [c,d]
 exact λl k=>key l k
theorem Kn {n:Nat} {a:α->D} {b:β->D} [DecidableEq α] [DecidableEq β] (ha:EqN n a) (hb:EqN n b):EqN (n+1) (eP a b):=λx y=>by
 show eqL (eqP n) [a x.1,b x.2] [a y.1,b y.2]=_;unfold eqL eqL eqL;rw [ha,hb];obtain ⟨x1,x2⟩:=x;obtain ⟨y1,y2⟩:=y
 by_cases c:x1=y1 <;> by_cases d:x2=y2 <;> simp [c,d]
theorem NG:NL D.int:=λ_ _=>rfl
theorem W9 {enc:α->D}:NL (eT enc):=λ_ _=>rfl
section
variable {a b:ME} {enc:α->D} [DecidableEq α] {pa pb:Option α}
theorem Xt (h:EqN 8 enc) (n:NL enc) (neg:Bool) (x y:α) (S:Sto):eqD neg (enc x) (enc y) S=.ok (.bl (if neg then !decide (x=y) else decide (x=y))) S:=by
 unfold eqD eqB;rw [n x S,n y S];dsimp only;rw [h x y]
theorem TL (h:EqN 8 enc) (n:NL enc) (ha:VE A a (rV enc) pa) (hb:VE A b (rV enc) pb):VE A (m2 (eqD false) a b) (rV D.bl) (pa.bind λx=>pb.bind λy=>some (decide (x=y))):=GU ha hb λx y z S q=>by cases q;exact Xt h n false x y S
theorem V9 (h:EqN 8 enc) (n:NL enc) (ha:VE A a (rV enc) pa) (hb:VE A b (rV enc) pb):VE A (m2 (eqD true) a b) (rV D.bl) (pa.bind λx=>pb.bind λy=>some (!decide (x=y))):=GU ha hb λx y z S q=>by cases q;exact Xt h n true x y S
theorem RT (h:EqN 8 enc) (x:α):∀l:List α,Jj (enc x) (l.map enc)=some (decide (x∈l))
 | []=>by simp [Jj]
 | y :: l=>by
  rw [Ap];unfold Jj;rw [h y x,RT h x l]
  by_cases c:y=x
  ·subst c;simp
  ·have:¬x=y:=λz=>c z.symm
   simp [c,this]
theorem Sb (h:EqN 8 enc) (neg:Bool) (x:α) {l:List α} {d:D} {S:Sto} (hs:FP d S=some (l.map enc)):inA neg (enc x) d S=.ok (.bl (if neg then !decide (x∈l) else decide (x∈l))) S:=by
 show En (inD neg (enc x) d S) _=_
 have e:inD neg (enc x) d S=.ok (.bl (if neg then !decide (x∈l) else decide (x∈l))) S:=by
  unfold inD;rw [hs];dsimp only;rw [RT h]
 rw [e];rfl
theorem WD {pl:Option (List α)} (h:EqN 8 enc) (ha:VE A a (rV enc) pa) (hb:VE A b (rV (eT enc)) pl):VE A (m2 (inA false) a b) (rV D.bl) (pa.bind λx=>pl.bind λl=>some (decide (x∈l))):=GU ha hb λx l z S q=>by cases q;exact Sb h false x rfl
theorem Yn {pl:Option (List α)} (h:EqN 8 enc) (ha:VE A a (rV enc) pa) (hb:VE A b (rV (eT enc)) pl):VE A (m2 (inA true) a b) (rV D.bl) (pa.bind λx=>pl.bind λl=>some (!decide (x∈l))):=GU ha hb λx l z S q=>by cases q;exact Sb h true x rfl
theorem TH {pl:Option (List α)} (h:EqN 8 enc) (ha:VE A a (rV enc) pa) (hb:VE A b (rO (oL enc)) pl):VE A (m2 (inA true) a b) (rV D.bl) (pa.bind λx=>pl.bind λl=>some (!decide (x∈l))):=V8 ha hb λx l z S n hn q=>by cases q;exact Sb h true x (Dj hn)
theorem dG {n:Nat} (h:EqN n enc):∀l k:List α,eqL (eqP n) (l.map enc) (k.map enc)=some (decide (l=k)):=by
 intro l
 induction l with
 | nil=>intro k;cases k <;> rfl
 | cons x l ih=>
  intro k
  cases k with
  | nil=>rfl
  | cons y k=>
   rw [Ap,Ap];unfold eqL;rw [h x y,ih k]
   by_cases c:x=y <;> by_cases d:l=k <;> simp [c,d]
theorem U9 (h:EqN 8 enc) {l k:List α} {n m:Nat} {S:Sto} (neg:Bool) (hn:S[n]?=some (oL enc l)) (hm:S[m]?=some (oL enc k)):eqD neg (.ref n) (.ref m) S=.ok (.bl (if neg then !decide (l=k) else decide (l=k))) S:=by
 unfold eqD eqB;rw [Q6 hn,Q6 hm];dsimp only;rw [AF,AF]
 by_cases c:l.length=k.length
 ·rw [qX c,dG h]
 ·rw [qY c,wY λz=>c (by rw [z])]
theorem eN {f:D->D->Sto->Res D} {oa:β->Ob} {ob:γ->Ob} {ec:δ->D} {pa:Option β} {pb:Option γ} {g:β->γ->Option δ} (ha:VE A a (rO oa) pa) (hb:VE A b (rO ob) pb)
  (hf:∀x y z S (n m:Nat),S[n]?=some (oa x)->S[m]?=some (ob y)->g x y=some z->f (.ref n) (.ref m) S=.ok (ec z) S):VE A (m2 f a b) (rV ec) (pa.bind λx=>pb.bind λy=>g x y):=λv hv S0 e F S hs=>by
 obtain ⟨x,h1,hv⟩:=BK hv;obtain ⟨y,h2,h3⟩:=BK hv;obtain ⟨d1,S1,q1,k1,n,rfl,hn⟩:=ha x h1 S0 e F S hs;obtain ⟨d2,S2,q2,k2,m,rfl,hm⟩:=hb y h2 S0 e _ S1 (hs.grow k1);exact ⟨_,S2,Co q1 q2 (hf x y v S2 n m (k2.at hn) hm h3),k1.trans k2,rfl⟩
theorem bQ {pa pb:Option (List α)} (h:EqN 8 enc) (ha:VE A a (rO (oL enc)) pa) (hb:VE A b (rO (oL enc)) pb):VE A (m2 (eqD false) a b) (rV D.bl) (pa.bind λx=>pb.bind λy=>some (decide (x=y))):=eN ha hb λx y z S n m hn hm q=>by cases q;exact U9 h false hn hm
end
section
variable {a b m mo:ME} {enc:α->D} {ml:ML} {pl pk:Option (List α)} {pi:Option Int}
theorem aD (l:List α) (i:Int) (f:α->β):atI (l.map f) i=(atI l i).map f:=by
 unfold atI;rw [AF]
 cases ixN l.length i with
 | none=>rfl
 | some j=>show (l.map f)[j]?=(l[j]?).map f;rw [Ae]
theorem SZ {l:List α} {d:D} {S:Sto} {i:Int} {x:α} (hs:FP d S=some (l.map enc)) (h:atI l i=some x):ixA d (.int i) S=.ok (enc x) S:=by
 show En (ixD d (.int i) S) _=_
 have:ixD d (.int i) S=.ok (enc x) S:=by
  unfold ixD;rw [hs];dsimp only;rw [aD,h];rfl
 rw [this];rfl
theorem Mx (ha:VE A a (rV (eT enc)) pl) (hb:VE A b (rV D.int) pi):VE A (m2 ixA a b) (rV enc) (pl.bind λl=>pi.bind λi=>atI l i):=GU ha hb λl i z S q=>SZ rfl q
theorem WC {pl:Option (List Int)} (ha:VE A a (rV eF) pl) (hb:VE A b (rV D.int) pi):VE A (m2 ixA a b) (rV D.int) (pl.bind λl=>pi.bind λi=>atI l i):=GU ha hb λl i z S q=>SZ rfl q
theorem Ry (ha:VE A a (rO (oL enc)) pl) (hb:VE A b (rV D.int) pi):VE A (m2 ixA a b) (rV enc) (pl.bind λl=>pi.bind λi=>atI l i):=WG ha hb λl i z S n hn q=>SZ (Dj hn) q
theorem KM (ha:VE A a (rV (eT enc)) pl):VE A (HZ a) (rV D.int) (pl.bind λl=>some (l.length:Int)):=λv hv S0 e F S hs=>by
 obtain ⟨l,h1,h2⟩:=BK hv;cases h2;obtain ⟨d,S',h3,h4,rfl⟩:=ha l h1 S0 e F S hs;exact ⟨_,S',(SX (ds:=l.map enc) h3 rfl).trans (by rw [AF]),h4,rfl⟩
theorem TK {pl:Option (List Int)} (ha:VE A a (rV eF) pl):VE A (HZ a) (rV D.int) (pl.bind λl=>some (l.length:Int)):=λv hv S0 e F S hs=>by
 obtain ⟨l,h1,h2⟩:=BK hv;cases h2;obtain ⟨d,S',h3,h4,rfl⟩:=ha l h1 S0 e F S hs;exact ⟨_,S',(SX (ds:=l.map D.int) h3 rfl).trans (by rw [AF]),h4,rfl⟩
theorem TJ (ha:VE A a (rO (oL enc)) pl):VE A (HZ a) (rV D.int) (pl.bind λl=>some (l.length:Int)):=λv hv S0 e F S hs=>by
 obtain ⟨l,h1,h2⟩:=BK hv;cases h2;obtain ⟨d,S',h3,h4,n,rfl,hn⟩:=ha l h1 S0 e F S hs;exact ⟨_,S',(SX (ds:=l.map enc) h3 (Dj hn)).trans (by rw [AF]),h4,rfl⟩
theorem NW:∀ns:List Int,Ga (ns.map D.int)=some ns
 | []=>rfl
 | x :: ns=>by rw [Ap];unfold Ga;rw [NW ns];rfl
theorem K9 (ha:VE A a (rO (oL enc)) pl):VE A (Fe a) (rV (eT enc)) pl:=λl hv S0 e F S hs=>by
 obtain ⟨d,S',h3,h4,n,rfl,hn⟩:=ha l hv S0 e F S hs;exact ⟨_,S',KQ h3 (Dj hn),h4,rfl⟩
theorem Mr:VL A BM enc (some []):=λv hv S0 e F S hs=>by cases hv;exact ⟨S,rfl,Keeps.refl S⟩
theorem KH {p:Option α} (h:VE A m (rV enc) p) (hl:VL A ml enc pl):VL A (AY m ml) enc (p.bind λx=>pl.bind λl=>some (x :: l)):=λv hv S0 e F S hs=>by
 obtain ⟨x,h1,h2⟩:=BK hv;obtain ⟨l,h2',h3⟩:=BK h2;cases h3;obtain ⟨d,S1,h4,h5,rfl⟩:=h x h1 S0 e F S hs;obtain ⟨S2,h6,h7⟩:=hl l h2' S0 e _ S1 (hs.grow h5);exact ⟨S2,Cu h4 h6,h5.trans h7⟩
def OO (l:List α):Option (List α):=if l.length<=1000000 then some l else none
theorem IZ (h:VL A ml enc pl):VL A (DZ ml) enc (pl.bind OO):=λv hv S0 e F S hs=>by
 obtain ⟨l,h1,h2⟩:=BK hv;unfold OO at h2;split at h2
 ·rename_i hl
  cases h2;obtain ⟨S',h3,h4⟩:=h _ h1 S0 e F S hs;refine ⟨S',?_,h4⟩;unfold DZ;rw [h3];dsimp only [Res.bind];rw [qX (by rw [AF];exact le24 hl)]
 ·cases h2
theorem KL {a':α->D} {b':β->D} {pa:Option α} {pb:Option β} (ha:VE A a (rV a') pa) (hb:VE A b (rV b') pb):VE A (MF (AY a (AY b BM))) (rV (eP a' b')) (pa.bind λx=>pb.bind λy=>some (x,y)):=λv hv S0 e F S hs=>by
 obtain ⟨x,h1,hv⟩:=BK hv;obtain ⟨y,h2,h3⟩:=BK hv;cases h3;obtain ⟨d1,S1,q1,k1,rfl⟩:=ha x h1 S0 e F S hs;obtain ⟨d2,S2,q2,k2,rfl⟩:=hb y h2 S0 e _ S1 (hs.grow k1);exact ⟨_,S2,WK (ds:=[a' x,b' y]) (Cu q1 (Cu q2 rfl)) (by simp),k1.trans k2,rfl⟩
def VO (A:List Sl) (mo:MO) (p:Option (Option Int)):Prop:=∀v,p=some v->∀S0 e F S,Vs S0 A e F S->∃S',mo e S=.ok v S'/\Keeps S S'
theorem TC {pi:Option Int} (h:VE A m (rV D.int) pi):VO A (Qw m) (pi.bind λi=>some (some i)):=λv hv S0 e F S hs=>by
 obtain ⟨x,h1,h2⟩:=BK hv;cases h2;obtain ⟨d,S',h3,h4,rfl⟩:=h x h1 S0 e F S hs;exact ⟨S',by unfold Qw;rw [h3];rfl,h4⟩
theorem Xy (l:List α) (f:α->β) (lo hi:Option Int):Jx (l.map f) lo hi=(Jx l lo hi).map f:=by
 unfold Jx;rw [AF,<-List.map_drop,<-bB]
theorem Qo:∀rs:List (List Int),rs.all (λr=>!r.isEmpty)=true->Je (rs.map JT)=some rs
 | [],_=>rfl
 | [] :: rs,h=>by simp at h
 | (x :: r) :: rs,h=>by
  rw [bC,CN] at h;show Je (.tup ((x :: r).map D.int) :: rs.map JT)=_;unfold Je;rw [NW,Qo rs h.2]
theorem Rw (ha:VE A a (rV (eT enc)) pl):VI A (FU a) enc pl:=λl hv S0 e F S hs=>by
 obtain ⟨d,S',h3,h4,rfl⟩:=ha l hv S0 e F S hs;exact ⟨_,S',Kg (xs:=l.map enc) h3,h4,λ_ _ _ _=>rfl⟩
theorem bL (ha:VE A a (rN (oL enc)) pl):VI A (FU a) enc pl:=λl hv S0 e F S hs=>by
 obtain ⟨d,S',h3,h4,n,rfl,h5,h6⟩:=ha l hv S0 e F S hs;exact ⟨_,S',Kh h3 h6,h4,λF2 S2 hF h=>GK (h n _ (hF _ _ (Nf h5 h6)))⟩
theorem Yl {i:Nat} {l:List α} (h:A[i]?=some (.y (oL enc l))):VI A (FU (AK i)) enc (some l):=λ_ hv S0 e F S hs=>by
 cases hv;obtain ⟨x,h1,n,rfl,h2,_⟩:=hs.sl i _ h;have hn:=hs.fz _ _ h2;exact ⟨_,S,Kh (n:=n) (by unfold AK;rw [h1]) hn,Keeps.refl S,λF2 S2 hF h=>GK (h n _ (hF _ _ (by rw [Gh (D9 hn)];exact h2)))⟩
def Fo (lo:Int) (n:Nat):List Int:=(Bo n).map λi:Nat=>lo+i
def PX (j:Int):Option (List Int):=if -1000000<=j/\j<=1000000 then some (Fo 0 j.toNat) else none
def Y6 (i j:Int):Option (List Int):=if -1000000<=i/\i<=1000000/\-1000000<=j/\j<=1000000 then some (Fo i (j - i).toNat) else none
theorem SI (lo:Int) (n:Nat):ET lo n=(Fo lo n).map D.int:=by
 unfold ET Fo;rw [A7];rfl
theorem K8 (ha:VE A a (rV D.int) pi):VI A (iR1 (AY a BM)) D.int (pi.bind PX):=λl hv S0 e F S hs=>by
 obtain ⟨j,h1,h2⟩:=BK hv;obtain ⟨d,S',h3,h4,rfl⟩:=ha j h1 S0 e F S hs;unfold PX at h2;split at h2
 ·rename_i hj
  cases h2;exact ⟨_,S',Xc (j:=j) (Cu h3 rfl) hj.1 hj.2,h4,λ_ _ _ _=>congrArg some (SI _ _)⟩
 ·cases h2
theorem UV {pj:Option Int} (ha:VE A a (rV D.int) pi) (hb:VE A b (rV D.int) pj):VI A (iR2 (AY a (AY b BM))) D.int (pi.bind λi=>pj.bind λj=>Y6 i j):=λl hv S0 e F S hs=>by
 obtain ⟨i,h1,hv⟩:=BK hv;obtain ⟨j,h0,h2⟩:=BK hv;obtain ⟨d,S1,h3,h4,rfl⟩:=ha i h1 S0 e F S hs;obtain ⟨d,S2,h5,h6,rfl⟩:=hb j h0 S0 e _ S1 (hs.grow h4);unfold Y6 at h2;split at h2
 ·rename_i hj
  cases h2;exact ⟨_,S2,cr (i:=i) (j:=j) (Cu h3 (Cu h5 rfl)) hj.1 hj.2.1 hj.2.2.1 hj.2.2.2,h4.trans h6,λ_ _ _ _=>congrArg some (SI _ _)⟩
 ·cases h2
def Iy (l:List α):List (Int×α):=l.zipIdx.map λx=>((x.2:Int),x.1)
theorem VD (l:List α):LW (l.map enc)=(Iy l).map (eP D.int enc):=by
 unfold LW Iy;rw [List.zipIdx_map,A7,A7];rfl
theorem V3 (ha:VE A a (rV (eT enc)) pl):VI A (Pn a) (eP D.int enc) (pl.bind λl=>some (Iy l)):=λv hv S0 e F S hs=>by
 obtain ⟨l,h1,h2⟩:=BK hv;cases h2;obtain ⟨d,S',h3,h4,rfl⟩:=ha l h1 S0 e F S hs;refine ⟨TF (Fi (eT enc l)),S',?_,h4,λF2 S2 hF h=>?_⟩
 ·unfold Pn
  rw [h3];rfl
 ·show some (LW (l.map enc))=_
  rw [VD]
end
end
section
variable {S0 S S':Sto} {A B:List Sl} {e:Lo} {F:Fz} {α β γ δ ρ σ τ κ κ':Type}
def oDK (enc:α->D) (l:List (Int×α)):Ob:=.dK (l.map λx=>(B9 x.1,enc x.2))
theorem WI [DecidableEq κ] [DecidableEq κ'] {kk:κ->κ'} (hk:∀x y,kk x=kk y->x=y) (f:α->β) (l:List (κ×α)) (k:κ):DL (l.map λx=>(kk x.1,f x.2)) (kk k)=(DL l k).map f:=by
 unfold DL
 induction l with
 | nil=>rfl
 | cons x l ih=>
  rw [Ap,BO,BO]
  by_cases c:x.1=k
  ·rw [wX c,wX (show kk x.1=kk k by rw [c])]
   rfl
  ·rw [wY c,wY λz=>c (hk _ _ z)]
   exact ih
theorem Wh [DecidableEq κ] [DecidableEq κ'] {kk:κ->κ'} (hk:∀x y,kk x=kk y->x=y) (f:α->β) (l:List (κ×α)) (k:κ) (v:α):FB (l.map λx=>(kk x.1,f x.2)) (kk k) (f v)=(FB l k v).map λx=>(kk x.1,f x.2):=by
 have any:((l.map λx=>(kk x.1,f x.2)).any λkv=>decide (kv.1=kk k))=l.any λkv=>decide (kv.1=k):=by
  rw [List.any_map]
  congr 1
  funext x
  exact decide_eq_decide.mpr ⟨hk _ _,λz=>congrArg kk z⟩
 unfold FB;rw [any];split
 ·rw [A7,A7]
  refine BY λx _=>?_
  show (if kk x.1=kk k then (kk x.1,f v) else (kk x.1,f x.2))=_
  by_cases c:x.1=k
  ·show _=(λx:κ×α=>(kk x.1,f x.2)) (if x.1=k then (x.1,v) else x)
   rw [qX c,qX (show kk x.1=kk k by rw [c])]
  ·show _=(λx:κ×α=>(kk x.1,f x.2)) (if x.1=k then (x.1,v) else x)
   rw [qY c,qY λz=>c (hk _ _ z)]
 ·rw [Br]
  rfl
theorem Tr (x y:Int) (h:(B9 x:Key)=B9 y):x=y:=by cases h;rfl
theorem ak {enc:α->D} {l:List (Int×α)} {n:Nat} {S:Sto} (h:S[n]?=some (oDK enc l)) (k:Int):Ko (.ref n) (.int k) S=some ((DL l k).map enc):=by
 unfold Ko;dsimp only;rw [h];show some (DL _ (B9 k))=_;rw [WI Tr]
theorem dL {n:Nat} {y:D} {S:Sto} {o:Option D} (hq:FP (.ref n) S=none) (h:Ko (.ref n) y S=some o) (neg:Bool):inA neg y (.ref n) S=.ok (.bl (if neg then !o.isSome else o.isSome)) S:=by
 show En (inD neg y (.ref n) S) (IQ neg y (.ref n) S)=_;rw [show inD neg y (.ref n) S=.bad by unfold inD;rw [hq]];show IQ neg y (.ref n) S=_;unfold IQ;rw [h]
theorem dJ {n:Nat} {y:D} {S:Sto} {d:D} (hq:FP (.ref n) S=none) (h:Ko (.ref n) y S=some (some d)):ixA (.ref n) y S=.ok d S:=by
 show En (ixD (.ref n) y S) (Jh (.ref n) y S)=_;rw [show ixD (.ref n) y S=.bad by unfold ixD;rw [hq]];show Jh (.ref n) y S=_;unfold Jh;rw [h]
theorem ej {enc:α->D} {l:List (Int×α)} {n:Nat} {S:Sto} (h:S[n]?=some (oDK enc l)):FP (.ref n) S=none:=by unfold FP;dsimp only;rw [h];rfl
section
variable {a b m:ME} {enc:α->D}
theorem WE:VE A SW (rN (oDK enc)) (some []):=λv hv S0 e F S hs=>by cases hv;exact ⟨_,_,rfl,Keeps.app _ _,_,rfl,AO _,Dp _ _⟩
theorem TM {pk:Option Int} {pl:Option (List (Int×α))} (ha:VE A a (rV D.int) pk) (hb:VE A b (rO (oDK enc)) pl):VE A (m2 (inA false) a b) (rV D.bl) (pk.bind λx=>pl.bind λl=>some (DL l x).isSome):=V8 ha hb λx l z S n hn q=>by cases q;rw [dL (ej hn) (ak hn x)];simp
theorem QZ {pk:Option Int} {pl:Option (List (Int×α))} (ha:VE A a (rO (oDK enc)) pl) (hb:VE A b (rV D.int) pk):VE A (m2 ixA a b) (rV enc) (pl.bind λl=>pk.bind λx=>DL l x):=WG ha hb λl x z S n hn q=>dJ (ej hn) (by rw [ak hn x,q];rfl)
def Ui [DecidableEq κ] (l:List (κ×α)) (k:κ) (v:α):Option (List (κ×α)):=if l.length < 1000000 then some (FB l k v) else none
theorem Yj {ek:κ->D} [DecidableEq κ] {ob:List (κ×α)->Ob} {R:Rk ρ} {p:Option α} {pk:Option κ} {i:Nat} {l:List (κ×α)}
  (hput:∀(l:List (κ×α)) (k:κ) (v:α) (S:Sto) (n:Nat),S[n]?=some (ob l)->l.length < 1000000->RM (.ref n) (ek k) (enc v) S=some (S.set n (ob (FB l k v))))
  (hi:A[i]?=some (.w i (ob l))) (hk:VE A b (rV ek) pk) (h:VE A m (rV enc) p) (ht:((A.set i .u).all (Sl.oth i))=true) :
  VS A (EJ (AK i) b m) R (p.bind λv=>pk.bind λk=>(Ui l k v).bind λl'=>some (.nx l')) (λl'=>A.set i (.w i (ob l'))):=λf hf S0 e F S hs=>by
 obtain ⟨v,h1,h2⟩:=BK hf;obtain ⟨k,h2',h3⟩:=BK h2;obtain ⟨l',h4,h0⟩:=BK h3;cases h0;unfold Ui at h4;split at h4
 ·rename_i hl
  cases h4;obtain ⟨x,g1,n,rfl,g2,g3⟩:=hs.sl i _ hi;obtain ⟨d,S1,h5,h6,rfl⟩:=h v h1 S0 e F S hs;obtain ⟨d,S2,h7,h8,rfl⟩:=hk k h2' S0 e _ S1 (hs.grow h6);have hg:=(hs.grow h6).grow h8;have hn:=(h6.trans h8).at g3
  have hx:EJ (AK i) b m e S=.ok (.nx e) (S2.set n (ob (FB l k v))):=by
   unfold EJ;rw [h5];dsimp only [Res.lift];rw [show AK i e S1=.ok (.ref n) S1 by unfold AK;rw [g1]];dsimp only;rw [h7];dsimp only;rw [hput l k v S2 n hn hl]
  have hF:LV (LV F S S1) S1 S2 n=.ow i:=by rw [Gh (D9 (h6.at g3)),Gh (D9 g3)];exact g2
  exact ⟨_,_,hx,e,_,rfl,hg.put ht hi g1 hF,(hs.fle S1).trans ((hs.grow h6).fle S2)⟩
 ·cases h4
theorem V0 {R:Rk ρ} {p:Option α} {pk:Option Int} {i:Nat} {l:List (Int×α)} (hi:A[i]?=some (.w i (oDK enc l))) (hk:VE A b (rV D.int) pk) (h:VE A m (rV enc) p) (ht:((A.set i .u).all (Sl.oth i))=true) :
  VS A (EJ (AK i) b m) R (p.bind λv=>pk.bind λk=>(Ui l k v).bind λl'=>some (.nx l')) (λl'=>A.set i (.w i (oDK enc l'))):=
 Yj (λl k v S n hn hl=>by
  unfold RM;dsimp only;rw [hn];show (if (l.map _).length < sizeLine then some (S.set n (.dK (FB (l.map λx=>(B9 x.1,enc x.2)) (B9 k) (enc v)))) else none)=_;rw [qX (by rw [AF];exact cb hl),Wh Tr]
  rfl) hi hk h ht
theorem bK {b:MS} {R:Rk ρ} {B:σ->List Sl}:VS A b R none B:=λf hf=>by cases hf
def toPr (r:List Int):Int×Int:=(r.getD 0 0,r.getD 1 0)
def Lm (l:List (Int×Int)):List (Int×Int):=(Ig (l.map λx=>[x.1,x.2])).map toPr
theorem Yy (l:List (Int×Int)):(Ig (l.map λx=>[x.1,x.2])).map JT=(Lm l).map (eP D.int D.int):=by
 unfold Lm;rw [A7]
 refine BY λr hr=>?_
 obtain ⟨x,_,rfl⟩:=BH.mp ((E9 _).mem_iff.mp hr);rfl
theorem V7 {pl:Option (List (Int×Int))} (ha:VE A a (rO (oL (eP D.int D.int))) pl):VE A (Fv a) (rN (oL (eP D.int D.int))) (pl.bind λl=>some (Lm l)):=λv hv S0 e F S hs=>by
 obtain ⟨l,h1,h2⟩:=BK hv;cases h2;obtain ⟨d,S',h3,h4,n,rfl,hn⟩:=ha l h1 S0 e F S hs;refine ⟨_,_,LD h3 (NU hn) (es:=(Lm l).map (eP D.int D.int)) ?_,h4.trans (Keeps.app _ _),_,rfl,h4.1,Dp _ _⟩;rw [<-Yy]
 cases l with
 | nil=>show some ((EQ []).map D.int)=some ((Ig []).map JT);rw [Ub];unfold Ig;rw [List.mergeSort_nil];rfl
 | cons x l=>
  have hr:Je (OU (eP D.int D.int) (x :: l))=some ((x :: l).map λx=>[x.1,x.2]):=by
   have:=Qo ((x :: l).map λx=>[x.1,x.2]) (IH.mpr λr hr=>by obtain ⟨y,_,rfl⟩:=BH.mp hr;rfl);rw [A7] at this;exact this
  unfold Jd;rw [show Ga (OU (eP D.int D.int) (x :: l))=none from rfl,hr]
end
end
section
variable {α β γ ρ σ τ:Type}
theorem Bn {s:σ} {q:σ->Option (Fw ρ τ)}:CF (some (.nx s)) q=q s:=rfl
theorem ZX {s:σ}:ZY (some (.nx s))=some ():=rfl
theorem Z3 {l:List α} {q:σ->α->Option (Fw ρ σ)} {s0:σ} (I:List α->σ->Prop) (h0:I [] s0) (h:∀pre x s,x∈l->pre++[x] <+: l->I pre s->∃s',q s x=some (.nx s')/\I (pre++[x]) s'):∃s,Gf l s0 q=some (.nx s)/\I l s:=by
 have key:∀(r pre:List α) (s:σ),l=pre++r->I pre s->∃s',Gf r s q=some (.nx s')/\I l s':=by
  intro r
  induction r with
  | nil=>intro pre s e hI;rw [BE] at e;subst e;exact ⟨s,rfl,hI⟩
  | cons x r ih=>
   intro pre s e hI;obtain ⟨s',h1,h2⟩:=h pre x s (by rw [e];simp) ⟨r,by rw [e];simp⟩ hI;obtain ⟨s2,h3,h4⟩:=ih (pre++[x]) s' (by rw [e];simp) h2;refine ⟨s2,?_,h4⟩;unfold Gf;rw [h1];exact h3
 exact key l [] s0 rfl h0
theorem Xq {l:List α} {q:σ->α->Option (Fw ρ σ)} {s0:σ} (I:List α->σ->Prop) (R:ρ->Prop) (h0:I [] s0) (h:∀pre x s,x∈l->pre++[x] <+: l->I pre s->(∃s',q s x=some (.nx s')/\I (pre++[x]) s')∨∃r,q s x=some (.rt r)/\R r):(∃s,Gf l s0 q=some (.nx s)/\I l s)∨∃r,Gf l s0 q=some (.rt r)/\R r:=by
 have key:∀(r pre:List α) (s:σ),l=pre++r->I pre s->(∃s',Gf r s q=some (.nx s')/\I l s')∨∃y,Gf r s q=some (.rt y)/\R y:=by
  intro r
  induction r with
  | nil=>intro pre s e hI;rw [BE] at e;subst e;exact .inl ⟨s,rfl,hI⟩
  | cons x r ih=>
   intro pre s e hI
   rcases h pre x s (by rw [e];simp) ⟨r,by rw [e];simp⟩ hI with ⟨s',h1,h2⟩ | ⟨y,h1,h2⟩
   ·have e':Gf (x :: r) s q=Gf r s' q:=by
     conv=>lhs;unfold Gf
     rw [h1]
    rw [e'];exact ih (pre++[x]) s' (by rw [e];simp) h2
   ·refine .inr ⟨y,?_,h2⟩
    unfold Gf;rw [h1]
 exact key l [] s0 rfl h0
theorem X3 {l:List α} {c:α->Option Bool} {m:α->Option β} {P:α->Bool} {f:α->β} (hc:∀x∈l,c x=some (P x)) (hm:∀x∈l,P x=true->m x=some (f x)):Nk c m l=some ((l.filter P).map f):=by
 induction l with
 | nil=>rfl
 | cons x l ih=>
  have ih:=ih (λy hy=>hc y (Aa _ hy)) λy hy=>hm y (Aa _ hy)
  unfold Nk;rw [hc x Al];show (if P x=true then _ else _)=_
  cases hp:P x with
  | true=>
   rw [qX rfl,hm x Al hp,ih,List.filter_cons_of_pos hp];rfl
  | false=>
   rw [qY AS,ih,List.filter_cons_of_neg (by rw [hp];exact AS)]
theorem Nl {l:List α} {c:α->Option Bool} {m:α->Option β} {P:α->Bool} {f:α->β} (hl:l.length<=1000000) (hc:∀x∈l,c x=some (P x)) (hm:∀x∈l,P x=true->m x=some (f x)):JA l c m=some ((l.filter P).map f):=by
 unfold JA;rw [qX hl,X3 hc hm]
theorem Ov {l:List α} {m:α->Option β} {f:α->β} (hl:l.length<=1000000) (hm:∀x∈l,m x=some (f x)):JA l (λ_=>some true) m=some (l.map f):=by
 rw [Nl (P:=λ_=>true) hl (λ_ _=>rfl) λx hx _=>hm x hx,UQ.mpr λ_ _=>rfl]
theorem UF {l:List α} {x:α} (h:l.length < 1000000):YB l x=some (l++[x]):=qX h
theorem fx:OO ([]:List α)=some []:=rfl
theorem few1 (a:α):OO [a]=some [a]:=qX (by simp)
theorem few4 (a b c d:α):OO [a,b,c,d]=some [a,b,c,d]:=qX (by simp)
theorem MY {j:Int} (h0:-1000000<=j) (h1:j<=1000000):PX j=some (Fo 0 j.toNat):=qX ⟨h0,h1⟩
theorem Y5 {i j:Int} (h0:-1000000<=i) (h1:i<=1000000) (h2:-1000000<=j) (h3:j<=1000000):Y6 i j=some (Fo i (j - i).toNat):=qX ⟨h0,h1,h2,h3⟩
theorem Io {lo:Int} {n:Nat} {x:Int}:x∈Fo lo n↔lo<=x/\x < lo+n:=by
 unfold Fo;rw [BH]
 constructor
 ·rintro ⟨k,hk,rfl⟩
  have:=Jb.mp hk
  lia
 ·rintro ⟨h1,h2⟩
  exact ⟨(x - lo).toNat,Jb.mpr (by lia),by lia⟩
theorem Ej (lo:Int) (n:Nat):(Fo lo n).length=n:=by unfold Fo;rw [AF,List.length_range]
theorem TX (lo:Int) (n:Nat):(Fo lo n).Pairwise (· < ·):=by
 unfold Fo;rw [CC]
 exact List.pairwise_lt_range.imp λh=>by lia
theorem Sm {l:List α} {i:Int} (h0:0<=i) (h1:i < l.length):∃x,atI l i=some x/\l[i.toNat]?=some x:=by
 have hlt:i.toNat < l.length:=by lia
 exact ⟨l[i.toNat],LX h0 (BC hlt),BC hlt⟩
theorem Kc {x y:Int} (h:0 < y):OL x y=some (x % y):=qX h
theorem Xz (l:List α) (lo hi:Option Int):(Jx l lo hi).length<=l.length:=by
 unfold Jx;rw [CM,Cq]
 lia
theorem WY {lo:Int} {n:Nat} {pre:List Int} {x:Int} (h:pre++[x] <+: Fo lo n):x=lo+pre.length/\pre.length < n:=by
 have hl:=h.length_le;rw [Ac,A9,Ej] at hl;obtain ⟨r,hr⟩:=h;have:=congrArg (λz=>z[pre.length]?) hr;simp only [Az,As (AO _),L3] at this;rw [show ([x]++r)[0]?=some x from rfl] at this;unfold Fo at this;rw [Ae,Bw (by lia)] at this;simp only [Vo,Option.some.injEq] at this;exact ⟨this,by lia⟩
theorem SR [DecidableEq α]:∀ {l k:List α},l.Nodup->(∀x∈l,x∈k)->l.length<=k.length
 | [],_,_,_=>Cp _
 | x :: l,k,nd,h=>by
  have hx:=h x Al;obtain ⟨n1,n2⟩:=C5.mp nd
  have:=SR (l:=l) (k:=k.erase x) n2 λy hy=>(List.mem_erase_of_ne (λz:y=x=>n1 (by rw [<-z];exact hy))).mpr (h y (Aa _ hy))
  rw [QE hx] at this;have:=Rb hx;rw [Au]
  lia
def Ok (p:Option α) (P:α->Prop):Prop:=∃v,p=some v/\P v
theorem Ok.is {p:Option α} {v:α} (h:Ok p λr=>r=v):p=some v:=by
 obtain ⟨_,h1,rfl⟩:=h;exact h1
def OkF (p:Option (Fw ρ σ)) (N:σ->Prop) (R:ρ->Prop):Prop:=(∃s,p=some (.nx s)/\N s)∨∃r,p=some (.rt r)/\R r
theorem OkF.nx {s:σ} {N:σ->Prop} {R:ρ->Prop} (h:N s):OkF (some (.nx s)) N R:=.inl ⟨s,rfl,h⟩
theorem OkF.rt {r:ρ} {N:σ->Prop} {R:ρ->Prop} (h:R r):OkF (some (.rt r)) N R:=.inr ⟨r,rfl,h⟩
theorem OkF.seq {p:Option (Fw ρ σ)} {q:σ->Option (Fw ρ τ)} {N:σ->Prop} {N':τ->Prop} {R:ρ->Prop} (h:OkF p N R) (hq:∀s,N s->OkF (q s) N' R):OkF (CF p q) N' R:=by
 rcases h with ⟨s,rfl,h⟩ | ⟨r,rfl,h⟩
 ·exact hq s h
 ·exact .inr ⟨r,rfl,h⟩
theorem OkF.map {p:Option (Fw ρ σ)} {g:σ->τ} {N:σ->Prop} {N':τ->Prop} {R:ρ->Prop} (h:OkF p N R) (hg:∀s,N s->N' (g s)):OkF (LN g p) N' R:=by
 rcases h with ⟨s,rfl,h⟩ | ⟨r,rfl,h⟩
 ·exact .inl ⟨_,rfl,hg s h⟩
 ·exact .inr ⟨r,rfl,h⟩
theorem OkF.ite {c:Bool} {a b:Option (Fw ρ σ)} {N:σ->Prop} {R:ρ->Prop} (ha:c=true->OkF a N R) (hb:c=false->OkF b N R):OkF (if c=true then a else b) N R:=by
 cases c with
 | true=>exact ha rfl
 | false=>exact hb rfl
theorem OkF.for {l:List α} {q:σ->α->Option (Fw ρ σ)} {s0:σ} {R:ρ->Prop} (I:List α->σ->Prop) (h0:I [] s0) (h:∀pre x s,x∈l->pre++[x] <+: l->I pre s->OkF (q s x) (I (pre++[x])) R):OkF (Gf l s0 q) (I l) R:=Xq I R h0 h
theorem OkF.out {p:Option (Fw ρ σ)} {R:ρ->Prop} (h:OkF p (λ_=>False) R):Ok (KW p) R:=by
 rcases h with ⟨s,rfl,h⟩ | ⟨r,rfl,h⟩
 ·exact h.elim
 ·exact ⟨r,rfl,h⟩
theorem OkF.imp {p:Option (Fw ρ σ)} {N N':σ->Prop} {R R':ρ->Prop} (h:OkF p N R) (hn:∀s,N s->N' s) (hr:∀r,R r->R' r):OkF p N' R':=by
 rcases h with ⟨s,rfl,h⟩ | ⟨r,rfl,h⟩
 ·exact .inl ⟨s,rfl,hn s h⟩
 ·exact .inr ⟨r,rfl,hr r h⟩
theorem VF.law {f:List D->Sto->Res D} {ns:List Int} (h:VF f [.v (eF ns)] (rV D.bl) (some true)):∃S',f [.fro (ns.map D.int)] []=.ok (.bl true) S':=by
 obtain ⟨d,S',h1,_,rfl⟩:=h true rfl [] [.fro (ns.map D.int)] ⟨rfl,trivial⟩;exact ⟨S',h1⟩
end
section
variable {A:List Sl} {a b m:ME} {pa pb:Option Int}
end
section
variable {A:List Sl} {a m:ME} {α ρ:Type} {enc:α->D}
end
section
variable {S0 S S':Sto} {A B:List Sl} {e:Lo} {F:Fz} {α β γ ρ σ τ:Type} {a:ME} {enc:α->D}
theorem KI {n:Nat} {b:MS} {as:List Ar} {R:Rk ρ} {p:Option (Fw ρ σ)} {B:σ->List Sl} (h:VS (as.map Ar.sl++BG (n - as.length) .u) b R p B):VF (FQ n b) as R (KW p):=λv hv S ds ha=>by
 cases p with
 | none=>cases hv
 | some x=>
  obtain ⟨g,S',h1,h2⟩:=h _ rfl S _ _ S (Vs.start ha)
  cases x with
  | rt r=>cases hv;obtain ⟨d,rfl,h2,h3⟩:=h2;exact ⟨d,S',L2.Ii h1,h3,h2⟩
  | nx s=>cases hv
  | bk s=>cases hv
  | ct s=>cases hv
theorem bM {n:Nat} {b:MS} {as:List Ar} {p:Option (Fw Unit σ)} {B:σ->List Sl} (h:VS (as.map Ar.sl++BG (n - as.length) .u) b (rV eU) p B):VF (FQ n b) as (rV eU) (ZY p):=λv hv S ds ha=>by
 cases p with
 | none=>cases hv
 | some x=>
  obtain ⟨g,S',h1,h2⟩:=h _ rfl S _ _ S (Vs.start ha)
  cases x with
  | rt r=>obtain ⟨d,rfl,h2,h3⟩:=h2;exact ⟨d,S',L2.Ii h1,h3,h2⟩
  | nx s=>obtain ⟨e',F',rfl,h2,h3⟩:=h2;exact ⟨.non,S',L2.SH h1,h2.kp,rfl⟩
  | bk s=>cases hv
  | ct s=>cases hv
end
section
variable {κ α:Type} [DecidableEq κ]
end
def hb (bits x:Int):Bool:=Builtin.bitAnd (bits / 2 ^ x.toNat) 1 != 0
abbrev HL:=List (Int×Int)
abbrev QL:=List (Int×Bool)
section
variable {T:Int->List Int} {bits:Int} {U:List Int} {Gd:Int->Prop}
abbrev w0 (T:Int->List Int) (bits g:Int):List Int:=(T g).filter (hb bits)
def MOn (T:Int->List Int) (bits:Int) (P:Int->Prop) (H:HL):Prop:=(∀x,P x->∀a,DL H x=some a->x∈w0 T bits a)/\∀x y a,P x->P y->DL H x=some a->DL H y=some a->x=y
abbrev sn (Q:QL) (x:Int):Prop:=(DL Q x).isSome=true
def Good (T:Int->List Int) (bits:Int) (H:HL) (g:Int) (Q:QL) (H':HL):Prop:=
 (∀x,sn Q x->DL H' x=DL H x)/\(MOn T bits (λx=>¬sn Q x) H->(∀x,¬sn Q x->DL H x≠some g)->MOn T bits (λx=>¬sn Q x) H'/\∀a,(∃x,¬sn Q x/\DL H' x=some a)↔a=g∨∃x,¬sn Q x/\DL H x=some a)
end
section
variable {T:Int->List Int} {bits:Int} {U:List Int} {Gd:Int->Prop}
end
section
variable {α β ρ σ:Type} {A:List Sl} {enc:α->D} {ob:β->Ob}
theorem WH {e:Lo} {S:Sto} {i:Nat} {d:D} (h:e[i]?=some (some d)):AK i e S=.ok d S:=by unfold AK;rw [h]
end
abbrev inG {α:Type} [DecidableEq α] (x:α) (l:List α):Bool:=decide (x∈l)
theorem Ts {α:Type} [DecidableEq α] {x:α} {l:List α}:inG x l=true↔x∈l:=decide_eq_true_iff
section
variable {α β ρ σ:Type} {A:List Sl} {enc:α->D} {ob:β->Ob}
theorem Yq {a:ME} {pl:Option (List Int)} {mlo mhi:MO} {po ph:Option (Option Int)} (ha:VE A a (rV eF) pl) (hl:VO A mlo po) (hh:VO A mhi ph):VE A (Pg a mlo mhi) (rN (oL D.int)) (pl.bind λl=>po.bind λx=>ph.bind λy=>some (Jx l x y)):=λv hv S0 e F S hs=>by
 obtain ⟨l,h1,hv⟩:=BK hv;obtain ⟨x,h2,hv⟩:=BK hv;obtain ⟨y,h3,h4⟩:=BK hv;cases h4;obtain ⟨d1,S1,q1,k1,rfl⟩:=ha l h1 S0 e F S hs;obtain ⟨S2,q2,k2⟩:=hl x h2 S0 e _ S1 (hs.grow k1);obtain ⟨S3,q3,k3⟩:=hh y h3 S0 e _ S2 ((hs.grow k1).grow k2);refine ⟨.ref S3.length,S3++[oL D.int (Jx l x y)],?_,((k1.trans k2).trans k3).trans (Keeps.app _ _),_,rfl,((k1.trans k2).trans k3).1,Dp _ _⟩;unfold Pg;rw [q1];dsimp only [Res.bind];rw [q2];dsimp only;rw [q3];show Res.ok _ (S3++[Ob.lst (Jx (l.map D.int) x y)])=_;rw [Xy];rfl
end
section
variable {S0 S S':Sto} {A B:List Sl} {e:Lo} {F:Fz} {α β γ ρ σ τ:Type} {enc:α->D} {xss:List (List α)} {i:Nat}
end
section
variable {S0 S S':Sto} {A:List Sl} {ρ σ:Type}
end
section
variable {A:List Sl} {α:Type} {enc:α->D} {a:ME}
end
section
variable {A:List Sl} {a b c:ME} {ml:ML}
end
section
variable {A:List Sl} {β σ:Type} {ob:β->Ob}
def rOL (ob:β->Ob):Rk (Option β):=λv S0 d S=>match v with
 | none=>d=.non
 | some b=>∃n,d=.ref n/\S0.length<=n/\S[n]?=some (ob b)
theorem Wf:∀(v:Option β) (S S1:Sto) (d:D) (S':Sto),S.length<=S1.length->rOL ob v S1 d S'->rOL ob v S d S':=λv S S1 d S' l h=>by
 cases v with
 | none=>exact h
 | some b=>obtain ⟨n,h1,h2,h3⟩:=h;exact ⟨n,h1,Ao l h2,h3⟩
end
section
variable {α β ρ σ:Type} {A:List Sl} {enc:α->D}
end
section
variable {α β ρ σ:Type} {A:List Sl} {enc:α->D} {ob:β->Ob}
theorem Yp {a:ME} {pl:Option (List (Int×α))} (h:VE A a (rO (oDK enc)) pl):VE A (Tk a) (rV D.int) (pl.bind λl=>some (l.length:Int)):=λv hv S0 e F S hs=>by
 obtain ⟨l,h1,h2⟩:=BK hv;cases h2;obtain ⟨d,S',h3,h4,n,rfl,hn⟩:=h l h1 S0 e F S hs;refine ⟨_,S',?_,h4,rfl⟩;unfold Tk;rw [h3];dsimp only [Res.bind];rw [hn];unfold oDK;dsimp only;rw [AF]
def NX (l:List Int) (k:Int):Option Int:=(Jv k l).map λ(j:Nat)=>(j:Int)
theorem QY {a b:ME} {pl:Option (List Int)} {pk:Option Int} (ha:VE A a (rV (eT D.int)) pl) (hb:VE A b (rV D.int) pk):VE A (NI a b) (rV D.int) (pl.bind λl=>pk.bind λk=>NX l k):=λv hv S0 e F S hs=>by
 obtain ⟨l,h1,hv⟩:=BK hv;obtain ⟨k,h2,h3⟩:=BK hv;obtain ⟨d1,S1,q1,k1,rfl⟩:=ha l h1 S0 e F S hs;obtain ⟨d2,S2,q2,k2,rfl⟩:=hb k h2 S0 e _ S1 (hs.grow k1);unfold NX at h3
 cases hj:Jv k l with
 | none=>rw [hj] at h3;cases h3
 | some j=>
  rw [hj] at h3;cases h3;refine ⟨_,S2,?_,k1.trans k2,rfl⟩;unfold NI;rw [q1];dsimp only [Res.bind,eT];rw [q2];dsimp only [Res.bind];rw [NW];dsimp only;rw [hj]
theorem V5 {a:ME} {pa:Option Int} (h:VE A a (rV D.int) pa):VE A (Q2 (AY a BM)) (rV (eT D.int)) (pa.bind PX):=λv hv S0 e F S hs=>by
 obtain ⟨x,h1,h2⟩:=BK hv;obtain ⟨d,S',h3,h4,rfl⟩:=h x h1 S0 e F S hs;unfold PX at h2;split at h2
 ·rename_i hx
  cases h2;refine ⟨_,S',?_,h4,rfl⟩;unfold Q2;rw [Cu (r:=BM) h3 rfl];show Y4 [.int x] S'=_;unfold Y4;dsimp only;rw [qX hx,SI];rfl
 ·cases h2
theorem WB {m:ME} {p:Option (Option (List α))} (h:VE A m (rOL (oL enc)) p):VE A (HZ m) (rV D.int) (p.bind λo=>o.bind λl=>some (l.length:Int)):=λv hv S0 e F S hs=>by
 obtain ⟨o,h1,h2⟩:=BK hv;obtain ⟨l,h3,h4⟩:=BK h2;subst h3;cases h4;obtain ⟨d,S',c1,k1,n,rfl,_,hn⟩:=h (some l) h1 S0 e F S hs;refine ⟨_,S',?_,k1,rfl⟩;unfold HZ;rw [c1];dsimp only [Res.bind];rw [Dj hn];dsimp only;rw [AF]
def fJ (o:Option β) (b:ρ) (q:β->Option (Fw ρ σ)):Option (Fw ρ σ):=match o with
 | none=>some (.rt b)
 | some l=>q l
theorem Yg {B:σ->List Sl} {m:ME} {rest:MS} {p:Option (Option β)} {i:Nat} {b:Bool} {q:β->Option (Fw Bool σ)} (hk:A[i]?=some .u) (h:VE A m (rOL ob) p) (hr:∀l,VS (A.set i (.y (ob l))) rest (rV D.bl) (q l) B) :
  VS A (Bd (CP i m) (Bd (sIf (mB (m2 (XY false) (AK i) (mC .non))) (Ea (mC (.bl b))) sNx) rest)) (rV D.bl) (p.bind λo=>fJ o b q) B:=λf hf S0 e F S hs=>by
 obtain ⟨o,h1,h2⟩:=BK hf;obtain ⟨d,S',c1,k1,r1⟩:=h o h1 S0 e F S hs;have g:=hs.grow k1;have s1:CP i m e S=.ok (.nx (e.set i (some d))) S':=Hq c1;obtain ⟨xk,ek,_⟩:=hs.sl i _ hk;have hkl:=(AE.mp ek).1
 have vk:(e.set i (some d))[i]?=some (some d):=by rw [A3 hkl]
 cases o with
 | none=>
  have r1:d=.non:=r1;subst r1;cases h2;have t1:mB (m2 (XY false) (AK i) (mC .non)) (e.set i (some .non)) S'=.ok true S':=JX (Co (WH vk) rfl rfl);exact ⟨.rt (.bl b),S',(Bl s1).trans (SF ((Hb t1).trans ((qX rfl).trans rfl))),_,rfl,rfl,hs.kp.trans k1⟩
 | some l=>
  obtain ⟨n,rfl,hn,hb⟩:=r1;have t1:mB (m2 (XY false) (AK i) (mC .non)) (e.set i (some (.ref n))) S'=.ok false S':=JX (Co (WH vk) rfl rfl);obtain ⟨h3,S2,c2,g2⟩:=hr l f h2 S0 _ _ S' (g.set (a:=.y (ob l)) (x:=some (.ref n)) i ⟨n,rfl,Nf hn hb,Ao hs.kp.1 hn⟩);exact ⟨h3,S2,(Bl s1).trans ((Bl (e1:=e.set i (some (.ref n))) ((Hb t1).trans ((qY AS).trans rfl))).trans c2),g2.up (hs.fle S')⟩
end
end L4
namespace M
open PySem PySem.Spec PyProof.Rows L2
abbrev oN(e:L2.Lo)(S:L2.Sto):L2.Res L2.Fl:=.ok (.nx e) S
abbrev sR(n:Nat):Option L2.D:=some (.ref n)
abbrev sI(i:Int):Option L2.D:=some (.int i)
abbrev sF(l:List Int):Option L2.D:=some (.fro (l.map L2.D.int))
def top (i:Nat):Cw:=bA.main.body.getD i (.Pass ⟨0,0,0,0⟩)
structure Wd where
 BadPlaces:AH
 BadTie:AH
 NoPlace:AH
 Web:AH
def Wd.excs (W:Wd):List AH:=[W.BadPlaces,W.BadTie,W.NoPlace]
abbrev DF:Cw:=top 8
abbrev DE:Cw:=top 9
abbrev FA:Cw:=Zt (top 7) 0
abbrev CS:Cw:=top 10
abbrev LG:Cw:=top 11
abbrev Dv:Cw:=top 12
abbrev DU:Cw:=top 13
abbrev Du:Cw:=top 14
abbrev DG:Cw:=top 16
abbrev DV:Cw:=top 18
abbrev Dw:Cw:=top 19
abbrev ES:Cw:=top 21
abbrev Dx:Cw:=top 22
abbrev ER:Cw:=top 23
abbrev Oe:Cw:=top 24
def Np (W:Wd):MS:=
  (Bd (CP 2 XJ)
  (Bd (Ih (FU (AK 1)) (IK 2 (C7 (tgN 3) (C7 (tgN 4) Ic)))
  (Bd (CP 5 (MF (AY (mQ Lp (AY (AK 3) (AY (AK 4) BM))) (AY (mQ Ol (AY (AK 3) (AY (AK 4) BM))) BM))))
  (Bd (sIf (mB (m2 (eqD false) (m2 ixA (AK 5) (mC (.int 0))) (m2 ixA (AK 5) (mC (.int 1))))) (DY W.BadTie (AY (mC (.str "a tie has one place twice")) BM)) sNx)
  (Bd (sIf (mOr (mB (m2 ltD (m2 ixA (AK 5) (mC (.int 0))) (mC (.int 0)))) (mB (m2 geD (m2 ixA (AK 5) (mC (.int 1))) (AK 0)))) (DY W.BadTie (AY (mC (.str "a tie has a place that is not there")) BM)) sNx)
  (Bd (sIf (mB (m2 (inA false) (AK 5) (AK 2))) (DY W.BadTie (AY (mC (.str "a tie is there twice")) BM)) sNx)
  (EJ (AK 2) (AK 5) (mC (.bl true))))))))
  (Ea (Fe (Fv (AK 2))))))
def Et (W:Wd):List D->Sto->Res D:=FQ 6 (Np W)
def JC (W:Wd):MS:=
  (Bd (CP 2 (Ey (FT 1 (iR1 (AY (AK 0) BM)) (tgN 0) Ji (Ey (DZ BM)))))
  (Bd (Ih (FU (AK 1)) (IK 2 (C7 (tgN 3) (C7 (tgN 4) Ic)))
  (Bd (Eh (Jt (m2 ixA (AK 2) (AK 3)) (AK 4)))
  (Eh (Jt (m2 ixA (AK 2) (AK 4)) (AK 3)))))
  (Ea (Fe (Ey (FT 1 (FU (AK 2)) (tgN 0) Ji (Fe (Fv (AK 0)))))))))
def Es (W:Wd):List D->Sto->Res D:=FQ 5 (JC W)
def Nq (W:Wd):MS:=
  (Bd (sIf (MH (mB (m3 leD leD (mC (.int 1)) (AK 1) (mC (.int 60))))) (DY W.BadPlaces (AY (aZ (Tp (mC (.str "a web has 1 to ")) (Tp (fY (mC (.int 60))) (Tp (mC (.str " places")) cp)))) BM)) sNx)
  (Bd (Of W.Web "places" (AK 0) (AK 1))
  (Bd (Of W.Web "ties" (AK 0) (CB 2 (Et W) (AY (AK 1) (AY (AK 2) BM))))
  (Of W.Web "near_sets" (AK 0) (CB 2 (Es W) (AY (AK 1) (AY (Gu W.Web "ties" (AK 0)) BM)))))))
def Gg (W:Wd):List D->Sto->Res D:=FQ 3 (Nq W)
def Ev (W:Wd):MS:=
  (sIf (MH (mB (m3 leD ltD (mC (.int 0)) (AK 1) (Gu W.Web "places" (AK 0))))) (DY W.NoPlace (AY (mC (.str "the web has no such place")) BM)) sNx)
def Bk (W:Wd):List D->Sto->Res D:=FQ 2 (Ev W)
def P6 (W:Wd):MS:=
  (Bd (Eh (CB 2 (Bk W) (AY (AK 0) (AY (AK 1) BM))))
  (Ea (m2 ixA (Gu W.Web "near_sets" (AK 0)) (AK 1))))
def HH (W:Wd):List D->Sto->Res D:=FQ 2 (P6 W)
def IB (W:Wd):MS:=
  (Bd (CP 2 (NJ (AK 1) (mC (.int 0))))
  (Bd (CP 3 (Ey (DZ (AY (AK 1) BM))))
  (Bd (HE (OM (AK 3)) (Bd (CP 4 (Ey (DZ BM)))
  (Bd (Ih (FU (AK 3)) (tgN 5)
  (Ih (FU (CB 2 (HH W) (AY (AK 0) (AY (AK 5) BM)))) (tgN 6)
  (sIf (mB (m2 (inA true) (AK 6) (AK 2))) (Bd (EJ (AK 2) (AK 6) (m2 OQ (m2 ixA (AK 2) (AK 5)) (mC (.int 1))))
  (Eh (Jt (AK 4) (AK 6)))) sNx)))
  (CP 3 (AK 4)))) wN)
  (Ea (AK 2)))))
def Fy (W:Wd):List D->Sto->Res D:=FQ 7 (IB W)
def ED (W:Wd):MS:=
  (Bd (Eh (CB 2 (Bk W) (AY (AK 0) (AY (AK 1) BM))))
  (Bd (Eh (CB 2 (Bk W) (AY (AK 0) (AY (AK 2) BM))))
  (Bd (CP 3 (CB 2 (Fy W) (AY (AK 0) (AY (AK 2) BM))))
  (Bd (sIf (mB (m2 (inA true) (AK 1) (AK 3))) (Ea (mC .non)) sNx)
  (Bd (CP 4 (Ey (DZ (AY (AK 1) BM))))
  (Bd (HE (mB (m2 (eqD true) (m2 ixA (AK 4) (SV (mC (.int 1)))) (AK 2))) (Bd (CP 5 (m2 ixA (AK 4) (SV (mC (.int 1)))))
  (Eh (Jt (AK 4) (mQ Oj (Q4 (Ey (FT 1 (FU (CB 2 (HH W) (AY (AK 0) (AY (AK 5) BM)))) (tgN 0) (mB (m2 ltD (m2 ixA (AK 4) (AK 0)) (m2 ixA (AK 4) (AK 6)))) (AK 0)))))))) wN)
  (Ea (AK 4))))))))
def EB (W:Wd):List D->Sto->Res D:=FQ 6 (ED W)
def IA (W:Wd):MS:=
  (Bd (CP 2 SW)
  (Bd (Ih (Pn (AK 1)) (IK 2 (C7 (tgN 3) (C7 (tgN 4) Ic)))
  (EJ (AK 2) (AK 4) (AK 3)))
  (Bd (CP 5 (Ey (FT 2 (FU (Gu W.Web "ties" (AK 0))) (IK 2 (C7 (tgN 0) (C7 (tgN 1) Ic))) (NK (mB (m2 (inA false) (AK 0) (AK 4))) (mB (m2 (inA false) (AK 1) (AK 4)))) (MF (AY (m2 ixA (AK 4) (AK 0)) (AY (m2 ixA (AK 4) (AK 1)) BM))))))
  (Ea (NH W.Web 3 (Gg W) (AY (Tk (AK 2)) (AY (AK 5) BM)))))))
def Dz (W:Wd):List D->Sto->Res D:=FQ 6 (IA W)
def Gj (W:Wd):MS:=
  (Bd (sIf (mB (m2 ltD (AK 1) (HZ (AK 0)))) (Ea (m2 ixA (AK 0) (AK 1))) sNx)
  (Ea (mC (.int 0))))
def Do (W:Wd):List D->Sto->Res D:=FQ 2 (Gj W)
def HJ (W:Wd):MS:=
  (Bd (CP 1 (CB 2 (Do W) (AY (AK 0) (AY (mC (.int 0)) BM))))
  (Ea (m2 OQ (mC (.int 1)) (m2 ixA (Ey (DZ (AY (m2 JV (m2 G3 (AK 1) (mC (.int 4))) (mC (.int 7))) (AY (m2 JV (m2 G3 (AK 1) (mC (.int 4))) (mC (.int 9))) (AY (m2 JV (m2 G3 (AK 1) (mC (.int 4))) (mC (.int 20))) (AY (m2 JV (m2 G3 (AK 1) (mC (.int 4))) (mC (.int 60))) BM)))))) (m2 JV (AK 1) (mC (.int 4)))))))
def HI (W:Wd):List D->Sto->Res D:=FQ 2 (HJ W)
def IC (W:Wd):MS:=
  (Bd (CP 2 (Ey (DZ BM)))
  (Bd (Ih (FU (Pg (AK 0) (Qw (mC (.int 1))) (Qw (mC (.int 63))))) (tgN 3)
  (Ih (iR1 (AY (mC (.int 2)) BM)) (tgN 4)
  (Bd (CP 5 (m2 JV (AK 3) (AK 1)))
  (Bd (CP 6 (m2 JV (m2 G3 (AK 3) (AK 1)) (AK 1)))
  (Bd (CP 3 (m2 G3 (m2 G3 (AK 3) (AK 1)) (AK 1)))
  (sIf (NK (mB (m2 (eqD true) (AK 5) (AK 6))) (NK (mB (m2 (inA true) (MF (AY (AK 5) (AY (AK 6) BM))) (AK 2))) (mB (m2 (inA true) (MF (AY (AK 6) (AY (AK 5) BM))) (AK 2))))) (Eh (Jt (AK 2) (MF (AY (AK 5) (AY (AK 6) BM))))) sNx))))))
  (Ea (AK 2))))
def Hx (W:Wd):List D->Sto->Res D:=FQ 7 (IC W)
def JE (W:Wd):MS:=
  (Bd (CP 2 (Ey (DZ BM)))
  (Bd (Ih (iR1 (AY (AK 1) BM)) (tgN 3)
  (Bd (sIf (mB (m2 gtD (m2 JV (AK 0) (mC (.int 3))) (mC (.int 0)))) (Eh (Jt (AK 2) (AK 3))) sNx)
  (Bd (CP 0 (m2 G3 (AK 0) (mC (.int 3))))
  (sIf (mOr (mB (m2 (eqD false) (AK 0) (mC (.int 0)))) (mB (m2 (eqD false) (AK 0) (SV (mC (.int 1)))))) (CP 0 (m2 OQ (m2 Zm (mC (.int 5)) (m2 Wq (mC (.int 3)) (mC (.int 20)))) (m2 Zm (mC (.int 7)) (AK 3)))) sNx))))
  (Bd (sIf (mB (m2 (eqD false) (AK 2) (Ey (DZ BM)))) (CP 2 (Ey (DZ (AY (m2 Yx (AK 1) (mC (.int 1))) BM)))) sNx)
  (Ea (Fe (AK 2))))))
def G4 (W:Wd):List D->Sto->Res D:=FQ 4 (JE W)
def ID (W:Wd):MS:=
  (Ea (Q5 (m2 (eqD false) (Gu W.Web "places" (AK 0)) (Gu W.Web "places" (AK 1))) (m2 (eqD false) (Gu W.Web "ties" (AK 0)) (Gu W.Web "ties" (AK 1)))))
def F0 (W:Wd):List D->Sto->Res D:=FQ 2 (ID W)
def JD (W:Wd):MS:=
  (Bd (CP 4 (m2 JV (AK 3) (HZ (AK 2))))
  (Bd (CP 5 (m2 JV (m2 G3 (AK 3) (HZ (AK 2))) (HZ (AK 2))))
  (Bd (CP 6 (CB 3 (EB W) (AY (AK 1) (AY (AK 4) (AY (AK 5) BM)))))
  (Bd (sIf (mB (m2 (XY false) (AK 6) (mC .non))) (Ea (mC (.bl true))) sNx)
  (Bd (CP 7 (Ey (FT 1 (FU (AK 6)) (tgN 0) Ji (m2 ixA (AK 3) (AK 0)))))
  (Bd (Ih (iR2 (AY (mC (.int 1)) (AY (HZ (AK 7)) BM))) (tgN 8)
  (sIf (mB (m2 (inA true) (m2 ixA (AK 7) (AK 8)) (CB 2 (HH W) (AY (AK 0) (AY (m2 ixA (AK 7) (m2 Yx (AK 8) (mC (.int 1)))) BM))))) (Ea (mC (.bl false))) sNx))
  (Ea (m2 leD (HZ (CB 3 (EB W) (AY (AK 0) (AY (m2 ixA (AK 2) (AK 4)) (AY (m2 ixA (AK 2) (AK 5)) BM))))) (HZ (AK 7))))))))))
def Iw (W:Wd):List D->Sto->Res D:=FQ 9 (JD W)
def X8 (W:Wd):MS:=
  (Bd (CP 1 (CB 1 (HI W) (AY (AK 0) BM)))
  (Bd (CP 2 (NH W.Web 3 (Gg W) (AY (AK 1) (AY (CB 2 (Hx W) (AY (AK 0) (AY (AK 1) BM))) BM))))
  (Bd (CP 3 (CB 2 (G4 W) (AY (m2 JV (CB 2 (Do W) (AY (AK 0) (AY (mC (.int 1)) BM))) (m2 Wq (mC (.int 10)) (mC (.int 40)))) (AY (AK 1) BM))))
  (Bd (CP 4 (CB 2 (Dz W) (AY (AK 2) (AY (AK 3) BM))))
  (Bd (sIf (mOr (MH (mB (Zp W.Web (AK 4)))) (mB (m2 (eqD true) (Gu W.Web "places" (AK 4)) (HZ (AK 3))))) (Ea (mC (.bl false))) sNx)
  (Bd (CP 5 (Ey (FT 2 (FU (Gu W.Web "ties" (AK 2))) (IK 2 (C7 (tgN 0) (C7 (tgN 1) Ic))) (NK (mB (m2 (inA false) (AK 0) (AK 5))) (mB (m2 (inA false) (AK 1) (AK 5)))) (MF (AY (NI (AK 5) (AK 0)) (AY (NI (AK 5) (AK 1)) BM))))))
  (Bd (sIf (mB (m2 (eqD true) (Gu W.Web "ties" (AK 4)) (Fe (Fv (AK 5))))) (Ea (mC (.bl false))) sNx)
  (Bd (CP 6 (CB 2 (G4 W) (AY (m2 JV (CB 2 (Do W) (AY (AK 0) (AY (mC (.int 2)) BM))) (m2 Wq (mC (.int 10)) (mC (.int 40)))) (AY (HZ (AK 3)) BM))))
  (Bd (CP 7 (CB 2 (Dz W) (AY (AK 4) (AY (AK 6) BM))))
  (Bd (sIf (MH (OM (CB 2 (F0 W) (AY (AK 7) (AY (CB 2 (Dz W) (AY (AK 2) (AY (Fe (Ey (FT 1 (FU (AK 6)) (tgN 0) Ji (m2 ixA (AK 4) (AK 0))))) BM))) BM))))) (Ea (mC (.bl false))) sNx)
  (Bd (sIf (MH (OM (CB 2 (F0 W) (AY (CB 2 (Dz W) (AY (AK 2) (AY (Q2 (AY (AK 1) BM)) BM))) (AY (AK 2) BM))))) (Ea (mC (.bl false))) sNx)
  (Bd (Ih (iR1 (AY (mQ Lp (AY (mC (.int 12)) (AY (HZ (AK 0)) BM))) BM)) (tgN 8)
  (sIf (MH (OM (CB 4 (Iw W) (AY (AK 2) (AY (AK 4) (AY (AK 3) (AY (m2 OQ (m2 G3 (m2 ixA (AK 0) (AK 8)) (mC (.int 5))) (AK 8)) BM))))))) (Ea (mC (.bl false))) sNx))
  (Ea (mC (.bl true)))))))))))))))
def T4 (W:Wd):List D->Sto->Res D:=FQ 9 (X8 W)
structure Txt (K:AA) (mg:Str->Option AB) (W:Wd) where
 d_checked_ties:Dfn K mg "checked_ties" "checked_ties" DF ["places", "ties"]
 d_near_sets_of:Dfn K mg "near_sets_of" "near_sets_of" DE ["places", "ties"]
 d_Web_init:Mtd K "__init__" "Web.__init__" FA ["self", "places", "ties"]
 d_refuse_no_place:Dfn K mg "refuse_no_place" "refuse_no_place" CS ["web", "place"]
 d_near:Dfn K mg "near" "near" LG ["web", "place"]
 d_steps_from:Dfn K mg "steps_from" "steps_from" Dv ["web", "start"]
 d_way_between:Dfn K mg "way_between" "way_between" DU ["web", "one", "other"]
 d_web_within:Dfn K mg "web_within" "web_within" Du ["web", "some"]
 d__law_cell_at:Dfn K mg "_law_cell_at" "_law_cell_at" DG ["script", "k"]
 d__law_places:Dfn K mg "_law_places" "_law_places" DV ["script"]
 d__law_pairs:Dfn K mg "_law_pairs" "_law_pairs" Dw ["script", "places"]
 d__law_some:Dfn K mg "_law_some" "_law_some" ES ["cell", "places"]
 d__law_alike:Dfn K mg "_law_alike" "_law_alike" Dx ["one", "other"]
 d__law_ways:Dfn K mg "_law_ways" "_law_ways" ER ["web", "inner", "some", "cell"]
 d_law:Dfn K mg "law" "law" Oe ["script"]
 c_Web:Own K mg "Web" W.Web d_Web_init.f
 n_Web_places:Gn K W.Web "places"
 n_Web_ties:Gn K W.Web "ties"
 n_Web_near_sets:Gn K W.Web "near_sets"
 oi_Web:gM K W.Web
 x_BadPlaces:Xcl K mg "BadPlaces" W.BadPlaces
 x_BadTie:Xcl K mg "BadTie" W.BadTie
 x_NoPlace:Xcl K mg "NoPlace" W.NoPlace
 nd:W.excs.Nodup
 b_enumerate:mg "enumerate" = none
 b_isinstance:mg "isinstance" = none
 b_len:mg "len" = none
 b_max:mg "max" = none
 b_min:mg "min" = none
 b_range:mg "range" = none
 b_sorted:mg "sorted" = none
 b_tuple:mg "tuple" = none
 g_MOST_PLACES:∃tk,mg "MOST_PLACES" = some (.int 60 tk)
section
variable {P:Ah} {w:A1} {K:AA} {mg:Str->Option AB} {base:BW} {W:Wd}
theorem L9:CU ["places", "ties", "found", "one", "other", "tie"] ["places", "ties"] (A0 DF):=Js
theorem MD (T:Txt K mg W):EM P w K mg base (CXG P w) 1 T.d_checked_ties.f T.d_checked_ties.fd ["places", "ties"] (spM K 2 (Et W)):=by
 refine DP (k:=0) T.d_checked_ties.F L9 rfl λ_ _ _ _ _ _ hr O hu nd pn E'=>?_
 exact (Aj (DB 2 nd Xm)
  (Aj (HF (BQ O).own rfl (Gb (AG (pv 1))) (Na rfl (EA (D0 3 nd) (EA (D0 4 nd) Kk)))
  (Aj (DB 5 nd (LQ (AZ (Tw rfl rfl T.b_min (AZ (AG (pv 3)) (AZ (AG (pv 4)) BF))) (AZ (Zy rfl rfl T.b_max (AZ (AG (pv 3)) (AZ (AG (pv 4)) BF))) BF))))
  (Aj (Er (D3 (Oh hu) (Dm hu (AG (pv 5)) ge_int) (Dm hu (AG (pv 5)) ge_int) (Dl _)) (BD (Iv (BQ O) rfl T.x_BadTie.xc rfl T.x_BadTie.m (AZ LR BF))) Ce)
  (Aj (Er (U5 (Xg (D3 Tc (Dm hu (AG (pv 5)) ge_int) ge_int (Dl _)) (Sd (D3 fS (Dm hu (AG (pv 5)) ge_int) (AG (pv 0)) (Dl _))))) (BD (Iv (BQ O) rfl T.x_BadTie.xc rfl T.x_BadTie.m (AZ LR BF))) Ce)
  (Aj (Er (RC hu (AG (pv 5)) (AG (pv 2))) (BD (Iv (BQ O) rfl T.x_BadTie.xc rfl T.x_BadTie.m (AZ LR BF))) Ce)
  (BD (Pr (BV (KC (by decide:1<=64) _) hu) (AG (pv 2)) (AG (pv 5)) Km rfl)))))))
  (BD (Cy (Hc rfl T.b_tuple (LS rfl rfl T.b_sorted (AG (pv 2))))))))
theorem L8:CU ["places", "ties", "rows", "one", "other"] ["places", "ties"] (A0 DE):=Js
theorem MC (T:Txt K mg W):EM P w K mg base (CXG P w) 1 T.d_near_sets_of.f T.d_near_sets_of.fd ["places", "ties"] (spM K 2 (Es W)):=by
 refine DP (k:=0) T.d_near_sets_of.F L8 rfl λ_ _ _ _ _ _ hr O hu nd pn E'=>?_
 exact (Aj (Mc (i:=2) (own:=["place"]) (N':=["place", "·1", "·2", "·3", "·4", "·5"]) rfl rfl nd rfl (by first | exact Nu rfl | exact Ld rfl) (Hz (by kernel_rfl)) (JO rfl T.b_range (AZ (AG (pv 0)) BF)) (λ_ _ _ _ _ _=>(D0 0 (by decide +kernel:(["place", "·1", "·2", "·3", "·4", "·5"]:List Str).Nodup))) (λ_ _ _ _ _ _=>Kj) (λ_ _ _ _ _ _=>(Ff (Hw BF))))
  (Aj (HF (BQ O).own rfl (Gb (AG (pv 1))) (Na rfl (EA (D0 3 nd) (EA (D0 4 nd) Kk)))
  (Aj (Fx (GM (Dm hu (AG (pv 2)) (AG (pv 3))) (AG (pv 4))))
  (BD (Fx (GM (Dm hu (AG (pv 2)) (AG (pv 4))) (AG (pv 3)))))))
  (BD (Cy (Hc rfl T.b_tuple (Ff (Ps (own:=["row"]) (N':=["row", "·1", "·2", "·3", "·4", "·5"]) rfl (Hz (by kernel_rfl)) (Gb (AG (pv 2))) (λ_ _ _ _ _ _=>(D0 0 (by decide +kernel:(["row", "·1", "·2", "·3", "·4", "·5"]:List Str).Nodup))) (λ_ _ _ _ _ _=>Kj) (λ_ _ _ _ _ _=>(Hc rfl T.b_tuple (LS rfl rfl T.b_sorted (AG (pv 0))))))))))))
theorem Ql:CU ["self", "places", "ties"] ["self", "places", "ties"] (A0 FA):=Js
theorem Ln (T:Txt K mg W):EM P w K mg base (CXG P w) 2 T.d_Web_init.f T.d_Web_init.fd ["self", "places", "ties"] (spM K 3 (Gg W)):=by
 refine DP (k:=1) T.d_Web_init.F Ql rfl λ_ _ _ _ _ _ hr O hu nd pn E'=>?_
 exact (Aj (Er (LP (RD Td Td ge_int (AG (pv 1)) (RG rfl T.g_MOST_PLACES.choose_spec))) (BD (Iv (BQ O) rfl T.x_BadPlaces.xc rfl T.x_BadPlaces.m (AZ (Z0 (Pt LR (Pt (c8 (RG rfl T.g_MOST_PLACES.choose_spec)) (Pt LR cy)))) BF))) Ce)
  (Aj (Se T.c_Web.cl T.n_Web_places (AG (pv 0)) (AG (pv 1)) rfl)
  (Aj (Se T.c_Web.cl T.n_Web_ties (AG (pv 0)) (B2 (MD T) (BQ O).pass (hr.mono (by decide)) rfl T.d_checked_ties.m T.d_checked_ties.kp T.d_checked_ties.b (AZ (AG (pv 1)) (AZ (AG (pv 2)) BF))) rfl)
  (BD (Se T.c_Web.cl T.n_Web_near_sets (AG (pv 0)) (B2 (MC T) (BQ O).pass (hr.mono (by decide)) rfl T.d_near_sets_of.m T.d_near_sets_of.kp T.d_near_sets_of.b (AZ (AG (pv 1)) (AZ (Ge T.c_Web.cl T.n_Web_ties (AG (pv 0)) rfl) BF))) rfl)))))
theorem Jr:CU ["web", "place"] ["web", "place"] (A0 CS):=Js
theorem EK (T:Txt K mg W):EM P w K mg base (CXG P w) 1 T.d_refuse_no_place.f T.d_refuse_no_place.fd ["web", "place"] (spM K 2 (Bk W)):=by
 refine DP (k:=0) T.d_refuse_no_place.F Jr rfl λ_ _ _ _ _ _ hr O hu nd pn E'=>?_
 exact (BD (Er (LP (RD Td Tc ge_int (AG (pv 1)) (Ge T.c_Web.cl T.n_Web_places (AG (pv 0)) rfl))) (BD (Iv (BQ O) rfl T.x_NoPlace.xc rfl T.x_NoPlace.m (AZ LR BF))) Ce))
theorem Y2:CU ["web", "place"] ["web", "place"] (A0 LG):=Js
theorem Pb (T:Txt K mg W):EM P w K mg base (CXG P w) 2 T.d_near.f T.d_near.fd ["web", "place"] (spM K 2 (HH W)):=by
 refine DP (k:=1) T.d_near.F Y2 rfl λ_ _ _ _ _ _ hr O hu nd pn E'=>?_
 exact (Aj (Fx (B2 (EK T) (BQ O).pass (hr.mono (by decide)) rfl T.d_refuse_no_place.m T.d_refuse_no_place.kp T.d_refuse_no_place.b (AZ (AG (pv 0)) (AZ (AG (pv 1)) BF))))
  (BD (Cy (Dm hu (Ge T.c_Web.cl T.n_Web_near_sets (AG (pv 0)) rfl) (AG (pv 1))))))
theorem OD:CU ["web", "start", "steps", "layer", "further", "place", "beside"] ["web", "start"] (A0 Dv):=Js
theorem OI (T:Txt K mg W):EM P w K mg base (CXG P w) 3 T.d_steps_from.f T.d_steps_from.fd ["web", "start"] (spM K 2 (Fy W)):=by
 refine DP (k:=2) T.d_steps_from.F OD rfl λ_ _ _ _ _ _ hr O hu nd pn E'=>?_
 exact (Aj (DB 2 nd (Xo (AG (pv 1)) ge_int))
  (Aj (DB 3 nd (Ff (Hw (AZ (AG (pv 1)) BF))))
  (Aj (RE wN (BQ O).own (Ki (AG (pv 3))) (Aj (DB 4 nd (Ff (Hw BF)))
  (Aj (HF (BQ O).own rfl (Gb (AG (pv 3))) (D0 5 nd)
  (BD (HF (BQ O).own rfl (Gb (B2 (Pb T) (BQ O).pass (hr.mono (by decide)) rfl T.d_near.m T.d_near.kp T.d_near.b (AZ (AG (pv 0)) (AZ (AG (pv 5)) BF)))) (D0 6 nd)
  (BD (Er (Iu hu (AG (pv 6)) (AG (pv 2))) (Aj (Pr (BV (KC (by decide:1<=64) _) hu) (AG (pv 2)) (AG (pv 6)) (Bv Pd (Dm hu (AG (pv 2)) (AG (pv 5))) ge_int) rfl)
  (BD (Fx (GM (AG (pv 4)) (AG (pv 6)))))) Ce)))))
  (BD (DB 3 nd (AG (pv 4)))))))
  (BD (Cy (AG (pv 2)))))))
theorem M5:CU ["web", "one", "other", "steps", "way", "here"] ["web", "one", "other"] (A0 DU):=Js
theorem Im (T:Txt K mg W):EM P w K mg base (CXG P w) 4 T.d_way_between.f T.d_way_between.fd ["web", "one", "other"] (spM K 3 (EB W)):=by
 refine DP (k:=3) T.d_way_between.F M5 rfl λ_ _ _ _ _ _ hr O hu nd pn E'=>?_
 exact (Aj (Fx (B2 (EK T) (BQ O).pass (hr.mono (by decide)) rfl T.d_refuse_no_place.m T.d_refuse_no_place.kp T.d_refuse_no_place.b (AZ (AG (pv 0)) (AZ (AG (pv 1)) BF))))
  (Aj (Fx (B2 (EK T) (BQ O).pass (hr.mono (by decide)) rfl T.d_refuse_no_place.m T.d_refuse_no_place.kp T.d_refuse_no_place.b (AZ (AG (pv 0)) (AZ (AG (pv 2)) BF))))
  (Aj (DB 3 nd (B2 (OI T) (BQ O).pass (hr.mono (by decide)) rfl T.d_steps_from.m T.d_steps_from.kp T.d_steps_from.b (AZ (AG (pv 0)) (AZ (AG (pv 2)) BF))))
  (Aj (Er (Iu hu (AG (pv 1)) (AG (pv 3))) (BD (Cy Xl)) Ce)
  (Aj (DB 4 nd (Ff (Hw (AZ (AG (pv 1)) BF))))
  (Aj (RE wN (BQ O).own (D3 (Tb hu) (Dm hu (AG (pv 4)) (Sg ge_int)) (AG (pv 2)) (Dl _)) (Aj (DB 5 nd (Dm hu (AG (pv 4)) (Sg ge_int)))
  (BD (Fx (GM (AG (pv 4)) (Zx rfl rfl T.b_min (Ff (Ps (own:=["place"]) (N':=["place", "·1", "·2", "·3", "steps", "·5", "here"]) rfl (Hz (by kernel_rfl)) (Gb (B2 (Pb T) (BQ O).pass (hr.mono (by decide)) rfl T.d_near.m T.d_near.kp T.d_near.b (AZ (AG (pv 0)) (AZ (AG (pv 5)) BF)))) (λ_ _ _ _ _ _=>(D0 0 (by decide +kernel:(["place", "·1", "·2", "·3", "steps", "·5", "here"]:List Str).Nodup))) (λ_ _ _ _ _ _=>(NZ (D3 Tc (Dm hu (AG (pv 4)) (AG (pv 0))) (Dm hu (AG (pv 4)) (AG (pv 6))) (Dl _)))) (λ_ _ _ _ _ _=>(AG (pv 0)))))))))))
  (BD (Cy (AG (pv 4))))))))))
theorem OC:CU ["web", "some", "numbers", "number", "place", "ties"] ["web", "some"] (A0 Du):=Js
theorem FJ (T:Txt K mg W):EM P w K mg base (CXG P w) 4 T.d_web_within.f T.d_web_within.fd ["web", "some"] (spM K 2 (Dz W)):=by
 refine DP (k:=3) T.d_web_within.F OC rfl λ_ _ _ _ _ _ hr O hu nd pn E'=>?_
 exact (Aj (DB 2 nd Xn)
  (Aj (HF (BQ O).own rfl (Zu rfl T.b_enumerate (AG (pv 1))) (Na rfl (EA (D0 3 nd) (EA (D0 4 nd) Kk)))
  (BD (Pr (BV (KC (by decide:1<=64) _) hu) (AG (pv 2)) (AG (pv 4)) (AG (pv 3)) rfl)))
  (Aj (Mc (i:=5) (own:=["one", "other"]) (N':=["one", "other", "·2", "·3", "numbers", "·5", "·6", "·7"]) rfl rfl nd rfl (by first | exact Nu rfl | exact Ld rfl) (Hz (by kernel_rfl)) (Gb (Ge T.c_Web.cl T.n_Web_ties (AG (pv 0)) rfl)) (λ_ _ _ _ _ _=>(Na rfl (EA (D0 0 (by decide +kernel:(["one", "other", "·2", "·3", "numbers", "·5", "·6", "·7"]:List Str).Nodup)) (EA (D0 1 (by decide +kernel:(["one", "other", "·2", "·3", "numbers", "·5", "·6", "·7"]:List Str).Nodup)) Kk)))) (λ_ _ _ _ _ _=>(NZ (U5 (Pq (RC hu (AG (pv 0)) (AG (pv 4))) (Pp (RC hu (AG (pv 1)) (AG (pv 4)))))))) (λ_ _ _ _ _ _=>(LQ (AZ (Dm hu (AG (pv 4)) (AG (pv 0))) (AZ (Dm hu (AG (pv 4)) (AG (pv 1))) BF)))))
  (BD (Cy (Tx T.c_Web.mk' (Ln T) (BQ O).pass (hr.mono (by decide)) rfl T.c_Web.m T.d_Web_init.b (AZ (Zz rfl T.b_len (AG (pv 2))) (AZ (AG (pv 5)) BF))))))))
theorem MA:CU ["script", "k"] ["script", "k"] (A0 DG):=Js
theorem Fb (T:Txt K mg W):EM P w K mg base (CXG P w) 1 T.d__law_cell_at.f T.d__law_cell_at.fd ["script", "k"] (spM K 2 (Do W)):=by
 refine DP (k:=0) T.d__law_cell_at.F MA rfl λ_ _ _ _ _ _ hr O hu nd pn E'=>?_
 exact (Aj (Er (D3 Tc (AG (pv 1)) (HG rfl T.b_len (AG (pv 0))) (Dl _)) (BD (Cy (Dm hu (AG (pv 0)) (AG (pv 1))))) Ce)
  (BD (Cy ge_int)))
theorem M6:CU ["script", "head"] ["script"] (A0 DV):=Js
theorem NA (T:Txt K mg W):EM P w K mg base (CXG P w) 2 T.d__law_places.f T.d__law_places.fd ["script"] (spM K 1 (HI W)):=by
 refine DP (k:=1) T.d__law_places.F M6 rfl λ_ _ _ _ _ _ hr O hu nd pn E'=>?_
 exact (Aj (DB 1 nd (B2 (Fb T) (BQ O).pass (hr.mono (by decide)) rfl T.d__law_cell_at.m T.d__law_cell_at.kp T.d__law_cell_at.b (AZ (AG (pv 0)) (AZ ge_int BF))))
  (BD (Cy (Bv Pd ge_int (Dm hu (Ff (Hw (AZ (Bv Fc (Bv FK (AG (pv 1)) ge_int) ge_int) (AZ (Bv Fc (Bv FK (AG (pv 1)) ge_int) ge_int) (AZ (Bv Fc (Bv FK (AG (pv 1)) ge_int) ge_int) (AZ (Bv Fc (Bv FK (AG (pv 1)) ge_int) ge_int) BF)))))) (Bv Fc (AG (pv 1)) ge_int))))))
theorem OE:CU ["script", "places", "pairs", "cell", "turn", "one", "other"] ["script", "places"] (A0 Dw):=Js
theorem OJ (T:Txt K mg W):EM P w K mg base (CXG P w) 1 T.d__law_pairs.f T.d__law_pairs.fd ["script", "places"] (spM K 2 (Hx W)):=by
 refine DP (k:=0) T.d__law_pairs.F OE rfl λ_ _ _ _ _ _ hr O hu nd pn E'=>?_
 exact (Aj (DB 2 nd (Ff (Hw BF)))
  (Aj (HF (BQ O).own rfl (Gb (Xk (AG (pv 0)) (Tu ge_int) (Tu ge_int))) (D0 3 nd)
  (BD (HF (BQ O).own rfl (JO rfl T.b_range (AZ ge_int BF)) (D0 4 nd)
  (Aj (DB 5 nd (Bv Fc (AG (pv 3)) (AG (pv 1))))
  (Aj (DB 6 nd (Bv Fc (Bv FK (AG (pv 3)) (AG (pv 1))) (AG (pv 1))))
  (Aj (DB 3 nd (Bv FK (Bv FK (AG (pv 3)) (AG (pv 1))) (AG (pv 1))))
  (BD (Er (U5 (Pq (D3 (Tb hu) (AG (pv 5)) (AG (pv 6)) (Dl _)) (Pq (Iu hu (LQ (AZ (AG (pv 5)) (AZ (AG (pv 6)) BF))) (AG (pv 2))) (Pp (Iu hu (LQ (AZ (AG (pv 6)) (AZ (AG (pv 5)) BF))) (AG (pv 2))))))) (BD (Fx (GM (AG (pv 2)) (LQ (AZ (AG (pv 5)) (AZ (AG (pv 6)) BF)))))) Ce))))))))
  (BD (Cy (AG (pv 2))))))
theorem PV:CU ["cell", "places", "some", "place"] ["cell", "places"] (A0 ES):=Js
theorem KY (T:Txt K mg W):EM P w K mg base (CXG P w) 1 T.d__law_some.f T.d__law_some.fd ["cell", "places"] (spM K 2 (G4 W)):=by
 refine DP (k:=0) T.d__law_some.F PV rfl λ_ _ _ _ _ _ hr O hu nd pn E'=>?_
 exact (Aj (DB 2 nd (Ff (Hw BF)))
  (Aj (HF (BQ O).own rfl (JO rfl T.b_range (AZ (AG (pv 1)) BF)) (D0 3 nd)
  (Aj (Er (D3 fR (Bv Fc (AG (pv 0)) ge_int) ge_int (Dl _)) (BD (Fx (GM (AG (pv 2)) (AG (pv 3))))) Ce)
  (Aj (DB 0 nd (Bv FK (AG (pv 0)) ge_int))
  (BD (Er (U5 (Xg (D3 (Oh hu) (AG (pv 0)) ge_int (Dl _)) (Sd (D3 (Oh hu) (AG (pv 0)) (Sg ge_int) (Dl _))))) (BD (DB 0 nd (Bv Pd (Bv W6 ge_int (Bv SM ge_int ge_int)) (Bv W6 ge_int (AG (pv 3)))))) Ce)))))
  (Aj (Er (D3 (Oh hu) (AG (pv 2)) (Ff (Hw BF)) (Dl _)) (BD (DB 2 nd (Ff (Hw (AZ (Bv W4 (AG (pv 1)) ge_int) BF))))) Ce)
  (BD (Cy (Hc rfl T.b_tuple (AG (pv 2))))))))
theorem OF:CU ["one", "other"] ["one", "other"] (A0 Dx):=Js
theorem Jf (T:Txt K mg W):EM P w K mg base (CXG P w) 1 T.d__law_alike.f T.d__law_alike.fd ["one", "other"] (spM K 2 (F0 W)):=by
 refine DP (k:=0) T.d__law_alike.F OF rfl λ_ _ _ _ _ _ hr O hu nd pn E'=>?_
 exact (BD (Cy (L2.c9 (Sh (Oh hu) (Ge T.c_Web.cl T.n_Web_places (AG (pv 0)) rfl) (Ge T.c_Web.cl T.n_Web_places (AG (pv 1)) rfl) (Dl _)) (c6 (Sh (Oh hu) (Ge T.c_Web.cl T.n_Web_ties (AG (pv 0)) rfl) (Ge T.c_Web.cl T.n_Web_ties (AG (pv 1)) rfl) (Dl _))))))
theorem PU:CU ["web", "inner", "some", "cell", "one", "other", "way", "there", "k"] ["web", "inner", "some", "cell"] (A0 ER):=Js
theorem Pc (T:Txt K mg W):EM P w K mg base (CXG P w) 5 T.d__law_ways.f T.d__law_ways.fd ["web", "inner", "some", "cell"] (spM K 4 (Iw W)):=by
 refine DP (k:=4) T.d__law_ways.F PU rfl λ_ _ _ _ _ _ hr O hu nd pn E'=>?_
 exact (Aj (DB 4 nd (Bv Fc (AG (pv 3)) (HG rfl T.b_len (AG (pv 2)))))
  (Aj (DB 5 nd (Bv Fc (Bv FK (AG (pv 3)) (HG rfl T.b_len (AG (pv 2)))) (HG rfl T.b_len (AG (pv 2)))))
  (Aj (DB 6 nd (B2 (Im T) (BQ O).pass (hr.mono (by decide)) rfl T.d_way_between.m T.d_way_between.kp T.d_way_between.b (AZ (AG (pv 1)) (AZ (AG (pv 4)) (AZ (AG (pv 5)) BF)))))
  (Aj (Er (D3 cU (AG (pv 6)) Xl (Dl _)) (BD (Cy Km)) Ce)
  (Aj (Mc (i:=7) (own:=["place"]) (N':=["place", "·1", "·2", "some", "·4", "·5", "·6", "·7", "·8", "·9"]) rfl rfl nd rfl (by first | exact Nu rfl | exact Ld rfl) (Hz (by kernel_rfl)) (Gb (AG (pv 6))) (λ_ _ _ _ _ _=>(D0 0 (by decide +kernel:(["place", "·1", "·2", "some", "·4", "·5", "·6", "·7", "·8", "·9"]:List Str).Nodup))) (λ_ _ _ _ _ _=>Kj) (λ_ _ _ _ _ _=>(Dm hu (AG (pv 3)) (AG (pv 0)))))
  (Aj (HF (BQ O).own rfl (U7 rfl T.b_range (AZ ge_int (AZ (HG rfl T.b_len (AG (pv 7))) BF))) (D0 8 nd)
  (BD (Er (Iu hu (Dm hu (AG (pv 7)) (AG (pv 8))) (B2 (Pb T) (BQ O).pass (hr.mono (by decide)) rfl T.d_near.m T.d_near.kp T.d_near.b (AZ (AG (pv 0)) (AZ (Dm hu (AG (pv 7)) (Bv W4 (AG (pv 8)) ge_int)) BF)))) (BD (Cy Km)) Ce)))
  (BD (Cy (Sh Td (HG rfl T.b_len (B2 (Im T) (BQ O).pass (hr.mono (by decide)) rfl T.d_way_between.m T.d_way_between.kp T.d_way_between.b (AZ (AG (pv 0)) (AZ (Dm hu (AG (pv 2)) (AG (pv 4))) (AZ (Dm hu (AG (pv 2)) (AG (pv 5))) BF))))) (HG rfl T.b_len (AG (pv 7))) (Dl _))))))))))
theorem bg:CU ["script", "places", "web", "some", "inner", "due", "less", "deep", "k"] ["script"] (A0 Oe):=Js
theorem cT (T:Txt K mg W):EM P w K mg base (CXG P w) 6 T.d_law.f T.d_law.fd ["script"] (spM K 1 (T4 W)):=by
 refine DP (k:=5) T.d_law.F bg rfl λ_ _ _ _ _ _ hr O hu nd pn E'=>?_
 exact (Aj (DB 1 nd (B2 (NA T) (BQ O).pass (hr.mono (by decide)) rfl T.d__law_places.m T.d__law_places.kp T.d__law_places.b (AZ (AG (pv 0)) BF)))
  (Aj (DB 2 nd (Tx T.c_Web.mk' (Ln T) (BQ O).pass (hr.mono (by decide)) rfl T.c_Web.m T.d_Web_init.b (AZ (AG (pv 1)) (AZ (B2 (OJ T) (BQ O).pass (hr.mono (by decide)) rfl T.d__law_pairs.m T.d__law_pairs.kp T.d__law_pairs.b (AZ (AG (pv 0)) (AZ (AG (pv 1)) BF))) BF))))
  (Aj (DB 3 nd (B2 (KY T) (BQ O).pass (hr.mono (by decide)) rfl T.d__law_some.m T.d__law_some.kp T.d__law_some.b (AZ (Bv Fc (B2 (Fb T) (BQ O).pass (hr.mono (by decide)) rfl T.d__law_cell_at.m T.d__law_cell_at.kp T.d__law_cell_at.b (AZ (AG (pv 0)) (AZ ge_int BF))) (Bv SM ge_int ge_int)) (AZ (AG (pv 1)) BF))))
  (Aj (DB 4 nd (B2 (FJ T) (BQ O).pass (hr.mono (by decide)) rfl T.d_web_within.m T.d_web_within.kp T.d_web_within.b (AZ (AG (pv 2)) (AZ (AG (pv 3)) BF))))
  (Aj (Er (U5 (Xg (LP (cu (c7 T.oi_Web rfl T.b_isinstance (AG (pv 4)) (Ta rfl T.c_Web.m rfl)))) (Sd (D3 (Tb hu) (Ge T.c_Web.cl T.n_Web_places (AG (pv 4)) rfl) (HG rfl T.b_len (AG (pv 3))) (Dl _))))) (BD (Cy Km)) Ce)
  (Aj (Mc (i:=5) (own:=["one", "other"]) (N':=["one", "other", "·2", "·3", "·4", "some", "·6", "·7", "·8", "·9", "·10"]) rfl rfl nd rfl (by first | exact Nu rfl | exact Ld rfl) (Hz (by kernel_rfl)) (Gb (Ge T.c_Web.cl T.n_Web_ties (AG (pv 2)) rfl)) (λ_ _ _ _ _ _=>(Na rfl (EA (D0 0 (by decide +kernel:(["one", "other", "·2", "·3", "·4", "some", "·6", "·7", "·8", "·9", "·10"]:List Str).Nodup)) (EA (D0 1 (by decide +kernel:(["one", "other", "·2", "·3", "·4", "some", "·6", "·7", "·8", "·9", "·10"]:List Str).Nodup)) Kk)))) (λ_ _ _ _ _ _=>(NZ (U5 (Pq (RC hu (AG (pv 0)) (AG (pv 5))) (Pp (RC hu (AG (pv 1)) (AG (pv 5)))))))) (λ_ _ _ _ _ _=>(LQ (AZ (RF (AG (pv 5)) (AG (pv 0))) (AZ (RF (AG (pv 5)) (AG (pv 1))) BF)))))
  (Aj (Er (D3 (Tb hu) (Ge T.c_Web.cl T.n_Web_ties (AG (pv 4)) rfl) (Hc rfl T.b_tuple (LS rfl rfl T.b_sorted (AG (pv 5)))) (Dl _)) (BD (Cy Km)) Ce)
  (Aj (DB 6 nd (B2 (KY T) (BQ O).pass (hr.mono (by decide)) rfl T.d__law_some.m T.d__law_some.kp T.d__law_some.b (AZ (Bv Fc (B2 (Fb T) (BQ O).pass (hr.mono (by decide)) rfl T.d__law_cell_at.m T.d__law_cell_at.kp T.d__law_cell_at.b (AZ (AG (pv 0)) (AZ ge_int BF))) (Bv SM ge_int ge_int)) (AZ (HG rfl T.b_len (AG (pv 3))) BF))))
  (Aj (DB 7 nd (B2 (FJ T) (BQ O).pass (hr.mono (by decide)) rfl T.d_web_within.m T.d_web_within.kp T.d_web_within.b (AZ (AG (pv 4)) (AZ (AG (pv 6)) BF))))
  (Aj (Er (LP (Ki (B2 (Jf T) (BQ O).pass (hr.mono (by decide)) rfl T.d__law_alike.m T.d__law_alike.kp T.d__law_alike.b (AZ (AG (pv 7)) (AZ (B2 (FJ T) (BQ O).pass (hr.mono (by decide)) rfl T.d_web_within.m T.d_web_within.kp T.d_web_within.b (AZ (AG (pv 2)) (AZ (Hc rfl T.b_tuple (Ff (Ps (own:=["place"]) (N':=["place", "·1", "·2", "·3", "some", "·5", "·6", "·7", "·8", "·9"]) rfl (Hz (by kernel_rfl)) (Gb (AG (pv 6))) (λ_ _ _ _ _ _=>(D0 0 (by decide +kernel:(["place", "·1", "·2", "·3", "some", "·5", "·6", "·7", "·8", "·9"]:List Str).Nodup))) (λ_ _ _ _ _ _=>Kj) (λ_ _ _ _ _ _=>(Dm hu (AG (pv 4)) (AG (pv 0))))))) BF))) BF))))) (BD (Cy Km)) Ce)
  (Aj (Er (LP (Ki (B2 (Jf T) (BQ O).pass (hr.mono (by decide)) rfl T.d__law_alike.m T.d__law_alike.kp T.d__law_alike.b (AZ (B2 (FJ T) (BQ O).pass (hr.mono (by decide)) rfl T.d_web_within.m T.d_web_within.kp T.d_web_within.b (AZ (AG (pv 2)) (AZ (Xj rfl rfl T.b_tuple rfl T.b_range (AZ (AG (pv 1)) BF)) BF))) (AZ (AG (pv 2)) BF))))) (BD (Cy Km)) Ce)
  (Aj (HF (BQ O).own rfl (JO rfl T.b_range (AZ (Tw rfl rfl T.b_min (AZ ge_int (AZ (HG rfl T.b_len (AG (pv 0))) BF))) BF)) (D0 8 nd)
  (BD (Er (LP (Ki (B2 (Pc T) (BQ O).pass (hr.mono (by decide)) rfl T.d__law_ways.m T.d__law_ways.kp T.d__law_ways.b (AZ (AG (pv 2)) (AZ (AG (pv 4)) (AZ (AG (pv 3)) (AZ (Bv Pd (Bv FK (Dm hu (AG (pv 0)) (AG (pv 8))) ge_int) (AG (pv 8))) BF))))))) (BD (Cy Km)) Ce)))
  (BD (Cy Km))))))))))))))
end
end M
namespace M
open PySem L2
open Srt (ltL)
def pairD (x:Int×Int):D:=.tup [.int x.1,.int x.2]
def nrm (x:Int×Int):Int×Int:=(if x.2 < x.1 then x.2 else x.1,if x.2 > x.1 then x.2 else x.1)
def OH (x:Int×Int):List Int:=[x.1,x.2]
def Ke (x:Int×Int):List Key:=[.inl x.1,.inl x.2]
theorem Q9 {x y:Int×Int} (h:Ke x=Ke y):x=y:=by
 unfold Ke at h;simp at h;exact JZ h.1 h.2
theorem Hv:∀ns:List Int,Ga (ns.map D.int)=some ns
 | []=>rfl
 | n :: ns=>by
  rw [Ap];unfold Ga;rw [Hv ns];rfl
theorem M7:∀rs:List (List Int),(∀r∈rs,r≠[])->Je (rs.map JT)=some rs
 | [],_=>rfl
 | [] :: rs,h=>zX rfl (h [] Al)
 | (n :: ns) :: rs,h=>by
  rw [Ap];unfold JT Je;rw [Hv,show OU (λr:List Int=>D.tup (r.map D.int)) rs=rs.map JT from rfl,M7 rs λr hr=>h r (Aa _ hr)]
theorem SB (rs:List (List Int)) (h:∀r∈rs,r≠[]):Jd (rs.map JT)=some ((Ig rs).map JT):=by
 unfold Jd
 cases rs with
 | nil=>simp [Ga,Ig]
 | cons r rs=>
  have:Ga ((r :: rs).map JT)=none:=rfl;rw [this,M7 _ h]
theorem SC (ns:List Int):Jd (ns.map D.int)=some ((EQ ns).map D.int):=by
 unfold Jd;rw [Hv]
def JW (ps:List (Int×Int)):List (List Key×D):=ps.map λx=>(Ke (nrm x),.bl true)
theorem XG (ps:List (Int×Int)) (x:Int×Int):(DL (JW ps) (Ke (nrm x))).isSome=decide (nrm x∈ps.map nrm):=by
 unfold DL JW
 induction ps with
 | nil=>rfl
 | cons y ps ih=>
  rw [Ap,BO]
  by_cases e:Ke (nrm y)=Ke (nrm x)
  ·rw [wX e]
   simp [Q9 e]
  ·rw [wY e]
   have e':nrm x≠nrm y:=λz=>e (by rw [z])
   simp only [Ap,A6,e',false_or];exact ih
theorem XF (ps:List (Int×Int)) (x:Int×Int) (h:nrm x∉ps.map nrm):FB (JW ps) (Ke (nrm x)) (.bl true)=JW (ps++[x]):=by
 unfold FB;rw [qY]
 ·simp [JW]
 ·intro z
  obtain ⟨y,hy,e⟩:=MQ.mp z;obtain ⟨a,ha,rfl⟩:=BH.mp hy;exact h (by rw [<-Q9 (of_decide_eq_true e)];exact List.mem_map_of_mem ha)
theorem fh {S:Sto} {n:Nat} {kvs:List (List Key×D)} {x:Int×Int} (h:S[n]?=some (.dT kvs)) (neg:Bool):inA neg (pairD x) (.ref n) S=.ok (.bl (if neg then !(DL kvs (Ke x)).isSome else (DL kvs (Ke x)).isSome)) S:=by
 show En (inD neg (pairD x) (.ref n) S) (IQ neg (pairD x) (.ref n) S)=_
 have e:inD neg (pairD x) (.ref n) S=.bad:=by
  unfold inD FP;dsimp only;rw [h]
 have e2:Ko (.ref n) (pairD x) S=some (DL kvs (Ke x)):=by
  unfold Ko pairD;dsimp only;rw [h];rfl
 rw [e];show IQ neg (pairD x) (.ref n) S=_;unfold IQ;rw [e2]
theorem Xw {mo mi mv:ME} {e:Lo} {S:Sto} {d:Nat} {kvs:List (List Key×D)} {x:Int×Int} {v:D} (hv:mv e S=.ok v S) (ho:mo e S=.ok (.ref d) S) (hi:mi e S=.ok (pairD x) S) (h:S[d]?=some (.dT kvs)) (hl:kvs.length < sizeLine) :
  EJ mo mi mv e S=.ok (.nx e) (S.set d (.dT (FB kvs (Ke x) v))):=by
 unfold EJ;rw [hv];dsimp only [Res.lift];rw [ho];dsimp only [Res.lift];rw [hi];dsimp only [Res.lift]
 have:RM (.ref d) (pairD x) v S=some (S.set d (.dT (FB kvs (Ke x) v))):=by
  unfold RM pairD;dsimp only;rw [h];show (if kvs.length < sizeLine then some (S.set d (.dT (FB kvs (Ke x) v))) else none)=_;rw [qX hl]
 rw [this]
theorem ix0 (x:Int×Int) (S:Sto):ixA (pairD x) (.int 0) S=.ok (.int x.1) S:=rfl
theorem ix1 (x:Int×Int) (S:Sto):ixA (pairD x) (.int 1) S=.ok (.int x.2) S:=rfl
def Fit (p:Int) (x:Int×Int):Prop:=(nrm x).1≠(nrm x).2/\0<=(nrm x).1/\(nrm x).2 < p
abbrev X9 (W:Wd):MS:=Bd (CP 5 (MF (AY (mQ Lp (AY (AK 3) (AY (AK 4) BM))) (AY (mQ Ol (AY (AK 3) (AY (AK 4) BM))) BM))))
  (Bd (sIf (mB (m2 (eqD false) (m2 ixA (AK 5) (mC (.int 0))) (m2 ixA (AK 5) (mC (.int 1))))) (DY W.BadTie (AY (mC (.str "a tie has one place twice")) BM)) sNx)
  (Bd (sIf (mOr (mB (m2 ltD (m2 ixA (AK 5) (mC (.int 0))) (mC (.int 0)))) (mB (m2 geD (m2 ixA (AK 5) (mC (.int 1))) (AK 0)))) (DY W.BadTie (AY (mC (.str "a tie has a place that is not there")) BM)) sNx)
  (Bd (sIf (mB (m2 (inA false) (AK 5) (AK 2))) (DY W.BadTie (AY (mC (.str "a tie is there twice")) BM)) sNx)
  (EJ (AK 2) (AK 5) (mC (.bl true))))))
theorem WL {W:Wd} {p:Int} {t:D} {n:Nat} {S:Sto} {x:Int×Int} {z5:Option D} {ps:List (Int×Int)} (hn:S[n]?=some (.dT (JW ps))) (hl:ps.length<=100000) :
  (Fit p x/\nrm x∉ps.map nrm->X9 W [sI p,some t,sR n,sI x.1,sI x.2,z5] S=oN [sI p,some t,sR n,sI x.1,sI x.2,some (pairD (nrm x))] (S.set n (.dT (JW (ps++[x]))))) /\
  (¬(Fit p x/\nrm x∉ps.map nrm)->X9 W [sI p,some t,sR n,sI x.1,sI x.2,z5] S=.ok (.ex W.BadTie [sI p,some t,sR n,sI x.1,sI x.2,some (pairD (nrm x))]) S):=by
 have e0:CP 5 (MF (AY (mQ Lp (AY (AK 3) (AY (AK 4) BM))) (AY (mQ Ol (AY (AK 3) (AY (AK 4) BM))) BM))) [sI p,some t,sR n,sI x.1,sI x.2,z5] S =
   oN [sI p,some t,sR n,sI x.1,sI x.2,some (pairD (nrm x))] S:=
  Hq (i:=5) (WK (ds:=[.int (nrm x).1,.int (nrm x).2]) (Cu (ZA (ds:=[.int x.1,.int x.2]) (S1:=S) rfl rfl) (Cu (ZA (ds:=[.int x.1,.int x.2]) (S1:=S) rfl rfl) rfl)) (by simp))
 have t1:=Hb (t:=mB (m2 (eqD false) (m2 ixA (AK 5) (mC (.int 0))) (m2 ixA (AK 5) (mC (.int 1))))) (a:=DY W.BadTie (AY (mC (.str "a tie has one place twice")) BM)) (b:=sNx) (e:=[sI p,some t,sR n,sI x.1,sI x.2,some (pairD (nrm x))]) (S:=S) (S1:=S)
  (JX (Co (Co rfl rfl (ix0 _ _)) (Co rfl rfl (ix1 _ _)) (dH (b:=decide ((nrm x).1=(nrm x).2)) rfl)))
 have t2:mOr (mB (m2 ltD (m2 ixA (AK 5) (mC (.int 0))) (mC (.int 0)))) (mB (m2 geD (m2 ixA (AK 5) (mC (.int 1))) (AK 0))) [sI p,some t,sR n,sI x.1,sI x.2,some (pairD (nrm x))] S=.ok (decide ((nrm x).1 < 0∨p<=(nrm x).2)) S:=by
  by_cases c:(nrm x).1 < 0
  ·rw [W2 (JX (Co (Co rfl rfl (ix0 _ _)) rfl (NN (wX c))))]
   simp [c]
  ·rw [W1 (JX (Co (Co rfl rfl (ix0 _ _)) rfl (NN (wY c)))),JX (Co (Co rfl rfl (ix1 _ _)) rfl (dB (b:=decide (p<=(nrm x).2)) rfl))]
   simp [c]
 have t3:mB (m2 (inA false) (AK 5) (AK 2)) [sI p,some t,sR n,sI x.1,sI x.2,some (pairD (nrm x))] S=.ok (decide (nrm x∈ps.map nrm)) S:=by
  refine JX (Co rfl rfl ?_);rw [fh hn,<-XG];rfl
 have rz:∀s:Str,DY W.BadTie (AY (mC (.str s)) BM) [sI p,some t,sR n,sI x.1,sI x.2,some (pairD (nrm x))] S=.ok (.ex W.BadTie [sI p,some t,sR n,sI x.1,sI x.2,some (pairD (nrm x))]) S:=λs=>Qt rfl (by simp)
 constructor
 ·rintro ⟨⟨f1,f2,f3⟩,f4⟩
  rw [wY f1,qY AS] at t1;have t2':=Hb (a:=DY W.BadTie (AY (mC (.str "a tie has a place that is not there")) BM)) (b:=sNx) t2;rw [wY (by lia),qY AS] at t2';have t3':=Hb (a:=DY W.BadTie (AY (mC (.str "a tie is there twice")) BM)) (b:=sNx) t3;rw [wY f4,qY AS] at t3';unfold X9;rw [Bl e0,Bl (t1.trans rfl),Bl (t2'.trans rfl),Bl (t3'.trans rfl),Xw (x:=nrm x) rfl rfl rfl hn (by unfold JW;rw [AF];exact BV hl (by decide)),XF _ _ f4]
 ·intro nf
  unfold X9;rw [Bl e0]
  by_cases f1:(nrm x).1=(nrm x).2
  ·rw [wX f1,qX rfl] at t1
   exact SG (t1.trans (rz _))
  rw [wY f1,qY AS] at t1;rw [Bl (t1.trans rfl)];have t2':=Hb (a:=DY W.BadTie (AY (mC (.str "a tie has a place that is not there")) BM)) (b:=sNx) t2
  by_cases f2:(nrm x).1 < 0∨p<=(nrm x).2
  ·rw [wX f2,qX rfl] at t2'
   exact SG (t2'.trans (rz _))
  rw [wY f2,qY AS] at t2';rw [Bl (t2'.trans rfl)];have t3':=Hb (a:=DY W.BadTie (AY (mC (.str "a tie is there twice")) BM)) (b:=sNx) t3
  by_cases f3:nrm x∈ps.map nrm
  ·rw [wX f3,qX rfl] at t3'
   exact SG (t3'.trans (rz _))
  ·exact zX ⟨⟨f1,by lia,by lia⟩,f3⟩ nf
theorem U2 {m:ME} {e:Lo} {S S1:Sto} {d:D} {xs:List D} (h:m e S=.ok d S1) (hx:Fi d S1=some xs):FU m e S=.ok (Fi d) S1:=by
 unfold FU;rw [h];dsimp only [Res.bind];rw [hx]
def B8 (p:Int) (ps:List (Int×Int)):Prop:=(∀x∈ps,Fit p x)/\(ps.map nrm).Nodup
theorem B8.snoc {p:Int} {ps:List (Int×Int)} {x:Int×Int}:B8 p (ps++[x])↔B8 p ps/\Fit p x/\nrm x∉ps.map nrm:=by
 unfold B8;rw [Br,Dg]
 constructor
 ·rintro ⟨h1,h2,h3,h4⟩
  exact ⟨⟨λy hy=>h1 y (by simp [hy]),h2⟩,h1 x (by simp),λz=>h4 _ z _ (by simp) rfl⟩
 ·rintro ⟨⟨h1,h2⟩,h3,h4⟩
  refine ⟨λy hy=>?_,h2,by simp,λa ha b hb e=>?_⟩
  ·rcases A2.mp hy with hy | hy
   ·exact h1 y hy
   ·rw [Af.mp hy];exact h3
  ·simp at hb
   subst hb;subst e;exact h4 ha
theorem B8.take {p:Int} {ps:List (Int×Int)} (h:B8 p ps) (i:Nat):B8 p (ps.take i):=by
 refine ⟨λx hx=>h.1 x (List.mem_of_mem_take hx),?_⟩;rw [bB];exact h.2.sublist (Vp _ _)
theorem take_snoc {α:Type} {l:List α} {i:Nat} {x:α} (h:l[i]?=some x):l.take (i+1)=l.take i++[x]:=by
 rw [HU,h];rfl
theorem P3 (W:Wd) {p:Int} {d:D} {S:Sto} {ps:List (Int×Int)} (hv:∀S',Keeps S S'->Fi d S'=some (ps.map pairD)) (hl:ps.length<=100000) :
  ∃f S',Ih (FU (AK 1)) (IK 2 (C7 (tgN 3) (C7 (tgN 4) Ic))) (X9 W) [sI p,some d,sR S.length,none,none,none] (S++[.dT []])=.ok f S' /\
   ((B8 p ps/\(∃z3 z4 z5,f=.nx [sI p,some d,sR S.length,z3,z4,z5])/\S'=S++[.dT (JW ps)])∨(¬B8 p ps/\∃e',f=.ex W.BadTie e'/\Keeps S S')):=by
 rw [Nb (U2 (m:=AK 1) (d:=d) (S1:=S++[.dT []]) rfl (hv _ (Keeps.app _ _)))];refine Pv (xs:=ps.map pairD) (λi e S'=>(∃z3 z4 z5,e=[sI p,some d,sR S.length,z3,z4,z5])/\S'=S++[.dT (JW (ps.take i))]/\B8 p (ps.take i)) _ ⟨⟨none,none,none,rfl⟩,by simp [JW],by simp [B8]⟩ ?_ ?_ ?_
 ·rintro i e S' ⟨_,rfl,_⟩
  exact hv _ (Keeps.app _ _)
 ·rintro i y e S' hy ⟨⟨z3,z4,z5,rfl⟩,rfl,af⟩
  rw [Ae] at hy
  cases hx:ps[i]? with
  | none=>rw [hx] at hy;cases hy
  | some x=>
   rw [hx] at hy;cases hy;have hlt:=(AE.mp hx).1;refine ⟨[sI p,some d,sR S.length,sI x.1,sI x.2,z5],_,rfl,?_⟩;obtain ⟨s1,s2⟩:=WL (W:=W) (p:=p) (t:=d) (z5:=z5) (x:=x) (Dp S (.dT (JW (ps.take i)))) (by rw [CM];lia)
   by_cases c:Fit p x/\nrm x∉(ps.take i).map nrm
   ·refine ⟨_,_,s1 c,⟨⟨_,_,_,rfl⟩,?_,?_⟩⟩
    ·rw [take_snoc hx];simp
    ·rw [take_snoc hx];exact B8.snoc.mpr ⟨af,c⟩
   ·refine ⟨_,_,s2 c,.inr ⟨λa=>c ?_,_,rfl,Keeps.app _ _⟩⟩
    have:=a.take (i+1);rw [take_snoc hx] at this;exact (B8.snoc.mp this).2
 ·rintro e S' ⟨z,rfl,af⟩
  rw [AF,FV] at *
  obtain ⟨z3,z4,z5,rfl⟩:=z;exact .inl ⟨af,⟨_,_,_,rfl⟩,rfl⟩
def HD (ps:List (Int×Int)):List (List Int):=Ig (ps.map λx=>OH (nrm x))
theorem P4 (W:Wd) {p:Int} {d:D} {S:Sto} {ps:List (Int×Int)} (hv:∀S',Keeps S S'->Fi d S'=some (ps.map pairD)) (hl:ps.length<=100000) (hf:B8 p ps) :
  ∃S',Et W [.int p,d] S=.ok (.tup ((HD ps).map JT)) S'/\Keeps S S':=by
 obtain ⟨f,S1,h1,⟨_,⟨z3,z4,z5,rfl⟩,rfl⟩ | ⟨h,_⟩⟩:=P3 W hv hl (p:=p)
 ·have hi:Hu (.ref S.length) (S++[.dT (JW ps)])=some ((ps.map λx=>OH (nrm x)).map JT):=by
   unfold Hu;dsimp only;rw [Dp];dsimp only;unfold JW;rw [A7,A7];rfl
  have hs:=LD (m:=AK 2) (e:=[sI p,some d,sR S.length,z3,z4,z5]) (S:=S++[.dT (JW ps)]) rfl hi (SB _ (by intro r hr;obtain ⟨x,_,rfl⟩:=BH.mp hr;simp [OH]));refine ⟨S++[.dT (JW ps)]++[.lst ((HD ps).map JT)],Ii ?_,(Keeps.app S _).trans (Keeps.app _ _)⟩;refine J7 (Bl (e:=[sI p,some d,none,none,none,none]) (e1:=[sI p,some d,sR S.length,none,none,none]) (S:=S) (S1:=S++[.dT []]) rfl) ?_;refine J7 (Bl h1) ?_;exact LH (KQ hs (Dj (Dp _ _)))
 ·exact zX hf h
end M
namespace M
open PySem L2
def B7 (ts:List (Int×Int)) (x:Nat):List Int:=ts.flatMap λt=>(if t.1=(x:Int) then [t.2] else [])++(if t.2=(x:Int) then [t.1] else [])
theorem Qy (ts:List (Int×Int)) (t:Int×Int) (x:Nat):B7 (ts++[t]) x=B7 ts x++((if t.1=(x:Int) then [t.2] else [])++(if t.2=(x:Int) then [t.1] else [])):=by
 unfold B7;rw [List.flatMap_append];simp
def Ei (p:Nat) (F:Nat->List Int):Sto:=(Bo p).map λx=>Ob.lst ((F x).map D.int)
def Dk (k p:Nat):List D:=(Bo p).map λx=>D.ref (k+x)
def stN (S:Sto) (p:Nat) (F:Nat->List Int):Sto:=S++Ei p F++[.lst (Dk S.length p)]
theorem GZ (p:Nat) (F:Nat->List Int):(Ei p F).length=p:=by simp [Ei]
theorem PN (S:Sto) (p:Nat) (F:Nat->List Int):(stN S p F).length=S.length+p+1:=by simp [stN,GZ];lia
theorem LC (S:Sto) (p:Nat) (F:Nat->List Int):Keeps S (stN S p F):=(Keeps.app S _).trans (Keeps.app _ _)
theorem Ie (S:Sto) (p:Nat) (F:Nat->List Int):(stN S p F)[S.length+p]?=some (.lst (Dk S.length p)):=by
 have:S.length+p=(S++Ei p F).length:=by simp [GZ]
 unfold stN;rw [this];exact Dp _ _
theorem Ho (S:Sto) {p a:Nat} (F:Nat->List Int) (h:a < p):(stN S p F)[S.length+a]?=some (.lst ((F a).map D.int)):=by
 unfold stN;rw [Az,As (by lia),AV (by rw [GZ];lia),show S.length+a - S.length=a by lia];unfold Ei;rw [Ae,Bw h];rfl
theorem TW (S:Sto) {p a:Nat} (F:Nat->List Int) (ys:List Int) (h:a < p):(stN S p F).set (S.length+a) (.lst (ys.map D.int))=stN S p (λx=>if x=a then ys else F x):=by
 apply Lg
 intro j
 by_cases e:S.length+a=j
 ·subst e
  rw [A3 (by rw [PN];lia),Ho _ _ h,qX rfl]
 ·rw [Ay e]
  by_cases h1:j < S.length
  ·rw [(LC S p F).2 j h1,(LC S p _).2 j h1]
  by_cases h2:j - S.length < p
  ·have e2:j=S.length+(j - S.length):=by lia
   rw [e2,Ho S F h2,Ho S _ h2,qY (by lia)]
  by_cases h3:j=S.length+p
  ·subst h3
   rw [Ie,Ie]
  ·rw [CH (by rw [PN];lia),CH (by rw [PN];lia)]
theorem Tq {S:Sto} {p a:Nat} (F:Nat->List Int) (h:a < p):ixA (.ref (S.length+p)) (.int a) (stN S p F)=.ok (.ref (S.length+a)) (stN S p F):=by
 show En (ixD _ _ _) _=_;have e1:FP (.ref (S.length+p)) (stN S p F)=some (Dk S.length p):=Dj (Ie S p F)
 have e2:atI (Dk S.length p) (a:Int)=some (.ref (S.length+a)):=by
  unfold atI ixN;rw [show (Dk S.length p).length=p by simp [Dk],qX (by lia),qX (by lia)];simp only [AJ,A5];unfold Dk;rw [Ae,Bw h];rfl
 have:ixD (.ref (S.length+p)) (.int a) (stN S p F)=.ok (.ref (S.length+a)) (stN S p F):=by
  unfold ixD;rw [e1];dsimp only;rw [e2]
 rw [this];rfl
theorem WQ (S:Sto):∀p:Nat,S++Ei (p+1) (λ_=>[])=S++Ei p (λ_=>[])++[.lst []]:=λp=>by
 unfold Ei;rw [Nx,Br,Az];rfl
theorem Ue {p:Nat} (hp:p<=60) {mp:ME} {e:Lo} {S:Sto} (h0:mp e S=.ok (.int p) S) :
  FT 1 (iR1 (AY mp BM)) (tgN 0) Ji (Ey (DZ BM)) e S=.ok (Dk S.length p) (S++Ei p λ_=>[]):=by
 have hi:iR1 (AY mp BM) e S=.ok (Gz (ET 0 p)) S:=by
  have:=Xc (ml:=AY mp BM) (e:=e) (S:=S) (S1:=S) (j:=p) (Cu h0 rfl) (by lia) (by lia);simpa using this
 obtain ⟨r,S1,q1,e',⟨z,_⟩,rfl,rfl⟩:=P0 (v:=Gz (ET 0 p)) (g:=tgN 0) (c:=Ji) (m:=Ey (DZ BM)) (xs:=ET 0 p) (e:=none :: e) (S:=S)
  (λi e' S' acc=>(∃z,e'=z :: e)/\S'=S++Ei i (λ_=>[])/\acc=Dk S.length i)
  ⟨⟨none,rfl⟩,by simp [Ei],rfl⟩ (λ_ _ _ _ _=>rfl)
  (by
   rintro i d e' S' acc hd ⟨⟨z,rfl⟩,rfl,rfl⟩;obtain ⟨hi,rfl⟩:=WZ hd;refine ⟨by simp [Dk];exact BV (m:=60) (by lia) (by decide),some (.int (0+i)) :: e,_,rfl,true,_,rfl,.inl ⟨rfl,.ref (S++Ei i λ_=>[]).length,_,rfl,⟨_,rfl⟩,(WQ S i).symm,?_⟩⟩;unfold Dk;rw [Nx,Br,Ac,GZ]
   rfl)
 rw [Ug] at q1;exact (Me hi).trans q1
abbrev UD:MS:=Bd (Eh (Jt (m2 ixA (AK 2) (AK 3)) (AK 4))) (Eh (Jt (m2 ixA (AK 2) (AK 4)) (AK 3)))
def In (p:Nat) (t:Int×Int):Prop:=0<=t.1/\t.1 < p/\0<=t.2/\t.2 < p/\t.1≠t.2
theorem Ud {p:Nat} {S:Sto} {F:Nat->List Int} {t:Int×Int} {d0 d1:D} (ht:In p t) (hF:∀x,(F x).length < 200000) :
  UD [some d0,some d1,sR (S.length+p),sI t.1,sI t.2] (stN S p F)=.ok (.nx [some d0,some d1,sR (S.length+p),sI t.1,sI t.2])
   (stN S p λx=>F x++((if t.1=(x:Int) then [t.2] else [])++(if t.2=(x:Int) then [t.1] else []))):=by
 obtain ⟨a,ha⟩:∃a:Nat,t.1=a:=⟨t.1.toNat,by have:=ht.1;lia⟩
 obtain ⟨b,hb⟩:∃b:Nat,t.2=b:=⟨t.2.toNat,by have:=ht.2.2.1;lia⟩
 obtain ⟨_,h2,_,h4,h5⟩:=ht
 have hab:a≠b:=λe=>h5 (by rw [ha,hb,e])
 rw [ha,hb]
 have hz:∀x,((F x).map D.int).length < sizeLine:=λx=>by rw [AF];exact d7 (hF x) (by decide)
 have s1:=Nt (mo:=m2 ixA (AK 2) (AK 3)) (ma:=AK 4) (e:=[some d0,some d1,sR (S.length+p),sI a,sI b]) (S:=stN S p F) (S1:=stN S p F) (S2:=stN S p F) (n:=S.length+a) (y:=.int b) (Co rfl rfl (Tq F (by lia))) (Ho S F (by lia)) rfl (Ho S F (by lia)) (hz a);rw [show (F a).map D.int++[D.int b]=(F a++[(b:Int)]).map D.int by simp,TW S F _ (by lia)] at s1
 have hrow:(stN S p λx=>if x=a then F a++[(b:Int)] else F x)[S.length+b]?=some (.lst ((F b).map D.int)):=by
  rw [Ho S _ (by lia),qY (Bm hab)]
 have s2:=Nt (mo:=m2 ixA (AK 2) (AK 4)) (ma:=AK 3) (e:=[some d0,some d1,sR (S.length+p),sI a,sI b]) (S:=stN S p λx=>if x=a then F a++[(b:Int)] else F x) (S1:=stN S p λx=>if x=a then F a++[(b:Int)] else F x) (S2:=stN S p λx=>if x=a then F a++[(b:Int)] else F x) (n:=S.length+b) (y:=.int a) (Co rfl rfl (Tq _ (by lia))) hrow rfl hrow (hz b);rw [show (F b).map D.int++[D.int a]=(F b++[(a:Int)]).map D.int by simp,TW S _ _ (by lia)] at s2;unfold UD;rw [Bl (Eu s1),Eu s2]
 congr 2
 funext x
 by_cases e1:x=b
 ·subst e1
  have:¬((a:Int)=(x:Int)):=by lia
  simp [this]
 ·by_cases e2:x=a
  ·subst e2
   have:¬((b:Int)=(x:Int)):=by lia
   simp [e1,this]
  ·have h1:¬((a:Int)=(x:Int)):=by lia
   have h2:¬((b:Int)=(x:Int)):=by lia
   simp [e1,e2,h1,h2]
theorem SQ (ts:List (Int×Int)) (x:Nat):(B7 ts x).length<=2 * ts.length:=by
 unfold B7
 induction ts with
 | nil=>simp
 | cons t ts ih=>
  rw [List.flatMap_cons,Ac,Au]
  have:((if t.1=(x:Int) then [t.2] else [])++(if t.2=(x:Int) then [t.1] else [])).length<=2:=by split <;> split <;> simp
  lia
def Eg (p:Nat) (ts:List (Int×Int)):List D:=(Bo p).map λx=>.tup ((EQ (B7 ts x)).map D.int)
theorem Zi (W:Wd) {p:Nat} (hp:p<=60) {ts:List (Int×Int)} (ht:∀t∈ts,In p t) (hl:ts.length<=90000) (S:Sto) :
  ∃S',Es W [.int p,.tup (ts.map pairD)] S=.ok (.tup (Eg p ts)) S'/\Keeps S S':=by
 have a1:=Hq (i:=2) (Pf (Ue hp (mp:=AK 0) (e:=[sI p,some (.tup (ts.map pairD)),none,none,none]) (S:=S) rfl));have e1:(S++Ei p λ_=>[])++[.lst (Dk S.length p)]=stN S p (B7 []):=rfl
 have e2:(S++Ei p λ_=>[]).length=S.length+p:=by simp [GZ]
 rw [e1,e2] at a1
 obtain ⟨f,S1,h1,⟨z3,z4,rfl⟩,rfl⟩:=Pv (v:=Gz (ts.map pairD)) (g:=IK 2 (C7 (tgN 3) (C7 (tgN 4) Ic))) (b:=UD) (xs:=ts.map pairD) (e:=[sI p,some (.tup (ts.map pairD)),sR (S.length+p),none,none]) (S:=stN S p (B7 []))
  (λi e S'=>(∃z3 z4,e=[sI p,some (.tup (ts.map pairD)),sR (S.length+p),z3,z4])/\S'=stN S p (B7 (ts.take i)))
  (λf S'=>(∃z3 z4,f=.nx [sI p,some (.tup (ts.map pairD)),sR (S.length+p),z3,z4])/\S'=stN S p (B7 ts))
  ⟨⟨none,none,rfl⟩,rfl⟩ (λ_ _ _ _=>rfl)
  (by
   rintro i y e S' hy ⟨⟨z3,z4,rfl⟩,rfl⟩;rw [Ae] at hy
   cases hx:ts[i]? with
   | none=>rw [hx] at hy;cases hy
   | some t=>
    rw [hx] at hy;cases hy;refine ⟨[sI p,some (.tup (ts.map pairD)),sR (S.length+p),sI t.1,sI t.2],_,rfl,_,_,Ud (ht t (Av hx)) (λx=>?_),⟨_,_,rfl⟩,?_⟩
    ·have:=SQ (ts.take i) x
     rw [CM] at this;exact BV (Ao this (Nat.mul_le_mul_left 2 (Ao (Ml _ _) hl))) (by decide)
    ·rw [take_snoc hx,show B7 (ts.take i++[t])=_ from funext λx=>Qy _ _ x])
  (by
   rintro e S' ⟨⟨z3,z4,rfl⟩,rfl⟩;rw [AF,FV]
   exact ⟨⟨_,_,rfl⟩,rfl⟩)
 have a2:=(Nb (g:=IK 2 (C7 (tgN 3) (C7 (tgN 4) Ic))) (b:=UD) (Kg (m:=AK 1) (e:=[sI p,some (.tup (ts.map pairD)),sR (S.length+p),none,none]) (S:=stN S p (B7 [])) (S1:=stN S p (B7 [])) (xs:=ts.map pairD) rfl)).trans h1
 obtain ⟨r,S2,q1,e',⟨z,_⟩,K,rfl⟩:=P0 (v:=Fi (.ref (S.length+p))) (g:=tgN 0) (c:=Ji) (m:=Fe (Fv (AK 0))) (xs:=Dk S.length p) (e:=[none,sI p,some (.tup (ts.map pairD)),sR (S.length+p),z3,z4]) (S:=stN S p (B7 ts))
  (λi e' S' acc=>(∃z,e'=[z,sI p,some (.tup (ts.map pairD)),sR (S.length+p),z3,z4])/\Keeps (stN S p (B7 ts)) S'/\acc=(Bo i).map λx=>.tup ((EQ (B7 ts x)).map D.int))
  ⟨⟨none,rfl⟩,.refl _,rfl⟩ (λi e' S' acc h=>GK (h.2.1.at (Ie S p _)))
  (by
   rintro i d e' S' acc hd ⟨⟨z,rfl⟩,K,rfl⟩
   have hi:i < p:=by
    have:=(AE.mp hd).1;simpa [Dk] using this
   unfold Dk at hd;rw [Ae,Bw hi] at hd;cases hd;have hit:Hu (.ref (S.length+i)) S'=some ((B7 ts i).map D.int):=NU (K.at (Ho S _ hi));have hs:=LD (m:=AK 0) (e:=[sR (S.length+i),sI p,some (.tup (ts.map pairD)),sR (S.length+p),z3,z4]) (S:=S') (S1:=S') rfl hit (SC _);refine ⟨by simp;exact BV (m:=60) (by lia) (by decide),[sR (S.length+i),sI p,some (.tup (ts.map pairD)),sR (S.length+p),z3,z4],_,rfl,true,_,rfl,.inl ⟨rfl,_,_,KQ hs (Dj (Dp _ _)),⟨_,rfl⟩,K.trans (Keeps.app _ _),?_⟩⟩;rw [Nx,Br]
   rfl)
 have a3:=(Me (n:=1) (g:=tgN 0) (c:=Ji) (m:=Fe (Fv (AK 0))) (Kh (m:=AK 2) (e:=[sI p,some (.tup (ts.map pairD)),sR (S.length+p),z3,z4]) (S:=stN S p (B7 ts)) (S1:=stN S p (B7 ts)) rfl (Ie S p _))).trans q1;rw [show (Dk S.length p).length=p by simp [Dk]] at a3;refine ⟨S2++[.lst (Eg p ts)],Ii ?_,((LC S p _).trans K).trans (Keeps.app _ _)⟩;unfold JC;refine J7 (Bl a1) ?_;refine J7 (Bl a2) ?_;exact LH (KQ (Pf a3) (Dj (Dp _ _)))
end M
namespace M
open PySem L2
open Srt (ltL)
def toP (r:List Int):Int×Int:=(r.getD 0 0,r.getD 1 0)
def Bt (ps:List (Int×Int)):List (Int×Int):=(HD ps).map toP
theorem M2 {ps:List (Int×Int)} {r:List Int} (h:r∈HD ps):∃x∈ps,r=OH (nrm x):=by
 have:=(E9 _).mem_iff.mp h;obtain ⟨x,hx,rfl⟩:=BH.mp this;exact ⟨x,hx,rfl⟩
theorem UX (ps:List (Int×Int)):(Bt ps).map OH=HD ps:=by
 unfold Bt;rw [A7]
 conv=>rhs;rw [<-Mn (HD ps)]
 refine BY λr hr=>?_
 obtain ⟨x,_,rfl⟩:=M2 hr;rfl
theorem R7 (ps:List (Int×Int)):(HD ps).map JT=(Bt ps).map pairD:=by
 rw [<-UX,A7];rfl
theorem KR {ps:List (Int×Int)} {t:Int×Int} (h:t∈Bt ps):∃x∈ps,t=nrm x:=by
 obtain ⟨r,hr,rfl⟩:=BH.mp h;obtain ⟨x,hx,rfl⟩:=M2 hr;exact ⟨x,hx,rfl⟩
theorem EO (ps:List (Int×Int)):(Bt ps).Perm (ps.map nrm):=by
 unfold Bt HD;have:=(E9 (ps.map λx=>OH (nrm x))).map toP;refine this.trans ?_;rw [A7];exact S6 rfl
theorem W8 (x:Int×Int):(nrm x).1<=(nrm x).2:=by
 unfold nrm;dsimp only
 split <;> split <;> lia
theorem Fit.in {p:Nat} {x:Int×Int} (h:Fit p x):In p (nrm x):=by
 obtain ⟨h1,h2,h3⟩:=h;have:=W8 x;exact ⟨h2,by lia,by lia,h3,h1⟩
structure G6 (W:Wd) (S:Sto) (q p:Nat) (ts:List (Int×Int)):Prop where
 at_:∃fs:List (Str×D),S[q]?=some (.ins W.Web fs)/\fs.lookup ("places" : Str)=some (.int p)/\fs.lookup ("ties" : Str)=some (.tup (ts.map pairD))/\fs.lookup ("near_sets" : Str)=some (.tup (Eg p ts))
theorem G6.keeps {W:Wd} {S S':Sto} {q p:Nat} {ts:List (Int×Int)} (h:G6 W S q p ts) (k:Keeps S S'):G6 W S' q p ts:=by
 obtain ⟨fs,h1,h2⟩:=h.at_;exact ⟨fs,k.at h1,h2⟩
theorem G6.places {W:Wd} {S:Sto} {q p:Nat} {ts:List (Int×Int)} (h:G6 W S q p ts) {m:ME} {e:Lo} {S0:Sto} (hm:m e S0=.ok (.ref q) S):Gu W.Web "places" m e S0=.ok (.int p) S:=by
 obtain ⟨fs,h1,h2,_⟩:=h.at_;exact Pw hm h1 h2
theorem G6.sets {W:Wd} {S:Sto} {q p:Nat} {ts:List (Int×Int)} (h:G6 W S q p ts) {m:ME} {e:Lo} {S0:Sto} (hm:m e S0=.ok (.ref q) S):Gu W.Web "near_sets" m e S0=.ok (.tup (Eg p ts)) S:=by
 obtain ⟨fs,h1,_,_,h2⟩:=h.at_;exact Pw hm h1 h2
theorem fV:¬(("places" : Str) = "ties"):=by decide +kernel
theorem fW:¬(("places" : Str) = "near_sets"):=by decide +kernel
theorem fU:¬(("ties" : Str) = "near_sets"):=by decide +kernel
theorem put2 (a b:D):MB "ties" b [(("places" : Str),a)]=([("places",a),("ties",b)]:List (Str×D)):=by
 show (if ("places" : Str) = "ties" then _ else _)=_;rw [qY fV];rfl
theorem put3 (a b c:D):MB "near_sets" c [(("places" : Str),a),("ties",b)]=([("places",a),("ties",b),("near_sets",c)]:List (Str×D)):=by
 show (if ("places" : Str) = "near_sets" then _ else _)=_;rw [qY fW]
 have:MB "near_sets" c [(("ties" : Str),b)]=([("ties",b),("near_sets",c)]:List (Str×D)):=by
  show (if ("ties" : Str) = "near_sets" then _ else _)=_;rw [qY fU];rfl
 rw [this]
theorem fc (a b c:D):([("places",a),("ties",b),("near_sets",c)]:List (Str×D)).lookup ("places" : Str)=some a:=by
 rw [Bj,show (("places" : Str)=="places")=true by decide +kernel]
theorem fb (a b c:D):([("places",a),("ties",b),("near_sets",c)]:List (Str×D)).lookup ("ties" : Str)=some b:=by
 rw [Bj,show (("ties" : Str)=="places")=false by decide +kernel];dsimp only;rw [Bj,show (("ties" : Str)=="ties")=true by decide +kernel]
theorem fZ (a b c:D):([("places",a),("ties",b),("near_sets",c)]:List (Str×D)).lookup ("near_sets" : Str)=some c:=by
 rw [Bj,show (("near_sets" : Str)=="places")=false by decide +kernel];dsimp only;rw [Bj,show (("near_sets" : Str)=="ties")=false by decide +kernel];dsimp only;rw [Bj,show (("near_sets" : Str)=="near_sets")=true by decide +kernel]
theorem cc (a b:D):([("places",a),("ties",b)]:List (Str×D)).lookup ("ties" : Str)=some b:=by
 rw [Bj,show (("ties" : Str)=="places")=false by decide +kernel];dsimp only;rw [Bj,show (("ties" : Str)=="ties")=true by decide +kernel]
end M
namespace M
open PySem L2
theorem NF {W:Wd} {S:Sto} {q p:Nat} {ts:List (Int×Int)} (hw:G6 W S q p ts) (x:Int):Bk W [.ref q,.int x] S=if 0<=x/\x < p then .ok .non S else .err W.NoPlace S:=by
 have t:MH (mB (m3 leD ltD (mC (.int 0)) (AK 1) (Gu W.Web "places" (AK 0)))) [sR q,sI x] S=.ok (decide ¬(0<=x/\x < p)) S:=by
  by_cases h1:0<=x
  ·by_cases h2:x < p
   ·rw [NE (b:=true) (JX (Tn rfl rfl (NP (wX h1)) (hw.places rfl) (NN (wX h2))))]
    simp [h1,h2]
   ·rw [NE (b:=false) (JX (Tn rfl rfl (NP (wX h1)) (hw.places rfl) (NN (wY h2))))]
    simp [h2]
  ·rw [NE (b:=false) (JX (ae rfl rfl (NP (wY h1))))]
   simp [h1]
 have t':=Hb (a:=DY W.NoPlace (AY (mC (.str "the web has no such place")) BM)) (b:=sNx) t
 by_cases c:0<=x/\x < p
 ·rw [qX c]
  rw [wY (λz=>z c),qY AS] at t';exact SH (t'.trans rfl)
 ·rw [qY c]
  rw [wX c,qX rfl] at t';exact bj (t'.trans (Qt rfl (by simp)))
theorem Th {W:Wd} {S:Sto} {q p:Nat} {ts:List (Int×Int)} (hw:G6 W S q p ts) {x:Nat} (hx:x < p):HH W [.ref q,.int x] S=.ok (.tup ((EQ (B7 ts x)).map D.int)) S:=by
 refine Ii ?_;unfold P6
 have c:CB 2 (Bk W) (AY (AK 0) (AY (AK 1) BM)) [sR q,sI x] S=.ok .non S:=by
  refine (GB (ds:=[.ref q,.int x]) (S1:=S) rfl rfl).trans ?_;rw [NF hw,qX ⟨by omega,by omega⟩]
 refine J7 (Bl (e:=[sR q,sI x]) (Eu c)) ?_;refine LH (Co (hw.sets rfl) rfl ?_);show En (ixD _ _ _) _=_
 have e2:atI (Eg p ts) (x:Int)=some (.tup ((EQ (B7 ts x)).map D.int)):=by
  unfold atI ixN;rw [show (Eg p ts).length=p by simp [Eg],qX (by omega),qX (by omega)];simp only [AJ,A5];unfold Eg;rw [Ae,Bw hx];rfl
 have:ixD (.tup (Eg p ts)) (.int x) S=.ok (.tup ((EQ (B7 ts x)).map D.int)) S:=by
  show (match atI (Eg p ts) (x:Int) with | some d=>Res.ok d S | none=>.bad)=_;rw [e2]
 rw [this];rfl
theorem WT {l:List Int} (h:l.Nodup):(EQ l).Pairwise (· < ·):=by
 have h1:(EQ l).Nodup:=(EI l).nodup_iff.mpr h
 exact ((Qk l).and h1).imp λ{a b} ⟨q1,q2⟩=>by omega
theorem FD {ts:List (Int×Int)} {x:Nat} {z:Int}:z∈B7 ts x↔∃t∈ts,(t.1=x/\z=t.2)∨(t.2=x/\z=t.1):=by
 unfold B7;rw [List.mem_flatMap]
 constructor
 ·rintro ⟨t,ht,hz⟩
  refine ⟨t,ht,?_⟩
  rcases A2.mp hz with h | h
  ·split at h
   ·rename_i e;exact .inl ⟨e,Af.mp h⟩
   ·cases h
  ·split at h
   ·rename_i e;exact .inr ⟨e,Af.mp h⟩
   ·cases h
 ·rintro ⟨t,ht,⟨h1,h2⟩ | ⟨h1,h2⟩⟩
  ·exact ⟨t,ht,by rw [qX h1];simp [h2]⟩
  ·exact ⟨t,ht,by rw [qX h1];simp [h2]⟩
theorem Kb {x:Nat}:∀ {ts:List (Int×Int)},ts.Nodup->(∀t∈ts,t.1 < t.2)->(B7 ts x).Nodup
 | [],_,_=>Ja
 | t :: ts,h,hlt=>by
  obtain ⟨h1,h2⟩:=C5.mp h
  have ih:=Kb (x:=x) h2 λu hu=>hlt u (Aa _ hu)
  have hl:=hlt t Al;show (((if t.1=(x:Int) then [t.2] else [])++(if t.2=(x:Int) then [t.1] else []))++B7 ts x).Nodup;rw [Dg];refine ⟨?_,ih,λa ha b hb e=>?_⟩
  ·by_cases c1:t.1=(x:Int)
   ·rw [qX c1,qY (by omega)];simp
   ·rw [qY c1];split <;> simp
  ·subst e
   obtain ⟨u,hu,hz⟩:=FD.mp hb;have hul:=hlt u (Aa _ hu)
   have:t=u:=by
    rcases A2.mp ha with q | q
    ·split at q
     ·rename_i e1
      have:=Af.mp q
      rcases hz with ⟨z1,z2⟩ | ⟨z1,z2⟩
      ·exact JZ (by omega) (by omega)
      ·omega
     ·cases q
    ·split at q
     ·rename_i e1
      have:=Af.mp q
      rcases hz with ⟨z1,z2⟩ | ⟨z1,z2⟩
      ·omega
      ·exact JZ (by omega) (by omega)
     ·cases q
   exact h1 (this▸hu)
theorem SO {p:Nat} {ps:List (Int×Int)} (hf:B8 p ps) (x:Nat):(EQ (B7 (Bt ps) x)).Pairwise (· < ·):=by
 refine WT (Kb ((EO ps).nodup_iff.mpr hf.2) λt ht=>?_);obtain ⟨y,hy,rfl⟩:=KR ht;have h1:=W8 y;have h2:=(hf.1 y hy).1;omega
theorem Tg {p:Nat} {ps:List (Int×Int)} (hf:B8 p ps) (x:Nat):∀z∈EQ (B7 (Bt ps) x),0<=z/\z < p:=λz hz=>by
 obtain ⟨t,ht,h⟩:=FD.mp ((EI _).mem_iff.mp hz);obtain ⟨y,hy,rfl⟩:=KR ht;obtain ⟨h1,h2,h3,h4,_⟩:=(hf.1 y hy).in
 rcases h with ⟨_,rfl⟩ | ⟨_,rfl⟩
 ·exact ⟨h3,h4⟩
 ·exact ⟨h1,h2⟩
theorem Uy {α:Type} {f:α->D} {P:α->Bool} {l:List α} {v:Gm} {cd:MT} {e:Lo} {S:Sto} (hv:v S=some (l.map f)) (hl:l.length<=1000000) (hc:∀x∈l,cd (some (f x) :: e) S=.ok (P x) S) :
  EC v (tgN 0) cd (AK 0) (CK v S) 0 (none :: e) S []=.ok ((l.filter P).map f) S:=by
 obtain ⟨r,S1,q1,e',_,rfl,rfl⟩:=P0 (v:=v) (g:=tgN 0) (c:=cd) (m:=AK 0) (xs:=l.map f) (e:=none :: e) (S:=S)
  (λi e' S' acc=>(∃z,e'=z :: e)/\S'=S/\acc=((l.take i).filter P).map f) ⟨⟨none,rfl⟩,rfl,rfl⟩ (by rintro i e' S' acc ⟨_,rfl,_⟩;exact hv)
  (by
   rintro i d e' S' acc hd ⟨⟨z,rfl⟩,rfl,rfl⟩;rw [Ae] at hd
   cases hx:l[i]? with
   | none=>rw [hx] at hd;cases hd
   | some x=>
    rw [hx] at hd;cases hd;refine ⟨?_,some (f x) :: e,S',rfl,P x,S',hc x (Av hx),?_⟩
    ·rw [AF]
     exact BV (Ao (JI _ _) (by rw [CM];exact Ao (Ml _ _) hl)) (by decide)
    ·cases hq:P x with
     | true=>
      refine .inl ⟨rfl,f x,S',rfl,⟨_,rfl⟩,rfl,?_⟩;rw [take_snoc hx,Vh];simp [hq]
     | false=>
      refine .inr ⟨rfl,⟨_,rfl⟩,rfl,?_⟩;rw [take_snoc hx,Vh]
      simp [hq])
 rw [AF,FV] at q1;exact q1
theorem Z5 {α:Type} {f:α->D} {l:List α} {v:Gm} {g:MG} {b:MS} {e:Lo} {S:Sto} (I:List α->Lo->Sto->Prop) (h0:I [] e S) (hv:∀t e S,I t e S->v S=some (l.map f))
  (step:∀t x e S,x∈l->t.length < l.length->I t e S->∃e1 S1,g (f x) e S=.ok e1 S1/\∃e2 S2,b e1 S1=.ok (.nx e2) S2/\I (t++[x]) e2 S2) :
  ∃e' S',Hd v g b (CK v S) 0 e S=.ok (.nx e') S'/\I l e' S':=by
 obtain ⟨f',S',h1,e',rfl,h2⟩:=Pv (v:=v) (g:=g) (b:=b) (xs:=l.map f) (e:=e) (S:=S) (λi e S=>I (l.take i) e S) (λf' S'=>∃e',f'=.nx e'/\I l e' S') h0 (λi e S h=>hv _ e S h)
  (by
   intro i d e S hd hI;rw [Ae] at hd
   cases hx:l[i]? with
   | none=>rw [hx] at hd;cases hd
   | some x=>
    rw [hx] at hd;cases hd;have hlt:=(AE.mp hx).1;obtain ⟨e1,S1,q1,e2,S2,q2,q3⟩:=step (l.take i) x e S (Av hx) (by rw [CM];omega) hI;refine ⟨e1,S1,q1,.nx e2,S2,q2,?_⟩;show I (l.take (i+1)) e2 S2;rw [take_snoc hx]
    exact q3)
  (by
   intro e S hI;rw [AF,FV] at hI
   exact ⟨e,rfl,hI⟩)
 exact ⟨e',S',h1,h2⟩
abbrev Met:=List (Int×Int)
def mD (L:Met):List (Key×D):=L.map λa=>(B9 a.1,D.int a.2)
def BB (L:Met):List Int:=L.map (·.1)
def stp (L:Met) (z:Int):Int:=((L.find? λa=>decide (a.1=z)).map (·.2)).getD 0
theorem Dy (L N:Met):BB (L++N)=BB L++BB N:=Br
theorem DI {L:Met} {z:Int}:z∈BB L↔∃d,(z,d)∈L:=by
 unfold BB
 constructor
 ·intro h
  obtain ⟨a,ha,rfl⟩:=BH.mp h;exact ⟨a.2,ha⟩
 ·rintro ⟨d,h⟩
  exact BH.mpr ⟨_,h,rfl⟩
theorem XI (L:Met) (z:Int):DL (mD L) (B9 z)=(L.find? λa=>decide (a.1=z)).map λa=>D.int a.2:=by
 unfold DL mD
 induction L with
 | nil=>rfl
 | cons a L ih=>
  rw [Ap,BO,BO]
  by_cases e:a.1=z
  ·have:decide ((B9 a.1:Key)=B9 z)=true:=wX (by rw [e])
   rw [this,wX e];rfl
  ·have:decide ((B9 a.1:Key)=B9 z)=false:=wY λq=>e (QK q)
   rw [this,wY e];exact ih
theorem RH {L:Met} (nd:(BB L).Nodup) {z d:Int} (h:(z,d)∈L):(L.find? λa=>decide (a.1=z))=some (z,d):=by
 induction L with
 | nil=>cases h
 | cons a L ih=>
  rw [BO];obtain ⟨n1,n2⟩:=C5.mp (show (a.1 :: BB L).Nodup from nd)
  rcases A6.mp h with e | h'
  ·subst e
   rw [wX rfl]
  ·have:¬a.1=z:=λe=>n1 (by rw [e];exact DI.mpr ⟨d,h'⟩)
   rw [wY this];exact ih n2 h'
theorem GX {L:Met} (nd:(BB L).Nodup) {z d:Int} (h:(z,d)∈L):stp L z=d:=by
 unfold stp;rw [RH nd h];rfl
theorem TV {L:Met} (nd:(BB L).Nodup) {z:Int} (h:z∈BB L):(z,stp L z)∈L:=by
 obtain ⟨d,hd⟩:=DI.mp h;rw [GX nd hd];exact hd
theorem cZ (L:Met) (z:Int):(DL (mD L) (B9 z)).isSome=decide (z∈BB L):=by
 rw [XI]
 induction L with
 | nil=>rfl
 | cons a L ih=>
  rw [BO]
  by_cases e:a.1=z
  ·rw [wX e]
   exact (wX (show z∈a.1 :: BB L by rw [e];exact Al)).symm
  ·rw [wY e]
   refine ih.trans (decide_eq_decide.mpr ?_);show z∈BB L↔z∈a.1 :: BB L;rw [A6];exact ⟨.inr,λh=>h.resolve_left λq=>e q.symm⟩
theorem cY {L:Met} {z:Int} (h:z∉BB L) (v:Int):FB (mD L) (B9 z) (.int v)=mD (L++[(z,v)]):=by
 unfold FB;rw [qY]
 ·unfold mD
  rw [Br];rfl
 ·intro q
  obtain ⟨y,hy,e⟩:=MQ.mp q;obtain ⟨a,ha,rfl⟩:=BH.mp hy;have e:=QK (of_decide_eq_true e);exact h (DI.mpr ⟨a.2,by rw [<-e];exact ha⟩)
theorem Xb {S:Sto} {n:Nat} {L:Met} (h:S[n]?=some (.dK (mD L))) (neg:Bool) (z:Int):inA neg (.int z) (.ref n) S=.ok (.bl (if neg then !decide (z∈BB L) else decide (z∈BB L))) S:=by
 show En (inD neg (.int z) (.ref n) S) (IQ neg (.int z) (.ref n) S)=_
 have e:inD neg (.int z) (.ref n) S=.bad:=by
  unfold inD FP;dsimp only;rw [h]
 have e2:Ko (.ref n) (.int z) S=some (DL (mD L) (B9 z)):=by
  unfold Ko;dsimp only;rw [h];rfl
 rw [e];show IQ neg (.int z) (.ref n) S=_;unfold IQ;rw [e2];dsimp only;rw [cZ]
theorem Pu {S:Sto} {n:Nat} {L:Met} (h:S[n]?=some (.dK (mD L))) (nd:(BB L).Nodup) {z:Int} (hz:z∈BB L):ixA (.ref n) (.int z) S=.ok (.int (stp L z)) S:=by
 show En (ixD (.ref n) (.int z) S) (Jh (.ref n) (.int z) S)=_
 have e:ixD (.ref n) (.int z) S=.bad:=by
  unfold ixD FP;dsimp only;rw [h]
 have e2:Ko (.ref n) (.int z) S=some (some (.int (stp L z))):=by
  unfold Ko;dsimp only;rw [h];show some (DL (mD L) (B9 z))=_;rw [XI,RH nd (TV nd hz)];rfl
 rw [e];show Jh (.ref n) (.int z) S=_;unfold Jh;rw [e2]
theorem ZC {mo mi mv:ME} {e:Lo} {S:Sto} {d:Nat} {L:Met} {z v:Int} (hv:mv e S=.ok (.int v) S) (ho:mo e S=.ok (.ref d) S) (hi:mi e S=.ok (.int z) S) (h:S[d]?=some (.dK (mD L))) (hz:z∉BB L) (hl:L.length<=100000) :
  EJ mo mi mv e S=.ok (.nx e) (S.set d (.dK (mD (L++[(z,v)])))):=by
 unfold EJ;rw [hv];dsimp only [Res.lift];rw [ho];dsimp only [Res.lift];rw [hi];dsimp only [Res.lift]
 have:RM (.ref d) (.int z) (.int v) S=some (S.set d (.dK (mD (L++[(z,v)])))):=by
  unfold RM;dsimp only;rw [h];show (if (mD L).length < sizeLine then some (S.set d (.dK (FB (mD L) (B9 z) (.int v)))) else none)=_;rw [qX (by unfold mD;rw [AF];exact BV hl (by decide)),cY hz]
 rw [this]
theorem Z6 {mk mv:ME} {e:Lo} {S:Sto} {z v:Int} (hk:mk e (S++[.dK []])=.ok (.int z) (S++[.dK []])) (hv:mv e (S++[.dK []])=.ok (.int v) (S++[.dK []])):NJ mk mv e S=.ok (.ref S.length) (S++[.dK (mD [(z,v)])]):=by
 unfold NJ;rw [hk];dsimp only [Res.bind];rw [hv];dsimp only [Res.bind];rw [Dp];show Res.ok (D.ref S.length) ((S++[Ob.dK []]).set S.length (.dK (FB [] (B9 z) (.int v))))=_;have e1:FB ([]:List (Key×D)) (B9 z) (.int v)=mD [(z,v)]:=rfl;rw [e1];simp
theorem Mq {t:MT} {b:MS} (I:Nat->Lo->Sto->Prop) (R:Lo->Sto->Prop)
  (step:∀k e S,I k e S->(∃S1,t e S=.ok false S1/\R e S1)∨∃S1 e2 S2 k',t e S=.ok true S1/\b e S1=.ok (.nx e2) S2/\k' < k/\I k' e2 S2) :
  ∀n k e S,I k e S->k < n->∃e' S',HE t b n e S=.ok (.nx e') S'/\R e' S'
 | 0,_,_,_,_,h=>zX h (JF _)
 | n+1,k,e,S,hI,hk=>by
  rcases step k e S hI with ⟨S1,h1,hR⟩ | ⟨S1,e2,S2,k',h1,h2,h3,h4⟩
  ·refine ⟨e,S1,?_,hR⟩
   unfold HE;rw [h1];rfl
  ·obtain ⟨e',S',h5,h6⟩:=Mq I R step n k' e2 S2 h4 (Ab h3 (Nat.le_of_lt_succ hk))
   refine ⟨e',S',?_,h6⟩;unfold HE;rw [h1];dsimp only [Res.lift];rw [qX rfl,h2];exact h5
def YC (d:Int) (L:Met) (y:Int):Met:=if y∈BB L then L else L++[(y,d+1)]
def Gk (d:Int) (ys:List Int) (L:Met):Met:=ys.foldl (YC d) L
theorem Lv (d:Int) (ys:List Int) (y:Int) (L:Met):Gk d (ys++[y]) L=YC d (Gk d ys L) y:=by
 unfold Gk;rw [Vr];rfl
theorem G5 (d:Int):∀(ys:List Int) (L:Met),∃N,Gk d ys L=L++N/\(∀a∈N,a.2=d+1/\a.1∈ys/\a.1∉BB L)/\(∀y∈ys,y∈BB (L++N))/\(BB N).Nodup
 | [],L=>⟨[],(BE L).symm,λ_ h=>zX h IF,λ_ h=>zX h IF,Ja⟩
 | y :: ys,L=>by
  have e:Gk d (y :: ys) L=Gk d ys (YC d L y):=rfl
  by_cases c:y∈BB L
  ·have e1:YC d L y=L:=qX c
   obtain ⟨N,h1,h2,h3,h4⟩:=G5 d ys L;refine ⟨N,by rw [e,e1,h1],λa ha=>⟨(h2 a ha).1,Aa _ (h2 a ha).2.1,(h2 a ha).2.2⟩,λz hz=>?_,h4⟩
   rcases A6.mp hz with rfl | hz
   ·rw [Dy];exact BJ _ c
   ·exact h3 z hz
  ·have e1:YC d L y=L++[(y,d+1)]:=qY c
   obtain ⟨N,h1,h2,h3,h4⟩:=G5 d ys (L++[(y,d+1)]);refine ⟨(y,d+1) :: N,by rw [e,e1,h1,Az];rfl,λa ha=>?_,λz hz=>?_,?_⟩
   ·rcases A6.mp ha with rfl | ha
    ·exact ⟨rfl,Al,c⟩
    ·refine ⟨(h2 a ha).1,Aa _ (h2 a ha).2.1,λz=>(h2 a ha).2.2 ?_⟩
     rw [Dy];exact BJ _ z
   ·have e2:L++(y,d+1) :: N=L++[(y,d+1)]++N:=by simp
    rw [e2]
    rcases A6.mp hz with rfl | hz
    ·rw [Dy,Dy]
     exact BJ _ (A8 _ (by simp [BB]))
    ·exact h3 z hz
   ·refine C5.mpr ⟨λz=>?_,h4⟩
    obtain ⟨a,ha,e3⟩:=BH.mp z;refine (h2 a ha).2.2 ?_;rw [Dy];exact A8 _ (by rw [e3];simp [BB])
section
variable (nb:Int->List Int) (s:Int)
def LJ (L:Met) (i:Nat):Met:=match L[i]? with
 | some a=>Gk a.2 (nb a.1) L
 | none=>L
def Rn:Nat->Met
 | 0=>[(s,0)]
 | i+1=>LJ nb (Rn i) i
end
section
variable {nb:Int->List Int} {s:Int} {p:Nat}
theorem LI {L:Met} {i:Nat} {a:Int×Int} (h:L[i]?=some a):LJ nb L i=Gk a.2 (nb a.1) L:=by unfold LJ;rw [h]
theorem Wo (L:Met) (i:Nat):∃N,LJ nb L i=L++N:=by
 unfold LJ;split
 ·obtain ⟨N,h,_⟩:=G5 _ (nb _) L
  exact ⟨N,h⟩
 ·exact ⟨[],(BE L).symm⟩
theorem P9 (i:Nat):∀k:Nat,∃N,Rn nb s (i+k)=Rn nb s i++N
 | 0=>⟨[],(BE _).symm⟩
 | k+1=>by
  obtain ⟨N,h⟩:=P9 i k;obtain ⟨N',h'⟩:=Wo (nb:=nb) (Rn nb s (i+k)) (i+k);refine ⟨N++N',?_⟩;show LJ nb (Rn nb s (i+k)) (i+k)=_;rw [h',h,Az]
theorem dR {i j k:Nat} (h:i<=k) {a:Int×Int} (ha:(Rn nb s i)[j]?=some a):(Rn nb s k)[j]?=some a:=by
 obtain ⟨N,e⟩:=P9 (nb:=nb) (s:=s) i (k - i);rw [show i+(k - i)=k by omega] at e;rw [e,AV (AE.mp ha).1];exact ha
theorem P8 {i:Nat} (h:(Rn nb s i).length<=i):∀k,Rn nb s (i+k)=Rn nb s i
 | 0=>rfl
 | k+1=>by
  show LJ nb (Rn nb s (i+k)) (i+k)=_;rw [P8 h k];unfold LJ;rw [CH (by omega)]
theorem dS {i j:Nat} (hi:(Rn nb s i).length<=i) (hj:(Rn nb s j).length<=j):Rn nb s i=Rn nb s j:=by
 rcases Nat.le_total i j with h | h
 ·have:=P8 hi (j - i)
  rw [show i+(j - i)=j by omega] at this;exact this.symm
 ·have:=P8 hj (i - j)
  rw [show j+(i - j)=i by omega] at this;exact this
structure Bf (nb:Int->List Int) (p:Nat) (s:Int) (i:Nat) (L:Met):Prop where
 nd:(BB L).Nodup
 rng:∀a∈L,0<=a.1/\a.1 < p
 nn:∀a∈L,0<=a.2
 up:(L.map (·.2)).Pairwise (·<=·)
 src:(s,0)∈L
 zero:∀a∈L,a.2=0->a.1=s
 cl:∀j,j < i->∀a,L[j]?=some a->∀y∈nb a.1,∃d,(y,d)∈L/\d<=a.2+1
 par:∀a∈L,0 < a.2->∃b∈L,b.2+1=a.2/\a.1∈nb b.1
 top:∀a,L[i]?=some a->∀b∈L,b.2<=a.2+1
 low:∀(j:Nat) a,L[j]?=some a->a.2<=j
theorem Bf.step (hnb:∀x:Int,0<=x->x < p->∀y∈nb x,0<=y/\y < p) {i:Nat} {L:Met} (h:Bf nb p s i L):Bf nb p s (i+1) (LJ nb L i):=by
 cases hq:L[i]? with
 | none=>
  have e:LJ nb L i=L:=by unfold LJ;rw [hq]
  rw [e];have hl:=D7.mp hq;refine ⟨h.nd,h.rng,h.nn,h.up,h.src,h.zero,λj hj a ha=>h.cl j ?_ a ha,h.par,λa ha=>?_,h.low⟩
  ·have:=(AE.mp ha).1;omega
  ·have:=(AE.mp ha).1;omega
 | some x=>
  rw [LI hq];have hx:=Av hq;obtain ⟨N,h1,h2,h3,h4⟩:=G5 x.2 (nb x.1) L;rw [h1];have hxr:=h.rng x hx;refine ⟨?_,λa ha=>?_,λa ha=>?_,?_,BJ _ h.src,λa ha h0=>?_,λj hj a ha y hy=>?_,λa ha h0=>?_,λa ha b hb=>?_,λj a ha=>?_⟩
  ·rw [Dy]
   refine Dg.mpr ⟨h.nd,h4,λa ha b hb e=>?_⟩;obtain ⟨c,hc,rfl⟩:=BH.mp hb;exact (h2 c hc).2.2 (e▸ha)
  ·rcases A2.mp ha with ha | ha
   ·exact h.rng a ha
   ·exact hnb x.1 hxr.1 hxr.2 a.1 (h2 a ha).2.1
  ·rcases A2.mp ha with ha | ha
   ·exact h.nn a ha
   ·have:=(h2 a ha).1;have:=h.nn x hx;omega
  ·rw [Br]
   refine BN.mpr ⟨h.up,?_,λa ha b hb=>?_⟩
   ·refine CC.mpr (d9 (R:=λ_ _=>True) (λ{a b} ha hb _=>?_) (List.pairwise_of_forall λ_ _=>CZ))
    have:=(h2 a ha).1;have:=(h2 b hb).1;omega
   ·obtain ⟨c,hc,rfl⟩:=BH.mp ha
    obtain ⟨d,hd,rfl⟩:=BH.mp hb;have:=h.top x hq c hc;have:=(h2 d hd).1;omega
  ·rcases A2.mp ha with ha | ha
   ·exact h.zero a ha h0
   ·have:=(h2 a ha).1;have:=h.nn x hx;omega
  ·by_cases hji:j=i
   ·subst hji
    rw [AV (AE.mp hq).1,hq] at ha;cases ha;obtain ⟨d,hd⟩:=DI.mp (h3 y hy);refine ⟨d,hd,?_⟩
    rcases A2.mp hd with hd | hd
    ·exact h.top x hq _ hd
    ·exact Int.le_of_eq (h2 _ hd).1
   ·have hlt:j < L.length:=by have:=(AE.mp hq).1;omega
    rw [AV hlt] at ha;obtain ⟨d,hd,hle⟩:=h.cl j (by omega) a ha y hy;exact ⟨d,BJ _ hd,hle⟩
  ·rcases A2.mp ha with ha | ha
   ·obtain ⟨b,hb,h5⟩:=h.par a ha h0
    exact ⟨b,BJ _ hb,h5⟩
   ·exact ⟨x,BJ _ hx,(h2 a ha).1.symm,(h2 a ha).2.1⟩
  ·have hax:x.2<=a.2:=by
    by_cases hlt:i+1 < L.length
    ·rw [AV hlt] at ha
     have h5:(L.map (·.2))[i]?=some x.2:=by rw [Ae,hq];rfl
     have h6:(L.map (·.2))[i+1]?=some a.2:=by rw [Ae,ha];rfl
     obtain ⟨l5,e5⟩:=AE.mp h5;obtain ⟨l6,e6⟩:=AE.mp h6;have:=HK.mp h.up i (i+1) l5 l6 (by omega);rwa [e5,e6] at this
    ·have hlt':=(AE.mp hq).1
     rw [As (by omega)] at ha;have:=(h2 a (Av ha)).1;omega
   rcases A2.mp hb with hb | hb
   ·have:=h.top x hq b hb;omega
   ·have:=(h2 b hb).1;omega
  ·by_cases hlt:j < L.length
   ·rw [AV hlt] at ha
    exact h.low j a ha
   ·have hlt':=(AE.mp hq).1
    rw [As (by omega)] at ha;have:=(h2 a (Av ha)).1;have:=h.low i x hq;omega
theorem Jk (hnb:∀x:Int,0<=x->x < p->∀y∈nb x,0<=y/\y < p) (hs:0<=s/\s < p):∀i,Bf nb p s i (Rn nb s i)
 | 0=>by
  refine ⟨by show [s].Nodup;simp,λa ha=>?_,λa ha=>?_,Ed _ _,Af.mpr rfl,λa ha _=>?_,λj hj=>zX hj (JF _),λa ha h0=>?_,λa ha b hb=>?_,λj a ha=>?_⟩
  ·rw [Af.mp ha];exact hs
  ·rw [Af.mp ha];exact Nz _
  ·rw [Af.mp ha]
  ·rw [Af.mp ha] at h0;exact zX h0 (Int.lt_irrefl _)
  ·cases ha;rw [Af.mp hb];exact Int.le_add_one (Nz _)
  ·rw [Af.mp (Av ha)];exact Int.natCast_nonneg j
 | i+1=>(Jk hnb hs i).step hnb
theorem Ti:∀(p:Nat) (l:List Int),l.Nodup->(∀z∈l,0<=z/\z < p)->l.length<=p
 | 0,l,_,h=>by
  cases l with
  | nil=>exact AO _
  | cons a l=>have:=h a (by simp);omega
 | p+1,l,nd,h=>by
  by_cases c:(p:Int)∈l
  ·have h1:=QE c
   have hpos:0 < l.length:=Rb c
   have i1:=Ti p (l.erase (p:Int)) (nd.erase _) λz hz=>by
    obtain ⟨hz1,hz2⟩:=nd.mem_erase_iff.mp hz;have:=h z hz2;omega
   omega
  ·have i1:=Ti p l nd λz hz=>by
    have:=h z hz
    have:z≠p:=λe=>c (e▸hz)
    omega
   omega
theorem Bf.len {i:Nat} {L:Met} (h:Bf nb p s i L):L.length<=p:=by
 have:=Ti p (BB L) h.nd λz hz=>by
  obtain ⟨a,ha,rfl⟩:=BH.mp hz;exact h.rng a ha
 unfold BB at this;rwa [AF] at this
structure Fd (nb:Int->List Int) (p:Nat) (s:Int) (L:Met):Prop where
 nd:(BB L).Nodup
 rng:∀a∈L,0<=a.1/\a.1 < p
 nn:∀a∈L,0<=a.2
 src:(s,0)∈L
 zero:∀a∈L,a.2=0->a.1=s
 cl:∀a∈L,∀y∈nb a.1,∃d,(y,d)∈L/\d<=a.2+1
 par:∀a∈L,0 < a.2->∃b∈L,b.2+1=a.2/\a.1∈nb b.1
 len:L.length<=p
 far:∀a∈L,a.2 < p
theorem Bf.fd {i:Nat} {L:Met} (h:Bf nb p s i L) (hl:L.length<=i):Fd nb p s L:=⟨h.nd,h.rng,h.nn,h.src,h.zero,λa ha y hy=>by
 obtain ⟨j,hj,e⟩:=UP ha
 exact h.cl j (by omega) a (by rw [BC hj,e]) y hy,h.par,h.len,λa ha=>by
 obtain ⟨j,hj,e⟩:=UP ha;have:=h.low j a (by rw [BC hj,e]);have:=h.len
 omega⟩
def FS (nb:Int->List Int) (L:Met) (x:Int):List Int:=(nb x).filter λy=>decide (stp L y < stp L x)
theorem Fd.next {L:Met} (h:Fd nb p s L) (hsym:∀x y:Int,0<=x->0<=y->y∈nb x->x∈nb y) {x d:Int} (hx:(x,d)∈L) (hd:0 < d):∃y l,FS nb L x=y :: l/\(y,d - 1)∈L:=by
 have ex:=GX h.nd hx;obtain ⟨b,hb,e1,e2⟩:=h.par _ hx hd;have hxr:=h.rng _ hx;have hbr:=h.rng _ hb;have hbx:b.1∈nb x:=hsym b.1 x hbr.1 hxr.1 e2;have eb:stp L b.1=b.2:=GX h.nd hb;have hbn:b.1∈FS nb L x:=B5.mpr ⟨hbx,wX (by rw [ex,eb];dsimp only at e1;omega)⟩
 cases hq:FS nb L x with
 | nil=>rw [hq] at hbn;cases hbn
 | cons y l=>
  refine ⟨y,l,rfl,?_⟩
  have hy:y∈FS nb L x:=by rw [hq];exact Al
  obtain ⟨hy1,hy2⟩:=B5.mp hy;have hy2:=of_decide_eq_true hy2;obtain ⟨d',hd',_⟩:=h.cl _ hx y hy1;have ey:=GX h.nd hd';have hyr:=h.rng _ hd';obtain ⟨d2,hd2,hle⟩:=h.cl _ hd' x (hsym x y hxr.1 hyr.1 hy1)
  have:d2=d:=by rw [<-GX h.nd hd2,ex]
  subst this;rw [ex,ey] at hy2;dsimp only at hle
  have:d'=d2 - 1:=by omega
  rw [<-this];exact hd'
def Gy (nb:Int->List Int) (L:Met):Nat->Int->List Int
 | 0,x=>[x]
 | n+1,x=>x :: Gy nb L n ((FS nb L x).headD 0)
theorem JK (L:Met):∀(n:Nat) (x:Int),(Gy nb L n x).length=n+1
 | 0,_=>rfl
 | n+1,x=>by
  show (Gy nb L n _).length+1=_;rw [JK L n]
end
abbrev bIn (g v a:Nat) (mval:ME):MS:=sIf (mB (m2 (inA true) (AK v) (AK g))) (Bd (EJ (AK g) (AK v) mval) (Eh (Jt (AK a) (AK v)))) sNx
theorem SN {L:Met} {y d:Int} (h:(BB L).Nodup) (c:y∉BB L):(BB (L++[(y,d)])).Nodup:=by
 rw [Dy];refine Dg.mpr ⟨h,by simp [BB],λa ha b hb e=>c ?_⟩
 have:b=y:=by simpa [BB] using hb
 rw [<-this,<-e];exact ha
theorem Xa {g v a:Nat} {mval:ME} {E:Option D->Lo} {dI fI:Nat} {d:Int} {L:Met} {fs:List Int} {S:Sto} {ys:List Int} {z:Option D} {vw:Gm}
  (hvw:∀S',(∀j,j≠dI->j≠fI->S'[j]?=S[j]?)->vw S'=some (ys.map D.int))
  (hv:∀x S,AK v (E (some x)) S=.ok x S) (h2:∀z S,AK g (E z) S=.ok (.ref dI) S) (ha:∀z S,AK a (E z) S=.ok (.ref fI) S) (hg:∀x z S,tgN v x (E z) S=.ok (E (some x)) S)
  (hval:∀x S' N,S'[dI]?=some (.dK (mD (L++N)))->S'[fI]?=some (.lst ((fs++BB N).map D.int))->(BB (L++N)).Nodup->mval (E (some x)) S'=.ok (.int (d+1)) S')
  (hD:S[dI]?=some (.dK (mD L))) (hF:S[fI]?=some (.lst (fs.map D.int))) (hne:dI≠fI) (nd:(BB L).Nodup) (hl:L.length<=1000) (hf:fs.length<=1000) (hy:ys.length<=1000) :
  ∃z' S' N,Hd vw (tgN v) (bIn g v a mval) (CK vw S) 0 (E z) S=.ok (.nx (E z')) S'/\Gk d ys L=L++N/\S'[dI]?=some (.dK (mD (L++N)))/\S'[fI]?=some (.lst ((fs++BB N).map D.int))/\S'.length=S.length/\∀j,j≠dI->j≠fI->S'[j]?=S[j]?:=by
 obtain ⟨e',S',h1,z',N,rfl,q1,_,_,q4,q5,q6,q7⟩:=Z5 (f:=D.int) (l:=ys) (v:=vw) (g:=tgN v) (b:=bIn g v a mval) (e:=E z) (S:=S)
  (λt e S'=>∃z N,e=E z/\Gk d t L=L++N/\(BB (L++N)).Nodup/\N.length<=t.length/\S'[dI]?=some (.dK (mD (L++N)))/\S'[fI]?=some (.lst ((fs++BB N).map D.int))/\S'.length=S.length/\∀j,j≠dI->j≠fI->S'[j]?=S[j]?)
  ⟨z,[],rfl,(BE L).symm,by rw [BE];exact nd,AO _,by rw [BE];exact hD,by show _=some (Ob.lst ((fs++[]).map D.int));rw [BE];exact hF,rfl,λ_ _ _=>rfl⟩ (by rintro t e S' ⟨_,_,_,_,_,_,_,_,_,h⟩;exact hvw S' h)
  (by
   rintro t y e S' hyy ht ⟨z,N,rfl,q1,q2,q3,q4,q5,q6,q7⟩;refine ⟨E (some (.int y)),S',hg _ _ _,?_⟩;have t1:mB (m2 (inA true) (AK v) (AK g)) (E (some (.int y))) S'=.ok (!decide (y∈BB (L++N))) S':=JX (Co (hv _ _) (h2 _ _) (Xb q4 true y));have ic:=Hb (a:=Bd (EJ (AK g) (AK v) mval) (Eh (Jt (AK a) (AK v)))) (b:=sNx) t1
   by_cases c:y∈BB (L++N)
   ·rw [wX c] at ic
    refine ⟨E (some (.int y)),S',ic.trans rfl,_,N,rfl,?_,q2,by rw [Ac];omega,q4,q5,q6,q7⟩;rw [Lv,q1];exact qX c
   ·rw [wY c] at ic
    have p1:=ZC (mo:=AK g) (mi:=AK v) (mv:=mval) (hval (.int y) S' N q4 q5 q2) (h2 _ _) (hv _ _) q4 c (by rw [Ac];omega);have hdl:dI < S'.length:=(AE.mp q4).1;have hfl:fI < S'.length:=(AE.mp q5).1
    have f1:(S'.set dI (.dK (mD (L++N++[(y,d+1)]))))[fI]?=some (.lst ((fs++BB N).map D.int)):=by rw [Ay hne];exact q5
    have a1:=Nt (mo:=AK a) (ma:=AK v) (e:=E (some (.int y))) (S:=S'.set dI (.dK (mD (L++N++[(y,d+1)])))) (ha _ _) f1 (hv _ _) f1 (by
     rw [AF,Ac,show (BB N).length=N.length from AF _]
     exact BV (show fs.length+N.length<=2000 by omega) (by decide))
    refine ⟨E (some (.int y)),_,ic.trans ((qX rfl).trans ((Bl p1).trans (Eu a1))),_,N++[(y,d+1)],rfl,?_,?_,?_,?_,?_,?_,?_⟩
    ·rw [Lv,q1]
     exact (qY c).trans (Az _ _ _)
    ·rw [<-Az]
     exact SN q2 c
    ·rw [Ac,Ac,A9,A9];omega
    ·rw [Ay (Bm hne),A3 hdl,Az]
    ·rw [A3 (by rw [GH];exact hfl),Dy]
     simp [BB]
    ·rw [GH,GH];exact q6
    ·intro j h1 h2
     rw [Ay (Bm h2),Ay (Bm h1)]
     exact q7 j h1 h2)
 exact ⟨z',S',N,h1,q1,q4,q5,q6,q7⟩
theorem RA {B S S':Sto} (k:Keeps B S) {dI fI:Nat} (h1:B.length<=dI) (h2:B.length<=fI) (hl:S'.length=S.length) (h:∀j,j≠dI->j≠fI->S'[j]?=S[j]?):Keeps B S':=
 ⟨by rw [hl];exact k.1,λj hj=>(h j (by omega) (by omega)).trans (k.2 j hj)⟩
theorem Ys {m:ME} {e:Lo} {S:Sto} {n:Nat} {ds:List D} (h:m e S=.ok (.ref n) S) (hn:S[n]?=some (.lst ds)):OM m e S=.ok (!ds.isEmpty) S:=by
 unfold OM;rw [h];dsimp only [Res.bind];unfold Q3;dsimp only;rw [hn]
def nbW (ts:List (Int×Int)) (x:Int):List Int:=EQ (B7 ts x.toNat)
abbrev am (W:Wd):MS:=Ih (FU (CB 2 (HH W) (AY (AK 0) (AY (AK 5) BM)))) (tgN 6) (bIn 2 6 4 (m2 OQ (m2 ixA (AK 2) (AK 5)) (mC (.int 1))))
abbrev YA (W:Wd):MS:=Bd (CP 4 (Ey (DZ BM))) (Bd (Ih (FU (AK 3)) (tgN 5) (am W)) (CP 3 (AK 4)))
section
variable {W:Wd} {q p:Nat} {ts:List (Int×Int)} {s:Int}
theorem WX {B S:Sto} (hw:G6 W B q p ts) (hp:p<=60) (hnb:∀x:Int,0<=x->x < p->∀y∈nbW ts x,0<=y/\y < p) (hlen:∀x,(nbW ts x).length<=1000) (hs:0<=s/\s < p) {i dI ly:Nat} {d1:D} {z4 z5 z6:Option D} (K:Keeps B S) (hdI:B.length<=dI) (hly:B.length<=ly) (hdl:dI≠ly)
  (hD:S[dI]?=some (.dK (mD (Rn (nbW ts) s i)))) (hL:S[ly]?=some (.lst ((BB ((Rn (nbW ts) s i).drop i)).map D.int))) (hi:i<=(Rn (nbW ts) s i).length) :
  ∃y5 y6 S',YA W [sR q,some d1,sR dI,sR ly,z4,z5,z6] S=oN [sR q,some d1,sR dI,sR S.length,sR S.length,y5,y6] S'/\Keeps B S'/\S'[dI]?=some (.dK (mD (Rn (nbW ts) s (Rn (nbW ts) s i).length)))/\S'[S.length]?=some (.lst ((BB ((Rn (nbW ts) s (Rn (nbW ts) s i).length).drop (Rn (nbW ts) s i).length)).map D.int)):=by
 have hdS:dI < S.length:=(AE.mp hD).1;have hlS:ly < S.length:=(AE.mp hL).1;have hBf:=Jk hnb hs i;have hnl:=hBf.len;generalize hn0:(Rn (nbW ts) s i).length=n0 at hnl hi ⊢;have s4:CP 4 (Ey (DZ BM)) [sR q,some d1,sR dI,sR ly,z4,z5,z6] S=oN [sR q,some d1,sR dI,sR ly,sR S.length,z5,z6] (S++[.lst []]):=rfl;have k0:=Keeps.app S [.lst []]
 obtain ⟨f,S1,h1,y5,y6,rfl,K1,D1,F1⟩:=Pv (v:=Fi (.ref ly)) (g:=tgN 5) (b:=am W) (xs:=(BB ((Rn (nbW ts) s i).drop i)).map D.int) (e:=[sR q,some d1,sR dI,sR ly,sR S.length,z5,z6]) (S:=S++[.lst []])
  (λj e S'=>∃y5 y6,e=[sR q,some d1,sR dI,sR ly,sR S.length,y5,y6]/\Keeps B S'/\S'[dI]?=some (.dK (mD (Rn (nbW ts) s (i+j))))/\S'[S.length]?=some (.lst ((BB ((Rn (nbW ts) s (i+j)).drop n0)).map D.int))/\S'[ly]?=some (.lst ((BB ((Rn (nbW ts) s i).drop i)).map D.int)))
  (λf S'=>∃y5 y6,f=.nx [sR q,some d1,sR dI,sR ly,sR S.length,y5,y6]/\Keeps B S'/\S'[dI]?=some (.dK (mD (Rn (nbW ts) s n0)))/\S'[S.length]?=some (.lst ((BB ((Rn (nbW ts) s n0).drop n0)).map D.int)))
  ⟨z5,z6,rfl,K.trans k0,k0.at hD,by
   rw [Rs,Rc (by omega)]
   exact Dp _ _,k0.at hL⟩ (by rintro j e S' ⟨_,_,_,_,_,_,h⟩;exact GK h)
  (by
   rintro j x e S' hx ⟨y5,y6,rfl,K',D',F',L'⟩;unfold BB at hx;rw [Ae,Ae,Eb] at hx
   cases hq:(Rn (nbW ts) s i)[i+j]? with
   | none=>rw [hq] at hx;cases hx
   | some a=>
    rw [hq] at hx;cases hx;have hat:(Rn (nbW ts) s (i+j))[i+j]?=some a:=dR (by omega) hq;have hbf:=Jk hnb hs (i+j);have har:=hbf.rng a (Av hat);have hll:=hbf.len
    obtain ⟨x,hx⟩:∃x:Nat,a.1=x:=⟨a.1.toNat,by omega⟩
    refine ⟨[sR q,some d1,sR dI,sR ly,sR S.length,sI a.1,y6],S',rfl,?_⟩
    have c1:CB 2 (HH W) (AY (AK 0) (AY (AK 5) BM)) [sR q,some d1,sR dI,sR ly,sR S.length,sI a.1,y6] S'=.ok (.tup ((nbW ts a.1).map D.int)) S':=by
     refine (GB (ds:=[.ref q,.int a.1]) (S1:=S') rfl rfl).trans ?_;unfold nbW;rw [hx,A5];exact Th (hw.keeps K') (by omega)
    have hfl:(BB ((Rn (nbW ts) s (i+j)).drop n0)).length<=1000:=by unfold BB;rw [AF,Cq];omega
    obtain ⟨z',S2,N,h2,g1,g2,g3,g4,g5⟩:=Xa (g:=2) (v:=6) (a:=4) (mval:=m2 OQ (m2 ixA (AK 2) (AK 5)) (mC (.int 1))) (E:=λz=>[sR q,some d1,sR dI,sR ly,sR S.length,sI a.1,z]) (dI:=dI) (fI:=S.length) (d:=a.2) (L:=Rn (nbW ts) s (i+j)) (ys:=nbW ts a.1) (z:=y6) (S:=S') (vw:=Gz ((nbW ts a.1).map D.int)) (λ_ _=>rfl)
     (λ_ _=>rfl) (λ_ _=>rfl) (λ_ _=>rfl) (λ_ _ _=>rfl)
     (λy S2 N hd hf nd=>by
      refine Co (Co rfl rfl (Pu hd nd (DI.mpr ⟨a.2,BJ _ (Av hat)⟩))) rfl ?_;rw [GX nd (show (a.1,a.2)∈Rn (nbW ts) s (i+j)++N from BJ _ (Av hat))]
      rfl)
     D' F' (Am hdS) hbf.nd (by omega) hfl (hlen _)
    refine ⟨.nx [sR q,some d1,sR dI,sR ly,sR S.length,sI a.1,z'],S2,(Nb (Kg c1)).trans h2,_,z',rfl,RA K' hdI (by have:=K.1;omega) g4 g5,?_,?_,?_⟩
    ·rw [g2,<-g1]
     show some (Ob.dK (mD (Gk a.2 (nbW ts a.1) (Rn (nbW ts) s (i+j)))))=some (Ob.dK (mD (LJ (nbW ts) (Rn (nbW ts) s (i+j)) (i+j))));rw [LI hat]
    ·have e1:Rn (nbW ts) s (i+(j+1))=Rn (nbW ts) s (i+j)++N:=by
      show LJ (nbW ts) (Rn (nbW ts) s (i+j)) (i+j)=_;rw [LI hat,g1]
     have hle:n0<=(Rn (nbW ts) s (i+j)).length:=by
      obtain ⟨N',e2⟩:=P9 (nb:=nbW ts) (s:=s) i j;rw [e2,Ac];omega
     rw [g3,e1,List.drop_append_of_le_length hle,Dy]
    ·rw [g5 ly (Bm hdl) (Am hlS)]
     exact L')
  (by
   rintro e S' ⟨y5,y6,rfl,K',D',F',L'⟩
   have e1:i+((BB ((Rn (nbW ts) s i).drop i)).map D.int).length=n0:=by
    unfold BB;rw [AF,AF,Cq];omega
   rw [e1] at D' F'
   exact ⟨_,_,rfl,K',D',F'⟩)
 exact ⟨y5,y6,S1,(Bl s4).trans ((Bl ((Nb (Kh (m:=AK 3) (n:=ly) rfl (k0.at hL))).trans h1)).trans rfl),K1,D1,F1⟩
theorem WP {S:Sto} (hw:G6 W S q p ts) (hp:p<=60) (hnb:∀x:Int,0<=x->x < p->∀y∈nbW ts x,0<=y/\y < p) (hlen:∀x,(nbW ts x).length<=1000) (hs:0<=s/\s < p) :
  ∃S' i,Fy W [.ref q,.int s] S=.ok (.ref S.length) S'/\Keeps S S'/\S'[S.length]?=some (.dK (mD (Rn (nbW ts) s i)))/\(Rn (nbW ts) s i).length<=i:=by
 have s2:CP 2 (NJ (AK 1) (mC (.int 0))) (GY 7 [.ref q,.int s]) S=oN [sR q,sI s,sR S.length,none,none,none,none] (S++[.dK (mD [(s,0)])]):=Hq (i:=2) (Z6 rfl rfl);have s3:CP 3 (Ey (DZ (AY (AK 1) BM))) [sR q,sI s,sR S.length,none,none,none,none] (S++[.dK (mD [(s,0)])])=.ok (.nx [sR q,sI s,sR S.length,some (.ref (S++[Ob.dK (mD [(s,0)])]).length),none,none,none]) (S++[.dK (mD [(s,0)])]++[.lst [.int s]]):=rfl
 obtain ⟨e',S',h,i,z3,z4,z5,z6,rfl,K,D1,hl⟩:=Mq (t:=OM (AK 3)) (b:=YA W)
  (λk e S'=>∃(i ly:Nat) (z4 z5 z6:Option D),e=[sR q,sI s,sR S.length,sR ly,z4,z5,z6]/\Keeps S S'/\S.length < ly/\S'[S.length]?=some (.dK (mD (Rn (nbW ts) s i)))/\S'[ly]?=some (.lst ((BB ((Rn (nbW ts) s i).drop i)).map D.int))/\i<=(Rn (nbW ts) s i).length/\k+i=p)
  (λe S'=>∃(i:Nat) (z3 z4 z5 z6:Option D),e=[sR q,sI s,sR S.length,z3,z4,z5,z6]/\Keeps S S'/\S'[S.length]?=some (.dK (mD (Rn (nbW ts) s i)))/\(Rn (nbW ts) s i).length<=i)
  (by
   rintro k e S' ⟨i,ly,z4,z5,z6,rfl,K,hly,hD,hL,hi,hk⟩;have t:=Ys (m:=AK 3) (e:=[sR q,sI s,sR S.length,sR ly,z4,z5,z6]) rfl hL
   by_cases c:i < (Rn (nbW ts) s i).length
   ·refine .inr ?_
    have hne:((BB ((Rn (nbW ts) s i).drop i)).map D.int).isEmpty=false:=by
     cases hq:(BB ((Rn (nbW ts) s i).drop i)).map D.int with
     | nil=>
      have:=congrArg DQ hq;unfold BB at this;rw [AF,AF,Cq] at this;simp at this;omega
     | cons _ _=>rfl
    rw [hne] at t;obtain ⟨y5,y6,S2,g1,g2,g3,g4⟩:=WX (d1:=.int s) (z4:=z4) (z5:=z5) (z6:=z6) hw hp hnb hlen hs K (AO _) (IY hly) (Am hly) hD hL hi;have hb:=(Jk hnb hs i).len;have hlS:ly < S'.length:=(AE.mp hL).1;refine ⟨S',_,S2,p - (Rn (nbW ts) s i).length,t,g1,by omega,(Rn (nbW ts) s i).length,S'.length,_,_,_,rfl,g2,by omega,g3,g4,?_,by omega⟩;obtain ⟨N,e2⟩:=P9 (nb:=nbW ts) (s:=s) i ((Rn (nbW ts) s i).length - i);rw [show i+((Rn (nbW ts) s i).length - i)=(Rn (nbW ts) s i).length by omega] at e2;rw [e2,Ac];omega
   ·refine .inl ⟨S',?_,i,_,_,_,_,rfl,K,hD,by omega⟩
    rw [t,Rc (by omega)]
    rfl)
  wN p [sR q,sI s,sR S.length,some (.ref (S++[Ob.dK (mD [(s,0)])]).length),none,none,none] (S++[.dK (mD [(s,0)])]++[.lst [.int s]])
  ⟨0,_,none,none,none,rfl,(Keeps.app _ _).trans (Keeps.app _ _),by simp,(Keeps.app _ _).at (Dp _ _),Dp _ _,Cp _,rfl⟩ (show p < 1000000 by omega)
 refine ⟨S',i,Ii (n:=7) (mb:=IB W) ?_,K,D1,hl⟩;unfold IB;exact (Bl s2).trans ((Bl s3).trans ((Bl h).trans rfl))
end
theorem RB {w:Nat} {S:Sto} {pre:List Int} {x:Int} (h:S[w]?=some (.lst ((pre++[x]).map D.int))):ixA (.ref w) (.int (-1)) S=.ok (.int x) S:=by
 show En (ixD (.ref w) (.int (-1)) S) _=_
 have e:ixD (.ref w) (.int (-1)) S=.ok (.int x) S:=by
  unfold ixD;rw [Dj h];dsimp only
  have:atI ((pre++[x]).map D.int) (-1)=some (.int x):=by
   unfold atI ixN;rw [qY (by decide),AF,Ac,A9,qX (by lia)];show ((pre++[x]).map D.int)[(-1+((pre.length+1:Nat):Int)).toNat]?=_;rw [show (-1+((pre.length+1:Nat):Int)).toNat=pre.length by lia,Ae,As (AO _),L3];rfl
  rw [this]
 rw [e];rfl
theorem fold_min {y:Int}:∀ {l:List Int},(∀z∈l,y < z)->l.foldl (λm x=>if ltZ x m=true then x else m) y=y
 | [],_=>rfl
 | z :: l,h=>by
  have hz:=h z Al
  have:ltZ z y=false:=by
   unfold ltZ;exact wY (by lia)
  rw [List.foldl_cons,this,qY AS]
  exact fold_min λx hx=>h x (Aa _ hx)
theorem XD {y:Int} {l:List Int} (h:(y :: l).Pairwise (· < ·)) (S:Sto):Oj ((y :: l).map D.int) S=.ok (.int y) S:=by
 unfold Oj UC;rw [Hv];show (match some (l.foldl (λm x=>if ltZ x m=true then x else m) y) with | some b=>Res.ok (D.int b) S | none=>.bad)=_;rw [fold_min (Vf.mp h).1]
section
variable {W:Wd} {q p:Nat} {ts:List (Int×Int)} {s:Int} {L:Met}
abbrev Tl (w:Nat):ME:=m2 ixA (AK w) (SV (mC (.int 1)))
abbrev Zo (W:Wd):ME:=Ey (FT 1 (FU (CB 2 (HH W) (AY (AK 0) (AY (AK 5) BM)))) (tgN 0) (mB (m2 ltD (m2 ixA (AK 4) (AK 0)) (m2 ixA (AK 4) (AK 6)))) (AK 0))
abbrev gH (W:Wd):MS:=Bd (CP 5 (Tl 4)) (Eh (Jt (AK 4) (mQ Oj (Q4 (Zo W)))))
theorem Fd.near_has (h:Fd (nbW ts) p s L) {x:Int} (hx:x∈BB L) {y:Int} (hy:y∈nbW ts x):y∈BB L:=by
 obtain ⟨d,hd⟩:=DI.mp hx;obtain ⟨d',hd',_⟩:=h.cl _ hd y hy;exact DI.mpr ⟨d',hd'⟩
theorem Vz {B S:Sto} (hw:G6 W B q p ts) (hF:Fd (nbW ts) p s L) (hsym:∀x y:Int,0<=x->0<=y->y∈nbW ts x->x∈nbW ts y) (hup:∀x,(nbW ts x).Pairwise (· < ·)) (hlen:∀x,(nbW ts x).length<=1000) {d1:D} {dI w:Nat} {z5:Option D} {pre:List Int} {x:Int} {m:Nat} (K:Keeps B S) (hB:B.length<=w)
  (hD:S[dI]?=some (.dK (mD L))) (hwy:S[w]?=some (.lst ((pre++[x]).map D.int))) (hx:(x,((m+1:Nat):Int))∈L) (hl:pre.length<=1000) :
  ∃y z5' S',gH W [sR q,some d1,sI s,sR dI,sR w,z5] S=oN [sR q,some d1,sI s,sR dI,sR w,z5'] S'/\Keeps B S'/\(dI≠w->S'[dI]?=some (.dK (mD L)))/\S'[w]?=some (.lst ((pre++[x]++[y]).map D.int))/\(y,(m:Int))∈L/\(FS (nbW ts) L x).headD 0=y:=by
 obtain ⟨y,l,e1,hy⟩:=hF.next hsym hx (by lia);rw [show ((m+1:Nat):Int) - 1=m by lia] at hy;have hxr:=hF.rng _ hx
 obtain ⟨xn,hxn⟩:∃n:Nat,x=n:=⟨x.toNat,by lia⟩
 have hxk:x∈BB L:=DI.mpr ⟨_,hx⟩;have s5:CP 5 (Tl 4) [sR q,some d1,sI s,sR dI,sR w,z5] S=oN [sR q,some d1,sI s,sR dI,sR w,sI x] S:=Hq (i:=5) (Co (y:=.int (-1)) (S2:=S) rfl rfl (RB hwy))
 have c1:CB 2 (HH W) (AY (AK 0) (AY (AK 5) BM)) [sR q,some d1,sI s,sR dI,sR w,sI x] S=.ok (.tup ((nbW ts x).map D.int)) S:=by
  refine (GB (ds:=[.ref q,.int x]) (S1:=S) rfl rfl).trans ?_;unfold nbW;rw [hxn,A5];exact Th (hw.keeps K) (by lia)
 have k1:=Uy (f:=D.int) (P:=λy=>decide (stp L y < stp L x)) (l:=nbW ts x) (v:=Gz ((nbW ts x).map D.int)) (cd:=mB (m2 ltD (m2 ixA (AK 4) (AK 0)) (m2 ixA (AK 4) (AK 6)))) (e:=[sR q,some d1,sI s,sR dI,sR w,sI x]) (S:=S) rfl (by have:=hlen x;lia)
  (λy hy=>JX (Co (Co rfl rfl (Pu hD hF.nd (hF.near_has hxk hy))) (Co rfl rfl (Pu hD hF.nd hxk)) (NN rfl)))
 have n1:=Pf ((Me (n:=1) (g:=tgN 0) (m:=AK 0) (Kg c1)).trans k1);have e2:(nbW ts x).filter (λy=>decide (stp L y < stp L x))=y :: l:=e1;rw [e2] at n1
 have hpw:(y :: l).Pairwise (· < ·):=by rw [<-e2];exact (hup x).filter _
 have m1:=ZA (f:=Oj) (ei n1 (Dj (Dp S (.lst ((y :: l).map D.int))))) (XD hpw _);have w1:=(Keeps.app S [.lst ((y :: l).map D.int)]).at hwy;have a1:=Nt (mo:=AK 4) (e:=[sR q,some d1,sI s,sR dI,sR w,sI x]) rfl hwy m1 w1 (by rw [AF,Ac,A9];exact BV (show pre.length+1<=2000 by lia) (by decide));refine ⟨y,_,_,(Bl s5).trans (Eu a1),(K.trans (Keeps.app _ _)).set hB _,λhne=>?_,?_,hy,?_⟩
 ·rw [Ay (Bm hne)]
  exact (Keeps.app S _).at hD
 ·rw [A3 (AE.mp w1).1,Br (l₁:=pre++[x])]
  rfl
 ·rw [e1];rfl
theorem bJ {S:Sto} (hw:G6 W S q p ts) (hp:p<=60) (hnb:∀x:Int,0<=x->x < p->∀y∈nbW ts x,0<=y/\y < p) (hlen:∀x,(nbW ts x).length<=1000) (hsym:∀x y:Int,0<=x->0<=y->y∈nbW ts x->x∈nbW ts y) (hup:∀x,(nbW ts x).Pairwise (· < ·)) {one:Int} (ho:0<=one/\one < p) (hs:0<=s/\s < p) {i:Nat} (hi:(Rn (nbW ts) s i).length<=i) :
  ∃d S',EB W [.ref q,.int one,.int s] S=.ok d S'/\Keeps S S'/\((one∉BB (Rn (nbW ts) s i)/\d=.non)∨one∈BB (Rn (nbW ts) s i)/\∃w,d=.ref w/\S.length<=w/\S'[w]?=some (.lst ((Gy (nbW ts) (Rn (nbW ts) s i) (stp (Rn (nbW ts) s i) one).toNat one).map D.int))):=by
 obtain ⟨S1,j,c1,K1,D1,hj⟩:=WP hw hp hnb hlen hs;rw [<-dS hi hj] at D1;have hF:Fd (nbW ts) p s (Rn (nbW ts) s i):=(Jk hnb hs i).fd hi;generalize Rn (nbW ts) s i=L at D1 hF ⊢;have n1:CB 2 (Bk W) (AY (AK 0) (AY (AK 1) BM)) [sR q,sI one,sI s,none,none,none] S=.ok .non S:=(GB (ds:=[.ref q,.int one]) (S1:=S) rfl rfl).trans ((NF hw _).trans (qX ho));have n2:CB 2 (Bk W) (AY (AK 0) (AY (AK 2) BM)) [sR q,sI one,sI s,none,none,none] S=.ok .non S:=(GB (ds:=[.ref q,.int s]) (S1:=S) rfl rfl).trans ((NF hw _).trans (qX hs));have s3:CP 3 (CB 2 (Fy W) (AY (AK 0) (AY (AK 2) BM))) [sR q,sI one,sI s,none,none,none] S=oN [sR q,sI one,sI s,sR S.length,none,none] S1:=Hq (i:=3) ((GB (ds:=[.ref q,.int s]) (S1:=S) rfl rfl).trans c1);have t4:mB (m2 (inA true) (AK 1) (AK 3)) [sR q,sI one,sI s,sR S.length,none,none] S1=.ok (!decide (one∈BB L)) S1:=JX (Co rfl rfl (Xb D1 true one));have i4:=Hb (a:=Ea (mC .non)) (b:=sNx) t4
 by_cases c:one∈BB L
 ·rw [wX c] at i4
  have s4:CP 4 (Ey (DZ (AY (AK 1) BM))) [sR q,sI one,sI s,sR S.length,none,none] S1=oN [sR q,sI one,sI s,sR S.length,sR S1.length,none] (S1++[.lst [.int one]]):=rfl;have hone:=TV hF.nd c;have hnn:=hF.nn _ hone
  obtain ⟨n,hn⟩:∃n:Nat,stp L one=n:=⟨(stp L one).toNat,by dsimp only at hnn;lia⟩
  have hD1l:S.length < S1.length:=(AE.mp D1).1;have hfar:=hF.far _ hone
  have hbig:n<=900:=by dsimp only at hfar;lia
  obtain ⟨e',S2,h2,z5,rfl,K2,w2⟩:=Mq (t:=mB (m2 (eqD true) (Tl 4) (AK 2))) (b:=gH W)
   (λk e S'=>∃(pre:List Int) (x:Int) (z5:Option D),e=[sR q,sI one,sI s,sR S.length,sR S1.length,z5]/\Keeps S1 S'/\S'[S1.length]?=some (.lst ((pre++[x]).map D.int))/\(x,(k:Int))∈L/\pre++Gy (nbW ts) L k x=Gy (nbW ts) L n one)
   (λe S'=>∃z5,e=[sR q,sI one,sI s,sR S.length,sR S1.length,z5]/\Keeps S1 S'/\S'[S1.length]?=some (.lst ((Gy (nbW ts) L n one).map D.int)))
   (by
    rintro k e S' ⟨pre,x,z5,rfl,K,hwy,hx,he⟩;have t:mB (m2 (eqD true) (Tl 4) (AK 2)) [sR q,sI one,sI s,sR S.length,sR S1.length,z5] S'=.ok (decide (x≠s)) S':=JX (Co (Co (y:=.int (-1)) (S2:=S') rfl rfl (RB hwy)) rfl (cW rfl))
    cases k with
    | zero=>
     have hxs:=hF.zero _ hx rfl;refine .inl ⟨S',?_,z5,rfl,K,?_⟩
     ·rw [t,wY (λh=>h hxs)]
     ·rw [hwy,<-he];rfl
    | succ m=>
     have hxs:x≠s:=λe=>by
      have h1:=GX hF.nd hx;rw [e,GX hF.nd hF.src] at h1
      lia
     have hpl:pre.length<=1000:=by
      have h1:=congrArg DQ he;rw [Ac,JK,JK] at h1;have h2:n<=900:=hbig
      lia
     obtain ⟨y,z5',S3,g1,g2,g3,g4,g5,g6⟩:=Vz (d1:=.int one) (dI:=S.length) (w:=S1.length) (z5:=z5) (hw.keeps K1) hF hsym hup hlen K (AO _) (K.at D1) hwy hx hpl;refine .inr ⟨S',_,S3,m,?_,g1,CO m,pre++[x],y,z5',rfl,g2,g4,g5,?_⟩
     ·rw [t,wX hxs]
     ·rw [<-he,Az]
      show pre++([x]++Gy (nbW ts) L m y)=pre++(x :: Gy (nbW ts) L m ((FS (nbW ts) L x).headD 0));rw [g6]
      rfl)
   wN n [sR q,sI one,sI s,sR S.length,sR S1.length,none] (S1++[.lst [.int one]])
   ⟨[],one,none,rfl,Keeps.app _ _,Dp _ _,by rw [<-hn];exact hone,rfl⟩ (show n < 1000000 by lia)
  refine ⟨.ref S1.length,S2,Ii (n:=6) (mb:=ED W) ?_,K1.trans K2,.inr ⟨c,_,rfl,K1.1,?_⟩⟩
  ·unfold ED
   exact (Bl (Eu n1)).trans ((Bl (Eu n2)).trans ((Bl s3).trans ((Bl (i4.trans rfl)).trans ((Bl s4).trans ((Bl h2).trans rfl)))))
  ·rw [hn,A5]
   exact w2
 ·rw [wY c] at i4
  refine ⟨.non,S1,Ii (n:=6) (mb:=ED W) ?_,K1,.inl ⟨c,rfl⟩⟩;unfold ED;exact (Bl (Eu n1)).trans ((Bl (Eu n2)).trans ((Bl s3).trans (SF (i4.trans rfl))))
end
section
variable {nb:Int->List Int} {p:Nat}
theorem Fd.at' {s:Int} {L:Met} (h:Fd nb p s L) {x:Int} (hx:x∈BB L):(x,stp L x)∈L:=by
 obtain ⟨d,hd⟩:=DI.mp hx;rw [GX h.nd hd];exact hd
theorem Fd.le' {s:Int} {L:Met} (h:Fd nb p s L) {x y:Int} (hx:x∈BB L) (hy:y∈nb x):y∈BB L/\stp L y<=stp L x+1:=by
 obtain ⟨d,hd,hle⟩:=h.cl _ (h.at' hx) y hy;exact ⟨DI.mpr ⟨d,hd⟩,by rw [GX h.nd hd];exact hle⟩
theorem Fd.src' {s:Int} {L:Met} (h:Fd nb p s L):s∈BB L/\stp L s=0:=⟨DI.mpr ⟨0,h.src⟩,GX h.nd h.src⟩
def wf (nb:Int->List Int) (L:Met) (x:Int):Nat->Int
 | 0=>x
 | i+1=>(FS nb L (wf nb L x i)).headD 0
theorem QS (L:Met) (x:Int):∀i,wf nb L x (i+1)=wf nb L ((FS nb L x).headD 0) i
 | 0=>rfl
 | i+1=>by
  show (FS nb L (wf nb L x (i+1))).headD 0=(FS nb L (wf nb L ((FS nb L x).headD 0) i)).headD 0;rw [QS L x i]
theorem QU (L:Met):∀(n:Nat) (x:Int),Gy nb L n x=(Bo (n+1)).map (wf nb L x)
 | 0,x=>rfl
 | n+1,x=>by
  show x :: Gy nb L n _=_;rw [QU L n]
  conv=>rhs;rw [IU,Ap,A7]
  congr 1
  exact BY λi _=>(QS L x i).symm
theorem Fd.bk {s:Int} {L:Met} (h:Fd nb p s L) (hsym:∀x y:Int,0<=x->0<=y->y∈nb x->x∈nb y) {x:Int} {n:Nat} (hx:(x,(n:Int))∈L):∀i,i<=n->(wf nb L x i,(n:Int) - i)∈L/\(i < n->wf nb L x (i+1)∈nb (wf nb L x i))
 | 0,_=>by
  have h0:(M.wf nb L x 0,(n:Int) - (0:Nat))∈L:=by
   show (x,(n:Int) - (0:Nat))∈L;simpa using hx
  refine ⟨h0,λhn=>?_⟩;obtain ⟨y,l,e,_⟩:=h.next hsym h0 (by lia);show (FS nb L (M.wf nb L x 0)).headD 0∈_;rw [e]
  have:y∈FS nb L (M.wf nb L x 0):=by rw [e];exact Al
  exact (B5.mp this).1
 | i+1,hi=>by
  obtain ⟨h1,_⟩:=Fd.bk h hsym hx i (by lia);obtain ⟨y,l,e,hy⟩:=h.next hsym h1 (by lia)
  have hw:M.wf nb L x (i+1)=y:=by
   show (FS nb L (M.wf nb L x i)).headD 0=y;rw [e];rfl
  have h2:(M.wf nb L x (i+1),(n:Int) - ((i+1:Nat):Int))∈L:=by
   rw [hw,show (n:Int) - ((i+1:Nat):Int)=n - i - 1 by lia];exact hy
  refine ⟨h2,λhn=>?_⟩;obtain ⟨y2,l2,e2,_⟩:=h.next hsym h2 (by omega);show (FS nb L (M.wf nb L x (i+1))).headD 0∈_;rw [e2]
  have:y2∈FS nb L (M.wf nb L x (i+1)):=by rw [e2];exact Al
  exact (B5.mp this).1
theorem Fd.walk {s:Int} {L:Met} (h:Fd nb p s L) {f:Nat->Int} {n:Nat} (h0:f 0=s) (ha:∀i,i < n->f (i+1)∈nb (f i)):∀i,i<=n->f i∈BB L/\stp L (f i)<=i
 | 0,_=>by rw [h0];exact ⟨h.src'.1,by rw [h.src'.2];exact Nz _⟩
 | i+1,hi=>by
  obtain ⟨h1,h2⟩:=Fd.walk h h0 ha i (by lia);obtain ⟨h3,h4⟩:=h.le' h1 (ha i (by lia));exact ⟨h3,by lia⟩
theorem Fd.bk_end {s:Int} {L:Met} (h:Fd nb p s L) (hsym:∀x y:Int,0<=x->0<=y->y∈nb x->x∈nb y) {x:Int} {n:Nat} (hx:(x,(n:Int))∈L):wf nb L x n=s:=by
 have:=(h.bk hsym hx n (AO _)).1;exact h.zero _ this (by simp)
theorem Zl {s:Int} {L:Met} (h:Fd nb p s L) {x:Int} (hx:x∈BB L):(x,((stp L x).toNat:Int))∈L:=by
 have h1:=h.at' hx;have h2:=h.nn _ h1;rwa [Ci h2]
end
end M
namespace M
open PySem L2 L4
def Cj (W:Wd) (w:Nat×List (Int×Int)):Ob:=.ins W.Web [("places",.int w.1),("ties",.tup (w.2.map pairD)),("near_sets",.tup (Eg w.1 w.2))]
def LL (p:Nat) (ts:List (Int×Int)):List (List Int):=(Bo p).map λx=>EQ (B7 ts x)
theorem XA (p:Nat) (ts:List (Int×Int)):D.tup (Eg p ts)=eT (eT D.int) (LL p ts):=by
 unfold Eg LL eT;rw [A7];rfl
open Classical in
def QT (x:Int) (l:List (Int×Int)):Option (Nat×List (Int×Int)):=if 1<=x/\x<=60/\B8 x l/\l.length<=90000 then some (x.toNat,Bt l) else none
section
variable {W:Wd} {A:List Sl} {a b m:ME} {p:Option (Nat×List (Int×Int))}
theorem PJ {α:Type} {f:Str} {enc:α->D} {g:Nat×List (Int×Int)->α} (h:VE A m (rO (Cj W)) p) (hl:∀w,([("places",D.int w.1),("ties",.tup (w.2.map pairD)),("near_sets",.tup (Eg w.1 w.2))]:List (Str×D)).lookup f=some (enc (g w))):VE A (Gu W.Web f m) (rV enc) (p.bind λw=>some (g w)):=λv hv S0 e F S hs=>by
 obtain ⟨w,h1,h2⟩:=BK hv;cases h2;obtain ⟨d,S',h3,h4,n,rfl,hn⟩:=h w h1 S0 e F S hs;exact ⟨_,S',Pw h3 hn (hl w),h4,rfl⟩
theorem JM (h:VE A m (rO (Cj W)) p):VE A (Gu W.Web "places" m) (rV D.int) (p.bind λw=>some (w.1:Int)):=PJ h λw=>fc _ _ _
theorem KJ (h:VE A m (rO (Cj W)) p):VE A (Gu W.Web "ties" m) (rV (eT (eP D.int D.int))) (p.bind λw=>some w.2):=PJ h λw=>fb _ _ _
theorem Ym (h:VE A m (rO (Cj W)) p):VE A (Gu W.Web "near_sets" m) (rV (eT (eT D.int))) (p.bind λw=>some (LL w.1 w.2)):=PJ h λw=>by rw [<-XA];exact fZ _ _ _
theorem bH (W:Wd) {p:Nat} (h1:1<=p) (hp:p<=60) {d:D} {S:Sto} {ps:List (Int×Int)} (hv:∀S',Keeps S S'->Fi d S'=some (ps.map pairD)) (hl:ps.length<=90000) (hf:B8 p ps) {e:Lo} {ml:ML} {S0:Sto} (ha:ml e S0=.ok [.int p,d] S) :
  ∃S',NH W.Web 3 (Gg W) ml e S0=.ok (.ref S.length) S'/\Keeps S S'/\S'[S.length]?=some (Cj W (p,Bt ps)):=by
 have t0:MH (mB (m3 leD leD (mC (.int 1)) (AK 1) (mC (.int 60)))) [sR S.length,sI p,some d] (S++[.ins W.Web []])=.ok false (S++[.ins W.Web []]):=
  NE (b:=true) (JX (Tn (S3:=S++[.ins W.Web []]) rfl rfl (NP (wX (by lia))) rfl (NP (wX (by lia)))))
 have hq0:(S++[Ob.ins W.Web []])[S.length]?=some (.ins W.Web []):=Dp _ _;have e1:=PQ (C:=W.Web) (f:="places") (mo:=AK 0) (mv:=AK 1) (e:=[sR S.length,sI p,some d]) (S:=S++[.ins W.Web []]) (v:=.int p) rfl rfl hq0 (by decide);have K1:Keeps S ((S++[Ob.ins W.Web []]).set S.length (.ins W.Web (MB "places" (.int p) []))):=(Keeps.app S _).set (AO _) _;generalize hS1:(S++[Ob.ins W.Web []]).set S.length (.ins W.Web (MB "places" (.int p) []))=S1 at e1 K1
 have hq1:S1[S.length]?=some (.ins W.Web [("places",.int p)]):=by rw [<-hS1];exact A3 (by simp)
 obtain ⟨S2,c2,K2⟩:=P4 W (p:=p) (d:=d) (S:=S1) (ps:=ps) (λS' k=>hv S' (K1.trans k)) (Ao hl (by decide)) hf;rw [R7] at c2;have e2:=PQ (C:=W.Web) (f:="ties") (mo:=AK 0) (mv:=CB 2 (Et W) (AY (AK 1) (AY (AK 2) BM))) (e:=[sR S.length,sI p,some d]) (S:=S1) ((GB rfl rfl).trans c2) rfl (K2.at hq1) (by simp);have K3:Keeps S (S2.set S.length (.ins W.Web (MB "ties" (.tup ((Bt ps).map pairD)) [("places",.int p)]))):=(K1.trans K2).set (AO _) _;rw [put2] at e2 K3;have hlt2:S.length < S2.length:=(AE.mp (K2.at hq1)).1;generalize hS3:S2.set S.length (.ins W.Web [("places",.int p),("ties",.tup ((Bt ps).map pairD))])=S3 at e2 K3
 have hq3:S3[S.length]?=some (.ins W.Web [("places",.int p),("ties",.tup ((Bt ps).map pairD))]):=by rw [<-hS3];exact A3 hlt2
 obtain ⟨S4,c4,K4⟩:=Zi W hp (ts:=Bt ps) (λt ht=>by
  obtain ⟨x,hx,rfl⟩:=KR ht
  exact (hf.1 x hx).in) (by rw [(EO ps).length_eq,AF];exact hl) S3
 have e3:=PQ (C:=W.Web) (f:="near_sets") (mo:=AK 0) (mv:=CB 2 (Es W) (AY (AK 1) (AY (Gu W.Web "ties" (AK 0)) BM))) (e:=[sR S.length,sI p,some d]) (S:=S3)
  ((GB (Cu (S1:=S3) rfl (Cu (Pw rfl hq3 (cc _ _)) rfl)) rfl).trans c4) rfl (K4.at hq3) (by simp)
 have hlt4:S.length < S4.length:=(AE.mp (K4.at hq3)).1;rw [put3] at e3;refine ⟨_,Zn ha rfl (SH (e:=[sR S.length,sI p,some d]) ?_),(K3.trans K4).set (AO _) _,A3 hlt4⟩;unfold Nq;refine J7 (Bl (e:=[sR S.length,sI p,some d]) (e1:=[sR S.length,sI p,some d]) (S1:=S++[.ins W.Web []]) (J7 (Hb t0) rfl)) ?_;rw [Bl e1,Bl e2];exact e3
theorem V4 {pa:Option Int} {pl:Option (List (Int×Int))} (ha:VE A a (rV D.int) pa) (hb:VE A b (rO (oL (eP D.int D.int))) pl):VE A (NH W.Web 3 (Gg W) (AY a (AY b BM))) (rN (Cj W)) (pa.bind λx=>pl.bind λl=>QT x l):=λv hv S0 e F S hs=>by
 obtain ⟨x,h1,hv⟩:=BK hv;obtain ⟨l,h2,h3⟩:=BK hv;obtain ⟨d1,S1,q1,k1,rfl⟩:=ha x h1 S0 e F S hs;obtain ⟨d2,S2,q2,k2,n,rfl,hn⟩:=hb l h2 S0 e _ S1 (hs.grow k1);unfold QT at h3;split at h3
 ·rename_i hc
  cases h3;obtain ⟨c1,c2,c3,c4⟩:=hc;have hx:((x.toNat:Nat):Int)=x:=Ci (by lia);obtain ⟨S3,h5,h6,h7⟩:=bH W (p:=x.toNat) (d:=.ref n) (S:=S2) (ps:=l) (by lia) (by lia) (λS' k=>GK (k.at hn)) c4 (by rw [hx];exact c3) (ml:=AY a (AY b BM)) (e:=e) (S0:=S) (by rw [hx];exact Cu q1 (Cu q2 rfl));exact ⟨_,S3,h5,(k1.trans k2).trans h6,_,rfl,(k1.trans k2).1,h7⟩
 ·cases h3
end
theorem cX {p:Nat} {ps:List (Int×Int)} (hf:B8 p ps):∀x:Int,0<=x->x < p->∀y∈nbW (Bt ps) x,0<=y/\y < p:=λx _ _ y hy=>Tg hf x.toNat y hy
theorem XB {p:Nat} {ps:List (Int×Int)} (hf:B8 p ps) (x:Int):(nbW (Bt ps) x).Pairwise (· < ·):=SO hf x.toNat
theorem Zk {p:Nat} {ps:List (Int×Int)} (hf:B8 p ps) (hp:p<=60) (x:Int):(nbW (Bt ps) x).length<=1000:=by
 have:=Ti p (nbW (Bt ps) x) ((XB hf x).imp λ{a b} h e=>by omega) (Tg hf x.toNat);omega
theorem Zj {ts:List (Int×Int)} (x y:Int) (hx:0<=x) (hy:0<=y) (h:y∈nbW ts x):x∈nbW ts y:=by
 unfold nbW at h ⊢;rw [(EI _).mem_iff,FD] at h ⊢;obtain ⟨t,ht,⟨h1,h2⟩ | ⟨h1,h2⟩⟩:=h
 ·exact ⟨t,ht,.inr ⟨by omega,by omega⟩⟩
 ·exact ⟨t,ht,.inl ⟨by omega,by omega⟩⟩
structure Wok (w:Nat×List (Int×Int)):Prop where
 hp:w.1<=60
 hnb:∀x:Int,0<=x->x < w.1->∀y∈nbW w.2 x,0<=y/\y < w.1
 hlen:∀x,(nbW w.2 x).length<=1000
 hsym:∀x y:Int,0<=x->0<=y->y∈nbW w.2 x->x∈nbW w.2 y
 hup:∀x,(nbW w.2 x).Pairwise (· < ·)
theorem Vw {p:Nat} {ps:List (Int×Int)} (hp:p<=60) (hf:B8 p ps):Wok (p,Bt ps):=⟨hp,cX hf,Zk hf hp,λx y=>Zj x y,XB hf⟩
theorem Vy {W:Wd} {S:Sto} {q:Nat} {w:Nat×List (Int×Int)} (h:S[q]?=some (Cj W w)):G6 W S q w.1 w.2:=⟨⟨_,h,rfl,rfl,rfl⟩⟩
open Classical in
def Cg (w:Nat×List (Int×Int)) (one s:Int):Option (Option (List Int)):=if Wok w/\(0<=one/\one < w.1)/\(0<=s/\s < w.1) then (if one∈BB (Rn (nbW w.2) s w.1) then some (some (Gy (nbW w.2) (Rn (nbW w.2) s w.1) (stp (Rn (nbW w.2) s w.1) one).toNat one)) else some none) else none
theorem Jc (W:Wd) (w:Nat×List (Int×Int)) (one s:Int):VF (EB W) [.z ((Cj W) w),.v (D.int one),.v (D.int s)] (rOL (oL D.int)) (Cg w one s):=λv hv S ds ha=>by
 unfold Cg at hv;split at hv
 ·rename_i ok
  obtain ⟨ok,ho,hs⟩:=ok
  match ds,ha with
  | [d,d2,d3],⟨⟨q,h1,h2⟩,h3,h4,_⟩=>
   subst h1;cases h3;cases h4;have hl:=(Jk ok.hnb (s:=s) ⟨hs.1,hs.2⟩ w.1).len;obtain ⟨d,S',c1,k1,h5⟩:=bJ (Vy h2) ok.hp ok.hnb ok.hlen ok.hsym ok.hup ho hs hl
   rcases h5 with ⟨h6,h7⟩ | ⟨h6,n,rfl,h7,h8⟩
   ·rw [qY h6] at hv
    cases hv;exact ⟨_,S',c1,k1,h7⟩
   ·rw [qX h6] at hv
    cases hv;exact ⟨_,S',c1,k1,n,rfl,h7,h8⟩
 ·cases hv
theorem bO {W:Wd} {A:List Sl} {a:ME} {p:Option (Nat×List (Int×Int))} (h:VE A a (rO (Cj W)) p):VE A (Zp W.Web a) (rV D.bl) (p.bind λ_=>some true):=λv hv S0 e F S hs=>by
 obtain ⟨w,h1,h2⟩:=BK hv;cases h2;obtain ⟨d,S',h3,h4,n,rfl,hn⟩:=h w h1 S0 e F S hs;refine ⟨_,S',?_,h4,rfl⟩;unfold Zp;rw [h3];dsimp only [Res.bind];rw [hn];unfold Cj;dsimp only;rw [qX rfl]
theorem NY {k:Int}:∀ {l:List Int},k∈l->∃j,Jv k l=some j
 | [],h=>zX h IF
 | x :: l,h=>by
  unfold Jv
  by_cases c:x=k
  ·rw [qX c];exact ⟨0,rfl⟩
  ·rw [qY c]
   rcases A6.mp h with e | h
   ·exact zX e.symm c
   ·obtain ⟨j,e⟩:=NY h
    exact ⟨j+1,by rw [e];rfl⟩
theorem Tt {k:Int}:∀ {l:List Int},k∉l->Jv k l=none
 | [],_=>rfl
 | x :: l,h=>by
  unfold Jv;rw [qY λe=>h (by rw [e];exact Al),Tt λhk=>h (Aa _ hk)];rfl
def rk (l:List Int) (x:Int):Int:=(NX l x).getD 0
theorem Kf {l:List Int} {x:Int} (h:x∈l):NX l x=some (rk l x):=by
 obtain ⟨j,e⟩:=NY h;unfold rk NX;rw [e];rfl
theorem Ij {l:List Int} {x:Int} (h:x∈l):∃j:Nat,rk l x=j/\l[j]?=some x:=by
 obtain ⟨j,e⟩:=NY h;obtain ⟨h1,h2,_⟩:=Pm e;refine ⟨j,?_,?_⟩
 ·unfold rk NX;rw [e];rfl
 ·rw [BC h1,h2]
theorem TQ {l:List Int} (hu:l.Pairwise (· < ·)) {i j:Nat} {x y:Int} (hi:l[i]?=some x) (hj:l[j]?=some y) (h:i < j):x < y:=by
 obtain ⟨h1,e1⟩:=AE.mp hi;obtain ⟨h2,e2⟩:=AE.mp hj;have:=HK.mp hu i j h1 h2 h;rwa [e1,e2] at this
theorem bS {l:List Int} (hu:l.Pairwise (· < ·)) {i j:Nat} {x:Int} (hi:l[i]?=some x) (hj:l[j]?=some x):i=j:=by
 rcases YH i j with h | h | h
 ·have:=TQ hu hi hj h;omega
 ·exact h
 ·have:=TQ hu hj hi h;omega
theorem Wa {l:List Int} (hu:l.Pairwise (· < ·)) {j:Nat} {x:Int} (h:l[j]?=some x):rk l x=j:=by
 obtain ⟨i,e1,e2⟩:=Ij (Av h);rw [e1,bS hu e2 h]
theorem aW {l:List Int} {x:Int} (h:x∈l):0<=rk l x/\rk l x < l.length:=by
 obtain ⟨j,e1,e2⟩:=Ij h;have:=(AE.mp e2).1;omega
theorem eo {l:List Int} (hu:l.Pairwise (· < ·)) {x y:Int} (hx:x∈l) (hy:y∈l) (h:x < y):rk l x < rk l y:=by
 obtain ⟨i,e1,e2⟩:=Ij hx;obtain ⟨j,e3,e4⟩:=Ij hy
 rcases YH i j with c | c | c
 ·omega
 ·subst c;rw [e2] at e4;cases e4;omega
 ·have:=TQ hu e4 e2 c;omega
theorem Wb {l:List Int} {x y:Int} (hx:x∈l) (hy:y∈l) (h:rk l x=rk l y):x=y:=by
 obtain ⟨i,e1,e2⟩:=Ij hx;obtain ⟨j,e3,e4⟩:=Ij hy
 have:i=j:=by omega
 subst this;rw [e2] at e4;exact Bc e4
def inB (l:List Int) (t:Int×Int):Bool:=decide (t.1∈l)&&decide (t.2∈l)
def wt (ts:List (Int×Int)) (l:List Int):List (Int×Int):=(ts.filter (inB l)).map λt=>(rk l t.1,rk l t.2)
theorem Ep {l:List Int} {t:Int×Int}:inB l t=true↔t.1∈l/\t.2∈l:=by
 unfold inB;rw [CN,decide_eq_true_iff,decide_eq_true_iff]
def Tz (p:Int) (ts:List (Int×Int)):Prop:=(∀t∈ts,0<=t.1/\t.1 < t.2/\t.2 < p)/\ts.Nodup
theorem Pe {x:Int×Int} (h:x.1 < x.2):nrm x=x:=by
 unfold nrm;rw [qY (by omega),qX (by omega)]
theorem Tz.nrm {p:Int} {ts:List (Int×Int)} (h:Tz p ts):ts.map M.nrm=ts:=by
 conv=>rhs;rw [<-Mn ts]
 exact BY λt ht=>Pe (h.1 t ht).2.1
theorem Tz.fit {p:Nat} {ts:List (Int×Int)} (h:Tz p ts):B8 p ts:=by
 refine ⟨λt ht=>?_,by rw [h.nrm];exact h.2⟩;have:=h.1 t ht;unfold Fit;rw [Pe this.2.1];omega
theorem Tz.perm {p:Int} {ts us:List (Int×Int)} (h:Tz p ts) (hp:us.Perm ts):Tz p us:=⟨λt ht=>h.1 t (hp.mem_iff.mp ht),hp.nodup_iff.mpr h.2⟩
theorem Tz.ts {p:Int} {ts:List (Int×Int)} (h:Tz p ts):Tz p (Bt ts):=h.perm (by have:=EO ts;rwa [h.nrm] at this)
theorem eQ {p:Nat} {ps:List (Int×Int)} (h:B8 p ps):Tz p (Bt ps):=by
 have hp:=EO ps;refine ⟨λt ht=>?_,hp.nodup_iff.mpr h.2⟩;obtain ⟨x,hx,rfl⟩:=KR ht;have:=h.1 x hx;unfold Fit at this
 have:(nrm x).1<=(nrm x).2:=by
  unfold nrm;dsimp only
  split <;> split <;> omega
 omega
theorem QQ {p:Int} {ts:List (Int×Int)} (h:Tz p ts) {l:List Int} (hu:l.Pairwise (· < ·)):Tz l.length (wt ts l):=by
 refine ⟨λt ht=>?_,?_⟩
 ·obtain ⟨u,hu',rfl⟩:=BH.mp ht
  obtain ⟨h1,h2⟩:=B5.mp hu';obtain ⟨h3,h4⟩:=Ep.mp h2;have:=eo hu h3 h4 (h.1 u h1).2.1;have:=aW h3;have:=aW h4;dsimp only;omega
 ·refine CC.mpr ((h.2.filter (inB l)).imp_of_mem λ{t u} ht hu' hne e=>hne ?_)
  obtain ⟨h3,h4⟩:=Ep.mp (B5.mp ht).2;obtain ⟨h5,h6⟩:=Ep.mp (B5.mp hu').2;have e1:=congrArg Prod.fst e;have e2:=congrArg Prod.snd e;exact JZ (Wb h3 h5 e1) (Wb h4 h6 e2)
theorem YX {ts us:List (Int×Int)} (h:ts.Perm us) (l:List Int):(wt ts l).Perm (wt us l):=(h.filter _).map _
theorem eI {ts:List (Int×Int)} {l m:List Int} (hl:l.Pairwise (· < ·)) (hm:m.Pairwise (· < ·)) (hi:∀j∈m,0<=j/\j < l.length) {g:Int->Int} (hg:∀j∈m,l[j.toNat]?=some (g j)) :
  (m.map g).Pairwise (· < ·)/\wt (wt ts l) m=wt ts (m.map g):=by
 have up:(m.map g).Pairwise (· < ·):=by
  rw [CC]
  exact hm.imp_of_mem λ{a b} ha hb hab=>TQ hl (hg a ha) (hg b hb) (by have:=hi a ha;have:=hi b hb;omega)
 have mem:∀x,x∈m.map g↔x∈l/\rk l x∈m:=λx=>by
  constructor
  ·intro hx
   obtain ⟨j,hj,rfl⟩:=BH.mp hx;have h1:=hg j hj;refine ⟨Av h1,?_⟩;rw [Wa hl h1];have:=hi j hj;rw [Ci this.1];exact hj
  ·rintro ⟨h1,h2⟩
   obtain ⟨j,e1,e2⟩:=Ij h1;have h3:=hg _ h2;rw [e1,A5,e2] at h3;exact BH.mpr ⟨rk l x,h2,by rw [e1];exact (Bc h3).symm⟩
 have rkk:∀x,x∈m.map g->rk m (rk l x)=rk (m.map g) x:=λx hx=>by
  obtain ⟨h1,h2⟩:=(mem x).mp hx;obtain ⟨i,e1,e2⟩:=Ij h2;rw [e1];refine (Wa up ?_).symm;rw [Ae,e2];obtain ⟨j,e3,e4⟩:=Ij h1;have h3:=hg _ h2;rw [e3,A5,e4] at h3;rw [Vo,e3];exact h3.symm
 refine ⟨up,?_⟩;unfold wt;rw [List.filter_map,List.filter_filter,A7]
 have hf:(ts.filter λa=>(inB m∘λt=>(rk l t.1,rk l t.2)) a&&inB l a)=ts.filter (inB (m.map g)):=by
  refine List.filter_congr λt _=>?_
  rw [YW,CN,Ep,Function.comp,Ep,Ep,mem,mem]
  constructor
  ·rintro ⟨⟨a,b⟩,c,d⟩;exact ⟨⟨c,a⟩,d,b⟩
  ·rintro ⟨⟨c,a⟩,d,b⟩;exact ⟨⟨a,b⟩,c,d⟩
 rw [hf]
 refine BY λt ht=>?_
 obtain ⟨h1,h2⟩:=Ep.mp (B5.mp ht).2;show (rk m (rk l t.1),rk m (rk l t.2))=_;rw [rkk _ h1,rkk _ h2]
theorem bG {p:Nat} {ts:List (Int×Int)} (h:Tz p ts):wt ts (Fo 0 p)=ts:=by
 have mem:∀x:Int,0<=x->x < p->x∈Fo 0 p:=λx h0 h1=>Io.mpr (by omega)
 have r:∀x:Int,0<=x->x < p->rk (Fo 0 p) x=x:=λx h0 h1=>by
  have:(Fo 0 p)[x.toNat]?=some x:=by
   unfold Fo;rw [Ae,Bw (by omega)];simp;omega
  rw [Wa (TX 0 p) this];omega
 unfold wt;rw [UQ.mpr λt ht=>Ep.mpr ⟨mem _ (h.1 t ht).1 (by have:=h.1 t ht;omega),mem _ (by have:=h.1 t ht;omega) (h.1 t ht).2.2⟩]
 conv=>rhs;rw [<-Mn ts]
 refine BY λt ht=>?_
 have:=h.1 t ht;rw [r _ this.1 (by omega),r _ (by omega) this.2.2];rfl
theorem Oa {ps qs:List (Int×Int)} (h:(ps.map nrm).Perm (qs.map nrm)):Bt ps=Bt qs:=by
 unfold Bt HD
 have:(ps.map λx=>OH (nrm x)).Perm (qs.map λx=>OH (nrm x)):=by
  have:=h.map OH;rwa [A7,A7] at this
 rw [Od ((E9 _).trans (this.trans (E9 _).symm)) (M3 _) (M3 _)]
theorem WU {p:Int} {ts:List (Int×Int)} (h:Tz p ts):Lm ts=Bt ts:=by
 unfold Lm Bt HD;rw [show (ts.map λx=>OH (nrm x))=ts.map λx=>[x.1,x.2] from BY λt ht=>by rw [Pe (h.1 t ht).2.1];rfl];rfl
theorem Zh {p:Int} {ts:List (Int×Int)} (h:Tz p ts) {l:List Int} (hu:l.Pairwise (· < ·)) (h0:∀x∈l,0<=x) {i j:Nat} {x:Int} (hx:l[i]?=some x) (hy:(j:Int)∈nbW (Bt (wt ts l)) i):∃y,l[j]?=some y/\y∈nbW ts x:=by
 unfold nbW at hy ⊢;rw [(EI _).mem_iff,FD] at hy;obtain ⟨t,ht,hc⟩:=hy;have hp:=EO (wt ts l);rw [(QQ h hu).nrm] at hp;obtain ⟨u,hu',e⟩:=BH.mp (hp.mem_iff.mp ht);obtain ⟨g1,g2⟩:=B5.mp hu';obtain ⟨g3,g4⟩:=Ep.mp g2;obtain ⟨a,ea,la⟩:=Ij g3;obtain ⟨b,eb,lb⟩:=Ij g4
 have e1:t.1=a:=by rw [<-e];exact ea
 have e2:t.2=b:=by rw [<-e];exact eb
 have hx0:=h0 x (Av hx)
 rcases hc with ⟨c1,c2⟩ | ⟨c1,c2⟩
 ·have:a=i:=by rw [A5] at c1;omega
  subst this
  have:b=j:=by omega
  subst this;rw [hx] at la;refine ⟨u.2,lb,?_⟩;rw [(EI _).mem_iff,FD];exact ⟨u,g1,.inl ⟨by rw [Ci hx0];exact (Bc la).symm,rfl⟩⟩
 ·have:b=i:=by rw [A5] at c1;omega
  subst this
  have:a=j:=by omega
  subst this;rw [hx] at lb;refine ⟨u.1,la,?_⟩;rw [(EI _).mem_iff,FD];exact ⟨u,g1,.inr ⟨by rw [Ci hx0];exact (Bc lb).symm,rfl⟩⟩
def Db (B3:(Nat×List (Int×Int))) (CT:Int):Option (Fw Unit Unit):=
 (((some (0:Int)).bind λx2=>(some CT).bind λx3=>if decide (x2<=x3)=true then ((some B3).bind λx1=>some (x1.1:Int)).bind λx4=>some (decide (x3 < x4)) else some false).bind λx5=>some (!x5)).bind λx6=>if x6=true then none else some (.nx ())
def El (B3:(Nat×List (Int×Int))) (CT:Int):Option Unit:=ZY (Db B3 CT)
theorem KO (W:Wd) (B3:(Nat×List (Int×Int))) (CT:Int):VF (Bk W) [.z ((Cj W) B3),.v (D.int CT)] (rV eU) (El B3 CT):=by
 refine bM (n:=2) (b:=Ev W) (p:=Db B3 CT) (B:=λ_=>[.z ((Cj W) B3),.v (D.int CT)]) ?_;show VS [.z ((Cj W) B3),.v (D.int CT)] _ _ _ _;unfold Ev Db;exact (IJ (B:=(λ(_:Unit)=>[.z ((Cj W) B3),.v (D.int CT)])) (Mz (Ia (WF gF gD (EG rfl) (Ak rfl) (JM (Ef rfl))))) bK (II (.same (.same .nil))))
def PY (B3:(Nat×List (Int×Int))) (CT:Int):Option (Fw (List Int) Unit):=
 CF ((((some B3).bind λx1=>((some CT).bind λx2=>(some ()).bind λx3=>some (x2,x3)).bind λx4=>some (x1,x4)).bind λz5=>El z5.1 z5.2.1).bind λ_=>some (.nx ())) λ_=>(((some B3).bind λx6=>some (LL x6.1 x6.2)).bind λl7=>(some CT).bind λx8=>atI l7 x8).bind λx9=>some (.rt x9)
def PZ (B3:(Nat×List (Int×Int))) (CT:Int):Option (List Int):=KW (PY B3 CT)
theorem bR (W:Wd) (B3:(Nat×List (Int×Int))) (CT:Int):VF (HH W) [.z ((Cj W) B3),.v (D.int CT)] (rV (eT D.int)) (PZ B3 CT):=by
 refine KI (n:=2) (b:=P6 W) (p:=PY B3 CT) (B:=λ_=>[]) ?_;show VS [.z ((Cj W) B3),.v (D.int CT)] _ _ _ _;unfold P6 PY;exact (Bz (Yi (Ct (KN (Ef rfl) (Fa (Ak rfl) DX)) (λz5=>KO W z5.1 z5.2.1) (λ_=>rfl) Ik)) (λ_=>(Ee (Mx (Ym (Ef rfl)) (Ak rfl)))))
def Fp (B3:(Nat×List (Int×Int))) (CV:(List Int)):Option (Fw (Nat×List (Int×Int)) Unit):=
 CF ((some []).bind λx2=>some (.nx x2)) λv1=>CF (((some CV).bind λx3=>some (Iy x3)).bind λl10=>Gf l10 v1 λ(s4:(List (Int×Int))) x5=>LN (λv6=>v6) ((some x5.1).bind λx7=>(some x5.2).bind λx8=>(Ui s4 x8 x7).bind λl9=>some (.nx l9))) λs11=>CF ((((some B3).bind λx14=>some x14.2).bind λl27=>JA l27 (λx15=>((some x15.1).bind λx16=>(some s11).bind λx17=>some ((DL x17 x16).isSome)).bind λx20=>if x20=true then (some x15.2).bind λx18=>(some s11).bind λx19=>some ((DL x19 x18).isSome) else some false) (λx15=>((some s11).bind λl21=>(some x15.1).bind λx22=>DL l21 x22).bind λx25=>((some s11).bind λl23=>(some x15.2).bind λx24=>DL l23 x24).bind λx26=>some (x25,x26))).bind λx28=>some (.nx x28)) λv13=>(((some s11).bind λx29=>some (x29.length:Int)).bind λx30=>(some v13).bind λx31=>QT x30 x31).bind λx32=>some (.rt x32)
def DO (B3:(Nat×List (Int×Int))) (CV:(List Int)):Option (Nat×List (Int×Int)):=KW (Fp B3 CV)
theorem Fm (W:Wd) (B3:(Nat×List (Int×Int))) (CV:(List Int)):VF (Dz W) [.z ((Cj W) B3),.v ((eT D.int) CV)] (rN (Cj W)) (DO B3 CV):=by
 refine KI (n:=6) (b:=IA W) (p:=Fp B3 CV) (B:=λ_=>[]) ?_;show VS [.z ((Cj W) B3),.v ((eT D.int) CV),.u,.u,.u,.u] _ _ _ _;unfold IA Fp;exact (Bz (MV WE) (λv1=>(Bz (K7 (s0:=v1) (B:=(λ(s12:(List (Int×Int)))=>[.z ((Cj W) B3),.v ((eT D.int) CV),.w 2 ((oDK D.int) s12),.u,.u,.u])) (V3 (Ak rfl)) Yd (.same (.same (.same (.same (.same (.same .nil)))))) (λs4 x5=>(HC (V0 rfl (Ak rfl) (Ak rfl) rfl) (λv6=>(.same (.same (.same (.drop (.drop (.same .nil)))))))))) (λs11=>(Bz (JL (Hn (QV (VI.k (Rw (KJ (Ef rfl)))) (λx15=>(PK (Ia (TM (Ak rfl) (Fk rfl))) (Ia (TM (Ak rfl) (Fk rfl))))) (λx15=>(KL (QZ (Fk rfl) (Ak rfl)) (QZ (Fk rfl) (Ak rfl))))))) (λv13=>(Yf (V4 (Yp (Fk rfl)) (Cr rfl)))))))))
def Ek (Aq:(List Int)) (YL:Int):Option (Fw Int Unit):=
 CF (((some YL).bind λx1=>((some Aq).bind λx3=>some (x3.length:Int)).bind λx2=>some (decide (x1 < x2))).bind λx7=>if x7=true then ((some Aq).bind λl4=>(some YL).bind λx5=>atI l4 x5).bind λx6=>some (.rt x6) else some (.nx ())) λ_=>(some (0:Int)).bind λx10=>some (.rt x10)
def DH (Aq:(List Int)) (YL:Int):Option Int:=KW (Ek Aq YL)
theorem GV (W:Wd) (Aq:(List Int)) (YL:Int):VF (Do W) [.v (eF Aq),.v (D.int YL)] (rV D.int) (DH Aq YL):=by
 refine KI (n:=2) (b:=Gj W) (p:=Ek Aq YL) (B:=λ_=>[]) ?_;show VS [.v (eF Aq),.v (D.int YL)] _ _ _ _;unfold Gj Ek;exact (Bz (IJ (B:=(λ(_:Unit)=>[.v (eF Aq),.v (D.int YL)])) (Ia (eJ (Ak rfl) (TK (Ak rfl)))) (Ee (WC (Ak rfl) (Ak rfl))) (II (.same (.same .nil)))) (λ_=>(Ee (EG rfl))))
def FG (Aq:(List Int)):Option (Fw Int Unit):=
 CF ((((some Aq).bind λx2=>((some (0:Int)).bind λx3=>(some ()).bind λx4=>some (x3,x4)).bind λx5=>some (x2,x5)).bind λz6=>DH z6.1 z6.2.1).bind λx7=>some (.nx x7)) λv1=>((some (1:Int)).bind λx27=>((((((some v1).bind λx8=>some (x8 / 4)).bind λx9=>some (x9 % 7)).bind λx22=>((((some v1).bind λx10=>some (x10 / 4)).bind λx11=>some (x11 % 9)).bind λx20=>((((some v1).bind λx12=>some (x12 / 4)).bind λx13=>some (x13 % 20)).bind λx18=>((((some v1).bind λx14=>some (x14 / 4)).bind λx15=>some (x15 % 60)).bind λx16=>(some []).bind λl17=>some (x16 :: l17)).bind λl19=>some (x18 :: l19)).bind λl21=>some (x20 :: l21)).bind λl23=>some (x22 :: l23)).bind OO).bind λl25=>((some v1).bind λx24=>some (x24 % 4)).bind λx26=>atI l25 x26).bind λx28=>some (x27+x28)).bind λx29=>some (.rt x29)
def FI (Aq:(List Int)):Option Int:=KW (FG Aq)
theorem OA (W:Wd) (Aq:(List Int)):VF (HI W) [.v (eF Aq)] (rV D.int) (FI Aq):=by
 refine KI (n:=2) (b:=HJ W) (p:=FG Aq) (B:=λ_=>[]) ?_;show VS [.v (eF Aq),.u] _ _ _ _;unfold HJ FG;exact (Bz (GR (Ct (Fa (Ak rfl) (Fa (EG rfl) DX)) (λz6=>GV W z6.1 z6.2.1) (λ_=>rfl) Ik)) (λv1=>(Ee (Rz (EG rfl) (Ry (Mw (Hn (IZ (KH (JN rfl (HX rfl (Ak rfl))) (KH (JN rfl (HX rfl (Ak rfl))) (KH (JN rfl (HX rfl (Ak rfl))) (KH (JN rfl (HX rfl (Ak rfl))) Mr))))))) (JN rfl (Ak rfl)))))))
def Fq (Aq:(List Int)) (BR:Int):Option (Fw (List (Int×Int)) Unit):=
 CF (((some []).bind OO).bind λx2=>some (.nx x2)) λv1=>CF (((some Aq).bind λl5=>((some (1:Int)).bind λx3=>some (some x3)).bind λx6=>((some (63:Int)).bind λx4=>some (some x4)).bind λx7=>some (Jx l5 x6 x7)).bind λl51=>Gf l51 v1 λ(s8:(List (Int×Int))) x9=>LN (λs49=>s49.2) (((some (2:Int)).bind PX).bind λl48=>Gf l48 (x9,s8) λ(s10:Int×(List (Int×Int))) x11=>CF (((some s10.1).bind λx13=>(some BR).bind λx14=>OL x13 x14).bind λx15=>some (.nx x15)) λv12=>CF ((((some s10.1).bind λx17=>(some BR).bind λx18=>Ls x17 x18).bind λx19=>(some BR).bind λx20=>OL x19 x20).bind λx21=>some (.nx x21)) λv16=>CF ((((some s10.1).bind λx23=>(some BR).bind λx24=>Ls x23 x24).bind λx25=>(some BR).bind λx26=>Ls x25 x26).bind λx27=>some (.nx x27)) λv22=>LN (λs46=>(v22,s46)) ((((some v12).bind λx28=>(some v16).bind λx29=>some (!decide (x28=x29))).bind λx39=>if x39=true then (((some v12).bind λx32=>(some v16).bind λx33=>some (x32,x33)).bind λx30=>(some s10.2).bind λx31=>some (!inG x30 x31)).bind λx38=>if x38=true then ((some v16).bind λx36=>(some v12).bind λx37=>some (x36,x37)).bind λx34=>(some s10.2).bind λx35=>some (!inG x34 x35) else some false else some false).bind λx45=>if x45=true then LN (λv40=>v40) (((some v12).bind λx43=>(some v16).bind λx44=>some (x43,x44)).bind λx41=>(YB s10.2 x41).bind λl42=>some (.nx l42)) else some (.nx s10.2)))) λs52=>some (.rt s52)
def Fu (Aq:(List Int)) (BR:Int):Option (List (Int×Int)):=KW (Fq Aq BR)
theorem PL (W:Wd) (Aq:(List Int)) (BR:Int):VF (Hx W) [.v (eF Aq),.v (D.int BR)] (rN (oL (eP D.int D.int))) (Fu Aq BR):=by
 refine KI (n:=7) (b:=IC W) (p:=Fq Aq BR) (B:=λ_=>[]) ?_;show VS [.v (eF Aq),.v (D.int BR),.u,.u,.u,.u,.u] _ _ _ _;unfold IC Fq;exact (Bz (MV (Hn (IZ Mr))) (λv1=>(Bz (K7 (s0:=v1) (B:=(λ(s53:(List (Int×Int)))=>[.v (eF Aq),.v (D.int BR),.w 2 ((oL (eP D.int D.int)) s53),.u,.u,.u,.u])) (bL (Yq (Ak rfl) (TC (EG rfl)) (TC (EG rfl)))) KG (.same (.same (.same (.same (.same (.same (.same .nil))))))) (λs8 x9=>(HC (K7 (s0:=(x9,s8)) (B:=(λ(s50:Int×(List (Int×Int)))=>[.v (eF Aq),.v (D.int BR),.w 2 ((oL (eP D.int D.int)) s50.2),.v (D.int s50.1),.u,.u,.u])) (K8 (EG rfl)) KG (.same (.same (.same (.same (.same (.same (.same .nil))))))) (λs10 x11=>(Bz (GR (LA (Ak rfl) (Ak rfl))) (λv12=>(Bz (GR (LA (MW (Ak rfl) (Ak rfl)) (Ak rfl))) (λv16=>(Bz (GR (MW (MW (Ak rfl) (Ak rfl)) (Ak rfl))) (λv22=>(HC (IJ (B:=(λ(s47:(List (Int×Int)))=>[.v (eF Aq),.v (D.int BR),.w 2 ((oL (eP D.int D.int)) s47),.v (D.int v22),.v (D.int x11),.v (D.int v12),.v (D.int v16)])) (PK (Ia (V9 C2 NG (Ak rfl) (Ak rfl))) (PK (Ia (TH (Kn C2 C2) (KL (Ak rfl) (Ak rfl)) (Fk rfl))) (Ia (TH (Kn C2 C2) (KL (Ak rfl) (Ak rfl)) (Fk rfl))))) (HC (V1 rfl (KL (Ak rfl) (Ak rfl)) rfl) (λv40=>(.same (.same (.same (.same (.same (.same (.same .nil))))))))) (II (.same (.same (.same (.same (.same (.same (.same .nil))))))))) (λs46=>(.same (.same (.same (.same (.drop (.drop (.drop .nil))))))))))))))))) (λs49=>(.same (.same (.same (.drop (.same (.same (.same .nil))))))))))) (λs52=>(Ye rfl)))))
def G1 (C9:Int) (BR:Int):Option (Fw (List Int) Unit):=
 CF (((some []).bind OO).bind λx2=>some (.nx x2)) λv1=>CF (((some BR).bind PX).bind λl37=>Gf l37 (v1,C9) λ(s3:(List Int)×Int) x4=>CF ((((some s3.2).bind λx7=>some (x7 % 3)).bind λx5=>(some (0:Int)).bind λx6=>some (decide (x6 < x5))).bind λx11=>if x11=true then LN (λv8=>v8) ((some x4).bind λx9=>(YB s3.1 x9).bind λl10=>some (.nx l10)) else some (.nx s3.1)) λs12=>CF (((some s3.2).bind λx15=>some (x15 / 3)).bind λx16=>some (.nx x16)) λv14=>LN (λs35=>(s12,s35)) ((((some v14).bind λx17=>(some (0:Int)).bind λx18=>some (decide (x17=x18))).bind λx22=>if x22=true then some true else (some v14).bind λx19=>((some (1:Int)).bind λx21=>some (-x21)).bind λx20=>some (decide (x19=x20))).bind λx34=>if x34=true then LN (λv23=>v23) ((((some (5:Int)).bind λx27=>((some (3:Int)).bind λx25=>(some (20:Int)).bind λx26=>SJ x25 x26).bind λx28=>Uu x27 x28).bind λx31=>((some (7:Int)).bind λx29=>(some x4).bind λx30=>Uu x29 x30).bind λx32=>some (x31+x32)).bind λx33=>some (.nx x33)) else some (.nx v14))) λs38=>CF (((some s38.1).bind λx40=>((some []).bind OO).bind λx41=>some (decide (x40=x41))).bind λx49=>if x49=true then LN (λv42=>v42) (((((some BR).bind λx44=>(some (1:Int)).bind λx45=>some (x44 - x45)).bind λx46=>(some []).bind λl47=>some (x46 :: l47)).bind OO).bind λx48=>some (.nx x48)) else some (.nx s38.1)) λs50=>(some s50).bind λx52=>some (.rt x52)
def FR (C9:Int) (BR:Int):Option (List Int):=KW (G1 C9 BR)
theorem Ll (W:Wd) (C9:Int) (BR:Int):VF (G4 W) [.v (D.int C9),.v (D.int BR)] (rV (eT D.int)) (FR C9 BR):=by
 refine KI (n:=4) (b:=JE W) (p:=G1 C9 BR) (B:=λ_=>[]) ?_;show VS [.v (D.int C9),.v (D.int BR),.u,.u] _ _ _ _;unfold JE G1;exact (Bz (MV (Hn (IZ Mr))) (λv1=>(Bz (K7 (s0:=(v1,C9)) (B:=(λ(s39:(List Int)×Int)=>[.v (D.int s39.2),.v (D.int BR),.w 2 ((oL D.int) s39.1),.u])) (K8 (Ak rfl)) KG (.same (.same (.same (.same .nil)))) (λs3 x4=>(Bz (IJ (B:=(λ(s13:(List Int))=>[.v (D.int s3.2),.v (D.int BR),.w 2 ((oL D.int) s13),.v (D.int x4)])) (Ia (eM (JN rfl (Ak rfl)) (EG rfl))) (HC (V1 rfl (Ak rfl) rfl) (λv8=>(.same (.same (.same (.same .nil)))))) (II (.same (.same (.same (.same .nil)))))) (λs12=>(Bz (GR (HX rfl (Ak rfl))) (λv14=>(HC (IJ (B:=(λ(s36:Int)=>[.v (D.int s36),.v (D.int BR),.w 2 ((oL D.int) s12),.v (D.int x4)])) (aT (Ia (TL C2 NG (Ak rfl) (EG rfl))) (Ia (TL C2 NG (Ak rfl) (bN (EG rfl))))) (HC (GR (Rz (WA (EG rfl) (Rx (EG rfl) (EG rfl))) (WA (EG rfl) (Ak rfl)))) (λv23=>(.same (.same (.same (.same .nil)))))) (II (.same (.same (.same (.same .nil)))))) (λs35=>(.same (.same (.same (.drop .nil)))))))))))) (λs38=>(Bz (IJ (B:=(λ(s51:(List Int))=>[.v (D.int s38.2),.v (D.int BR),.w 2 ((oL D.int) s51),.u])) (Ia (bQ C2 (Fk rfl) (Mw (Hn (IZ Mr))))) (HC (MV (Hn (IZ (KH (V6 (Ak rfl) (EG rfl)) Mr)))) (λv42=>(.same (.same (.same (.same .nil)))))) (II (.same (.same (.same (.same .nil)))))) (λs50=>(Ee (K9 (Fk rfl)))))))))
def Fs (Kr:(Nat×List (Int×Int))) (GC:(Nat×List (Int×Int))):Option (Fw Bool Unit):=
 ((((some Kr).bind λx3=>some (x3.1:Int)).bind λx1=>((some GC).bind λx4=>some (x4.1:Int)).bind λx2=>some (decide (x1=x2))).bind λx9=>if x9=true then ((some Kr).bind λx7=>some x7.2).bind λx5=>((some GC).bind λx8=>some x8.2).bind λx6=>some (decide (x5=x6)) else some false).bind λx10=>some (.rt x10)
def Em (Kr:(Nat×List (Int×Int))) (GC:(Nat×List (Int×Int))):Option Bool:=KW (Fs Kr GC)
theorem KP (W:Wd) (Kr:(Nat×List (Int×Int))) (GC:(Nat×List (Int×Int))):VF (F0 W) [.z ((Cj W) Kr),.z ((Cj W) GC)] (rV D.bl) (Em Kr GC):=by
 refine KI (n:=2) (b:=ID W) (p:=Fs Kr GC) (B:=λ_=>[]) ?_;show VS [.z ((Cj W) Kr),.z ((Cj W) GC)] _ _ _ _;unfold ID Fs;exact (Ee (Yr (TL C2 NG (JM (Ef rfl)) (JM (Ef rfl))) (TL (T8 (Kn C2 C2)) W9 (KJ (Ef rfl)) (KJ (Ef rfl)))))
def G0 (B3:(Nat×List (Int×Int))) (FL:(Nat×List (Int×Int))) (CV:(List Int)) (C9:Int):Option (Fw Bool Unit):=
 CF (((some C9).bind λx3=>((some CV).bind λx2=>some (x2.length:Int)).bind λx4=>OL x3 x4).bind λx5=>some (.nx x5)) λv1=>CF ((((some C9).bind λx8=>((some CV).bind λx7=>some (x7.length:Int)).bind λx9=>Ls x8 x9).bind λx11=>((some CV).bind λx10=>some (x10.length:Int)).bind λx12=>OL x11 x12).bind λx13=>some (.nx x13)) λv6=>(((some FL).bind λx14=>((some v1).bind λx15=>((some v6).bind λx16=>(some ()).bind λx17=>some (x16,x17)).bind λx18=>some (x15,x18)).bind λx19=>some (x14,x19)).bind λz20=>Cg z20.1 z20.2.1 z20.2.2.1).bind λx21=>fJ x21 true λl22=>CF (((some l22).bind λl27=>JA l27 (λx24=>some true) (λx24=>(some CV).bind λl25=>(some x24).bind λx26=>atI l25 x26)).bind λx28=>some (.nx x28)) λv23=>CF (((some (1:Int)).bind λx30=>((some v23).bind λx29=>some (x29.length:Int)).bind λx31=>Y6 x30 x31).bind λl52=>Gf l52 () λ(_:Unit) x33=>LN (λ_=>()) ((((some v23).bind λl46=>(some x33).bind λx47=>atI l46 x47).bind λx34=>(((some B3).bind λx41=>(((some v23).bind λl39=>((some x33).bind λx37=>(some (1:Int)).bind λx38=>some (x37 - x38)).bind λx40=>atI l39 x40).bind λx42=>(some ()).bind λx43=>some (x42,x43)).bind λx44=>some (x41,x44)).bind λz45=>PZ z45.1 z45.2.1).bind λx35=>some (!decide (x34∈x35))).bind λx49=>if x49=true then (some false).bind λx48=>some (.rt x48) else some (.nx ()))) λ_=>(((((some B3).bind λx61=>(((some CV).bind λl57=>(some v1).bind λx58=>atI l57 x58).bind λx62=>(((some CV).bind λl59=>(some v6).bind λx60=>atI l59 x60).bind λx63=>(some ()).bind λx64=>some (x63,x64)).bind λx65=>some (x62,x65)).bind λx66=>some (x61,x66)).bind λz67=>Cg z67.1 z67.2.1 z67.2.2.1).bind λx68=>x68.bind λl69=>some (l69.length:Int)).bind λx55=>((some v23).bind λx70=>some (x70.length:Int)).bind λx56=>some (decide (x55<=x56))).bind λx71=>some (.rt x71)
def G2 (B3:(Nat×List (Int×Int))) (FL:(Nat×List (Int×Int))) (CV:(List Int)) (C9:Int):Option Bool:=KW (G0 B3 FL CV C9)
theorem Qb (W:Wd) (B3:(Nat×List (Int×Int))) (FL:(Nat×List (Int×Int))) (CV:(List Int)) (C9:Int):VF (Iw W) [.z ((Cj W) B3),.z ((Cj W) FL),.v ((eT D.int) CV),.v (D.int C9)] (rV D.bl) (G2 B3 FL CV C9):=by
 refine KI (n:=9) (b:=JD W) (p:=G0 B3 FL CV C9) (B:=λ_=>[]) ?_;show VS [.z ((Cj W) B3),.z ((Cj W) FL),.v ((eT D.int) CV),.v (D.int C9),.u,.u,.u,.u,.u] _ _ _ _;unfold JD G0;exact (Bz (GR (LA (Ak rfl) (KM (Ak rfl)))) (λv1=>(Bz (GR (LA (MW (Ak rfl) (KM (Ak rfl))) (KM (Ak rfl)))) (λv6=>(Yg (i:=6) rfl (Ct (KN (Ef rfl) (Fa (Ak rfl) (Fa (Ak rfl) DX))) (λz20=>Jc W z20.1 z20.2.1 z20.2.2.1) (λ_=>rfl) Wf) (λl22=>(Bz (JL (Hn (QW (VI.k (Yl rfl)) (λx24=>TN) (λx24=>(Mx (Ak rfl) (Ak rfl)))))) (λv23=>(Bz (K7 (s0:=()) (B:=(λ(_:Unit)=>[.z ((Cj W) B3),.z ((Cj W) FL),.v ((eT D.int) CV),.v (D.int C9),.v (D.int v1),.v (D.int v6),.y ((oL D.int) l22),.y ((oL D.int) v23),.u])) (UV (EG rfl) (TJ (Cr rfl))) KG (.same (.same (.same (.same (.same (.same (.same (.same (.same .nil))))))))) (λ_ x33=>(HC (IJ (B:=(λ(_:Unit)=>[.z ((Cj W) B3),.z ((Cj W) FL),.v ((eT D.int) CV),.v (D.int C9),.v (D.int v1),.v (D.int v6),.y ((oL D.int) l22),.y ((oL D.int) v23),.v (D.int x33)])) (Ia (Yn C2 (Ry (Cr rfl) (Ak rfl)) (Ct (KN (Ef rfl) (Fa (Ry (Cr rfl) (V6 (Ak rfl) (EG rfl))) DX)) (λz45=>bR W z45.1 z45.2.1) (λ_=>rfl) Ik))) (Ee (EG rfl)) (II (.same (.same (.same (.same (.same (.same (.same (.same (.same .nil))))))))))) (λ_=>(.same (.same (.same (.same (.same (.same (.same (.same (.drop .nil))))))))))))) (λ_=>(Ee (eK (WB (Ct (KN (Ef rfl) (Fa (Mx (Ak rfl) (Ak rfl)) (Fa (Mx (Ak rfl) (Ak rfl)) DX))) (λz67=>Jc W z67.1 z67.2.1 z67.2.2.1) (λ_=>rfl) Wf)) (TJ (Cr rfl))))))))))))))
def TZ (Aq:(List Int)):Option (Fw Bool Unit):=
 CF ((((some Aq).bind λx2=>(some ()).bind λx3=>some (x2,x3)).bind λz4=>FI z4.1).bind λx5=>some (.nx x5)) λv1=>CF (((some v1).bind λx12=>(((some Aq).bind λx7=>((some v1).bind λx8=>(some ()).bind λx9=>some (x8,x9)).bind λx10=>some (x7,x10)).bind λz11=>Fu z11.1 z11.2.1).bind λx13=>QT x12 x13).bind λx14=>some (.nx x14)) λv6=>CF (((((((some Aq).bind λx16=>((some (1:Int)).bind λx17=>(some ()).bind λx18=>some (x17,x18)).bind λx19=>some (x16,x19)).bind λz20=>DH z20.1 z20.2.1).bind λx24=>((some (10:Int)).bind λx22=>(some (40:Int)).bind λx23=>SJ x22 x23).bind λx25=>OL x24 x25).bind λx26=>((some v1).bind λx27=>(some ()).bind λx28=>some (x27,x28)).bind λx29=>some (x26,x29)).bind λz30=>FR z30.1 z30.2.1).bind λx31=>some (.nx x31)) λv15=>CF ((((some v6).bind λx33=>((some v15).bind λx34=>(some ()).bind λx35=>some (x34,x35)).bind λx36=>some (x33,x36)).bind λz37=>DO z37.1 z37.2.1).bind λx38=>some (.nx x38)) λv32=>CF (((((some v32).bind λx39=>some true).bind λx40=>some (!x40)).bind λx45=>if x45=true then some true else ((some v32).bind λx43=>some (x43.1:Int)).bind λx41=>((some v15).bind λx44=>some (x44.length:Int)).bind λx42=>some (!decide (x41=x42))).bind λx47=>if x47=true then (some false).bind λx46=>some (.rt x46) else some (.nx ())) λ_=>CF ((((some v6).bind λx51=>some x51.2).bind λl64=>JA l64 (λx52=>((some x52.1).bind λx53=>(some v15).bind λx54=>some (decide (x53∈x54))).bind λx57=>if x57=true then (some x52.2).bind λx55=>(some v15).bind λx56=>some (decide (x55∈x56)) else some false) (λx52=>((some v15).bind λl58=>(some x52.1).bind λx59=>NX l58 x59).bind λx62=>((some v15).bind λl60=>(some x52.2).bind λx61=>NX l60 x61).bind λx63=>some (x62,x63))).bind λx65=>some (.nx x65)) λv50=>CF ((((some v32).bind λx68=>some x68.2).bind λx66=>((some v50).bind λx69=>some (Lm x69)).bind λx67=>some (!decide (x66=x67))).bind λx71=>if x71=true then (some false).bind λx70=>some (.rt x70) else some (.nx ())) λ_=>CF (((((((some Aq).bind λx75=>((some (2:Int)).bind λx76=>(some ()).bind λx77=>some (x76,x77)).bind λx78=>some (x75,x78)).bind λz79=>DH z79.1 z79.2.1).bind λx83=>((some (10:Int)).bind λx81=>(some (40:Int)).bind λx82=>SJ x81 x82).bind λx84=>OL x83 x84).bind λx86=>(((some v15).bind λx85=>some (x85.length:Int)).bind λx87=>(some ()).bind λx88=>some (x87,x88)).bind λx89=>some (x86,x89)).bind λz90=>FR z90.1 z90.2.1).bind λx91=>some (.nx x91)) λv74=>CF ((((some v32).bind λx93=>((some v74).bind λx94=>(some ()).bind λx95=>some (x94,x95)).bind λx96=>some (x93,x96)).bind λz97=>DO z97.1 z97.2.1).bind λx98=>some (.nx x98)) λv92=>CF (((((some v92).bind λx108=>((((some v6).bind λx103=>(((some v74).bind λl102=>JA l102 (λx99=>some true) (λx99=>(some v15).bind λl100=>(some x99).bind λx101=>atI l100 x101)).bind λx104=>(some ()).bind λx105=>some (x104,x105)).bind λx106=>some (x103,x106)).bind λz107=>DO z107.1 z107.2.1).bind λx109=>(some ()).bind λx110=>some (x109,x110)).bind λx111=>some (x108,x111)).bind λz112=>Em z112.1 z112.2.1).bind λx113=>some (!x113)).bind λx115=>if x115=true then (some false).bind λx114=>some (.rt x114) else some (.nx ())) λ_=>CF (((((((some v6).bind λx118=>(((some v1).bind PX).bind λx119=>(some ()).bind λx120=>some (x119,x120)).bind λx121=>some (x118,x121)).bind λz122=>DO z122.1 z122.2.1).bind λx123=>((some v6).bind λx124=>(some ()).bind λx125=>some (x124,x125)).bind λx126=>some (x123,x126)).bind λz127=>Em z127.1 z127.2.1).bind λx128=>some (!x128)).bind λx130=>if x130=true then (some false).bind λx129=>some (.rt x129) else some (.nx ())) λ_=>CF ((((some (12:Int)).bind λx134=>((some Aq).bind λx133=>some (x133.length:Int)).bind λx135=>some (if x135 < x134 then x135 else x134)).bind PX).bind λl157=>Gf l157 () λ(_:Unit) x137=>LN (λ_=>()) (((((some v6).bind λx143=>((some v32).bind λx144=>((some v15).bind λx145=>(((((some Aq).bind λl138=>(some x137).bind λx139=>atI l138 x139).bind λx140=>some (x140 / 5)).bind λx141=>(some x137).bind λx142=>some (x141+x142)).bind λx146=>(some ()).bind λx147=>some (x146,x147)).bind λx148=>some (x145,x148)).bind λx149=>some (x144,x149)).bind λx150=>some (x143,x150)).bind λz151=>G2 z151.1 z151.2.1 z151.2.2.1 z151.2.2.2.1).bind λx152=>some (!x152)).bind λx154=>if x154=true then (some false).bind λx153=>some (.rt x153) else some (.nx ()))) λ_=>(some true).bind λx160=>some (.rt x160)
def W0 (Aq:(List Int)):Option Bool:=KW (TZ Aq)
theorem eO (W:Wd) (Aq:(List Int)):VF (T4 W) [.v (eF Aq)] (rV D.bl) (W0 Aq):=by
 refine KI (n:=9) (b:=X8 W) (p:=TZ Aq) (B:=λ_=>[]) ?_;show VS [.v (eF Aq),.u,.u,.u,.u,.u,.u,.u,.u] _ _ _ _;unfold X8 TZ;exact (Bz (GR (Ct (Fa (Ak rfl) DX) (λz4=>OA W z4.1) (λ_=>rfl) Ik)) (λv1=>(Bz (JL (V4 (Ak rfl) (Mw (Ct (Fa (Ak rfl) (Fa (Ak rfl) DX)) (λz11=>PL W z11.1 z11.2.1) (λ_=>rfl) Qu)))) (λv6=>(Bz (GR (Ct (Fa (LA (Ct (Fa (Ak rfl) (Fa (EG rfl) DX)) (λz20=>GV W z20.1 z20.2.1) (λ_=>rfl) Ik) (Rx (EG rfl) (EG rfl))) (Fa (Ak rfl) DX)) (λz30=>Ll W z30.1 z30.2.1) (λ_=>rfl) Ik)) (λv15=>(Bz (JL (Ct (KN (Cr rfl) (Fa (Ak rfl) DX)) (λz37=>Fm W z37.1 z37.2.1) (λ_=>rfl) Qu)) (λv32=>(Bz (IJ (B:=(λ(_:Unit)=>[.v (eF Aq),.v (D.int v1),.y ((Cj W) v6),.v ((eT D.int) v15),.y ((Cj W) v32),.u,.u,.u,.u])) (aT (Mz (Ia (bO (Cr rfl)))) (Ia (V9 C2 NG (JM (Cr rfl)) (KM (Ak rfl))))) (Ee (EG rfl)) (II (.same (.same (.same (.same (.same (.same (.same (.same (.same .nil))))))))))) (λ_=>(Bz (JL (Hn (QV (VI.k (Rw (KJ (Cr rfl)))) (λx52=>(PK (Ia (WD C2 (Ak rfl) (Ak rfl))) (Ia (WD C2 (Ak rfl) (Ak rfl))))) (λx52=>(KL (QY (Ak rfl) (Ak rfl)) (QY (Ak rfl) (Ak rfl))))))) (λv50=>(Bz (IJ (B:=(λ(_:Unit)=>[.v (eF Aq),.v (D.int v1),.y ((Cj W) v6),.v ((eT D.int) v15),.y ((Cj W) v32),.y ((oL (eP D.int D.int)) v50),.u,.u,.u])) (Ia (V9 (T8 (Kn C2 C2)) W9 (KJ (Cr rfl)) (K9 (Mw (V7 (Cr rfl)))))) (Ee (EG rfl)) (II (.same (.same (.same (.same (.same (.same (.same (.same (.same .nil))))))))))) (λ_=>(Bz (GR (Ct (Fa (LA (Ct (Fa (Ak rfl) (Fa (EG rfl) DX)) (λz79=>GV W z79.1 z79.2.1) (λ_=>rfl) Ik) (Rx (EG rfl) (EG rfl))) (Fa (KM (Ak rfl)) DX)) (λz90=>Ll W z90.1 z90.2.1) (λ_=>rfl) Ik)) (λv74=>(Bz (JL (Ct (KN (Cr rfl) (Fa (Ak rfl) DX)) (λz97=>Fm W z97.1 z97.2.1) (λ_=>rfl) Qu)) (λv92=>(Bz (IJ (B:=(λ(_:Unit)=>[.v (eF Aq),.v (D.int v1),.y ((Cj W) v6),.v ((eT D.int) v15),.y ((Cj W) v32),.y ((oL (eP D.int D.int)) v50),.v ((eT D.int) v74),.y ((Cj W) v92),.u])) (Mz (R0 (Ct (KN (Cr rfl) (KN (Mw (Ct (KN (Cr rfl) (Fa (K9 (Mw (Hn (QW (VI.k (Rw (Ak rfl))) (λx99=>TN) (λx99=>(Mx (Ak rfl) (Ak rfl))))))) DX)) (λz107=>Fm W z107.1 z107.2.1) (λ_=>rfl) Qu)) DX)) (λz112=>KP W z112.1 z112.2.1) (λ_=>rfl) Ik))) (Ee (EG rfl)) (II (.same (.same (.same (.same (.same (.same (.same (.same (.same .nil))))))))))) (λ_=>(Bz (IJ (B:=(λ(_:Unit)=>[.v (eF Aq),.v (D.int v1),.y ((Cj W) v6),.v ((eT D.int) v15),.y ((Cj W) v32),.y ((oL (eP D.int D.int)) v50),.v ((eT D.int) v74),.y ((Cj W) v92),.u])) (Mz (R0 (Ct (KN (Mw (Ct (KN (Cr rfl) (Fa (V5 (Ak rfl)) DX)) (λz122=>Fm W z122.1 z122.2.1) (λ_=>rfl) Qu)) (KN (Cr rfl) DX)) (λz127=>KP W z127.1 z127.2.1) (λ_=>rfl) Ik))) (Ee (EG rfl)) (II (.same (.same (.same (.same (.same (.same (.same (.same (.same .nil))))))))))) (λ_=>(Bz (K7 (s0:=()) (B:=(λ(_:Unit)=>[.v (eF Aq),.v (D.int v1),.y ((Cj W) v6),.v ((eT D.int) v15),.y ((Cj W) v32),.y ((oL (eP D.int D.int)) v50),.v ((eT D.int) v74),.y ((Cj W) v92),.u])) (K8 (Yo (EG rfl) (TK (Ak rfl)))) KG (.same (.same (.same (.same (.same (.same (.same (.same (.same .nil))))))))) (λ_ x137=>(HC (IJ (B:=(λ(_:Unit)=>[.v (eF Aq),.v (D.int v1),.y ((Cj W) v6),.v ((eT D.int) v15),.y ((Cj W) v32),.y ((oL (eP D.int D.int)) v50),.v ((eT D.int) v74),.y ((Cj W) v92),.v (D.int x137)])) (Mz (R0 (Ct (KN (Cr rfl) (KN (Cr rfl) (Fa (Ak rfl) (Fa (Rz (HX rfl (WC (Ak rfl) (Ak rfl))) (Ak rfl)) DX)))) (λz151=>Qb W z151.1 z151.2.1 z151.2.2.1 z151.2.2.2.1) (λ_=>rfl) Ik))) (Ee (EG rfl)) (II (.same (.same (.same (.same (.same (.same (.same (.same (.same .nil))))))))))) (λ_=>(.same (.same (.same (.same (.same (.same (.same (.same (.drop .nil))))))))))))) (λ_=>(Ee (EG rfl))))))))))))))))))))))))))
theorem VC (l:List Int):(Iy l).map (·.2)=l:=by
 unfold Iy;rw [A7];exact List.zipIdx_map_fst 0 l
theorem Wg {l:List (Int×Int)} {k v:Int} (h:k∉l.map (·.1)):FB l k v=l++[(k,v)]:=by
 unfold FB;rw [qY];intro c;obtain ⟨x,hx,e⟩:=MQ.mp c;exact h (BH.mpr ⟨x,hx,of_decide_eq_true e⟩)
def Ut (l:List Int):List (Int×Int):=(Iy l).map λx=>(x.2,x.1)
theorem W7 (l:List Int):(Ut l).length=l.length:=by
 unfold Ut Iy;simp
theorem ND {l:List Int} (x:Int):DL (Ut l) x=NX l x:=by
 have key:∀(l:List Int) (k:Nat),DL ((l.zipIdx k).map λy=>(y.1,(y.2:Int))) x=(Jv x l).map λj=>((j+k:Nat):Int):=by
  intro l
  induction l with
  | nil=>intro k;rfl
  | cons y l ih=>
   intro k;rw [YI,Ap];unfold DL Jv;rw [BO]
   by_cases c:y=x
   ·rw [wX c,qX c]
    simp
   ·rw [wY c,qY c]
    have:=ih (k+1);unfold DL at this;dsimp only;rw [this]
    cases Jv x l with
    | none=>rfl
    | some j=>simp;omega
 have:=key l 0;unfold Ut Iy;rw [A7];unfold NX;exact this
theorem KF {w:Nat×List (Int×Int)} (h:Tz w.1 w.2) (hl:w.2.length<=1000) {l:List Int} (hu:l.Pairwise (· < ·)) (h1:1<=l.length) (h2:l.length<=60):DO w l=some (l.length,Bt (wt w.2 l)):=by
 unfold DO Fp;simp only [AJ,Bn]
 have hnd:l.Nodup:=hu.imp λh=>by omega
 obtain ⟨s,e,rfl⟩:=Z3 (ρ:=Nat×List (Int×Int)) (l:=Iy l) (s0:=([]:List (Int×Int))) (q:=λ(s4:(List (Int×Int))) x5=>LN (λv6=>v6) ((Ui s4 x5.2 x5.1).bind λl9=>some (.nx l9))) (λpre s=>s=pre.map λx=>(x.2,x.1)) rfl (by
  rintro pre x s hx ⟨t,ht⟩ rfl
  have hm:(pre++[x]).map (·.2)++t.map (·.2)=l:=by rw [<-Br,ht,VC]
  rw [<-hm,Br] at hnd
  have hx2:x.2∉(pre.map λx=>(x.2,x.1)).map (·.1):=by
   rw [A7];intro c;have h3:=(Dg.mp (Dg.mp hnd).1).2.2;exact h3 x.2 c x.2 (by simp) rfl
  have hlen:pre.length < 1000000:=by
   have:=congrArg DQ hm;simp at this;omega
  refine ⟨(pre.map λx=>(x.2,x.1))++[(x.2,x.1)],?_,?_⟩
  ·unfold Ui
   rw [qX (by rw [AF];exact hlen),Wg hx2];rfl
  ·rw [Br];rfl)
 rw [e,Bn];have hN:((Iy l).map λx=>(x.2,x.1))=Ut l:=rfl;rw [hN]
 have hs:∀x,(DL (Ut l) x).isSome=decide (x∈l):=λx=>by
  rw [ND]
  by_cases c:x∈l
  ·rw [Kf c,wX c];rfl
  ·unfold NX
   rw [Tt c,wY c];rfl
 rw [Nl (P:=inB l) (f:=λt=>(rk l t.1,rk l t.2)) (by omega) (λt _=>by
  rw [hs,hs];unfold inB
  cases decide (t.1∈l) <;> rfl) (λt _ ht=>by
  obtain ⟨g1,g2⟩:=Ep.mp ht;rw [ND,ND,Kf g1,Kf g2]
  rfl)]
 simp only [AJ,Bn];rw [W7];have ht:=QQ h hu
 have hlen:(wt w.2 l).length<=1000:=by
  unfold wt;rw [AF];exact Ao (JI _ _) hl
 show KW ((QT (l.length:Int) (wt w.2 l)).bind λx32=>some (.rt x32))=_;unfold QT;rw [qX ⟨by omega,by omega,Tz.fit ht,by omega⟩,A5];rfl
theorem Sk (ns:List Int) {k:Int} (hk:0<=k):Ok (DH ns k) (λ_=>True):=by
 unfold DH Ek;simp only [AJ]
 by_cases c:k < ns.length
 ·obtain ⟨x,h1,_⟩:=Sm hk c
  rw [wX c,qX rfl,h1];exact ⟨x,rfl,trivial⟩
 ·rw [wY c,qY AS]
  exact ⟨0,rfl,trivial⟩
theorem Wr (ns:List Int):Ok (FI ns) (λp=>1<=p/\p<=60):=by
 obtain ⟨v,e,_⟩:=Sk ns (k:=0) (Nz _);unfold FI FG;simp only [AJ];rw [e];simp only [AJ,Bn,few4];have h0:=Cc v (show (4:Int)≠0 by decide);have h1:=B6 v (show (0:Int) < 4 by decide);obtain ⟨x,e1,e2⟩:=Sm (l:=[v / 4 % 7,v / 4 % 9,v / 4 % 20,v / 4 % 60]) (i:=v % 4) h0 (by simp;omega);rw [e1];refine ⟨1+x,rfl,?_⟩;have hx:=Av e2;have a1:=Cc (v / 4) (show (7:Int)≠0 by decide);have a2:=B6 (v / 4) (show (0:Int) < 7 by decide);have a3:=Cc (v / 4) (show (9:Int)≠0 by decide);have a4:=B6 (v / 4) (show (0:Int) < 9 by decide);have a5:=Cc (v / 4) (show (20:Int)≠0 by decide);have a6:=B6 (v / 4) (show (0:Int) < 20 by decide);have a7:=Cc (v / 4) (show (60:Int)≠0 by decide);have a8:=B6 (v / 4) (show (0:Int) < 60 by decide);simp only [A6,IF,or_false] at hx
 rcases hx with rfl | rfl | rfl | rfl <;> omega
theorem WV (cell:Int) {p:Nat} (hp:p<=60) (h1:1<=p):Ok (FR cell p) (λl=>l.Pairwise (· < ·)/\(∀x∈l,0<=x/\x < p)/\1<=l.length):=by
 unfold FR G1;simp only [AJ,fx,Bn];rw [MY (by omega) (by omega),A5];simp only [AJ];have hpow:SJ 3 20=some (3 ^ 20):=qX (by decide);refine OkF.out (OkF.seq (OkF.for (λ(pre:List Int) (s:List Int×Int)=>s.1.Pairwise (· < ·)/\(∀x:Int,x∈s.1->0<=x/\x < (pre.length:Int))/\s.1.length<=pre.length) ⟨OW,by simp,AO _⟩ (λpre x s hx hp' hI=>?_)) λs hs=>?_)
 ·obtain ⟨ex,hk⟩:=WY hp'
  obtain ⟨i1,i2,i3⟩:=hI;rw [Ac,A9]
  refine OkF.seq (N:=λs':List Int=>s'.Pairwise (· < ·)/\(∀x:Int,x∈s'->0<=x/\x < ((pre.length+1:Nat):Int))/\s'.length<=pre.length+1) (OkF.ite (λ_=>?_) λ_=>OkF.nx ⟨i1,λy hy=>by have:=i2 y hy;omega,by omega⟩) λs' hs'=>?_
  ·rw [UF (by omega)]
   refine OkF.nx ⟨BN.mpr ⟨i1,Ed _ _,λa ha b hb=>?_⟩,λy hy=>?_,by rw [Ac,A9];omega⟩
   ·rw [Af.mp hb]
    have:=i2 a ha;omega
   ·rcases A2.mp hy with hy | hy
    ·have:=i2 y hy;omega
    ·rw [Af.mp hy];omega
  ·rw [hpow]
   simp only [AJ];rw [show Uu 5 (3 ^ 20)=some (5 * 3 ^ 20) from qX (.inl (by decide)),show Uu 7 x=some (7 * x) from qX (.inl (by decide))];simp only [AJ,Bn]
   refine OkF.map (N:=λ_=>True) ?_ λz _=>hs'
   by_cases c:s.2 / 3=0
   ·rw [wX c,qX rfl]
    exact OkF.nx trivial
   ·rw [wY c,qY AS]
    simp only [AJ]
    exact OkF.ite (λ_=>OkF.nx trivial) λ_=>OkF.nx trivial
 ·rw [Ej] at hs
  obtain ⟨i1,i2,_⟩:=hs
  by_cases c:s.1=[]
  ·rw [wX c,qX rfl,few1]
   refine OkF.rt ⟨Ed _ _,λx hx=>?_,AO _⟩;rw [Af.mp hx];omega
  ·rw [wY c,qY AS]
   exact OkF.rt ⟨i1,i2,List.length_pos_iff.mpr c⟩
theorem Zg {x y:Int×Int} (h:nrm x=nrm y):x=y∨x=(y.2,y.1):=by
 unfold nrm at h;have h1:=congrArg Prod.fst h;have h2:=congrArg Prod.snd h;dsimp only at h1 h2
 by_cases c:x.1=y.1/\x.2=y.2
 ·exact .inl (JZ c.1 c.2)
 ·refine .inr (JZ ?_ ?_) <;> dsimp only <;> split at h1 <;> split at h1 <;> split at h2 <;> split at h2 <;> omega
theorem dE {p:Int} {a b:Int} (h1:0<=a) (h2:a < p) (h3:0<=b) (h4:b < p) (h5:a≠b):Fit p (a,b):=by
 unfold Fit nrm;dsimp only
 refine ⟨?_,?_,?_⟩ <;> split <;> (try split) <;> omega
theorem ZW {p:Nat} (hp1:1<=p) (hp:p<=60) {ns:List Int} (hns:ns.length<=63):Ok (Fu ns p) (λps=>B8 p ps/\ps.length<=1000):=by
 have hpos:(0:Int) < p:=by omega
 unfold Fu Fq;simp only [AJ,fx,Bn];rw [MY (by decide) (by decide)];simp only [AJ];have hcut:=Xz ns (some 1) (some 63);refine OkF.out (OkF.seq (OkF.for (λ(pre:List Int) (s:List (Int×Int))=>B8 p s/\s.length<=2 * pre.length) ⟨⟨by simp,Ja⟩,by simp⟩ (λpre x s hx hpre hI=>?_)) λs hs=>OkF.rt ⟨hs.1,by omega⟩);have hl:=hpre.length_le;rw [Ac,A9] at hl;rw [Ac,A9]
 refine OkF.map (N:=λs:Int×List (Int×Int)=>B8 p s.2/\s.2.length<=2 * (pre.length+1)) ?_ λs hs=>hs
 refine (OkF.for (λ(p2:List Int) (s':Int×List (Int×Int))=>B8 p s'.2/\s'.2.length<=2 * pre.length+p2.length) ⟨hI.1,by simpa using hI.2⟩ (λp2 y s' hy hp2 hI2=>?_)).imp (λs hs=>⟨hs.1,by have:=hs.2;rw [Ej] at this;have:(2:Int).toNat=2:=rfl;omega⟩) λ_ h=>h
 have hdv:∀c:Int,Ls c p=some (c / p):=λc=>qX ⟨hpos,by omega⟩
 rw [Kc hpos,hdv];simp only [AJ,Bn];rw [Kc hpos,hdv];simp only [AJ,Bn];have a0:=Cc s'.1 (show (p:Int)≠0 by omega);have a1:=B6 s'.1 hpos;have b0:=Cc (s'.1 / p) (show (p:Int)≠0 by omega);have b1:=B6 (s'.1 / p) hpos;generalize s'.1 % (p:Int)=a at a0 a1;generalize s'.1 / p % (p:Int)=b at b0 b1;rw [Ac,A9]
 refine OkF.map (N:=λs:List (Int×Int)=>B8 p s/\s.length<=2 * pre.length+(p2.length+1)) ?_ λs hs=>hs
 obtain ⟨i1,i2⟩:=hI2
 by_cases c1:a=b
 ·rw [wX c1]
  exact OkF.nx ⟨i1,by omega⟩
 ·rw [wY c1]
  simp only [OX,if_true]
  cases c2:inG (a,b) s'.2 with
  | true=>exact OkF.nx ⟨i1,by omega⟩
  | false=>
   simp only [OX,if_true]
   cases c3:inG (b,a) s'.2 with
   | true=>exact OkF.nx ⟨i1,by omega⟩
   | false=>
    simp only [OX,AJ,if_true];have hp2l:=hp2.length_le;rw [Ac,A9,Ej] at hp2l;have h2:(2:Int).toNat=2:=rfl;rw [UF (by omega)];refine OkF.nx ⟨B8.snoc.mpr ⟨i1,dE a0 a1 b0 b1 c1,λhm=>?_⟩,by rw [Ac,A9];omega⟩;obtain ⟨z,hz,e⟩:=BH.mp hm
    rcases Zg e with rfl | rfl
    ·have:=Ts.mpr hz
     rw [c2] at this;cases this
    ·have:=Ts.mpr hz
     rw [c3] at this;cases this
theorem cV {o:Nat} {us:List (Int×Int)} {g:Int} (h0:0<=g) (h1:g < o):PZ (o,us) g=some (nbW us g):=by
 unfold PZ PY El Db;simp only [AJ];rw [wX h0,qX rfl,wX h1];simp only [AJ];show KW (CF (((ZY (some (Fw.nx ()))).bind λ_=>some (.nx ()))) λ_=>_)=_;simp only [ZX,AJ,Bn]
 have:atI (LL o us) g=some (nbW us g):=by
  refine LX h0 ?_;unfold LL;rw [Ae,Bw (by omega)];rfl
 rw [this];rfl
theorem bI {p:Nat} {ts:List (Int×Int)} (h:Tz p ts) (ok:Wok (p,ts)) {l:List Int} (hu:l.Pairwise (· < ·)) (hin:∀x∈l,0<=x/\x < p) (h1:1<=l.length) (h2:l.length<=60) (ok':Wok (l.length,Bt (wt ts l))) (cell:Int):G2 (p,ts) (l.length,Bt (wt ts l)) l cell=some true:=by
 have hpos:(0:Int) < l.length:=by omega
 unfold G2 G0;simp only [AJ];rw [Kc hpos,show Ls cell (l.length:Int)=some (cell / (l.length:Int)) from qX ⟨hpos,by omega⟩];simp only [AJ,Bn];rw [Kc hpos];simp only [AJ,Bn];have a0:=Cc cell (show (l.length:Int)≠0 by omega);have a1:=B6 cell hpos;have b0:=Cc (cell / (l.length:Int)) (show (l.length:Int)≠0 by omega);have b1:=B6 (cell / (l.length:Int)) hpos;generalize cell % (l.length:Int)=one at a0 a1;generalize cell / (l.length:Int) % (l.length:Int)=other at b0 b1;have hF':Fd (nbW (Bt (wt ts l))) l.length other (Rn (nbW (Bt (wt ts l))) other l.length):=(Jk ok'.hnb ⟨b0,b1⟩ l.length).fd (Jk ok'.hnb ⟨b0,b1⟩ l.length).len
 have hw':Cg (l.length,Bt (wt ts l)) one other=if one∈BB (Rn (nbW (Bt (wt ts l))) other l.length) then some (some (Gy (nbW (Bt (wt ts l))) (Rn (nbW (Bt (wt ts l))) other l.length) (stp (Rn (nbW (Bt (wt ts l))) other l.length) one).toNat one)) else some none:=by
  unfold Cg;rw [qX ⟨ok',⟨a0,a1⟩,b0,b1⟩]
 rw [hw']
 by_cases c:one∈BB (Rn (nbW (Bt (wt ts l))) other l.length)
 case neg=>rw [qY c];rfl
 rw [qX c];generalize hL:Rn (nbW (Bt (wt ts l))) other l.length=L' at hF' c;have hn:=Zl hF' c;generalize (stp L' one).toNat=n at hn;have bk:=hF'.bk ok'.hsym hn;have bke:=hF'.bk_end ok'.hsym hn;rw [QU];simp only [AJ];show KW (CF _ _)=_;generalize hwf:wf (nbW (Bt (wt ts l))) L' one=f at bk bke
 have f0:f 0=one:=by rw [<-hwf];rfl
 have frng:∀i,i<=n->0<=f i/\f i < l.length:=λi hi=>hF'.rng _ (bk i hi).1
 have hnk:n < l.length:=by have:=hF'.far _ hn;dsimp only at this;omega
 obtain ⟨g,hgd⟩:∃g:Int->Int,g=λx=>(l[x.toNat]?).getD 0:=⟨_,rfl⟩
 have hg:∀x:Int,0<=x->x < l.length->l[x.toNat]?=some (g x):=λx q0 q1=>by
  have e:l[x.toNat]?=some l[x.toNat]:=BC (by omega);rw [hgd];dsimp only;rw [e];rfl
 have gat:∀x:Int,0<=x->x < l.length->atI l x=some (g x):=λx q0 q1=>LX q0 (hg x q0 q1)
 have gin:∀x:Int,0<=x->x < l.length->0<=g x/\g x < p:=λx q0 q1=>hin _ (Av (hg x q0 q1))
 have hstep:∀i,i < n->g (f (i+1))∈nbW ts (g (f i)):=λi hi=>by
  have r1:=frng i (by omega);have r2:=frng (i+1) (by omega);obtain ⟨y,hy1,hy2⟩:=Zh h hu (λx hx=>(hin x hx).1) (i:=(f i).toNat) (j:=(f (i+1)).toNat) (x:=g (f i)) (hg _ r1.1 r1.2) (by rw [Ci r1.1,Ci r2.1];exact (bk i (by omega)).2 hi);rw [hg _ r2.1 r2.2] at hy1;rw [Bc hy1];exact hy2
 rw [Ov (f:=g) (by simp;omega) λx hx=>by
  obtain ⟨i,hi,rfl⟩:=BH.mp hx;have:=frng i (by have:=Jb.mp hi;omega)
  exact gat _ this.1 this.2]
 rw [A7];simp only [AJ,Bn]
 have hT:∀i,i<=n->((Bo (n+1)).map (g∘f))[i]?=some (g (f i)):=λi hi=>by
  rw [Ae,Bw (by omega)];rfl
 have hTl:((Bo (n+1)).map (g∘f)).length=n+1:=by simp
 generalize (Bo (n+1)).map (g∘f)=T at hT hTl;rw [hTl,Y5 (by decide) (by decide) (by omega) (by omega),show (((n+1:Nat):Int) - 1).toNat=n by omega];simp only [AJ];refine Ok.is (OkF.out (OkF.seq (OkF.for (λ_ _=>True) trivial (λpre x s hx _ _=>?_)) λs _=>?_))
 ·have hx':=Io.mp hx
  obtain ⟨j,rfl⟩:∃j:Nat,x=(j:Int)+1:=⟨(x - 1).toNat,by omega⟩
  have e1:atI T ((j:Int)+1)=some (g (f (j+1))):=LX (by omega) (by rw [show ((j:Int)+1).toNat=j+1 by omega];exact hT _ (by omega));have e2:atI T ((j:Int)+1 - 1)=some (g (f j)):=LX (by omega) (by rw [show ((j:Int)+1 - 1).toNat=j by omega];exact hT _ (by omega));rw [e1,e2];simp only [AJ];have r1:=frng j (by omega);have r2:=gin _ r1.1 r1.2;rw [cV r2.1 r2.2];simp only [AJ];rw [wX (hstep j (by omega))];exact OkF.nx trivial
 ·rw [gat _ a0 a1,gat _ b0 b1]
  simp only [AJ];have o1:=gin _ a0 a1;have o2:=gin _ b0 b1;have hF:Fd (nbW ts) p (g other) (Rn (nbW ts) (g other) p):=(Jk ok.hnb o2 p).fd (Jk ok.hnb o2 p).len
  have wk:=hF.walk (f:=λj=>g (f (n - j))) (n:=n) (by show g (f (n - 0))=_;rw [Nat.sub_zero,bke]) (λj hj=>by
   show g (f (n - (j+1)))∈nbW ts (g (f (n - j)));have:=hstep (n - (j+1)) (by omega);rw [show n - (j+1)+1=n - j by omega] at this;have r1:=frng (n - (j+1)) (by omega);have r2:=frng (n - j) (by omega)
   exact ok.hsym _ _ (gin _ r1.1 r1.2).1 (gin _ r2.1 r2.2).1 this) n (AO _)
  have wk:g (f (n - n))∈BB (Rn (nbW ts) (g other) p)/\stp (Rn (nbW ts) (g other) p) (g (f (n - n)))<=n:=wk;rw [L3,f0] at wk
  have hw:Cg (p,ts) (g one) (g other)=some (some (Gy (nbW ts) (Rn (nbW ts) (g other) p) (stp (Rn (nbW ts) (g other) p) (g one)).toNat (g one))):=by
   unfold Cg;rw [qX ⟨ok,o1,o2⟩,qX wk.1]
  rw [hw];simp only [AJ];rw [JK,wX (by omega)];exact OkF.rt rfl
theorem XQ (ps:List (Int×Int)):(Bt ps).length=ps.length:=by
 have:=(EO ps).length_eq;rwa [AF] at this
theorem cf (ts:List (Int×Int)) (l:List Int):(wt ts l).length<=ts.length:=by
 unfold wt;rw [AF];exact JI _ _
theorem UG (a b:Nat×List (Int×Int)) (h:a=b):Em a b=some true:=by
 subst h;unfold Em Fs;simp only [AJ,decide_true,if_true];rfl
theorem fg {ns:List Int} (hns:ns.length<=63):W0 ns=some true:=by
 obtain ⟨pz,e1,hp1,hp⟩:=Wr ns
 obtain ⟨p,rfl⟩:∃p:Nat,pz=p:=⟨pz.toNat,by omega⟩
 have hp1:1<=p:=by omega
 have hp:p<=60:=by omega
 obtain ⟨ps,e2,hf,hl⟩:=ZW hp1 hp hns
 have hw:QT (p:Int) ps=some (p,Bt ps):=by
  unfold QT;rw [qX ⟨by omega,by omega,hf,by omega⟩,A5]
 have tz:=eQ hf;have ok:=Vw hp hf
 have hlt:(Bt ps).length<=1000:=by rw [XQ];exact hl
 obtain ⟨v1,e3,_⟩:=Sk ns (k:=1) (by decide);obtain ⟨v2,e4,_⟩:=Sk ns (k:=2) (by decide);have hpow:SJ 10 40=some (10 ^ 40):=qX (by decide);obtain ⟨l,e5,hu,hin,hl1⟩:=WV (v1 % 10 ^ 40) hp hp1
 have hl60:l.length<=60:=by
  have:=SR (l:=l) (k:=Fo 0 p) (hu.imp λh=>by omega) λx hx=>Io.mpr (by have:=hin x hx;omega)
  rw [Ej] at this;omega
 have tw:=QQ tz hu;have ok':=Vw hl60 tw.fit;have e6:=KF (w:=(p,Bt ps)) tz hlt hu hl1 hl60;obtain ⟨m,e7,hmu,hmin,hm1⟩:=WV (v2 % 10 ^ 40) hl60 hl1
 have hm60:m.length<=60:=by
  have:=SR (l:=m) (k:=Fo 0 l.length) (hmu.imp λh=>by omega) λx hx=>Io.mpr (by have:=hmin x hx;omega)
  rw [Ej] at this;omega
 have e8:=KF (w:=(l.length,Bt (wt (Bt ps) l))) tw.ts (by dsimp only;rw [XQ];exact Ao (cf _ _) hlt) hmu hm1 hm60
 obtain ⟨g,hgd⟩:∃g:Int->Int,g=λx=>(l[x.toNat]?).getD 0:=⟨_,rfl⟩
 have hg:∀x∈m,l[x.toNat]?=some (g x):=λx hx=>by
  have:=hmin x hx;have e:l[x.toNat]?=some l[x.toNat]:=BC (by omega);rw [hgd];dsimp only;rw [e];rfl
 obtain ⟨hgu,hww⟩:=eI (ts:=Bt ps) hu hmu hmin hg;have e9:=KF (w:=(p,Bt ps)) tz hlt (l:=m.map g) hgu (by rw [AF];exact hm1) (by rw [AF];exact hm60)
 have same:(m.length,Bt (wt (Bt (wt (Bt ps) l)) m))=((m.map g).length,Bt (wt (Bt ps) (m.map g))):=by
  rw [AF,<-hww];have q1:=(QQ tw.ts hmu).nrm;have q2:=(QQ tw hmu).nrm;have:=EO (wt (Bt ps) l);rw [tw.nrm] at this;rw [Oa (ps:=wt (Bt (wt (Bt ps) l)) m) (qs:=wt (wt (Bt ps) l) m) (by rw [q1,q2];exact YX this m)]
 have e10:=KF (w:=(p,Bt ps)) tz hlt (l:=Fo 0 p) (TX 0 p) (by rw [Ej];exact hp1) (by rw [Ej];exact hp)
 have whole:((Fo 0 p).length,Bt (wt (Bt ps) (Fo 0 p)))=(p,Bt ps):=by
  rw [Ej,bG tz];have:Bt (Bt ps)=Bt ps:=Oa (by rw [tz.nrm];exact EO ps);rw [this]
 have ways:=bI tz ok hu hin hl1 hl60 ok'
 have hmod:∀v:Int,OL v (10 ^ 40)=some (v % 10 ^ 40):=λv=>Kc (by decide)
 unfold W0 TZ;simp only [AJ];rw [e1];simp only [AJ,Bn];rw [e2];simp only [AJ];rw [hw];simp only [AJ,Bn];rw [e3,hpow];simp only [AJ];rw [hmod];simp only [AJ];rw [e5];simp only [AJ,Bn];rw [e6];simp only [AJ,Bn,decide_true,Hg,Bp,if_false]
 rw [Nl (P:=inB l) (f:=λt=>(rk l t.1,rk l t.2)) (by omega) (λt _=>by
  unfold inB
  cases decide (t.1∈l) <;> rfl) (λt _ ht=>by
  obtain ⟨g1,g2⟩:=Ep.mp ht;rw [Kf g1,Kf g2]
  rfl)]
 simp only [AJ,Bn];rw [show Lm (((Bt ps).filter (inB l)).map λt=>(rk l t.1,rk l t.2))=Bt (wt (Bt ps) l) from WU tw];simp only [decide_true,Hg,Bp,if_false,Bn];rw [e4];simp only [AJ];rw [hmod];simp only [AJ];rw [e7];simp only [AJ,Bn];rw [e8];simp only [AJ,Bn];rw [Ov (l:=m) (f:=g) (by omega) λx hx=>LX (hmin x hx).1 (hg x hx)];simp only [AJ];rw [e9];simp only [AJ];rw [UG _ _ same];simp only [AJ,Hg,Bp,if_false,Bn];rw [MY (by omega) (by omega),A5];simp only [AJ];rw [e10];simp only [AJ];rw [UG _ _ whole];simp only [AJ,Hg,Bp,if_false,Bn]
 have hmin12:∃k:Nat,(if (ns.length:Int) < 12 then (ns.length:Int) else 12)=k/\k<=ns.length/\k<=63:=by
  by_cases c:(ns.length:Int) < 12
  ·exact ⟨ns.length,qX c,AO _,hns⟩
  ·exact ⟨12,qY c,by omega,by omega⟩
 obtain ⟨k,ek,hk1,hk2⟩:=hmin12;rw [ek,MY (by omega) (by omega),A5];simp only [AJ];refine Ok.is (OkF.out (OkF.seq (OkF.for (λ_ _=>True) trivial (λpre x s hx _ _=>?_)) λs _=>OkF.rt rfl));have hx:=Io.mp hx;obtain ⟨y,ey,_⟩:=Sm (l:=ns) (i:=x) (by omega) (by omega);rw [ey];simp only [AJ];rw [ways];exact OkF.nx trivial
theorem good (W:Wd) (nd:W.excs.Nodup) (ns:List Int) (hns:ns.length<=63):∃S',T4 W [.fro (ns.map D.int)] []=.ok (.bl true) S':=by
 refine VF.law ?_;have:=eO W ns;rwa [fg hns] at this
end M
def PySem.W.Fast.tw4034759321209815068:Nat:=0
def PySem.W.Fast.tw1424610753392752190:Nat:=0
def PySem.W.Fast.tw4860582373651248323:Nat:=0
def PySem.W.Fast.tw1286555473244433895:Nat:=0
def PySem.W.Fast.tw685342931542401130:Nat:=0
def PySem.W.Fast.tw7522340502668546461:Nat:=0
def PySem.W.Fast.tw1867913295067314221:Nat:=0
def PySem.W.Fast.tw16568904950755096715:Nat:=0
def PySem.W.Fast.tw4495624467414859065:Nat:=0
def PySem.W.Fast.tw14589655073731482912:Nat:=0
def PySem.W.Fast.tw12213811154349747126:Nat:=0
def PySem.W.Fast.tw8467325586396083460:Nat:=0
def PySem.W.Fast.tw6931197869113597025:Nat:=0
def PySem.W.Fast.tw2698259584050525503:Nat:=0
def PySem.W.Fast.tw3238173867813598149:Nat:=0
def PySem.W.Fast.tw1106777673107326497:Nat:=0
def PySem.W.Fast.tw15074995280279357397:Nat:=0
def PySem.W.Fast.tw448530983867149868:Nat:=0
def PySem.W.Fast.tw14288723648233769523:Nat:=0
def PySem.W.Fast.tw16695942526060001935:Nat:=0
def PySem.W.Fast.tw4608220796616270041:Nat:=0
def PySem.W.Fast.tw16588445497287147857:Nat:=0
def PySem.W.Fast.tw12813241860005842233:Nat:=0
def PySem.W.Fast.tw9037337755591982841:Nat:=0
def PySem.W.Fast.tw15267045270668671905:Nat:=0
namespace M
open PySem PySem.Spec PyProof.Rows L2 PySem.W
theorem dO {l:OpenLaw} {w:A1} {K:Frag} {h:BW} {mg:Str->Option AB} {fa:AH} (X:K.In h) (G:h.Ns An mg) (hfa:mg "law" = some (.ref fa))
  {f1 f2 f3 f4 f5 f6 f7 f8 f9 f10 f11 f12 f13 f14 f15 cBadPlaces cBadTie cNoPlace cWeb:AH} {tk_MOST_PLACES:Tok}
  {od1 an1 od2 an2 od3 an3 od4 an4 od5 an5 od6 an6 od7 an7 od8 an8 od9 an9 od10 an10 od11 an11 od12 an12 od13 an13 od14 an14 od15 an15:Option AH} {sl1 sl2 sl3 sl4 sl5 sl6 sl7 sl8 sl9 sl10 sl11 sl12 sl13 sl14 sl15:Array (Option AB)} {oc1 kV1 dc1 pm1 cd1 ct1 oc2 kV2 dc2 pm2 cd2 ct2 oc3 kV3 dc3 pm3 cd3 ct3 oc4 kV4 dc4 pm4 cd4 ct4 oc5 kV5 dc5 pm5 cd5 ct5 oc6 kV6 dc6 pm6 cd6 ct6 oc7 kV7 dc7 pm7 cd7 ct7 oc8 kV8 dc8 pm8 cd8 ct8 oc9 kV9 dc9 pm9 cd9 ct9 oc10 kV10 dc10 pm10 cd10 ct10 oc11 kV11 dc11 pm11 cd11 ct11 oc12 kV12 dc12 pm12 cd12 ct12 oc13 kV13 dc13 pm13 cd13 ct13 oc14 kV14 dc14 pm14 cd14 ct14 oc15 kV15 dc15 pm15 cd15 ct15:AB}
  (a_Web:nsIn K An "Web" = some (some (.ref cWeb)))
  (a_BadPlaces:nsIn K An "BadPlaces" = some (some (.ref cBadPlaces)))
  (a_BadTie:nsIn K An "BadTie" = some (some (.ref cBadTie)))
  (a_NoPlace:nsIn K An "NoPlace" = some (some (.ref cNoPlace)))
  (a1:nsIn K An "checked_ties" = some (some (.ref f1)))
  (l1:K.lookup f1=some ⟨oc1,od1,.func (fnOf "checked_ties" "checked_ties" (Cf DF) (CL DF) (A0 DF) .none kV1 dc1 pm1 an1 cd1 ct1),sl1⟩)
  (k1c:codeIn K cd1 "checked_ties" = true)
  (k1:keepIn K (.ref f1)=true)
  (a2:nsIn K An "near_sets_of" = some (some (.ref f2)))
  (l2:K.lookup f2=some ⟨oc2,od2,.func (fnOf "near_sets_of" "near_sets_of" (Cf DE) (CL DE) (A0 DE) .none kV2 dc2 pm2 an2 cd2 ct2),sl2⟩)
  (k2c:codeIn K cd2 "near_sets_of" = true)
  (k2:keepIn K (.ref f2)=true)
  (a3:findIn K (.ref cWeb) "__init__" = some (some (.ref f3)))
  (i3:isFn K (.ref f3)=true)
  (l3:K.lookup f3=some ⟨oc3,od3,.func (fnOf "__init__" "Web.__init__" (Cf FA) (CL FA) (A0 FA) .none kV3 dc3 pm3 an3 cd3 ct3),sl3⟩)
  (k3c:codeIn K cd3 "Web.__init__" = true)
  (k3:keepIn K (.ref f3)=true)
  (a4:nsIn K An "refuse_no_place" = some (some (.ref f4)))
  (l4:K.lookup f4=some ⟨oc4,od4,.func (fnOf "refuse_no_place" "refuse_no_place" (Cf CS) (CL CS) (A0 CS) .none kV4 dc4 pm4 an4 cd4 ct4),sl4⟩)
  (k4c:codeIn K cd4 "refuse_no_place" = true)
  (k4:keepIn K (.ref f4)=true)
  (a5:nsIn K An "near" = some (some (.ref f5)))
  (l5:K.lookup f5=some ⟨oc5,od5,.func (fnOf "near" "near" (Cf LG) (CL LG) (A0 LG) .none kV5 dc5 pm5 an5 cd5 ct5),sl5⟩)
  (k5c:codeIn K cd5 "near" = true)
  (k5:keepIn K (.ref f5)=true)
  (a6:nsIn K An "steps_from" = some (some (.ref f6)))
  (l6:K.lookup f6=some ⟨oc6,od6,.func (fnOf "steps_from" "steps_from" (Cf Dv) (CL Dv) (A0 Dv) .none kV6 dc6 pm6 an6 cd6 ct6),sl6⟩)
  (k6c:codeIn K cd6 "steps_from" = true)
  (k6:keepIn K (.ref f6)=true)
  (a7:nsIn K An "way_between" = some (some (.ref f7)))
  (l7:K.lookup f7=some ⟨oc7,od7,.func (fnOf "way_between" "way_between" (Cf DU) (CL DU) (A0 DU) .none kV7 dc7 pm7 an7 cd7 ct7),sl7⟩)
  (k7c:codeIn K cd7 "way_between" = true)
  (k7:keepIn K (.ref f7)=true)
  (a8:nsIn K An "web_within" = some (some (.ref f8)))
  (l8:K.lookup f8=some ⟨oc8,od8,.func (fnOf "web_within" "web_within" (Cf Du) (CL Du) (A0 Du) .none kV8 dc8 pm8 an8 cd8 ct8),sl8⟩)
  (k8c:codeIn K cd8 "web_within" = true)
  (k8:keepIn K (.ref f8)=true)
  (a9:nsIn K An "_law_cell_at" = some (some (.ref f9)))
  (l9:K.lookup f9=some ⟨oc9,od9,.func (fnOf "_law_cell_at" "_law_cell_at" (Cf DG) (CL DG) (A0 DG) .none kV9 dc9 pm9 an9 cd9 ct9),sl9⟩)
  (k9c:codeIn K cd9 "_law_cell_at" = true)
  (k9:keepIn K (.ref f9)=true)
  (a10:nsIn K An "_law_places" = some (some (.ref f10)))
  (l10:K.lookup f10=some ⟨oc10,od10,.func (fnOf "_law_places" "_law_places" (Cf DV) (CL DV) (A0 DV) .none kV10 dc10 pm10 an10 cd10 ct10),sl10⟩)
  (k10c:codeIn K cd10 "_law_places" = true)
  (k10:keepIn K (.ref f10)=true)
  (a11:nsIn K An "_law_pairs" = some (some (.ref f11)))
  (l11:K.lookup f11=some ⟨oc11,od11,.func (fnOf "_law_pairs" "_law_pairs" (Cf Dw) (CL Dw) (A0 Dw) .none kV11 dc11 pm11 an11 cd11 ct11),sl11⟩)
  (k11c:codeIn K cd11 "_law_pairs" = true)
  (k11:keepIn K (.ref f11)=true)
  (a12:nsIn K An "_law_some" = some (some (.ref f12)))
  (l12:K.lookup f12=some ⟨oc12,od12,.func (fnOf "_law_some" "_law_some" (Cf ES) (CL ES) (A0 ES) .none kV12 dc12 pm12 an12 cd12 ct12),sl12⟩)
  (k12c:codeIn K cd12 "_law_some" = true)
  (k12:keepIn K (.ref f12)=true)
  (a13:nsIn K An "_law_alike" = some (some (.ref f13)))
  (l13:K.lookup f13=some ⟨oc13,od13,.func (fnOf "_law_alike" "_law_alike" (Cf Dx) (CL Dx) (A0 Dx) .none kV13 dc13 pm13 an13 cd13 ct13),sl13⟩)
  (k13c:codeIn K cd13 "_law_alike" = true)
  (k13:keepIn K (.ref f13)=true)
  (a14:nsIn K An "_law_ways" = some (some (.ref f14)))
  (l14:K.lookup f14=some ⟨oc14,od14,.func (fnOf "_law_ways" "_law_ways" (Cf ER) (CL ER) (A0 ER) .none kV14 dc14 pm14 an14 cd14 ct14),sl14⟩)
  (k14c:codeIn K cd14 "_law_ways" = true)
  (k14:keepIn K (.ref f14)=true)
  (a15:nsIn K An "law" = some (some (.ref f15)))
  (l15:K.lookup f15=some ⟨oc15,od15,.func (fnOf "law" "law" (Cf Oe) (CL Oe) (A0 Oe) .none kV15 dc15 pm15 an15 cd15 ct15),sl15⟩)
  (k15c:codeIn K cd15 "law" = true)
  (k15:keepIn K (.ref f15)=true)
  (pg_Web:plainGet K cWeb RX=true)
  (hd_Web:hasDictIn K cWeb=true)
  (po_Web:plainOver K cWeb=true)
  (sa_Web:findIn K (.ref cWeb) "__setattr__" = some (some (.builtin "object.__setattr__")))
  (mk_Web:makesIn K cWeb=true)
  (kc_Web:keepIn K (.ref cWeb)=true)
  (n_Web_places:findIn K (.ref cWeb) "places" = some none)
  (n_Web_ties:findIn K (.ref cWeb) "ties" = some none)
  (n_Web_near_sets:findIn K (.ref cWeb) "near_sets" = some none)
  (sp:specialIn K (.builtin "object.__class__") "__get__" = some (some (.builtin "getset_descriptor.__get__")))
  (tk:takesIn K (.builtin "object.__class__")=some true)
  (xnd:([cBadPlaces,cBadTie,cNoPlace]:List AH).Nodup)
  (wa_Web:findIn K (.ref cWeb) "__class__" = some (some (.builtin "object.__class__")))
  (wo_Web:mroIn K cWeb (.type "object")=some true)
  (wi_Web:kitOne K (.ref cWeb) (.ref cWeb)=some true)
  (xo_BadPlaces:mroIn K cBadPlaces (.type "object")=some true)
  (xb_BadPlaces:mroIn K cBadPlaces (.type "BaseException")=some true)
  (xo_BadTie:mroIn K cBadTie (.type "object")=some true)
  (xb_BadTie:mroIn K cBadTie (.type "BaseException")=some true)
  (xo_NoPlace:mroIn K cNoPlace (.type "object")=some true)
  (xb_NoPlace:mroIn K cNoPlace (.type "BaseException")=some true)
  (xe_BadPlaces:excIn K cBadPlaces Ow "ValueError.__new__" = true)
  (xg_BadPlaces:findIn K (.ref cBadPlaces) "__getattribute__" = some (some (.builtin "BaseException.__getattribute__")))
  (xn_BadPlaces:findIn K (.ref cBadPlaces) "__getattr__" = some none)
  (xa_BadPlaces:findIn K (.ref cBadPlaces) "__class__" = some (some (.builtin "object.__class__")))
  (xe_BadTie:excIn K cBadTie Ow "ValueError.__new__" = true)
  (xg_BadTie:findIn K (.ref cBadTie) "__getattribute__" = some (some (.builtin "BaseException.__getattribute__")))
  (xn_BadTie:findIn K (.ref cBadTie) "__getattr__" = some none)
  (xa_BadTie:findIn K (.ref cBadTie) "__class__" = some (some (.builtin "object.__class__")))
  (xe_NoPlace:excIn K cNoPlace Ow "ValueError.__new__" = true)
  (xg_NoPlace:findIn K (.ref cNoPlace) "__getattribute__" = some (some (.builtin "BaseException.__getattribute__")))
  (xn_NoPlace:findIn K (.ref cNoPlace) "__getattr__" = some none)
  (xa_NoPlace:findIn K (.ref cNoPlace) "__class__" = some (some (.builtin "object.__class__")))
  (z_enumerate:nsIn K An "enumerate" = some none)
  (z_isinstance:nsIn K An "isinstance" = some none)
  (z_len:nsIn K An "len" = some none)
  (z_max:nsIn K An "max" = some none)
  (z_min:nsIn K An "min" = some none)
  (z_range:nsIn K An "range" = some none)
  (z_sorted:nsIn K An "sorted" = some none)
  (z_tuple:nsIn K An "tuple" = some none)
  (g_MOST_PLACES:nsIn K An "MOST_PLACES" = some (some (.int 60 tk_MOST_PLACES)))
  : ∃(W:Wd) (T:Txt K mg W),fa=T.d_law.f/\W.excs.Nodup/\∀(s:AD) (v:AB),Rf s T.d_law.fd ⟨[v],[]⟩ [("script",v)]:=by
 have F1:=EL (st:=DF) l1 k1c k1
 have b1:=F1.binds (ps:=["places", "ties"]) λ_ _ _ _ _ _ us hl=>by obtain ⟨a,b,rfl⟩:=NO hl;rfl
 have F2:=EL (st:=DE) l2 k2c k2
 have b2:=F2.binds (ps:=["places", "ties"]) λ_ _ _ _ _ _ us hl=>by obtain ⟨a,b,rfl⟩:=NO hl;rfl
 have F3:=EL (st:=FA) l3 k3c k3
 have b3:=F3.binds (ps:=["self", "places", "ties"]) λ_ _ _ _ _ _ us hl=>by obtain ⟨a,b,c,rfl⟩:=cg hl;rfl
 have F4:=EL (st:=CS) l4 k4c k4
 have b4:=F4.binds (ps:=["web", "place"]) λ_ _ _ _ _ _ us hl=>by obtain ⟨a,b,rfl⟩:=NO hl;rfl
 have F5:=EL (st:=LG) l5 k5c k5
 have b5:=F5.binds (ps:=["web", "place"]) λ_ _ _ _ _ _ us hl=>by obtain ⟨a,b,rfl⟩:=NO hl;rfl
 have F6:=EL (st:=Dv) l6 k6c k6
 have b6:=F6.binds (ps:=["web", "start"]) λ_ _ _ _ _ _ us hl=>by obtain ⟨a,b,rfl⟩:=NO hl;rfl
 have F7:=EL (st:=DU) l7 k7c k7
 have b7:=F7.binds (ps:=["web", "one", "other"]) λ_ _ _ _ _ _ us hl=>by obtain ⟨a,b,c,rfl⟩:=cg hl;rfl
 have F8:=EL (st:=Du) l8 k8c k8
 have b8:=F8.binds (ps:=["web", "some"]) λ_ _ _ _ _ _ us hl=>by obtain ⟨a,b,rfl⟩:=NO hl;rfl
 have F9:=EL (st:=DG) l9 k9c k9
 have b9:=F9.binds (ps:=["script", "k"]) λ_ _ _ _ _ _ us hl=>by obtain ⟨a,b,rfl⟩:=NO hl;rfl
 have F10:=EL (st:=DV) l10 k10c k10
 have b10:=F10.binds (ps:=["script"]) λ_ _ _ _ _ _ us hl=>by obtain ⟨a,rfl⟩:=ci hl;rfl
 have F11:=EL (st:=Dw) l11 k11c k11
 have b11:=F11.binds (ps:=["script", "places"]) λ_ _ _ _ _ _ us hl=>by obtain ⟨a,b,rfl⟩:=NO hl;rfl
 have F12:=EL (st:=ES) l12 k12c k12
 have b12:=F12.binds (ps:=["cell", "places"]) λ_ _ _ _ _ _ us hl=>by obtain ⟨a,b,rfl⟩:=NO hl;rfl
 have F13:=EL (st:=Dx) l13 k13c k13
 have b13:=F13.binds (ps:=["one", "other"]) λ_ _ _ _ _ _ us hl=>by obtain ⟨a,b,rfl⟩:=NO hl;rfl
 have F14:=EL (st:=ER) l14 k14c k14
 have b14:=F14.binds (ps:=["web", "inner", "some", "cell"]) λ_ _ _ _ _ _ us hl=>by obtain ⟨a,b,c,d,rfl⟩:=len4 hl;rfl
 have F15:=EL (st:=Oe) l15 k15c k15
 have b15:=F15.binds (ps:=["script"]) λ_ _ _ _ _ _ us hl=>by obtain ⟨a,rfl⟩:=ci hl;rfl
 let W:Wd:=⟨cBadPlaces,cBadTie,cNoPlace,cWeb⟩
 have xc_BadPlaces:(clsIn K cBadPlaces).isSome=true:=Jy xo_BadPlaces;have xc_BadTie:(clsIn K cBadTie).isSome=true:=Jy xo_BadTie;have xc_NoPlace:(clsIn K cNoPlace).isSome=true:=Jy xo_NoPlace;have X_BadPlaces:XIs K cBadPlaces:=⟨xc_BadPlaces,xg_BadPlaces,xn_BadPlaces,xa_BadPlaces,sp,tk,xo_BadPlaces,xb_BadPlaces⟩;have X_BadTie:XIs K cBadTie:=⟨xc_BadTie,xg_BadTie,xn_BadTie,xa_BadTie,sp,tk,xo_BadTie,xb_BadTie⟩;have X_NoPlace:XIs K cNoPlace:=⟨xc_NoPlace,xg_NoPlace,xn_NoPlace,xa_NoPlace,sp,tk,xo_NoPlace,xb_NoPlace⟩
 let T:Txt K mg W:={
  d_checked_ties:=⟨f1,_,F1,b1,GF X G a1⟩
  d_near_sets_of:=⟨f2,_,F2,b2,GF X G a2⟩
  d_Web_init:=⟨f3,_,F3,b3⟩
  d_refuse_no_place:=⟨f4,_,F4,b4,GF X G a4⟩
  d_near:=⟨f5,_,F5,b5,GF X G a5⟩
  d_steps_from:=⟨f6,_,F6,b6,GF X G a6⟩
  d_way_between:=⟨f7,_,F7,b7,GF X G a7⟩
  d_web_within:=⟨f8,_,F8,b8,GF X G a8⟩
  d__law_cell_at:=⟨f9,_,F9,b9,GF X G a9⟩
  d__law_places:=⟨f10,_,F10,b10,GF X G a10⟩
  d__law_pairs:=⟨f11,_,F11,b11,GF X G a11⟩
  d__law_some:=⟨f12,_,F12,b12,GF X G a12⟩
  d__law_alike:=⟨f13,_,F13,b13,GF X G a13⟩
  d__law_ways:=⟨f14,_,F14,b14,GF X G a14⟩
  d_law:=⟨f15,_,F15,b15,GF X G a15⟩
  c_Web:=⟨⟨pg_Web,hd_Web,po_Web,sa_Web⟩,⟨mk_Web,a3,i3,kc_Web⟩,GF X G a_Web⟩
  n_Web_places:=n_Web_places
  n_Web_ties:=n_Web_ties
  n_Web_near_sets:=n_Web_near_sets
  oi_Web:=⟨⟨pg_Web,hd_Web,po_Web,sa_Web⟩,wa_Web,sp,tk,wo_Web,wi_Web⟩
  x_BadPlaces:=⟨⟨xe_BadPlaces⟩,GF X G a_BadPlaces⟩
  x_BadTie:=⟨⟨xe_BadTie⟩,GF X G a_BadTie⟩
  x_NoPlace:=⟨⟨xe_NoPlace⟩,GF X G a_NoPlace⟩
  nd:=xnd
  b_enumerate:=GP X G z_enumerate
  b_isinstance:=GP X G z_isinstance
  b_len:=GP X G z_len
  b_max:=GP X G z_max
  b_min:=GP X G z_min
  b_range:=GP X G z_range
  b_sorted:=GP X G z_sorted
  b_tuple:=GP X G z_tuple
  g_MOST_PLACES:=⟨tk_MOST_PLACES,GF X G g_MOST_PLACES⟩ }
 refine ⟨W,T,?_,xnd,λs v=>.of_eq rfl⟩;have e:=hfa.symm.trans (GF X G a15);cases e;rfl
theorem walk {l:OpenLaw} {q:Ah} {loose:List Str} {XP:(Str->Option AB)->BW->Prop} {YP:A1->BW->Prop} {d:DefRec} {K:Params->Frag} (hn:l.most=some 63) (hdf:d.params.defaults=[])
  (hY:∀(w:A1) (h:BW),YP w h->(K w.params).In h)
  (F:∀(w:A1) (mg:Str->Option AB) (fa:AH) (h:BW),(K w.params).In h->h.Ns An mg->mg d.name=some (.ref fa) ->
   ∃(W:Wd) (T:Txt (K w.params) mg W),fa=T.d_law.f/\W.excs.Nodup/\∀(s:AD) (v:AB),Rf s T.d_law.fd ⟨[v],[]⟩ [("script",v)])
  (good:∀(W:Wd),W.excs.Nodup->∀ns:List Int,ns.length<=63->∃S',T4 W [.fro (ns.map D.int)] []=.ok (.bl true) S') :
  WalkO q loose XP YP l.row.toRowW d [] (λf vs=>UM f vs):=
 L2.Yc (n:=63) (k:=6) (x:="script") (CX:=λw=>CXG l.prog w) (sp:=λw=>WR (K w.params)) hn (by decide) hdf ⟨rfl,by decide,by decide⟩ hY
  (λw mg fa h KX G hmg=>by
   obtain ⟨W,T,e,nd,hb⟩:=F w mg fa h KX G hmg;subst e
   exact ⟨T.d_law.fd,hb,λbase _ _=>XR (cT T) (good W nd)⟩)
  (λ_ _ a ns hl hO hS=>⟨a,ns,rfl,dC hO hS,hl,λ_=>rfl⟩) (λw H s e s' z=>dM z)
end M
open PySem PySem.W PyProof.Rows
set_option maxRecDepth 100000 in
set_option maxHeartbeats 0 in
theorem PySem.Challenge.cw_guardround_k05_whole_webs_within_holds : PySem.Challenge.rw_guardround_k05_whole_webs_within.Holds := by
 w_on;o_law;k_head;(case hw=>w_witness2)
 k_fill
 refine M.walk (l:=Ez) rfl rfl (λw h Y=>by first | exact kIn_of Y | exact km_in_of Y) ?F M.good
 case F=>
  intro w mg fa h KX G hmg;refine' M.dO (l:=Ez) (w:=w) KX G hmg ?a_Web ?a_BadPlaces ?a_BadTie ?a_NoPlace ?a1 ?l1 ?k1c ?k1 ?a2 ?l2 ?k2c ?k2 ?a3 ?i3 ?l3 ?k3c ?k3 ?a4 ?l4 ?k4c ?k4 ?a5 ?l5 ?k5c ?k5 ?a6 ?l6 ?k6c ?k6 ?a7 ?l7 ?k7c ?k7 ?a8 ?l8 ?k8c ?k8 ?a9 ?l9 ?k9c ?k9 ?a10 ?l10 ?k10c ?k10 ?a11 ?l11 ?k11c ?k11 ?a12 ?l12 ?k12c ?k12 ?a13 ?l13 ?k13c ?k13 ?a14 ?l14 ?k14c ?k14 ?a15 ?l15 ?k15c ?k15 ?pg_Web ?hd_Web ?po_Web ?sa_Web ?mk_Web ?kc_Web ?n_Web_places ?n_Web_ties ?n_Web_near_sets ?sp ?tk ?xnd ?wa_Web ?wo_Web ?wi_Web ?xo_BadPlaces ?xb_BadPlaces ?xo_BadTie ?xb_BadTie ?xo_NoPlace ?xb_NoPlace ?xe_BadPlaces ?xg_BadPlaces ?xn_BadPlaces ?xa_BadPlaces ?xe_BadTie ?xg_BadTie ?xn_BadTie ?xa_BadTie ?xe_NoPlace ?xg_NoPlace ?xn_NoPlace ?xa_NoPlace ?z_enumerate ?z_isinstance ?z_len ?z_max ?z_min ?z_range ?z_sorted ?z_tuple ?g_MOST_PLACES
  (case a_Web | a_BadPlaces | a_BadTie | a_NoPlace | a1 | l1 | k1c | k1 | a2 | l2 | k2c | k2 | a3 | i3 | l3 | k3c | k3 | a4 | l4 | k4c | k4 | a5 | l5 | k5c | k5 | a6 | l6 | k6c | k6 | a7 | l7 | k7c | k7 | a8 | l8 | k8c | k8 | a9 | l9 | k9c | k9 | a10 | l10 | k10c | k10 | a11 | l11 | k11c | k11 | a12 | l12 | k12c | k12 | a13 | l13 | k13c | k13 | a14 | l14 | k14c | k14 | a15 | l15 | k15c | k15 | pg_Web | hd_Web | po_Web | sa_Web | mk_Web | kc_Web | n_Web_places | n_Web_ties | n_Web_near_sets | sp | tk=>k_is)
  (case xnd=>decide)
  (case wa_Web | wo_Web=>k_is)
  (case wi_Web=>kit_is)
  (case xo_BadPlaces | xb_BadPlaces | xo_BadTie | xb_BadTie | xo_NoPlace | xb_NoPlace=>k_is)
  (case xe_BadPlaces=>k_exc)
  (case xg_BadPlaces | xn_BadPlaces | xa_BadPlaces=>k_is)
  (case xe_BadTie=>k_exc)
  (case xg_BadTie | xn_BadTie | xa_BadTie=>k_is)
  (case xe_NoPlace=>k_exc)
  (case xg_NoPlace | xn_NoPlace | xa_NoPlace | z_enumerate | z_isinstance | z_len | z_max | z_min | z_range | z_sorted | z_tuple | g_MOST_PLACES=>k_is)
#print axioms PySem.Challenge.cw_guardround_k05_whole_webs_within_holds
