import PyProof.Rows.All
import Wide.All
import OpenK.AllK
import Wide.FinOn
import Lean
import PyProof.EqAt
import PyProof.EqKinds
import PyProof.TupleCall
import PyProof.ExcBaseAll.ValueError
import PyProof.NsDelKeeps
import PyProof.NeKinds
import PyProof.Rows.SortShell
import PyProof.Rows.FStr
import PyProof.FString
import PyProof.ExcAttrAll.ValueError
import PyProof.ExcArgsOwn
import PyProof.Rows.SortRuns
import PyProof.TupleIter
import PyProof.Dict
import KE.KDictSum
import PyProof.Rows.SetFrom
import PyProof.SetRoads
import PyProof.Rows.Range3
import PyProof.WalksMore
import PyProof.TupleOfSeq
import PyProof.EnumMake
import PyProof.SliceList
import PyProof.MinMaxWalk
import PyProof.Rows.EnumRows
import PyProof.WalkInts
import PyProof.Rows.SeqCalls
import KE.KRevIter
import PyProof.CollectIter
import PyProof.TupleOfGen
import PyProof.Rows.FactsT2
import PyProof.ListRange
import PyProof.Rows.CallKwBuiltin
import PyProof.ZipIter
import PyProof.Rows.ZipGen
import PyProof.Rows.RuleM_int
import PyProof.Rows.AssignMoreSeq
import KE.KIntText
import PyProof.Rows.StrKeys3
import PyProof.StrBlock
import PyProof.StrCalls2
import PyProof.StrWalks
import PySem.Challenge.RW_guardround_k42_webs_that_are_not_two
set_option Elab.async false
set_option linter.all false
set_option maxRecDepth 100000
set_option maxHeartbeats 8000000
def qX{c:Prop}{h:Decidable c}(hc:c){α:Sort u}{t e:α}:ite c t e=t:=if_pos hc
def qY{c:Prop}{h:Decidable c}(hc:Not c){α:Sort u}{t e:α}:ite c t e=e:=if_neg hc
def wX{p:Prop}[i:Decidable p](h:p):decide p=true:=decide_eq_true h
def wY{p:Prop}[i:Decidable p](h:Not p):decide p=false:=decide_eq_false h
def zX{a b:Prop}(h:a)(n:Not a):b:=absurd h n
noncomputable section
open Array renaming append_assoc->Xj,getD_eq_getD_getElem?->E6,getElem?_eq_getElem->Q6,getElem?_eq_some_iff->FN,getElem?_setIfInBounds_ne->OI,getElem?_toList->HV,length_toList->Be,mem_extract_iff_getElem->Op,mem_of_getElem?->Cq,mem_toList_iff->BZ,perm_iff_toList_perm->FM,toList->iK,toList_append->BI,toList_map->Jr,toList_modify->WR,toList_push->JN,toList_reverse->FL,toList_setIfInBounds->Qj
open Array.Perm renaming refl->NX
open Bool renaming and_eq_true->EN,and_true->iJ,eq_false_iff->ZL,false_eq_true->Cv,false_ne_true->AL,false_or->iI,not_eq_true'->ZK,not_true->iH,true_and->iG
open Classical renaming axiomOfChoice->QX
open Eq renaming trans->Dd
open False renaming elim->D7
open ForInStep renaming yield->Hh
open Int renaming emod_eq_emod_iff_emod_sub_eq_zero->Mn,emod_lt_of_pos->Gh,emod_nonneg->IM,emod_two_eq->gf,fdiv_eq_ediv_of_nonneg->Rv,le_antisymm->ge,le_refl->oB,lt_of_le_of_lt->Iz,lt_of_lt_of_le->Nd,natCast_add->gb,natCast_nonneg->ZJ,toNat_natCast->Bk,toNat_of_nonneg->BQ,zero_add->Kj
open List renaming Nodup->Q5,all_cons->iF,all_eq_true->Fg,all_map->Um,any_cons->Hs,any_eq_false->ZI,any_eq_true->Ff,any_toArray->KO,append_assoc->BC,append_nil->BE,dropLast_eq_take->U5,drop_drop->Q3,drop_eq_getElem_cons->Fh,drop_eq_nil_of_le->Ul,ext_getElem?->D5,extract->OF,filterMap_cons->Mm,filterMap_cons_none->GN,filterMap_cons_some->GM,filter_eq_self->Xh,filter_map->cR,find?_cons->BV,find?_eq_none->Ik,find?_isSome->ZH,flatMap_append->Xg,flatMap_cons->ZG,flatten_append->Xf,flatten_cons->FC,foldl->Y7,forIn_cons->Ki,forIn_nil->Ll,getElem?_append_left->Ag,getElem?_append_right->BB,getElem?_drop->Ge,getElem?_eq_getElem->BW,getElem?_eq_none->Bl,getElem?_eq_none_iff->Bn,getElem?_eq_some_iff->AC,getElem?_map->AS,getElem?_range->BU,getElem?_replicate->DN,getElem?_set->FB,getElem?_set_ne->AY,getElem?_set_self->Am,getElem?_set_self'->TM,getElem?_take_of_lt->TB,getElem?_zipIdx->WM,getElem_of_mem->Ml,length->Gg,length_append->Ad,length_cons->A8,length_drop->Ho,length_erase_of_mem->S9,length_filter_le->U4,length_map->AE,length_nil->IJ,length_pos_iff->Xe,length_pos_of_mem->Uk,length_replicate->LL,length_reverse->Xd,length_set->DO,length_singleton->Bu,length_take->EM,lookup->IA,lookup_cons->Bd,map->Lk,mapM_toArray->ZF,map_append->A9,map_congr_left->CO,map_cons->BA,map_id->PD,map_id'->lE,map_map->A2,map_nil->Kb,map_reverse->cD,mem_append->Af,mem_append_left->Ay,mem_append_right->Ax,mem_cons->At,mem_cons_of_mem->AT,mem_cons_self->Aq,mem_filter->Dx,mem_filterMap->Y6,mem_flatMap->Oo,mem_flatten->On,mem_iff_getElem->WL,mem_map->An,mem_map_of_mem->Xc,mem_of_find?_eq_some->Rt,mem_of_getElem?->BK,mem_of_mem_take->WK,mem_range->DA,mem_reverse->cC,mem_singleton->AJ,mergeSort_nil->Y5,mergeSort_perm->Xb,nil_append->cQ,nodup_append->CS,nodup_cons->CK,nodup_nil->G6,not_mem_nil->Bx,of_mem_zip->QV,pairwise_append->Ba,pairwise_cons->Y4,pairwise_iff_getElem->Rs,pairwise_map->CQ,pairwise_mergeSort->TL,pairwise_reverse->LK,pairwise_singleton->KN,perm_append_comm->U3,range->A7,range_succ->QU,replicate->Ak,replicate_succ->DV,reverse_cons->JQ,set_set->lD,singleton_append->Hg,size_toArray->Ae,take_add_one->OE,take_append_drop->E4,take_length->Dg,take_of_length_le->Ea,take_sublist->ZE,zipIdx_nil->cP
open List.Pairwise renaming imp_of_mem->IE,nil->Q4
open List.Perm renaming append_left->Jq,append_right->Qh,flatMap_right->QW,of_eq->WN
open List.Sublist renaming refl->n9
open Nat renaming add_le_add_left->Cn,add_zero->U2,le_of_eq->U1,le_of_lt->Kh,le_of_not_lt->PB,le_of_succ_le->OZ,le_refl->AN,le_succ->ID,le_trans->Ao,lt_irrefl->Df,lt_of_le_of_lt->A4,lt_of_lt_of_le->AU,lt_succ_of_lt->OY,lt_succ_self->Cy,lt_trans->lS,min_le_right->cO,min_self->lR,ne_of_gt->HE,ne_of_lt->A0,not_lt->Iy,not_lt_zero->Gc,sub_self->lQ,succ_ne_self->cN,zero_add->HD,zero_le->DK
open Nat.succ renaming inj->Jm
open Ne renaming symm->Br
open Option renaming bind_eq_some_iff->Rr,bind_some->Ab,getD_some->OD,isSome_iff_exists->Fu,isSome_map->G0,isSome_some->WJ,map->lC
open Option.some renaming inj->CC
open Or renaming inl->LJ,inr->KM
open Prod renaming ext->gZ
open PyProof.Rows renaming AllBare->Ii,IntsAre->GZ,Keyed->BM,SortKind->Na,SortSt->BR,Subscript_->iD,arrOf->AX,boot_all->n8,boot_isinstance->Mj,boot_list->Om,boot_max->nz,boot_min->ny,boot_sorted->nw,boot_sum->nv,boot_tuple->nu,bubble->iC,callWith_builtin1->nq,callWith_type1->C9,elem'_eq->cL,envOfC->L6,failedOf->Ij,firstOfTuple'->XY,general'->Uv,listUpdate_at->XX,ltAt'->kt,mirror->Jo,mirror_perm->S7,pairsOf->Ka,pendingOf->AZ,reverseSlice'->Ol,reverseSlice'_eq->LW,seqEpoch_at->cK,seqObj->Iw,sortedHeap->iA,subscriptTail->XV,subscriptTail_builtinR->Y9,tuples'->km,wpS_bind->AM,wpS_forRange->B9,wpS_get->Hq,wpS_modify->De,wpS_mono->DP,wpS_pure->AO
open PyProof.Rows.IsTup renaming new->oA
open PyProof.Rows.SortSt renaming mk'->HS
open PySem renaming Addr->AV,Around->CB,BindsTo->Uq,DictEntry->OH,FuncData->LY,Heap->Cj,IsEnum->Ru,Keyword->OG,NameKind->Nc,Paired->FZ,PassesOwn->OC,Program->Bp,Scope->Qd,Shared->AQ,Stmt->ER,Value->AH,Within->TK,World->CF,again->kx,assign->O5,assignEach->E9,atKey->Ux,attributeBase->Cp,backTo->Dw,backToKw->cM,behindInMarks->CM,binaryOp->CV,bindC->Yz,bindL->Yy,bootBuiltins->E8,builtinsNs->Uw,cLine->EA,call->XZ,call_meets->L9,callerA->Qb,cellsFrom->B7,checkBuiltinCall->lM,codeAny->L8,codeAny_mono->Qa,compareOp->Bs,concat_meets->ZC,eval->B4,evalArgs_none->WE,firstArgMember->NZ,foldedSetIterable->Fc,getItem->ZB,holding->ku,isTrue->Uu,keywordEach->S8,letOwnedTupleGo->Mi,mainGlobals->Ah,mem_of_lookup->DQ,model->Ac,newFunctionEnv->Ut,noFill_tuple_add->Ro,noteFrame->Yx,preSum->iB,pushCells->Ep,pushCells_keeps->TH,pyIter->ZA,pyNext->Rj,rawInt->Eo,relabel->JO,seq_tuple_add->XW,setField->cJ,sizeLine_eq->Sz,sliceBounds->cI,slot_list_getitem->kr,standAt->kn,starEach->Aa,subscripted->Sy,swapsWith->GX,sysModules->DJ,truthy->hX,tupleKind->Ri,tupleKind_room_in1->Jn,typeIs_int->hV,valueAt->QZ,wpAny->Aw,wpAny_Call_Name_kw->HC,wpAny_Call_method0_late->Yw,wpAny_Dict_empty->lL,wpAny_Name->g9,wpAny_assign_Name->kl,wpAny_attempt->Ih,wpAny_bind->AB,wpAny_call->Us,wpAny_callSpecial?_slot->En,wpAny_call_entry->Em,wpAny_comprehension_free->XU,wpAny_dictEntries->QY,wpAny_dictEpoch->TF,wpAny_eqBool_int->lK,wpAny_execs_cons->lJ,wpAny_execs_nil->Iv,wpAny_field->E3,wpAny_fieldsOf->NY,wpAny_holding->Ig,wpAny_isInstance->lI,wpAny_isOneOf_keyiter->Mo,wpAny_isTrue_Compare1->cA,wpAny_loadPart->Ur,wpAny_loadPart'->G5,wpAny_mono->E7,wpAny_newObj_type->EL,wpAny_of_eq->cH,wpAny_passesOwn->FK,wpAny_pure->AR,wpAny_pyIter_enum->KZ,wpAny_pyIter_keyiter->cG,wpAny_pyIter_list->kj,wpAny_pyIter_tuple->HB,wpAny_rule->g8,wpAny_setField->F0,wpAny_truthy_bool->Db,wpAny_typeNameOfWhole_keyiter->E2,wpAny_typeNameOf_keyiter->G1
open PySem.Around renaming under->TD
open PySem.Builtin renaming bitAnd->Gi
open PySem.Builtin.Dict renaming dictSlotNone->oE,showsAll->PF
open PySem.Builtin.Dict_items renaming ownsTuple->Kc
open PySem.Builtin.List renaming listItems->Il,listTooLong->Dl
open PySem.Builtin.ObjectAttr renaming bindTo->cF
open PySem.Builtin.Range renaming rangeSize->lU
open PySem.Builtin.SmallTypes renaming nextOf->ES
open PySem.Calls renaming Name_function_global->Qi,callWith_builtin->G2,evalArgs_plain->LZ,spliced_cons->Ms,spliced_nil->Nf
open PySem.Challenge renaming pw_guardround_k42_webs_that_are_not_two->iE,rw_guardround_k42_webs_that_are_not_two->Gb
open PySem.Code renaming frames->lT,isFrame->Uo
open PySem.Data renaming cell->cE,fields->WQ
open PySem.EntryCells renaming newEntry->Rx
open PySem.F renaming args_dict_keyiterator_next_1->LX,args_tuple_add_2->Ix,args_tuple_iterator_next_1->Rw,entry_dict_keyiterator_next->Lj,entry_tuple_add->JP,entry_tuple_iterator_next->TC,excAttr_ValueError->O9,plainAttrs_dict->Q2,plainAttrs_list->GK,slot_dict_iter->Rq,slot_dict_keyiterator_next->Ca,slot_dict_update->Qg,slot_dict_values->Qe,slot_enumerate_next->Y8,slot_int_rmul->lG,slot_tuple_add->Jp,slot_tuple_iterator_next->Fi
open PySem.Heap renaming ExtBut->WP,SameBut->Ec,get?_none_of_le->WO,get?_push_of_some->AK,get?_push_size->Al,get?_update_ne->Xi,get?_update_other->Eb,get?_update_self->E5,lt_size->Ai,size_push->Dk
open PySem.Heap.IsSliceOf renaming new->lF
open PySem.Heap.SameBut renaming refl->oC,update->HF
open PySem.NameKind renaming cell->Ce,free->Fe
open PySem.Obj renaming cls_mapFields->Jl,data_mapFields->CJ,isFreed_of_fields->FA,mapFields->C8,mapSeq->Hr
open PySem.Paired renaming length->D4,snoc->Uj
open PySem.SeqAt.EqAt renaming of_refs->lH
open PySem.SeqAt.RcAt renaming lists->nj,lists_lengths->Y0,tuples->lN
open PySem.SeqAt.RcNeAt renaming lists->gY,lists_lengths->Uf
open PySem.Str renaming empty->Ue,ofString->Kd
open PySem.Value renaming bool->Mp,builtin->gX,bytes->lB,float->Uy,int->OV,isInt->lA,isStrOf->gW,none->BY,ref->Au,str->OU,type->GY
open PySem.W renaming Frag->AG,InstAt->ZD,Looks->HU,callWith_K->U0,cellsFrom_some->Rp,clsIn->EZ,codeIn->O8,emptyDict->Cg,excIn->cB,findIn->Cf,findObj->Y3,fnOf->IC,handedIn->Xa,hasDictIn->Mr,hideAll->KL,hideAll_get->Ui,hideAll_none->Kg,instObj->Do,kdu_collect->Uh,keepIn->Gf,kia_one->CI,kitAny->Cw,kitOne->Bt,kitx_dict->WI,kitx_list->WH,lookIn->O7,looks_findIn->Kf,looks_subIn->Ug,makesIn->Y2,methodObj->Mq,mg_none_of->EQ,mg_of->Dc,mroIn->Li,nsOkIn->O6,of_hideAll->MA,plainGet->Nb,plainOver->WG,specialIn->WF,subIn->Lh,tail_of_in->Uz,takerIn->OX,takesIn->Y1,typeIn->Ke
open PySem.W.Looks renaming here->lP,ld->lO
open PySem.W.WData renaming int->nh
open PySem.W.WShape renaming has->kz
open PySem.Within renaming cons->nk
open Sum renaming inl->CD,inr->OW
open Sum.inl renaming inj->TJ
open True renaming intro->Cu
namespace L2
open PySem PySem.Spec PyProof.Rows
abbrev Key:=Sum Int Str
def RP:Key->AH->Bool
 | .inl k,v=>lA k v
 | .inr x,v=>gW x v
def keyH(w:CF):Key->Int
 | .inl k=>hashInt k
 | .inr x=>hashStr w x
def C1:∀{k:Key} {v:AH},RP k v=true->(∃i t,k=CD i/\v=OV i t)∨(∃x t,k=OW x/\v=OU x t)
 | .inl i,v,h=>by
  obtain⟨t,e⟩:=AH.isInt_shape (k:=i) (v:=v) h;exact .inl ⟨i,t,rfl,e⟩
 | .inr x,v,h=>by
  obtain⟨t,e⟩:=AH.isStrOf_shape (x:=x) (v:=v) h;exact .inr ⟨x,t,rfl,e⟩
def YU(i:Int)(t:Tok):RP (.inl i) (.int i t)=true:=by simp[RP,lA]
def YT(x:Str)(t:Tok):RP (.inr x) (.str x t)=true:=by simp[RP,gW]
def ju(a b:Int):decide ((CD a:Key)=CD b)=(a==b):=by
 by_cases e:a=b
 ·subst e;simp
 ·have h:¬(CD a:Key)=CD b:=λq=>e (TJ q)
  rw[wY h];exact(beq_eq_false_iff_ne.mpr e).symm
def jq(a b:Str):decide ((OW a:Key)=OW b)=decide (a=b):=by
 by_cases e:a=b
 ·subst e;simp
 ·have h:¬(OW a:Key)=OW b:=λq=>e (OW.inj q)
  rw[wY h,wY e]
def jt(a:Int)(b:Str):decide ((CD a:Key)=OW b)=false:=wY (λq=>nomatch q)
def jr(a:Str)(b:Int):decide ((OW a:Key)=CD b)=false:=wY (λq=>nomatch q)
def Ct(prog:Bp)(w:CF):PySem.KeyKind prog w Key where
 is:=RP
 hash:=keyH w
 inj:=λv a b ha hb=>by
  rcases C1 ha with⟨i,t,rfl,rfl⟩ | ⟨x,t,rfl,rfl⟩
  ·rcases C1 hb with⟨j,u,rfl,e⟩ | ⟨y,u,rfl,e⟩
   ·injection e with e1 _;rw[e1]
   ·exact nomatch e
  ·rcases C1 hb with⟨j,u,rfl,e⟩ | ⟨y,u,rfl,e⟩
   ·exact nomatch e
   ·injection e with e1 _;rw[e1]
 byValue:=λk v h=>by
  rcases C1 h with⟨i,t,rfl,rfl⟩ | ⟨x,t,rfl,rfl⟩ <;> rfl
 pyHash:=λhv h=>by
  rcases C1 hv with⟨i,t,rfl,rfl⟩ | ⟨x,t,rfl,rfl⟩
  ·exact wpAny_pyHash_int h
  ·exact wpAny_pyHash_str h
 eqBool:=λhu hv h=>by
  rcases C1 hu with⟨i,t,rfl,rfl⟩ | ⟨x,t,rfl,rfl⟩
  ·rcases C1 hv with⟨j,u,rfl,rfl⟩ | ⟨y,u,rfl,rfl⟩
   ·rw[ju]at h;exact lK h
   ·rw[jt]at h;exact SeqAt.EqAt.int_str i t y u _ _ _ _ h
  ·rcases C1 hv with⟨j,u,rfl,rfl⟩ | ⟨y,u,rfl,rfl⟩
   ·rw[jr]at h;exact SeqAt.EqAt.str_int x t j u _ _ _ _ h
   ·rw[jq]at h;exact wpAny_eqBool_str h
 «strs»:=λk x t v h=>by
  rcases C1 h with⟨i,u,rfl,e⟩ | ⟨y,u,rfl,e⟩
  ·exact nomatch e
  ·injection e with e1 _
   subst e1
   cases v <;> rfl
def T8(prog:Bp)(w:CF)(i:Int)(t:Tok):(Ct prog w).is (.inl i) (.int i t)=true:=YU i t
def T7(prog:Bp)(w:CF)(x:Str)(t:Tok):(Ct prog w).is (.inr x) (.str x t)=true:=YT x t
inductive V where
 | non | bl (b:Bool) | int (i:Int) | str (x:Str) | byt (b:Array UInt8) | flt (b:UInt64) | ref (a:AV) | ty (n:String)
 deriving DecidableEq
def RelV:V->AH->Prop
 | .non,u=>u=BY
 | .bl b,u=>u=Mp b
 | .int i,u=>∃t,u=OV i t
 | .str x,u=>∃t,u=OU x t
 | .byt b,u=>∃t,u=lB b t
 | .flt b,u=>∃t,u=Uy b t
 | .ref a,u=>u=Au a
 | .ty n,u=>u=GY n
abbrev Bg:List V->List AH->Prop:=FZ RelV
def Bg.length(r:Bg xs us):xs.length=us.length:=D4 r
def Bg.get:∀{xs:List V} {us:List AH} {i:Nat} {x:V},Bg xs us->xs[i]?=some x->∃u,us[i]?=some u/\RelV x u
 | _,_,_,_,.nil,e=>by simp at e
 | _,_,0,_,.cons r _,e=>by simp at e;subst e;exact⟨_,rfl,r⟩
 | _,_,i+1,x,.cons _ t,e=>by
  obtain⟨u,h1,h2⟩:=Bg.get (i:=i) (x:=x) t (by simpa using e);exact⟨u,by simpa using h1,h2⟩
def Bg.append:∀{xs ys:List V} {us ws:List AH},Bg xs us->Bg ys ws->Bg (xs++ys) (us++ws)
 | _,_,_,_,.nil,s=>s
 | _,_,_,_,.cons r t,s=>.cons r (Bg.append t s)
def OB:Option V->Option AH->Prop
 | some v,some u=>RelV v u
 | none,none=>True
 | _,_=>False
def KV{κ:Type}:List (κ×V)->List (κ×AH)->Prop:=FZ λ(p:κ×V) (q:κ×AH)=>p.1=q.1/\RelV p.2 q.2
def kV:Key->V
 | .inl i=>.int i
 | .inr x=>.str x
inductive HO where
 | lst (xs:List V)
 | tup (xs:List V)
 | dK (kvs:List (Key×V)) | dT (kvs:List (List Key×V))
 | set (S:Int->Bool) (n:Nat)
 | ins (C dx:AV) (fs:List (Str×V))
 | own (x:AV)
 | xd (fs:List (Str×V))
 | met (f x:AV)
 | rng (lo hi:Int)
 | frz (o:Obj) (u:HO)
 | tbl (ps:Array AH)
 | ext (φ:Cj->Prop)
abbrev Hp:=AV->Option HO
def upd(H:Hp)(a:AV)(o:HO):Hp:=λb=>if b=a then some o else H b
def Bb:upd H a o a=some o:=by unfold upd;rw[qX rfl]
def BN(h:b≠a):upd H a o b=H b:=by unfold upd;rw[qY h]
def mZ{H:Hp}{a b:AV}{o u:HO}(h:H a=some o)(h':H b=some u)(d:o≠u):a≠b:=by
 intro e;subst e;rw[h]at h';exact d (CC h')
def Bq{H:Hp}{a b:AV}{o:HO}(h:H a=some o)(h':H b=none):a≠b:=by
 intro e;subst e;rw[h]at h';cases h'
section
variable(P:Bp)(w:CF)
def CH(H:Hp)(h:Cj)(a:AV):HO->Prop
 | .lst xs=>xs.length<=sizeLine/\∃(i':List AH) (n:Nat),Bg xs i'/\h.get? a=some { cls:=.type "list",data:=.seq i'.toArray n }
 | .tup xs=>(xs.length<=sizeLine/\∃o,h.get? a=some o/\o.dict=none)/\∃i':List AH,Bg xs i'/\IsTup h a i'.toArray
 | .dK kvs=>kvs.length<=sizeLine/\(a==DJ)=false/\∃vs,KV kvs vs/\h.DictOf (Ct P w) a vs
 | .dT kvs=>kvs.length<=sizeLine/\(a==DJ)=false/\∃xs:List (List Key×AV×AH),
   FZ (λ(p:List Key×V) (q:List Key×AV×AH)=>p.1=q.1/\H q.2.1=some (.tup (p.1.map kV))/\RelV p.2 q.2.2) kvs xs /\
   ∃o es ep,h.get? a=some o/\o.ExactDict/\o.data=.dict es ep/\es.toList=xs.map (entryOfKey (Ri (Ct P w)))/\(xs.map (·.1)).Nodup
 | .set S n=>h.SetOf (intKind P w) a S n
 | .ins C dx fs=>H dx=some (.own a)/\fs.length<=1000/\dx≠a/\h.get? a=some (Do C dx) /\
   ∃mA,h.Ns1 dx mA/\(∀f,OB (fs.lookup f) (mA f))/\TK mA (fs.map (·.1))
 | .own _=>∃o,h.get? a=some o
 | .xd fs=>∃mA,h.Ns1 a mA/\∀f,OB (fs.lookup f) (mA f)
 | .rng lo hi=>∃t u v,h.get? a=some { cls:=.type "range",data:=.fields #[.int lo t,.int hi u,.int 1 v] }
 | .frz o u=>h.get? a=some o/\CH H h a u
 | .tbl ps=>h.get? a=some { cls:=.none,data:=.fields ps }
 | .met f x=>h.get? a=some (Mq (.ref f) (.ref x))
 | .ext φ=>φ h/\(∃o,h.get? a=some o)/\∀h1 h2:Cj,φ h1->(∀o,h1.get? a=some o->h2.get? a=some o)->φ h2
def HOk(H:Hp)(h:Cj):Prop:=∀a o,H a=some o->CH P w H h a o
end
section
variable{P:Bp}{w:CF}{H H':Hp}{h h':Cj}{a:AV}{o:HO}
def CH.lt(x:CH P w H h a o):a < h.objs.size:=by
 cases o with
 | lst xs=>obtain⟨_,_,_,_,e⟩:=x;exact Ai e
 | tup xs=>obtain⟨_,_,_,p⟩:=x;exact p.lt
 | dK kvs=>obtain⟨_,_,_,_,o,_,_,e,_⟩:=x;exact Ai e
 | dT kvs=>obtain⟨_,_,_,_,o,_,_,e,_⟩:=x;exact Ai e
 | set S n=>obtain⟨o,_,_,_,e,_⟩:=x;exact Ai e
 | ins C dx fs=>obtain⟨_,_,_,e,_⟩:=x;exact Ai e
 | own y=>obtain⟨_,e⟩:=x;exact Ai e
 | xd fs=>obtain⟨_,⟨_,_,_,e,_⟩,_⟩:=x;exact Ai e
 | rng lo hi=>obtain⟨_,_,_,e⟩:=x;exact Ai e
 | frz ob u=>obtain⟨e,_⟩:=x;exact Ai e
 | tbl ps=>exact Ai (show h.get? a=some _ from x)
 | met f y=>exact Ai (show h.get? a=some _ from x)
 | ext φ=>obtain⟨_,⟨_,e⟩,_⟩:=x;exact Ai e
def FZ.mapP{α β:Type}{F G:α->β->Prop}:∀{l₁:List α} {l₂:List β},FZ F l₁ l₂->(∀a b,F a b->G a b)->FZ G l₁ l₂
 | _,_,.nil,_=>.nil
 | _,_,.cons r t,f=>.cons (f _ _ r) (FZ.mapP t f)
def CH.stay(x:CH P w H h a o)(k:∀b u,(b=a∨H b=some (.own a))->h.get? b=some u->h'.get? b=some u)
  (ho:∀b,H b=some (.own a)->H' b=some (.own a)) (ht:∀b xs,H b=some (.tup xs)->H' b=some (.tup xs)):CH P w H' h' a o:=by
 induction o with
 | lst xs=>obtain⟨z,i',n,r,e⟩:=x;exact⟨z,i',n,r,k _ _ (.inl rfl) e⟩
 | tup xs=>obtain⟨⟨z,o2,e2,c2⟩,i',r,ob,e,c⟩:=x;exact⟨⟨z,o2,k _ _ (.inl rfl) e2,c2⟩,i',r,ob,k _ _ (.inl rfl) e,c⟩
 | dK kvs=>obtain⟨z,y,vs,r,ob,es,ep,e,c⟩:=x;exact⟨z,y,vs,r,ob,es,ep,k _ _ (.inl rfl) e,c⟩
 | dT kvs=>
  obtain⟨z,y,xs,r,ob,es,ep,e,c⟩:=x;exact⟨z,y,xs,FZ.mapP r λp q z=>⟨z.1,ht _ _ z.2.1,z.2.2⟩,ob,es,ep,k _ _ (.inl rfl) e,c⟩
 | set S n=>obtain⟨ob,es,ep,t,e,c⟩:=x;exact⟨ob,es,ep,t,k _ _ (.inl rfl) e,c⟩
 | ins C dx fs=>
  obtain⟨d,z,ne,e,mA,⟨od,es,ep,e2,c⟩,r⟩:=x;exact⟨ho _ d,z,ne,k _ _ (.inl rfl) e,mA,⟨od,es,ep,k _ _ (.inr d) e2,c⟩,r⟩
 | own y=>obtain⟨ob,e⟩:=x;exact⟨ob,k _ _ (.inl rfl) e⟩
 | xd fs=>obtain⟨mA,⟨od,es,ep,e,c⟩,r⟩:=x;exact⟨mA,⟨od,es,ep,k _ _ (.inl rfl) e,c⟩,r⟩
 | rng lo hi=>obtain⟨t,u,v,e⟩:=x;exact⟨t,u,v,k _ _ (.inl rfl) e⟩
 | frz ob u ih=>obtain⟨e,q⟩:=x;exact⟨k _ _ (.inl rfl) e,ih q⟩
 | tbl ps=>
  have e:h.get? a=some { cls:=.none,data:=.fields ps }:=x;show h'.get? a=some { cls:=.none,data:=.fields ps };exact k a _ (.inl rfl) e
 | met f y=>
  have e:h.get? a=some (Mq (.ref f) (.ref y)):=x;show h'.get? a=some (Mq (.ref f) (.ref y));exact k a _ (.inl rfl) e
 | ext φ=>obtain⟨p,⟨o,e⟩,st⟩:=x;exact⟨st _ _ p λo q=>k _ _ (.inl rfl) q,⟨o,k _ _ (.inl rfl) e⟩,st⟩
def HOk.lt(x:HOk P w H h)(e:H a=some o):a < h.objs.size:=(x a o e).lt
def HOk.fresh(x:HOk P w H h)(e:h.objs.size<=a):H a=none:=by
 cases q:H a with
 | none=>rfl
 | some u=>exact zX (AU (x.lt q) e) (Df _)
def HOk.kept(x:HOk P w H h)(k:∀b u,h.get? b=some u->h'.get? b=some u):HOk P w H h':=λa o e=>
 (x a o e).stay (λb u _ q=>k b u q) (λ_ q=>q) λ_ _ q=>q
def HOk.laid(x:HOk P w H h)(k:∀b u,h.get? b=some u->h'.get? b=some u)(hp:h.objs.size<=a)(new:CH P w (upd H a o) h' a o):HOk P w (upd H a o) h':=λb u e=>by
 have hn:=x.fresh hp
 by_cases hb:b=a
 ·subst hb;rw[Bb]at e;cases e;exact new
 ·rw[BN hb]at e
  exact(x b u e).stay (λc v _ q=>k c v q) (λc q=>by rw[BN (Bq q hn)];exact q) λc xs q=>by rw[BN (Bq q hn)];exact q
end
def Rd(H:Hp)(a:AV)(u:HO):Prop:=H a=some u∨∃o,H a=some (.frz o u)
def Rd.ok(r:Rd H a u)(x:HOk P w H h):CH P w H h a u:=by
 rcases r with r | ⟨o,r⟩
 ·exact x a u r
 ·obtain⟨_,q⟩:=x a _ r
  exact q
def Mut:Option HO->Prop
 | some (.lst _)=>True
 | some (.dK _)=>True
 | some (.dT _)=>True
 | some (.set _ _)=>True
 | some (.ins _ _ _)=>True
 | some (.ext _)=>True
 | _=>False
section
variable{P:Bp}{w:CF}{H:Hp}{h h':Cj}{x e:AV}
def HOk.write(ok:HOk P w H h)(mu:Mut (H x))(he:e=x∨H e=some (.own x))(k:∀b u,b≠e->h.get? b=some u->h'.get? b=some u)(tw:∃u,h'.get? e=some u)
  (new:CH P w (upd H x o') h' x o'):HOk P w (upd H x o') h':=λb u q=>by
 have tK:∀c y,H c=some (.own y)->c≠x:=λc y r z=>by subst z;rw[r]at mu;exact mu
 have wa:∀c xs,H c=some (.tup xs)->c≠x:=λc xs r z=>by subst z;rw[r]at mu;exact mu
 by_cases hb:b=x
 ·subst hb;rw[Bb]at q;cases q;exact new
 ·rw[BN hb]at q
  by_cases hbe:b=e
  ·have q':H b=some (.own x):=by
    rcases he with z | z
    ·exact zX (hbe.trans z) hb
    ·rw[hbe];exact z
   rw[q]at q';cases q';obtain⟨v,hv⟩:=tw;exact⟨v,by rw[hbe];exact hv⟩
  ·refine(ok b u q).stay (λc v hc r=>k c v ?_ r) (λc r=>by rw[BN (tK c b r)];exact r) λc xs r=>by rw[BN (wa c xs r)];exact r
   rcases hc with rfl | hc
   ·exact hbe
   ·rintro rfl
    rcases he with z | z
    ·exact tK c b hc z
    ·rw[hc]at z;cases z;exact hb rfl
end
structure Un(fs ex:List AV)(H H':Hp)(h h':Cj):Prop where
 keep:∀b o,h.get? b=some o->H b=none->b∉fs->b∉ex->h'.get? b=some o
 slot:∀b o,h.get? b=some o->H b=none->b∈fs->b∉ex->∃sl,h'.get? b=some { o with slots:=sl }
 free:∀b o,h.get? b=some o->H b=none->b∉ex->H' b=none
 there:∀b o,h.get? b=some o->b∉ex->∃o',h'.get? b=some o'
 tups:∀b xs,H b=some (.tup xs)->H' b=some (.tup xs)
 frzs:∀b o u,H b=some (.frz o u)->H' b=some (.frz o u)
 tbls:∀b ps,H b=some (.tbl ps)->∃more,H' b=some (.tbl (ps++more))
section
variable{fs ex:List AV}{H H1:Hp}{h h1 h':Cj}{a x e:AV}{o:HO}
def Un.any(u:Un fs ex H H1 h h1)(q:h.get? b=some ob)(n:H b=none)(hx:b∉ex):∃sl,h1.get? b=some { ob with slots:=sl }:=by
 by_cases hb:b∈fs
 ·exact u.slot b ob q n hb hx
 ·exact⟨ob.slots,u.keep b ob q n hb hx⟩
def Un.kept(k:∀b u,h.get? b=some u->h'.get? b=some u):Un fs ex H H h h':=
 ⟨λb ob q _ _ _=>k b ob q,λb ob q _ _ _=>⟨ob.slots,k b ob q⟩,λ_ _ _ n _=>n,λb ob q _=>⟨ob,k b ob q⟩,λ_ _ q=>q,λ_ _ _ q=>q,λ_ ps q=>⟨#[],by rw[q];simp⟩⟩
def Un.refl:Un fs ex H H h h:=Un.kept λ_ _ q=>q
def Un.laid(k:∀b u,h.get? b=some u->h'.get? b=some u)(hp:h.objs.size<=a)(hn:H a=none):Un fs ex H (upd H a o) h h' where
 keep:=λb u q _ _ _=>k b u q
 slot:=λb u q _ _ _=>⟨u.slots,k b u q⟩
 free:=λb u q n _=>by rw[BN (A0 (AU (Ai q) hp))];exact n
 there:=λb u q _=>⟨u,k b u q⟩
 tups:=λb xs q=>by rw[BN (Bq q hn)];exact q
 frzs:=λb u xs q=>by rw[BN (Bq q hn)];exact q
 tbls:=λb ps q=>⟨#[],by rw[BN (Bq q hn),q];simp⟩
def Un.write(mu:Mut (H x))(he:e=x∨H e=some (.own x))(k:∀b u,b≠e->h.get? b=some u->h'.get? b=some u)(tw:∃u,h'.get? e=some u):Un fs ex H (upd H x o) h h':=by
 have hx:∀b,H b=none->b≠x:=λb n z=>by subst z;rw[n]at mu;exact mu
 have hb:∀b,H b=none->b≠e:=λb n z=>by
  subst z
  rcases he with r | r
  ·exact hx b n r
  ·rw[n]at r;cases r
 have hm:∀b u,H b=some u->¬Mut (some u)->b≠x:=λb u q nm z=>by subst z;rw[q]at mu;exact nm mu
 refine⟨λb u q n _ _=>k b u (hb b n) q,λb u q n _ _=>⟨u.slots,k b u (hb b n) q⟩,λb u q n _=>by rw[BN (hx b n)];exact n,λb u q _=>?_,
  λb xs q=>by rw[BN (hm b _ q λz=>z)];exact q,λb u xs q=>by rw[BN (hm b _ q λz=>z)];exact q,λb ps q=>⟨#[],by rw[BN (hm b _ q λz=>z),q];simp⟩⟩
 by_cases hbe:b=e
 ·subst hbe;exact tw
 ·exact⟨u,k b u hbe q⟩
end
def trk(h:Cj)(H:Hp):List AV:=(A7 h.objs.size).filter λa=>(H a).isSome
def SV(h:Cj)(H:Hp):Cj:=KL h (trk h H)
def Yb(h:Cj)(H:Hp):(SV h H).objs.size=h.objs.size:=PySem.W.hideAll_size _ _
def bJ(e:h.get? b=some o)(n:H b=none):(SV h H).get? b=some o:=
 Ui _ e λhm=>by
  have q:(H b).isSome=true:=(Dx.mp hm).2;rw[n]at q;simp at q
def eY(e:(SV h H).get? b=some o):h.get? b=some o/\H b=none:=by
 have e':h.get? b=some o:=MA (trk h H) e;refine⟨e',?_⟩
 cases q:H b with
 | none=>rfl
 | some x=>
  have hm:b∈trk h H:=Dx.mpr ⟨DA.mpr (Ai e'),by simp[q]⟩;have z:(SV h H).get? b=none:=Kg (trk h H) hm;rw[z]at e;cases e
structure Mod(K:AG)(mg:Str->Option AH)(base:Cj):Prop where
 kin:K.In base
 glob:base.Ns Ah mg
 blt:∃mb,base.Ns Uw mb/\∀x:Str,x≠"__name__"->mb x=E8 x
 nolimit:base.NoLimit
structure Cx where
 prog:Bp
 w:CF
 K:AG
 mg:Str->Option AH
 base:Cj
 A:CB
 N:List Str
 s₀:AQ
 H₀:Hp
 env:Env
 outer:List Env
 stack:List Env
 ex:List AV
 fn:Str->Bool
 calm:Bool
 pn:List (AV×Obj)
 xe:AH->AQ->Prop
def frs(l:List Env):List AV:=l.filterMap (·.frame)
abbrev Cx.fs(X:Cx):List AV:=frs X.outer
def Vis(sc:Qd)(x:Str):Prop:=sc.names.lookup x=some .local∨sc.names.lookup x=some .cell∨sc.names.lookup x=some .free
def Loc(sc:Qd)(x:Str):Prop:=sc.names.lookup x=some .local∨sc.names.lookup x=some .cell
def Look(env:Env)(h:Cj)(m:Str->Option AH)(x:Str)(u:AH):Prop:=
 (env.kindOf x=some .local/\m x=some u)∨((env.kindOf x=some .cell∨env.kindOf x=some .free)/\∃c,env.cells.lookup x=some c/\h.IsCell c (some u))
structure Cx.Ok(X:Cx):Prop where
 mod:Mod X.K X.mg X.base
 kind:X.env.scope.kind=.function
 glob:X.env.globals=Ah
 blt:X.env.builtins=Uw
 above:X.s₀.heap.objs.size<=X.env.locals
 inj:∀x y c,X.env.cells.lookup x=some c->X.env.cells.lookup y=some c->x=y
 has:∀x,(X.env.kindOf x=some .cell∨X.env.kindOf x=some .free)->∃c,X.env.cells.lookup x=some c
 cab:∀x c,X.fn x=true->X.env.cells.lookup x=some c->X.s₀.heap.objs.size<=c
 hd:X.calm=true->X.A.handled=none
 frames:X.A.frames=some X.stack
 stk:X.stack=X.outer∨(X.stack=X.env :: X.outer/\X.env.frame=some X.env.locals)
 exf:∀b∈X.ex,b≠X.env.locals/\∀x c,X.env.cells.lookup x=some c->c≠b
 bs:∀b o,X.base.get? b=some o->X.s₀.heap.get? b=some o/\X.H₀ b=none
 bsz:X.base.objs.size<=X.s₀.heap.objs.size
 noex:∀b o,X.base.get? b=some o->b∉X.ex
 exfs:∀b∈X.ex,b∉X.fs
 funs:X.s₀.heap.FunFrames X.base X.outer
 frf:∀b∈X.fs,X.H₀ b=none
structure Inv(X:Cx)(ζ:List (AV×Obj))(σ:List (Option V))(H:Hp)(s:AQ):Prop where
 ok:X.Ok
 os:s.os=X.s₀.os
 bare:Ii s.gens
 base:Un X.fs X.ex X.H₀ H X.s₀.heap s.heap
 loc:∃m,s.heap.Ns X.env.locals m/\∀(i:Nat) (x:Str) (v:V),X.N[i]?=some x->σ[i]?=some (some v)->Vis X.env.scope x->∃u,RelV v u/\Look X.env s.heap m x u
 cell:∀x c,X.env.cells.lookup x=some c->∃v,s.heap.IsCell c v
 free:H X.env.locals=none
 freeC:∀x c,X.env.cells.lookup x=some c->H c=none
 pin:∀p∈X.pn++ζ,s.heap.get? p.1=some p.2/\H p.1=none/\p.1≠X.env.locals/\p.1∉X.fs/\∀v,p.2.data≠.cell v
 hok:HOk X.prog X.w H s.heap
 len:σ.length=X.N.length
section
variable{X:Cx}{ζ:List (AV×Obj)}{σ:List (Option V)}{H H':Hp}{s:AQ}{h':Cj}
def Cx.Ok.nofr(ok:X.Ok)(e:X.base.get? b=some o):b∉X.fs:=λhb=>by
 have:=(ok.funs.mem hb).1;rw[e]at this;cases this
def Inv.bs(I:Inv X ζ σ H s):∀b o,X.base.get? b=some o->s.heap.get? b=some o/\H b=none:=λb o e=>
 ⟨I.base.keep b o (I.ok.bs b o e).1 (I.ok.bs b o e).2 (I.ok.nofr e) (I.ok.noex b o e),I.base.free b o (I.ok.bs b o e).1 (I.ok.bs b o e).2 (I.ok.noex b o e)⟩
def Inv.bk(I:Inv X ζ σ H s):∀b o,X.base.get? b=some o->s.heap.get? b=some o:=λb o e=>(I.bs b o e).1
def Inv.mod(I:Inv X ζ σ H s):Mod X.K X.mg X.base:=I.ok.mod
def Inv.kIn(I:Inv X ζ σ H s):X.K.In s.heap:=I.ok.mod.kin.keeps I.bk
def Inv.lt(I:Inv X ζ σ H s):X.env.locals < s.heap.objs.size:=let ⟨_,hn,_⟩:=I.loc;hn.lt
def Inv.sz(I:Inv X ζ σ H s):X.s₀.heap.objs.size<=s.heap.objs.size:=Ao I.ok.above (Kh I.lt)
def Inv.nofs(I:Inv X ζ σ H s)(h:s.heap.objs.size<=a):a∉X.fs:=λhb=>by
 obtain⟨_,o,ho,_⟩:=I.ok.funs.mem hb;exact zX (AU (Ai ho) (Ao I.sz h)) (Df _)
def Inv.cne(I:Inv X ζ σ H s):∀x c,X.env.cells.lookup x=some c->c≠X.env.locals:=λx c e z=>by
 obtain⟨v,o,ho,hd⟩:=I.cell x c e;obtain⟨m,⟨o',es,ep,p9,pd,_⟩,_⟩:=I.loc;rw[z,p9]at ho;cases ho;rw[pd]at hd;cases hd
def Inv.funs(I:Inv X ζ σ H s):s.heap.FunFrames X.base X.outer:=by
 have all:∀(l:List Env),(∀b∈frs l,b∈X.fs)->X.s₀.heap.FunFrames X.base l->s.heap.FunFrames X.base l:=by
  intro l
  induction l with
  | nil=>intro _ _;trivial
  | cons env r ih=>
   intro hs hl;obtain⟨hk,⟨L,o,hf,hn,ho,hd⟩,hr⟩:=hl;have hL:L∈X.fs:=hs L (by unfold frs;rw[Mm,hf];exact Aq)
   obtain⟨sl,e⟩:=I.base.slot L o ho (I.ok.frf L hL) hL λz=>I.ok.exfs L z hL
   exact⟨hk,⟨L,_,hf,hn,e,hd⟩,ih (λb hb=>hs b (by unfold frs;rw[Mm,hf];exact AT _ hb)) hr⟩
 exact all X.outer (λ_ hb=>hb) I.ok.funs
def Inv.stack(I:Inv X ζ σ H s):s.heap.FunFrames X.base X.stack:=by
 rcases I.ok.stk with e | ⟨e,hf⟩
 ·rw[e];exact I.funs
 ·rw[e]
  obtain⟨m,hn,_⟩:=I.loc;refine .cons (by rw[I.ok.kind];decide) hf hn ?_ I.funs;exact WO (Ao I.ok.bsz I.ok.above)
def Inv.stkSub(I:Inv X ζ σ H s):∀b∈frs X.stack,b∈X.env.locals :: X.fs:=λb hb=>by
 rcases I.ok.stk with e | ⟨e,hf⟩
 ·rw[e]at hb;exact AT _ hb
 ·rw[e]at hb
  unfold frs at hb;rw[Mm,hf]at hb;exact hb
def Inv.stkFree(I:Inv X ζ σ H s):∀b∈frs X.stack,H b=none:=λb hb=>by
 rcases At.mp (I.stkSub b hb)with e | hb
 ·rw[e];exact I.free
 ·obtain⟨_,o,ho,_⟩:=I.ok.funs.mem hb
  exact I.base.free b o ho (I.ok.frf b hb) λz=>I.ok.exfs b z hb
def Inv.step{g':Array GenState}{t':Nat}{d':Drawn}{ch:List AV}(I:Inv X ζ σ H s)
  (q9:∀b∈ch,(b∈X.ex∨X.s₀.heap.objs.size<=b)/\b≠X.env.locals/\(∀x c,X.env.cells.lookup x=some c->c≠b)/\∀p∈X.pn++ζ,p.1≠b)
  (keep:∀b o,b≠X.env.locals->b∉X.fs->b∉ch->s.heap.get? b=some o->H b=none->h'.get? b=some o)
  (slot:∀b o,b≠X.env.locals->b∈X.fs->b∉ch->s.heap.get? b=some o->H b=none->∃sl,h'.get? b=some { o with slots:=sl }) (free:∀b o,b∉ch->s.heap.get? b=some o->H b=none->H' b=none)
  (there:∀b o,b∉ch->s.heap.get? b=some o->∃o',h'.get? b=some o')
  (tups:∀b xs,H b=some (.tup xs)->H' b=some (.tup xs)) (frzs:∀b o u,H b=some (.frz o u)->H' b=some (.frz o u)) (tbls:∀b ps,H b=some (.tbl ps)->∃more,H' b=some (.tbl (ps++more)))
  (ns:∀m,s.heap.Ns X.env.locals m->h'.Ns X.env.locals m) (hok:HOk X.prog X.w H' h') (hg:Ii g') :
  Inv X ζ σ H' { s with heap:=h',gens:=g',drawn:=d',toks:=t' }:=by
 have qE:∀b o,X.s₀.heap.get? b=some o->b≠X.env.locals:=λb o e=>A0 (AU (Ai e) I.ok.above)
 have qF:∀b o,X.s₀.heap.get? b=some o->b∉X.ex->b∉ch:=λb o e hx hb=>by
  rcases(q9 b hb).1 with z | z
  ·exact hx z
  ·exact zX (AU (Ai e) z) (Df _)
 have cellK:∀x c,X.env.cells.lookup x=some c->∀v,s.heap.IsCell c v->h'.IsCell c v:=λx c e v ⟨o,ho,hd⟩=>by
  have qG:c∉ch:=λz=>(q9 c z).2.2.1 x c e rfl
  by_cases hc:c∈X.fs
  ·obtain⟨sl,q⟩:=slot c o (I.cne x c e) hc qG ho (I.freeC x c e)
   exact⟨_,q,hd⟩
  ·exact⟨o,keep c o (I.cne x c e) hc qG ho (I.freeC x c e),hd⟩
 refine⟨I.ok,I.os,hg,⟨λb o e n hb hx=>?_,λb o e n hb hx=>?_,λb o e n hx=>?_,λb o e hx=>?_,λb xs e=>tups b xs (I.base.tups b xs e),λb o xs e=>frzs b o xs (I.base.frzs b o xs e),λb ps e=>?_⟩,?_,λx c e=>?_,?_,λx c e=>?_,λp hp=>?_,hok,I.len⟩
 ·exact keep b o (qE b o e) hb (qF b o e hx) (I.base.keep b o e n hb hx) (I.base.free b o e n hx)
 ·obtain⟨sl,e1⟩:=I.base.slot b o e n hb hx
  obtain⟨wb,e2⟩:=slot b _ (qE b o e) hb (qF b o e hx) e1 (I.base.free b o e n hx);exact⟨wb,e2⟩
 ·obtain⟨o',e1⟩:=I.base.there b o e hx
  exact free b o' (qF b o e hx) e1 (I.base.free b o e n hx)
 ·obtain⟨o',e1⟩:=I.base.there b o e hx
  exact there b o' (qF b o e hx) e1
 ·obtain⟨m1,e1⟩:=I.base.tbls b ps e
  obtain⟨m2,e2⟩:=tbls b _ e1;exact⟨m1++m2,by rw[e2,Xj]⟩
 ·obtain⟨m,hn,hl⟩:=I.loc
  refine⟨m,ns m hn,λi x v e1 e2 e3=>?_⟩;obtain⟨u,r,l⟩:=hl i x v e1 e2 e3;refine⟨u,r,?_⟩
  rcases l with l | ⟨k,c,e,z⟩
  ·exact .inl l
  ·exact .inr ⟨k,c,e,cellK x c e _ z⟩
 ·obtain⟨v,z⟩:=I.cell x c e
  exact⟨v,cellK x c e v z⟩
 ·obtain⟨m,⟨o,_,_,ho,_⟩,_⟩:=I.loc
  exact free _ o (λz=>(q9 _ z).2.1 rfl) ho I.free
 ·obtain⟨v,o,ho,hd⟩:=I.cell x c e
  exact free c o (λz=>(q9 c z).2.2.1 x c e rfl) ho (I.freeC x c e)
 ·obtain⟨e,n,ne,nf,d⟩:=I.pin p hp
  have qG:p.1∉ch:=λz=>(q9 p.1 z).2.2.2 p hp rfl
  exact⟨keep p.1 p.2 ne nf qG e n,free p.1 p.2 qG e n,ne,nf,d⟩
def Inv.stepN{g':Array GenState}{t':Nat}{d':Drawn}{ch:List AV}(I:Inv X ζ σ H s)
  (q9:∀b∈ch,(b∈X.ex∨X.s₀.heap.get? b=none)/\b≠X.env.locals/\(∀x c,X.env.cells.lookup x=some c->c≠b)/\∀p∈X.pn++ζ,p.1≠b)
  (keep:∀b o,b≠X.env.locals->b∉X.fs->b∉ch->s.heap.get? b=some o->H b=none->h'.get? b=some o)
  (slot:∀b o,b≠X.env.locals->b∈X.fs->b∉ch->s.heap.get? b=some o->H b=none->∃sl,h'.get? b=some { o with slots:=sl }) (free:∀b o,b∉ch->s.heap.get? b=some o->H b=none->H' b=none)
  (there:∀b o,b∉ch->s.heap.get? b=some o->∃o',h'.get? b=some o')
  (tups:∀b xs,H b=some (.tup xs)->H' b=some (.tup xs)) (frzs:∀b o u,H b=some (.frz o u)->H' b=some (.frz o u)) (tbls:∀b ps,H b=some (.tbl ps)->∃more,H' b=some (.tbl (ps++more)))
  (ns:∀m,s.heap.Ns X.env.locals m->h'.Ns X.env.locals m) (hok:HOk X.prog X.w H' h') (hg:Ii g') :
  Inv X ζ σ H' { s with heap:=h',gens:=g',drawn:=d',toks:=t' }:=by
 have qE:∀b o,X.s₀.heap.get? b=some o->b≠X.env.locals:=λb o e=>A0 (AU (Ai e) I.ok.above)
 have qF:∀b o,X.s₀.heap.get? b=some o->b∉X.ex->b∉ch:=λb o e hx hb=>by
  rcases(q9 b hb).1 with z | z
  ·exact hx z
  ·rw[z]at e;cases e
 have cellK:∀x c,X.env.cells.lookup x=some c->∀v,s.heap.IsCell c v->h'.IsCell c v:=λx c e v ⟨o,ho,hd⟩=>by
  have qG:c∉ch:=λz=>(q9 c z).2.2.1 x c e rfl
  by_cases hc:c∈X.fs
  ·obtain⟨sl,q⟩:=slot c o (I.cne x c e) hc qG ho (I.freeC x c e)
   exact⟨_,q,hd⟩
  ·exact⟨o,keep c o (I.cne x c e) hc qG ho (I.freeC x c e),hd⟩
 refine⟨I.ok,I.os,hg,⟨λb o e n hb hx=>?_,λb o e n hb hx=>?_,λb o e n hx=>?_,λb o e hx=>?_,λb xs e=>tups b xs (I.base.tups b xs e),λb o xs e=>frzs b o xs (I.base.frzs b o xs e),λb ps e=>?_⟩,?_,λx c e=>?_,?_,λx c e=>?_,λp hp=>?_,hok,I.len⟩
 ·exact keep b o (qE b o e) hb (qF b o e hx) (I.base.keep b o e n hb hx) (I.base.free b o e n hx)
 ·obtain⟨sl,e1⟩:=I.base.slot b o e n hb hx
  obtain⟨wb,e2⟩:=slot b _ (qE b o e) hb (qF b o e hx) e1 (I.base.free b o e n hx);exact⟨wb,e2⟩
 ·obtain⟨o',e1⟩:=I.base.there b o e hx
  exact free b o' (qF b o e hx) e1 (I.base.free b o e n hx)
 ·obtain⟨o',e1⟩:=I.base.there b o e hx
  exact there b o' (qF b o e hx) e1
 ·obtain⟨m1,e1⟩:=I.base.tbls b ps e
  obtain⟨m2,e2⟩:=tbls b _ e1;exact⟨m1++m2,by rw[e2,Xj]⟩
 ·obtain⟨m,hn,hl⟩:=I.loc
  refine⟨m,ns m hn,λi x v e1 e2 e3=>?_⟩;obtain⟨u,r,l⟩:=hl i x v e1 e2 e3;refine⟨u,r,?_⟩
  rcases l with l | ⟨k,c,e,z⟩
  ·exact .inl l
  ·exact .inr ⟨k,c,e,cellK x c e _ z⟩
 ·obtain⟨v,z⟩:=I.cell x c e
  exact⟨v,cellK x c e v z⟩
 ·obtain⟨m,⟨o,_,_,ho,_⟩,_⟩:=I.loc
  exact free _ o (λz=>(q9 _ z).2.1 rfl) ho I.free
 ·obtain⟨v,o,ho,hd⟩:=I.cell x c e
  exact free c o (λz=>(q9 c z).2.2.1 x c e rfl) ho (I.freeC x c e)
 ·obtain⟨e,n,ne,nf,d⟩:=I.pin p hp
  have qG:p.1∉ch:=λz=>(q9 p.1 z).2.2.2 p hp rfl
  exact⟨keep p.1 p.2 ne nf qG e n,free p.1 p.2 qG e n,ne,nf,d⟩
def Inv.un{t':Nat}(I:Inv X ζ σ H s)(u:Un X.fs [] H H' s.heap h')(hok:HOk X.prog X.w H' h'):Inv X ζ σ H' { s with heap:=h',toks:=t' }:=by
 obtain⟨m,⟨o,es,ep,ho,r⟩,_⟩:=id I.loc;obtain⟨sl,hL⟩:=u.any ho I.free (by simp)
 exact I.step (g':=s.gens) (d':=s.drawn) (ch:=[]) (λ_ z=>nomatch z) (λb o _ hb _ e n=>u.keep b o e n hb (by simp)) (λb o _ hb _ e n=>u.slot b o e n hb (by simp)) (λb o _ e n=>u.free b o e n (by simp)) (λb o _ e=>u.there b o e (by simp)) u.tups u.frzs u.tbls (λm' hm=>by
  obtain⟨o',wc,wd,p9,r'⟩:=hm;rw[ho]at p9;cases p9
  exact⟨_,wc,wd,hL,r'⟩) hok I.bare
def Inv.call{g':Array GenState}{t':Nat}{d':Drawn}{ch:List AV}(I:Inv X ζ σ H s)(u:Un (frs X.stack) ch H H' s.heap h')(hok:HOk X.prog X.w H' h')(hg:Ii g')
  (q9:∀b∈ch,(b∈X.ex∨X.s₀.heap.objs.size<=b)/\b≠X.env.locals/\(∀x c,X.env.cells.lookup x=some c->c≠b)/\∀p∈X.pn++ζ,p.1≠b) :
  Inv X ζ σ H' { s with heap:=h',gens:=g',drawn:=d',toks:=t' }:=by
 obtain⟨m,⟨o,es,ep,ho,r⟩,_⟩:=id I.loc
 obtain⟨sl,hL⟩:=u.any ho I.free λz=>(q9 _ z).2.1 rfl
 exact I.step (ch:=ch) q9 (λb o hL hb hc e n=>u.keep b o e n (λz=>(At.mp (I.stkSub b z)).elim hL hb) hc) (λb o _ _ hc e n=>u.any e n hc) (λb o hc e n=>u.free b o e n hc) (λb o hc e=>u.there b o e hc) u.tups u.frzs u.tbls (λm' hm=>by
  obtain⟨o',wc,wd,p9,r'⟩:=hm;rw[ho]at p9;cases p9
  exact⟨_,wc,wd,hL,r'⟩) hok hg
def Inv.turned{t':Nat}{it:AV}(I:Inv X ζ σ H s)(k:∀b o,b≠it->s.heap.get? b=some o->h'.get? b=some o)(hn:H it=none)(hL:it≠X.env.locals)
  (h1:it∈X.ex∨X.s₀.heap.objs.size<=it) (h2:∀x c,X.env.cells.lookup x=some c->c≠it) (h3:∀p∈X.pn++ζ,p.1≠it):Inv X ζ σ H { s with heap:=h',toks:=t' }:=by
 have tL:∀b u,H b=some u->b≠it:=λb u e z=>by rw[z,hn]at e;cases e
 refine I.step (g':=s.gens) (d':=s.drawn) (ch:=[it]) (λb hb=>?_) (λb o _ _ hc e _=>k b o (λz=>hc (by simp[z])) e) (λb o _ _ hc e _=>⟨o.slots,k b o (λz=>hc (by simp[z])) e⟩) (λ_ _ _ _ n=>n)
  (λb o hc e=>⟨o,k b o (λz=>hc (by simp[z])) e⟩) (λ_ _ e=>e) (λ_ _ _ e=>e) (λb ps e=>⟨#[],by rw[e];simp⟩) (λm hm=>?_) (λb u e=>?_) I.bare
 ·have e:b=it:=by simpa using hb
  subst e;exact⟨h1,hL,h2,h3⟩
 ·obtain⟨o,es,ep,ho,r⟩:=hm
  exact⟨o,es,ep,k _ o (Br hL) ho,r⟩
 ·refine(I.hok b u e).stay (λc v hc q=>k c v ?_ q) (λ_ q=>q) λ_ _ q=>q
  rcases hc with z | z
  ·rw[z];exact tL b u e
  ·exact tL c _ z
def Inv.tok(I:Inv X ζ σ H s)(t:Nat):Inv X ζ σ H { s with toks:=t }:=I.un (h':=s.heap) (t':=t) Un.refl I.hok
def Inv.kept(I:Inv X ζ σ H s)(k:∀b u,s.heap.get? b=some u->h'.get? b=some u):Inv X ζ σ H { s with heap:=h',toks:=t' }:=I.un (Un.kept k) (I.hok.kept k)
def Inv.laid(I:Inv X ζ σ H s)(k:∀b u,s.heap.get? b=some u->h'.get? b=some u)(hp:s.heap.objs.size<=a)(new:CH X.prog X.w (upd H a o) h' a o) :
  Inv X ζ σ (upd H a o) { s with heap:=h',toks:=t' }:=I.un (Un.laid k hp (I.hok.fresh hp)) (I.hok.laid k hp new)
def Inv.write(I:Inv X ζ σ H s)(mu:Mut (H x))(he:e=x∨H e=some (.own x))(k:∀b u,b≠e->s.heap.get? b=some u->h'.get? b=some u)(tw:∃u,h'.get? e=some u)
  (new:CH X.prog X.w (upd H x o) h' x o):Inv X ζ σ (upd H x o) { s with heap:=h',toks:=t' }:=I.un (Un.write mu he k tw) (I.hok.write mu he k tw new)
def Inv.pins_of(I:Inv X ζ σ H s)(h:∀p∈pins',s.heap.get? p.1=some p.2/\H p.1=none/\p.1≠X.env.locals/\p.1∉X.fs/\∀v,p.2.data≠.cell v):Inv X pins' σ H s:=
 ⟨I.ok,I.os,I.bare,I.base,I.loc,I.cell,I.free,I.freeC,λp hp=>(Af.mp hp).elim (λz=>I.pin p (Ay _ z)) (h p),I.hok,I.len⟩
def P0{N:List Str}(hN:N.Nodup){i j:Nat}{x:Str}(a:N[i]?=some x)(b:N[j]?=some x):i=j:=by
 obtain⟨h1,e1⟩:=AC.mp a;obtain⟨h2,e2⟩:=AC.mp b;exact(List.getElem_inj hN).mp (e1.trans e2.symm)
def RF{M:Model}{A:CB}{E:AH->AQ->Prop}{i:Nat}{x:Str}{v:V}{u:AH}{Q:Unit->AQ->Prop}(I:Inv X ζ σ H s)(hN:X.N.Nodup)(hi:X.N[i]?=some x)(hx:Loc X.env.scope x)(r:RelV v u)
  (h:∀s',Inv X ζ (σ.set i (some v)) H s'->(∃a,Ec a s.heap s'.heap/\(a=X.env.locals∨X.env.cells.lookup x=some a))->Q () s') (hf:X.fn x=true∨X.env.scope.names.lookup x=some .local:=by first | exact .inl rfl | exact .inr rfl | assumption):Aw M A (storeName X.env x u) Q E s:=by
 obtain⟨m,hn,hl⟩:=id I.loc
 have we:(X.env.scope.kind==.class||(X.env.scope.kind==.module&&X.env.locals != X.env.globals))=false:=by rw[I.ok.kind];rfl
 have δ:i < σ.length:=by rw[I.len];exact(AC.mp hi).1
 have cne:=I.cne
 have tracked:∀{a:AV} {h':Cj},(∃o,s.heap.get? a=some o/\H a=none)->Ec a s.heap h'->HOk X.prog X.w H h':=λ{a h'} ha hs b ob e=>by
  obtain⟨_,_,qm⟩:=ha
  refine(I.hok b ob e).stay (λc w' hc q=>(hs.2 c ?_).trans q) (λ_ q=>q) λ_ _ q=>q
  rintro rfl
  rcases hc with rfl | hc
  ·rw[qm]at e;cases e
  ·rw[qm]at hc;cases hc
 rcases hx with hk | hk
 ·refine wpAny_storeName_local hk hn (λh' qd hs=>?_) we
  obtain⟨oL,_,_,ε,_⟩:=id hn;refine h _ ⟨I.ok,I.os,I.bare,⟨λb o e n hb hx=>?_,λb o e n hb hx=>?_,I.base.free,λb o e hx=>?_,I.base.tups,I.base.frzs,I.base.tbls⟩,⟨_,qd,λj y v' e1 e2 e3=>?_⟩,λy c e=>?_,I.free,I.freeC,λp hp=>?_,tracked ⟨oL,ε,I.free⟩ hs,by simpa using I.len⟩ ⟨_,hs,.inl rfl⟩
  ·exact(hs.2 b (A0 (AU (Ai e) I.ok.above))).trans (I.base.keep b o e n hb hx)
  ·obtain⟨sl,e1⟩:=I.base.slot b o e n hb hx
   exact⟨sl,(hs.2 b (A0 (AU (Ai e) I.ok.above))).trans e1⟩
  ·obtain⟨o',e1⟩:=I.base.there b o e hx
   exact⟨o',(hs.2 b (A0 (AU (Ai e) I.ok.above))).trans e1⟩
  ·by_cases hj:j=i
   ·subst hj
    rw[hi]at e1;cases e1;rw[Am δ]at e2;cases e2;exact⟨u,r,.inl ⟨hk,by simp⟩⟩
   ·rw[AY (Br hj)]at e2
    obtain⟨u',r',q⟩:=hl j y v' e1 e2 e3;refine⟨u',r',?_⟩
    rcases q with⟨k,e⟩ | ⟨k,c,e,z⟩
    ·refine .inl ⟨k,?_⟩
     have:y≠x:=λe=>hj (P0 hN e1 (e▸hi))
     simp[this,e]
    ·exact .inr ⟨k,c,e,z.sameBut hs (cne y c e)⟩
  ·obtain⟨w',z⟩:=I.cell y c e
   exact⟨w',z.sameBut hs (cne y c e)⟩
  ·obtain⟨e,n,ne,nf,d⟩:=I.pin p hp
   exact⟨(hs.2 p.1 ne).trans e,n,ne,nf,d⟩
 ·have wg:X.fn x=true:=by
   rcases hf with z | z
   ·exact z
   ·rw[z]at hk;cases hk
  obtain⟨c,hc⟩:=I.ok.has x (.inl hk);obtain⟨w',z⟩:=I.cell x c hc;refine wpAny_storeName_cell I.ok.kind hk hc z (λh' rR hs=>?_);obtain⟨oc,η,wj⟩:=id z;refine h { s with heap:=h' } ⟨I.ok,I.os,I.bare,⟨λb o e n hb hx=>?_,λb o e n hb hx=>?_,I.base.free,λb o e hx=>?_,I.base.tups,I.base.frzs,I.base.tbls⟩,⟨m,hn.sameBut hs (Br (cne x c hc)),λj y v' e1 e2 e3=>?_⟩,λy c' e=>?_,I.free,I.freeC,λp hp=>?_,tracked ⟨oc,η,I.freeC x c hc⟩ hs,by simpa using I.len⟩ ⟨c,hs,.inr hc⟩
  ·exact(hs.2 b (A0 (AU (Ai e) (I.ok.cab x c wg hc)))).trans (I.base.keep b o e n hb hx)
  ·obtain⟨sl,e1⟩:=I.base.slot b o e n hb hx
   exact⟨sl,(hs.2 b (A0 (AU (Ai e) (I.ok.cab x c wg hc)))).trans e1⟩
  ·obtain⟨o',e1⟩:=I.base.there b o e hx
   exact⟨o',(hs.2 b (A0 (AU (Ai e) (I.ok.cab x c wg hc)))).trans e1⟩
  ·by_cases hj:j=i
   ·subst hj
    rw[hi]at e1;cases e1;rw[Am δ]at e2;cases e2;exact⟨u,r,.inr ⟨.inl hk,c,hc,rR⟩⟩
   ·rw[AY (Br hj)]at e2
    obtain⟨u',r',q⟩:=hl j y v' e1 e2 e3;refine⟨u',r',?_⟩
    rcases q with q | ⟨k,c',e,z'⟩
    ·exact .inl q
    ·refine .inr ⟨k,c',e,z'.sameBut hs ?_⟩
     rintro rfl;exact hj (P0 hN e1 (I.ok.inj _ _ _ e hc▸hi))
  ·by_cases hcc:c'=c
   ·subst hcc;exact⟨_,rR⟩
   ·obtain⟨w2,z2⟩:=I.cell y c' e
    exact⟨w2,z2.sameBut hs hcc⟩
  ·obtain⟨e,n,ne,nf,d⟩:=I.pin p hp
   refine⟨(hs.2 p.1 ?_).trans e,n,ne,nf,d⟩;intro q;rw[q,η]at e;have q':oc=p.2:=CC e;exact d w' (by rw[<-q'];exact wj)
def Pc(I:Inv X ζ σ H s)(hN:X.N.Nodup)(hi:X.N[i]?=some x)(hx:Loc X.env.scope x)(r:RelV v u)
  (h:∀s',Inv X ζ (σ.set i (some v)) H s'->Q () s') (hf:X.fn x=true∨X.env.scope.names.lookup x=some .local:=by first | exact .inl rfl | exact .inr rfl | assumption):Aw M A (storeName X.env x u) Q E s:=
 RF I hN hi hx r (λs' I' _=>h s' I') hf
def Inv.call'(I:Inv X ζ σ H s)(ho:s'.os=s.os)(u:Un (frs X.stack) ch H H' s.heap s'.heap)(hok:HOk X.prog X.w H' s'.heap)(hg:Ii s'.gens)
  (q9:∀b∈ch,(b∈X.ex∨X.s₀.heap.objs.size<=b)/\b≠X.env.locals/\(∀x c,X.env.cells.lookup x=some c->c≠b)/\∀p∈X.pn++ζ,p.1≠b):Inv X ζ σ H' s':=by
 obtain⟨h',g',d',t',o'⟩:=s';have e:o'=s.os:=ho;subst e;exact I.call (g':=g') (t':=t') (d':=d') u hok hg q9
end
abbrev XK:=AH->Option AV->Hp->Prop
abbrev St:=List (Option V)
abbrev VK:=V->Hp->Prop
abbrev TE:=St->Hp->VK->Prop
abbrev TT:=St->Hp->(Bool->Hp->Prop)->Prop
abbrev TA:=St->Hp->(List V->Hp->Prop)->Prop
structure WC where
 nx:St->Hp->Prop
 rt:VK
 bk:St->Hp->Prop:=λ_ _=>False
 ct:St->Hp->Prop:=λ_ _=>False
abbrev TS:=WC->St->Hp->Prop
def EP(X:Cx)(ζ:List (AV×Obj))(σ:St)(Q:VK)(u:AH)(s':AQ):Prop:=∃v H',Inv X ζ σ H' s'/\RelV v u/\Q v H'
def TP(X:Cx)(ζ:List (AV×Obj))(σ:St)(Q:Bool->Hp->Prop)(b:Bool)(s':AQ):Prop:=∃H',Inv X ζ σ H' s'/\Q b H'
def AP(X:Cx)(ζ:List (AV×Obj))(σ:St)(Q:List V->Hp->Prop)(us:List AH)(s':AQ):Prop:=∃vs H',Inv X ζ σ H' s'/\Bg vs us/\Q vs H'
def SP(X:Cx)(ζ:List (AV×Obj))(D:WC)(f:Flow)(s':AQ):Prop:=
 match f with
 | .next=>∃σ' H',Inv X ζ σ' H' s'/\D.nx σ' H'
 | .brk=>∃σ' H',Inv X ζ σ' H' s'/\D.bk σ' H'
 | .cont=>∃σ' H',Inv X ζ σ' H' s'/\D.ct σ' H'
 | .ret u=>∃v σ' H',Inv X ζ σ' H' s'/\RelV v u/\D.rt v H'
def PE(X:Cx)(e:Expr)(t:TE):Prop:=
 ∀(ζ:List (AV×Obj)) (s:AQ) (σ:St) (H:Hp) (Q:VK),Inv X ζ σ H s->t σ H Q->Aw (Ac X.prog X.w) X.A (B4 e X.env) (EP X ζ σ Q) X.xe s
def PT(X:Cx)(e:Expr)(t:TT):Prop:=
 ∀(ζ:List (AV×Obj)) (s:AQ) (σ:St) (H:Hp) (Q:Bool->Hp->Prop),Inv X ζ σ H s->t σ H Q->Aw (Ac X.prog X.w) X.A (Uu e X.env (B4 e X.env)) (TP X ζ σ Q) X.xe s
def PW(X:Cx)(e:Expr)(t:TT):Prop:=
 ∀(whole:Sem AH) (ζ:List (AV×Obj)) (s:AQ) (σ:St) (H:Hp) (Q:Bool->Hp->Prop),Inv X ζ σ H s->t σ H Q->Aw (Ac X.prog X.w) X.A (Uu e X.env whole) (TP X ζ σ Q) X.xe s
def PW.pt(h:PW X e t):PT X e t:=h _
def PA(X:Cx)(es:List Expr)(t:TA):Prop:=
 ∀(pos:Pos) (ζ:List (AV×Obj)) (s:AQ) (σ:St) (H:Hp) (Q:List V->Hp->Prop),Inv X ζ σ H s->t σ H Q->Aw (Ac X.prog X.w) X.A (spliced (Dw pos (Aa es X.env))) (AP X ζ σ Q) X.xe s
def PS(X:Cx)(st:ER)(t:TS):Prop:=
 ∀(ζ:List (AV×Obj)) (s:AQ) (σ:St) (H:Hp) (D:WC),Inv X ζ σ H s->t D σ H->Aw (Ac X.prog X.w) X.A (exec st X.env) (SP X ζ D) X.xe s
def PSs(X:Cx)(st:List ER)(t:TS):Prop:=
 ∀(ζ:List (AV×Obj)) (s:AQ) (σ:St) (H:Hp) (D:WC),Inv X ζ σ H s->t D σ H->Aw (Ac X.prog X.w) X.A (execs st X.env) (SP X ζ D) X.xe s
def thn{α:Type}{t:Sem α}{Q Q':α->AQ->Prop}{M:Model}{A:CB}{E:AH->AQ->Prop}{s:AQ}(h:Aw M A t Q E s)(hQ:∀a s,Q a s->Q' a s):Aw M A t Q' E s:=E7 h hQ λ_ _ x=>x
section
variable{X:Cx}
def ik(i:Nat):TE:=λσ H Q=>∃v,σ[i]?=some (some v)/\Q v H
def tC(v:V):TE:=λ_ H Q=>Q v H
def jG(hN:X.N[i]?=some x)(hv:Vis X.env.scope x)(hd:(x==("__debug__" : Str))=false:=by decide) (qe:(x==("__classdict__" : Str))=false:=by decide):PE X (.Name x pos) (ik i):=by
 intro ζ s σ H Q I h;obtain⟨v,e,h⟩:=h;obtain⟨m,hn,hl⟩:=I.loc;obtain⟨u,r,l⟩:=hl i x v hN e hv;have fin:EP X ζ σ Q u s:=⟨v,H,I,r,h⟩
 rcases l with⟨hk,hm⟩ | ⟨hk,c,hc,pF⟩
 ·exact g9 (wpAny_loadName_local I.ok.kind hk hn hm fin) hd
 ·rcases hk with hk | hk
  ·exact g9 (wpAny_loadName_cell I.ok.kind hk hc pF fin) hd
  ·exact g9 (wpAny_loadName_free I.ok.kind hk hc pF fin qe) hd
def jK{i j pos}:PE X (.Constant (.int i) j pos) (tC (.int i)):=λ_ _ _ H _ I h=>wpAny_Constant_int ⟨.int i,H,I.tok _,⟨_,rfl⟩,h⟩
def mK{b j pos}:PE X (.Constant (.bool b) j pos) (tC (.bl b)):=λ_ _ _ H _ I h=>Constant_bool ⟨.bl b,H,I,rfl,h⟩
def jI{j pos}:PE X (.Constant .none j pos) (tC .non):=λ_ _ _ H _ I h=>Constant_none ⟨.non,H,I,rfl,h⟩
def jH{x j pos}:PE X (.Constant (.str x) j pos) (tC (.str x)):=λ_ _ _ H _ I h=>Calls.Constant_str ⟨.str x,H,I.tok _,⟨_,rfl⟩,h⟩
def Gl(X:Cx)(x:Str):Prop:=X.env.kindOf x=some .globalImplicit
def NG(I:Inv X ζ σ H s)(hg:Gl X x)(hm:X.mg x=some u)(h:Q u s)
  (hd:(x==("__debug__" : Str))=false:=by decide):Aw (Ac X.prog X.w) X.A (B4 (.Name x pos) X.env) Q E s:=
 Qi I.ok.kind hg (Calls.loadGlobal_global (by rw[I.ok.glob];exact I.mod.glob.keeps I.bk) hm h) hd
def MW(I:Inv X ζ σ H s)(hg:Gl X x)(hm:X.mg x=none)(hv:E8 x=some u)(h:Q u s)
  (hn:x≠"__name__":=by decide) (hd:(x==("__debug__" : Str))=false:=by decide):Aw (Ac X.prog X.w) X.A (B4 (.Name x pos) X.env) Q E s:=by
 obtain⟨mb,h1,h2⟩:=I.mod.blt;exact Qi I.ok.kind hg (Calls.loadGlobal_builtin (by rw[I.ok.glob];exact I.mod.glob.keeps I.bk) hm (by rw[I.ok.blt];exact h1.keeps I.bk) ((h2 x hn).trans hv) h) hd
def Im(hg:Gl X x)(hm:X.mg x=some u)(r:RelV v u)(hd:(x==("__debug__" : Str))=false:=by decide):PE X (.Name x pos) (tC v):=
 λ_ _ _ H _ I h=>NG I hg hm ⟨v,H,I,r,h⟩ hd
def eO(hg:Gl X x)(hm:X.mg x=none)(hv:E8 x=some u)(r:RelV v u)(hn:x≠"__name__":=by decide) (hd:(x==("__debug__" : Str))=false:=by decide):PE X (.Name x pos) (tC v):=
 λ_ _ _ H _ I h=>MW I hg hm hv ⟨v,H,I,r,h⟩ hn hd
variable{a b:Expr}{pos:Pos}
def PC(X:Cx)(op:CmpOp)(a b:Expr)(t:TE):Prop:=
 ∀(ζ:List (AV×Obj)) (s:AQ) (σ:St) (H:Hp) (Q:VK),Inv X ζ σ H s->t σ H Q ->
  Aw (Ac X.prog X.w) X.A (B4 a X.env) (λv s₁=>Aw (Ac X.prog X.w) X.A (B4 b X.env) (λu s₂=>Aw (Ac X.prog X.w) X.A (Bs op v u) (EP X ζ σ Q) X.xe s₂) X.xe s₁) X.xe s
def tB(t:TE):TT:=λσ H Q=>t σ H λx H1=>∃c,x=.bl c/\Q c H1
def jM(h:PC X op a b t)(h1:CM op b=false:=by first | exact nobehind _ (by decide) (by decide) | rfl):PE X (.Compare a [op] [b] pos) t:=λζ s σ H Q I hw=>wpAny_Compare1 (h ζ s σ H Q I hw) h1
def Z4(h:PC X op a b t)(h1:CM op b=false:=by first | exact nobehind _ (by decide) (by decide) | rfl):PT X (.Compare a [op] [b] pos) (tB t):=by
 intro ζ s σ H Q I hw;refine cA (thn (h ζ s σ H _ I hw) λv s1 h1=>thn h1 λu s2 h2=>thn h2 λc s3 ⟨x,H1,I1,r1,q1⟩=>?_) h1;obtain⟨d,rfl,q⟩:=q1;cases r1;exact Db ⟨H1,I1,q⟩
def i6(h:PE X e t)(he:∀whole,Uu e X.env whole=(do let v <-whole;kn e.pos;ku [v] (hX v)):=by intro _;rfl):PT X e (tB t):=by
 intro ζ s σ H Q I hw;refine isTrue_plain (thn (h ζ s σ H _ I hw) λv s1 ⟨x,H1,I1,r1,q1⟩=>?_) (he _);obtain⟨d,rfl,q⟩:=q1;cases r1;exact Db ⟨H1,I1,q⟩
variable{tA vg:TT}{rest:List Expr}
def ln(t u:TT):TT:=λσ H Q=>t σ H λc H1=>if c=true then u σ H1 Q else Q false H1
def tOr(t u:TT):TT:=λσ H Q=>t σ H λc H1=>if c=true then Q true H1 else u σ H1 Q
def tNot(t:TT):TT:=λσ H Q=>t σ H λc H1=>Q (!c) H1
def di(ha:PT X a tA):PW X (.BoolOp .And [a] pos) tA:=by
 intro wh ζ s σ H Q I h;refine isTrue_and (thn (ha ζ s σ H Q I h) λc s1 e=>?_)
 cases c with
 | true=>exact isTrue_and_nil e
 | false=>exact e
def i4(ha:PT X a tA):PW X (.BoolOp .Or [a] pos) tA:=by
 intro wh ζ s σ H Q I h;refine isTrue_or (thn (ha ζ s σ H Q I h) λc s1 e=>?_)
 cases c with
 | false=>exact isTrue_or_nil e
 | true=>exact e
def i5(ha:PT X a tA)(hb:PW X (.BoolOp .And (b :: rest) pos) vg):PW X (.BoolOp .And (a :: b :: rest) pos) (ln tA vg):=by
 intro wh ζ s σ H Q I h;refine isTrue_and (thn (ha ζ s σ H _ I h) λc s1 ⟨H1,I1,q1⟩=>?_)
 cases c with
 | true=>exact hb wh ζ s1 σ H1 Q I1 q1
 | false=>exact⟨H1,I1,q1⟩
def mG(ha:PT X a tA)(hb:PW X (.BoolOp .Or (b :: rest) pos) vg):PW X (.BoolOp .Or (a :: b :: rest) pos) (tOr tA vg):=by
 intro wh ζ s σ H Q I h;refine isTrue_or (thn (ha ζ s σ H _ I h) λc s1 ⟨H1,I1,q1⟩=>?_)
 cases c with
 | true=>exact⟨H1,I1,q1⟩
 | false=>exact hb wh ζ s1 σ H1 Q I1 q1
def i7(ha:PT X a tA):PT X (.UnaryOp .Not a pos) (tNot tA):=by
 intro ζ s σ H Q I h;exact isTrue_not (ha ζ s σ H (λc H1=>Q (!c) H1) I h)
end
def SqL(K:AG)(H:Hp)(a:AV)(xs:List V):Prop:=
 Rd H a (.lst xs) ∨
  ∃(o:Obj) (i':Array AH) (n:Nat),K.lookup a=some o/\o.cls=.type "list"/\o.dict=none/\o.data=.seq i' n/\i'.size<=sizeLine/\Bg xs i'.toList
def SqT(K:AG)(H:Hp)(a:AV)(xs:List V):Prop:=
 Rd H a (.tup xs) ∨
  ∃(o:Obj) (i':Array AH) (n:Nat),K.lookup a=some o/\o.cls=.type "tuple"/\o.data=.seq i' n/\i'.size<=sizeLine/\Bg xs i'.toList
def absV:AH->Option V
 | .none=>some .non
 | .bool b=>some (.bl b)
 | .int i _=>some (.int i)
 | .str x _=>some (.str x)
 | .bytes b _=>some (.byt b)
 | .float b _=>some (.flt b)
 | .ref a=>some (.ref a)
 | .type n=>some (.ty n)
 | _=>none
def RelV.abs(r:RelV x u):absV u=some x:=by
 cases x with
 | non=>cases r;rfl
 | bl _=>cases r;rfl
 | int _=>obtain⟨t,rfl⟩:=r;rfl
 | str _=>obtain⟨t,rfl⟩:=r;rfl
 | byt _=>obtain⟨t,rfl⟩:=r;rfl
 | flt _=>obtain⟨t,rfl⟩:=r;rfl
 | ref _=>cases r;rfl
 | ty _=>cases r;rfl
def RelV.inj(r:RelV x u)(q:RelV y u):x=y:=CC (r.abs.symm.trans q.abs)
def Bg.inj:∀{xs ys:List V} {us:List AH},Bg xs us->Bg ys us->xs=ys
 | _,_,_,.nil,.nil=>rfl
 | _,_,_,.cons r t,.cons r' t'=>by rw[r.inj r',Bg.inj t t']
section
variable{X:Cx}{ζ:List (AV×Obj)}{σ:St}{H:Hp}{s:AQ}{a:AV}{xs ys:List V}
def Inv.list(I:Inv X ζ σ H s)(h:SqL X.K H a xs):∃i':List AH,Bg xs i'/\PlainL s.heap a i'.toArray/\xs.length<=sizeLine:=by
 rcases h with h | ⟨o,i',n,hk,hc,hd,hs,hz,r⟩
 ·obtain⟨z,i',n,r,e⟩:=h.ok I.hok
  exact⟨i',r,⟨_,n,e,rfl,rfl,rfl⟩,z⟩
 ·refine⟨i'.toList,r,⟨o,n,I.kIn a o hk,hc,hd,by simpa using hs⟩,?_⟩
  have e:=r.length;simp only[Be]at e
  lia
def Inv.tuple(I:Inv X ζ σ H s)(h:SqT X.K H a xs):∃i':List AH,Bg xs i'/\IsTup s.heap a i'.toArray/\xs.length<=sizeLine:=by
 rcases h with h | ⟨o,i',n,hk,hc,hs,hz,r⟩
 ·obtain⟨z,i',r,p⟩:=h.ok I.hok
  exact⟨i',r,p,z.1⟩
 ·refine⟨i'.toList,r,⟨o,I.kIn a o hk,hc,n,by simpa using hs⟩,?_⟩
  have e:=r.length;simp only[Be]at e
  lia
def Inv.list_inj(I:Inv X ζ σ H s)(h:SqL X.K H a xs)(h':SqL X.K H a ys):xs=ys:=by
 obtain⟨i',r,⟨o,n,e,_,_,d⟩,_⟩:=I.list h;obtain⟨its',r',⟨o',n',e',_,_,d'⟩,_⟩:=I.list h';rw[e]at e';cases e';rw[d]at d'
 injection d' with d1 _
 have:i'=its':=by simpa using congrArg iK d1
 subst this;exact r.inj r'
def Inv.tuple_inj(I:Inv X ζ σ H s)(h:SqT X.K H a xs)(h':SqT X.K H a ys):xs=ys:=by
 obtain⟨i',r,⟨o,e,_,n,d⟩,_⟩:=I.tuple h;obtain⟨its',r',⟨o',e',_,n',d'⟩,_⟩:=I.tuple h';rw[e]at e';cases e';rw[d]at d'
 injection d' with d1 _
 have:i'=its':=by simpa using congrArg iK d1
 subst this;exact r.inj r'
end
section
variable{X:Cx}{st:ER}{rest:List ER}{t u:TS}{e:Expr}{te:TE}{pos:Pos}
def lZ:TS:=λD σ H=>D.nx σ H
def tSeq(t u:TS):TS:=λD σ H=>t { D with nx:=u D } σ H
def dn:PSs X [] lZ:=λ_ _ σ H _ I h=>Iv ⟨σ,H,I,h⟩
def Z6(h1:PS X st t)(h2:PSs X rest u):PSs X (st :: rest) (tSeq t u):=by
 intro ζ s σ H D I h;refine lJ (thn (h1 ζ s σ H { D with nx:=u D } I h) λf s1 q=>?_)
 cases f with
 | next=>
  obtain⟨σ',H',I',q⟩:=q;exact h2 ζ s1 σ' H' D I' q
 | ret v=>exact q
 | brk=>exact q
 | cont=>exact q
def dm(h1:PS X st t):PSs X [st] t:=by
 intro ζ s σ H D I h;refine lJ (thn (h1 ζ s σ H D I h) λf s1 q=>?_)
 cases f with
 | next=>exact Iv q
 | ret v=>exact q
 | brk=>exact q
 | cont=>exact q
def Inv.quiet(I:Inv X ζ σ H s):interactive X.env=false:=by simp[interactive,I.ok.kind]
def lc(te:TE):TS:=λD σ H=>te σ H λ_ H1=>D.nx σ H1
def dq(he:PE X e te)(hs:GX e none pos.line X.env=pure false:=by rfl):PS X (.Expr e pos) (lc te):=by
 intro ζ s σ H D I h;exact wpAny_Expr_any (thn (he ζ s σ H _ I h) λv s1 ⟨x,H1,I1,r1,q1⟩=>⟨σ,H1,I1,q1⟩) I.quiet hs
def tRet(te:TE):TS:=λD σ H=>te σ H D.rt
def i9(he:PE X e te):PS X (.Return (some e) pos) (tRet te):=by
 intro ζ s σ H D I h;exact wpAny_Return_some (thn (he ζ s σ H _ I h) λv s1 ⟨x,H1,I1,r1,q1⟩=>⟨x,σ,H1,I1,r1,q1⟩)
def tIfS(c:TT)(t u:TS):TS:=λD σ H=>c σ H λb H1=>if b=true then t D σ H1 else u D σ H1
def mH(hc:PT X c tc)(ha:PSs X a t)(hb:PSs X b u):PS X (.If c a b pos) (tIfS tc t u):=by
 intro ζ s σ H D I h;refine wpAny_If (thn (hc ζ s σ H _ I h) λd s1 ⟨H1,I1,q1⟩=>?_)
 cases d with
 | true=>exact ha ζ s1 σ H1 D I1 q1
 | false=>exact hb ζ s1 σ H1 D I1 q1
end
abbrev TG:=V->St->Hp->(St->Hp->Prop)->Prop
abbrev TGs:=List V->St->Hp->(St->Hp->Prop)->Prop
def PG(X:Cx)(ϖ:Expr)(t:TG):Prop:=
 ∀(ζ:List (AV×Obj)) (s:AQ) (σ:St) (H:Hp) (v:V) (u:AH) (Q:St->Hp->Prop),Inv X ζ σ H s->RelV v u->t v σ H Q ->
  Aw (Ac X.prog X.w) X.A (O5 ϖ X.env u) (λ_ s'=>∃σ' H',Inv X ζ σ' H' s'/\Q σ' H') X.xe s
def PGs(X:Cx)(ts:List Expr)(t:TGs):Prop:=
 ∀(ζ:List (AV×Obj)) (s:AQ) (σ:St) (H:Hp) (vs:List V) (us:List AH) (Q:St->Hp->Prop),Inv X ζ σ H s->Bg vs us->t vs σ H Q ->
  Aw (Ac X.prog X.w) X.A (assignInOrder ((E9 ts X.env).map (·.2)) us) (λ_ s'=>∃σ' H',Inv X ζ σ' H' s'/\Q σ' H') X.xe s
section
variable{X:Cx}{pos:Pos}
def W8(i:Nat):TG:=λv σ H Q=>Q (σ.set i (some v)) H
def eC(hN:X.N.Nodup)(hi:X.N[i]?=some x)(hx:Loc X.env.scope x)(hf:X.fn x=true∨X.env.scope.names.lookup x=some .local:=by first | exact .inl rfl | exact .inr rfl | assumption):PG X (.Name x pos) (W8 i):=by
 intro ζ s σ H v u Q I r h;exact kl (Pc I hN hi hx r (λs' I'=>⟨_,H,I',h⟩) hf)
def gNil:TGs:=λvs σ H Q=>vs=[]/\Q σ H
def nK(t:TG)(u:TGs):TGs:=λvs σ H Q=>∃v r,vs=v :: r/\t v σ H λσ' H'=>u r σ' H' Q
def d9:PGs X [] gNil:=by
 intro ζ s σ H vs us Q I r h;obtain⟨e,h⟩:=h;subst e;cases r;exact assignInOrder_nil ⟨σ,H,I,h⟩
def aC(h1:PG X e t)(h2:PGs X es u)
  (hs:(E9 (e :: es) X.env).map (·.2)=O5 e X.env :: (E9 es X.env).map (·.2):=by rfl):PGs X (e :: es) (nK t u):=by
 intro ζ s σ H vs us Q I r h;obtain⟨v,vr,e1,h⟩:=h;subst e1
 cases r with
 | cons r rr=>
  rw[hs];refine assignInOrder_cons (thn (h1 ζ s σ H _ _ _ I r h) λ_ s1 ⟨σ1,H1,I1,q1⟩=>?_);exact h2 ζ s1 σ1 H1 _ _ Q I1 rr q1
def gTup(K:AG)(n:Nat)(t:TGs):TG:=λv σ H Q=>∃a xs,v=.ref a/\SqT K H a xs/\xs.length=n/\t xs σ H Q
def jF(hc:X.calm=true)(h:PGs X es t)
  (hn:(E9 es X.env).length=n:=by rfl) (qC:(E9 es X.env).findIdx? (·.1)=none:=by rfl):PG X (.Tuple es k pos) (gTup X.K n t):=by
 intro ζ s σ H v u Q I r hw;obtain⟨a,xs,e1,hq,hl,hw⟩:=hw;subst e1;cases r;obtain⟨i',rv,ht,hz⟩:=I.tuple hq
 refine assign_Tuple_tuple (I.ok.hd hc) ht (by simp[hn,<-hl,rv.length]) qC λh' hx=>?_
 have I1:Inv X ζ σ H { s with heap:=h' }:=I.kept (t':=s.toks) λb o e=>hx b o (A0 (Ai e)) e
 exact h ζ _ σ H xs _ Q I1 (by simpa using rv) hw
def ip(te:TE)(g:TG):TS:=λD σ H=>te σ H λx H1=>g x σ H1 D.nx
def jC(he:PE X e te)(hg:PG X tg g)(hs:swapsWithSole [tg] e pos.line X.env=pure false:=by rfl)(hw:swappedStores [tg] e X.env=pure none:=by rfl)
  (h1:(E9 [tg] X.env).map (·.2)=[O5 tg X.env]:=by rfl):PS X (.Assign [tg] e pos) (ip te g):=by
 intro ζ s σ H D I h;refine wpAny_Assign_stores (thn (he ζ s σ H _ I h) λv s1 ⟨x,H1,I1,r1,q1⟩=>?_) hs hw;rw[h1]
 exact thn (hg ζ s1 σ H1 x v _ I1 r1 q1) λ_ s2 q=>q
def i8(hN:X.N.Nodup)(hi:X.N[i]?=some x)(hx:Loc X.env.scope x)(he:PE X e te)(hs:GX e (some (.Name x pos')) pos.line X.env=pure false:=by rfl)(hf:X.fn x=true∨X.env.scope.names.lookup x=some .local:=by first | exact .inl rfl | exact .inr rfl | assumption) :
  PS X (.Assign [.Name x pos'] e pos) (ip te (W8 i)):=by
 intro ζ s σ H D I h;refine wpAny_Assign_Name (thn (he ζ s σ H _ I h) λv s1 ⟨y,H1,I1,r1,q1⟩=>?_) hs;exact Pc I1 hN hi hx r1 (λs2 I2=>⟨_,H1,I2,q1⟩) hf
def ij(c:TT)(tb:TS):TS:=λD σ H=>∃W:Nat->St->Hp->Prop,(∃m,W m σ H)/\∀m σ H,W m σ H ->
 c σ H λb H1=>if b=true then ∃N:St->Hp->Prop,(∀σ' H',N σ' H'->∃m',m' < m/\W m' σ' H')/\tb { D with nx:=N,ct:=N,bk:=D.nx } σ H1 else D.nx σ H1
def Z7(hp:OC (Ac X.prog X.w) X.A X.env X.xe)(hc:PT X c tc)(hb:PSs X body tb):PS X (.While c body [] pos) (ij tc tb):=by
 intro ζ s σ H D I h;obtain⟨W,⟨m0,w0⟩,turn⟩:=h;refine wpAny_While (codeAny_whileLoop (λn s'=>∃σ' H',Inv X ζ σ' H' s'/\W n σ' H') ?_ m0 ⟨σ,H,I,w0⟩);rintro n s1 ⟨σ1,H1,I1,w1⟩;refine FK hp (thn (hc ζ s1 σ1 H1 _ I1 (turn n σ1 H1 w1)) λb s2 ⟨H2,I2,q2⟩=>?_)
 cases b with
 | true=>
  obtain⟨N,hN,q2⟩:=q2;rw[qX rfl];refine FK hp (thn (hb ζ s2 σ1 H2 _ I2 q2) λf s3 q3=>?_)
  cases f with
  | next=>
   obtain⟨σ3,H3,I3,n3⟩:=q3;obtain⟨m',hm,w3⟩:=hN σ3 H3 n3;exact⟨m',hm,σ3,H3,I3,w3⟩
  | cont=>
   obtain⟨σ3,H3,I3,n3⟩:=q3;obtain⟨m',hm,w3⟩:=hN σ3 H3 n3;exact⟨m',hm,σ3,H3,I3,w3⟩
  | brk=>exact q3
  | ret v=>exact q3
 | false=>
  rw[qY AL];exact Iv ⟨σ1,H2,I2,q2⟩
end
structure It where
 go:Nat->Hp->Prop
 yld:Nat->Hp->V->Hp->Prop
 stop:Nat->Hp->Prop
def Mg(X:Cx)(ζ:List (AV×Obj))(H:Hp)(b:AV):Prop:=
 H b=none/\b≠X.env.locals/\b∉X.fs/\(b∈X.ex∨X.s₀.heap.objs.size<=b)/\(∀x c,X.env.cells.lookup x=some c->c≠b)/\∀p∈X.pn++ζ,p.1≠b
def Inv.fpOk(I:Inv X ζ σ H s)(hb:s.heap.objs.size<=b)(hn:H' b=none):Mg X ζ H' b:=by
 refine⟨hn,HE (AU I.lt hb),I.nofs hb,.inr (Ao I.sz hb),λx c e z=>?_,λp hp z=>?_⟩
 ·obtain⟨v,q⟩:=I.cell x c e
  exact zX (AU q.lt (by rw[z];exact hb)) (Df _)
 ·exact zX (AU (Ai (I.pin p hp).1) (by rw[z];exact hb)) (Df _)
structure Sr(P:Bp)(w:CF)(K:AG)(tg:Expr)(J:It)(fp:List AV)(it:AV)(tn:Nat->Cj->Prop):Prop where
 mem:it∈fp
 obj:∀i h,tn i h->∀b∈fp,∃o,h.get? b=some o/\∀v,o.data≠.cell v
 keep:∀i h h',tn i h->(∀b∈fp,∀o,h.get? b=some o->h'.get? b=some o)->tn i h'
 item:∀(X:Cx),X.prog=P->X.w=w->X.K=K->X.calm=true->∀(i:Nat) (ζ:List (AV×Obj)) (s:AQ) (σ:St) (H:Hp) (E:AH->AQ->Prop),Inv X ζ σ H s->(∀b∈fp,Mg X ζ H b)->tn i s.heap->J.go i H ->
  Aw (Ac P w) X.A (Rj (.ref it)) (λr s1=>∃u,r=some u /\
   Aw (Ac P w) X.A (Mi tg (.ref it) u) (λ_ s2=>∃x H',Inv X ζ σ H' s2/\RelV x u/\J.yld i H x H'/\tn (i+1) s2.heap/\∀b∈fp,H' b=none) E s1) E s
 done:∀(X:Cx),X.prog=P->X.w=w->X.K=K->X.calm=true->∀(i:Nat) (ζ:List (AV×Obj)) (s:AQ) (σ:St) (H:Hp) (E:AH->AQ->Prop),Inv X ζ σ H s->(∀b∈fp,Mg X ζ H b)->tn i s.heap->J.stop i H ->
  Aw (Ac P w) X.A (Rj (.ref it)) (λr s1=>r=none/\Inv X ζ σ H s1) E s
 self:∀(A:CB) (i:Nat) (s:AQ) (Q:AH->AQ->Prop) (E:AH->AQ->Prop),tn i s.heap->Q (.ref it) s->Aw (Ac P w) A (ZA (.ref it)) Q E s
abbrev TI:=St->Hp->(It->Hp->Prop)->Prop
def PIE(X:Cx)(ζ:List (AV×Obj))(σ:St)(tg:Expr)(R:It->Hp->Prop)(itv:AH)(s2:AQ):Prop:=
 ∃(it:AV) (fp:List AV) (tn:Nat->Cj->Prop) (J:It) (H':Hp),itv=.ref it/\Inv X ζ σ H' s2/\Sr X.prog X.w X.K tg J fp it tn/\tn 0 s2.heap/\(∀b∈fp,Mg X ζ H' b)/\R J H'
def PI(X:Cx)(tg iter:Expr)(wi:TI):Prop:=
 ∀(ζ:List (AV×Obj)) (s:AQ) (σ:St) (H:Hp) (R:It->Hp->Prop),Inv X ζ σ H s->wi σ H R ->
  Aw (Ac X.prog X.w) X.A (B4 iter X.env) (λv s1=>Aw (Ac X.prog X.w) X.A (ZA v) (PIE X ζ σ tg R) X.xe s1) X.xe s
def W2(ho:s.heap.get? it=some o)(hc:o.cls=.type n)(hd:o.data=.fields vs)
  (hn:["enumerate", "zip", "dict_itemiterator", "dict_reverseitemiterator", "odict_iterator", "itertools.zip_longest", "itertools.pairwise"].contains n=false) (hQ:Q () s):Aw M A (Mi tg (.ref it) u) Q E s:=by
 unfold Mi
 cases tg <;> first
  | exact AR hQ
  | (cases u <;> first
    | exact AR hQ
    | (refine AB (wpAny_load ho ?_)
       rw[hc,hd];show Aw M A (if (["enumerate", "zip", "dict_itemiterator", "dict_reverseitemiterator", "odict_iterator", "itertools.zip_longest", "itertools.pairwise"].contains n&&vs[0]?==some (Eo _))=true then _ else _) Q E s;rw[qY (by intro h;rw[hn,Bool.false_and]at h;cases h)]
       exact AR hQ))
def Itl(K:AG)(a:AV):It:=
 ⟨λi H=>∃xs x,SqL K H a xs/\xs[i]?=some x,λi H x H'=>H'=H/\∀xs,SqL K H a xs->xs[i]?=some x,λi H=>∃xs,SqL K H a xs/\xs.length<=i⟩
def Itt(K:AG)(a:AV):It:=
 ⟨λi H=>∃xs x,SqT K H a xs/\xs[i]?=some x,λi H x H'=>H'=H/\∀xs,SqT K H a xs->xs[i]?=some x,λi H=>∃xs,SqT K H a xs/\xs.length<=i⟩
def Itr(lo:Int)(n:Nat):It:=⟨λi _=>i < n,λi H x H'=>H'=H/\x=.int (lo+i),λi _=>n<=i⟩
def Xr{P}{w}{K}{tg}(a it:AV):Sr P w K tg (Itl K a) [it] it (λi h=>h.IsListIter it a i) where
 mem:=by simp
 obj:=λi h st b hb=>by
  have e:b=it:=by simpa using hb
  subst e;obtain⟨o,e,c,d⟩:=st;exact⟨o,e,λv z=>by rw[d]at z;cases z⟩
 keep:=λi h h' st k=>st.at λo e=>k it (by simp) o e
 item:=by
  intro X hP hw hK hc i ζ s σ H E I hf st hg;subst hP hw hK;obtain⟨xs,x,hq,hx⟩:=hg;obtain⟨i',rv,p,hz⟩:=I.list hq;obtain⟨u,hu,ru⟩:=rv.get hx;obtain⟨f0,f1,f2,f3,f4,f5⟩:=hf it (by simp)
  refine wpAny_pyNext_list_item st p.isList (x:=u) (by simpa using hu) λh' st' sb=>?_
  have I1:Inv X ζ σ H { s with heap:=h' }:=I.turned (t':=s.toks) (λb o hb e=>(sb.2 b hb).trans e) f0 f1 f3 f4 f5;obtain⟨o,e,c,d⟩:=id st';exact⟨u,rfl,W2 (s:={ s with heap:=h' }) e c d (by decide) ⟨x,H,I1,ru,⟨rfl,λys hy=>by rw[I.list_inj hy hq];exact hx⟩,st',λb hb=>(hf b hb).1⟩⟩
 done:=by
  intro X hP hw hK hc i ζ s σ H E I hf st hg;subst hP hw hK;obtain⟨xs,hq,hx⟩:=hg;obtain⟨i',rv,p,hz⟩:=I.list hq;obtain⟨f0,f1,f2,f3,f4,f5⟩:=hf it (by simp);have hl:=rv.length
  exact wpAny_pyNext_list_end (I.ok.hd hc) st p.isList (by simp;lia) λh' eb=>⟨rfl,I.turned (t':=s.toks) (λb o hb e=>eb b o hb e) f0 f1 f3 f4 f5⟩
 self:=λ_ _ _ _ _ st h=>wpAny_pyIter_listiter st h
def VM{P}{w}{K}{tg}(a it:AV):Sr P w K tg (Itt K a) [it] it (λi h=>h.IsTupleIter it a i) where
 mem:=by simp
 obj:=λi h st b hb=>by
  have e:b=it:=by simpa using hb
  subst e;obtain⟨o,e,c,d⟩:=st;exact⟨o,e,λv z=>by rw[d]at z;cases z⟩
 keep:=λi h h' st k=>st.at λo e=>k it (by simp) o e
 item:=by
  intro X hP hw hK hc i ζ s σ H E I hf st hg;subst hP hw hK;obtain⟨xs,x,hq,hx⟩:=hg;obtain⟨i',rv,p,hz⟩:=I.tuple hq;obtain⟨u,hu,ru⟩:=rv.get hx;obtain⟨f0,f1,f2,f3,f4,f5⟩:=hf it (by simp)
  refine wpAny_pyNext_tuple_item st (show s.heap.IsTuple a i'.toArray from p) (x:=u) (by simpa using hu) λh' st' sb=>?_
  have I1:Inv X ζ σ H { s with heap:=h' }:=I.turned (t':=s.toks) (λb o hb e=>(sb.2 b hb).trans e) f0 f1 f3 f4 f5;obtain⟨o,e,c,d⟩:=id st';exact⟨u,rfl,W2 (s:={ s with heap:=h' }) e c d (by decide) ⟨x,H,I1,ru,⟨rfl,λys hy=>by rw[I.tuple_inj hy hq];exact hx⟩,st',λb hb=>(hf b hb).1⟩⟩
 done:=by
  intro X hP hw hK hc i ζ s σ H E I hf st hg;subst hP hw hK;obtain⟨xs,hq,hx⟩:=hg;obtain⟨i',rv,p,hz⟩:=I.tuple hq;obtain⟨f0,f1,f2,f3,f4,f5⟩:=hf it (by simp);have hl:=rv.length
  exact wpAny_pyNext_tuple_end (I.ok.hd hc) st (show s.heap.IsTuple a i'.toArray from p) (by simp;lia) λh' eb=>⟨rfl,I.turned (t':=s.toks) (λb o hb e=>eb b o hb e) f0 f1 f3 f4 f5⟩
 self:=λ_ _ _ _ _ st h=>wpAny_pyIter_tupleiter st h
def VN{P}{w}{K}{tg}(it:AV)(lo:Int)(n:Nat):Sr P w K tg (Itr lo n) [it] it (λi h=>IsRangeIter h it (lo+(i:Nat) * 1) ((n:Int) - (i:Nat)) 1) where
 mem:=by simp
 obj:=λi h st b hb=>by
  have e:b=it:=by simpa using hb
  subst e
  exact⟨_,st,λv z=>by
   have z':WQ _=cE v:=z
   cases z'⟩
 keep:=λi h h' st k=>k it (by simp) _ st
 item:=by
  intro X hP hw hK hc i ζ s σ H E I hf st hg;subst hP hw hK;obtain⟨f0,f1,f2,f3,f4,f5⟩:=hf it (by simp);have W:=Walks.range (prog:=X.prog) (w:=X.w) (I.ok.hd hc) it lo 1 n
  refine W.item i s _ _ hg st λv h' tk hv st' kk=>?_
  obtain⟨t,rfl⟩:=hv;have I1:Inv X ζ σ H { s with heap:=h',toks:=tk }:=I.turned (λb o hb e=>kk b o (by simpa using hb) e) f0 f1 f3 f4 f5;refine⟨_,rfl,W2 (s:={ s with heap:=h',toks:=tk }) (n:="range_iterator") st' rfl rfl (by decide) ⟨.int (lo+i),H,I1,⟨t,?_⟩,⟨rfl,rfl⟩,st',λb hb=>(hf b hb).1⟩⟩;rw[Int.mul_one]
 done:=by
  intro X hP hw hK hc i ζ s σ H E I hf st hg;subst hP hw hK;obtain⟨f0,f1,f2,f3,f4,f5⟩:=hf it (by simp)
  exact wpAny_pyNext_range_end (I.ok.hd hc) st (by have:n<=i:=hg;lia) λh' eb=>⟨rfl,I.turned (t':=s.toks) (λb o hb e=>eb b o hb e) f0 f1 f3 f4 f5⟩
 self:=λ_ _ _ _ _ st h=>wpAny_pyIter_rangeiter st h
section
variable{X:Cx}
def nC(K:AG)(tl:TE):TI:=λσ H R=>tl σ H λx H1=>∃a,x=.ref a/\(∃xs,SqL K H1 a xs)/\R (Itl K a) H1
def iTup(K:AG)(tl:TE):TI:=λσ H R=>tl σ H λx H1=>∃a,x=.ref a/\(∃xs,SqT K H1 a xs)/\R (Itt K a) H1
def d6{l}{tl}(hl:PE X l tl):PI X tg l (nC X.K tl):=by
 intro ζ s σ H R I h
 refine thn (hl ζ s σ H _ I h) λv s1 ⟨x,H1,I1,r1,q1⟩=>?_
 obtain⟨a,e,⟨xs,hq⟩,q⟩:=q1;subst e;cases r1;obtain⟨i',rv,p,hz⟩:=I1.list hq;refine kj p.isList ?_;refine⟨s1.heap.objs.size,[s1.heap.objs.size],_,_,H1,rfl,I1.kept (t':=s1.toks) λb o e=>AK _ e,Xr a _,⟨_,Al _ rfl,rfl,rfl⟩,λb hb=>?_,q⟩
 have e:b=s1.heap.objs.size:=by simpa using hb
 subst e;exact I1.fpOk (AN _) (I1.hok.fresh (AN _))
def jE{l}{tl}(hl:PE X l tl):PI X tg l (iTup X.K tl):=by
 intro ζ s σ H R I h
 refine thn (hl ζ s σ H _ I h) λv s1 ⟨x,H1,I1,r1,q1⟩=>?_
 obtain⟨a,e,⟨xs,hq⟩,q⟩:=q1;subst e;cases r1;obtain⟨i',rv,p,hz⟩:=I1.tuple hq;refine HB (show s1.heap.IsTuple a i'.toArray from p) ?_;refine⟨s1.heap.objs.size,[s1.heap.objs.size],_,_,H1,rfl,I1.kept (t':=s1.toks) λb o e=>AK _ e,VM a _,⟨_,Al _ rfl,rfl,rfl⟩,λb hb=>?_,q⟩
 have e:b=s1.heap.objs.size:=by simpa using hb
 subst e;exact I1.fpOk (AN _) (I1.hok.fresh (AN _))
def Tw{ζ}{σ}{H}{s}{R}{E}{lo hi}{t u v}{tk}(I:Inv X ζ σ H s)(h1:-(2 ^ 62)<=lo)(h2:lo < 2 ^ 62)(h3:-(2 ^ 62)<=hi)(h4:hi < 2 ^ 62)
  (q:R (Itr lo (hi - lo).toNat) H):Aw (Ac X.prog X.w) X.A (ZA (.ref s.heap.objs.size)) (PIE X ζ σ tg R) E { s with heap:=s.heap.push { cls:=.type "range",data:=.fields #[.int lo t,.int hi u,.int 1 v] },toks:=tk }:=by
 refine wpAny_pyIter_range (IsRange.new ..) (small_one h1 h2 h3 h4) ?_
 have I1:Inv X ζ σ H { s with heap:=s.heap.push { cls:=.type "range",data:=.fields #[.int lo t,.int hi u,.int 1 v] },toks:=tk }:=I.kept λb o e=>AK _ e
 refine⟨(s.heap.push { cls:=.type "range",data:=.fields #[.int lo t,.int hi u,.int 1 v] }).objs.size,[(s.heap.push { cls:=.type "range",data:=.fields #[.int lo t,.int hi u,.int 1 v] }).objs.size],_,_,H,rfl,
  I1.kept (t':=tk) λb o e=>AK _ e,VN _ lo (hi - lo).toNat,?_,λb hb=>?_,q⟩
 ·have e1:lo+((0:Nat):Int) * 1=lo:=by simp
  have e2:(((hi - lo).toNat:Nat):Int) - ((0:Nat):Int)=lU lo hi 1:=by rw[rangeSize_one];split <;> lia
  show IsRangeIter _ _ (lo+((0:Nat):Int) * 1) ((((hi - lo).toNat:Nat):Int) - ((0:Nat):Int)) 1;rw[e1,e2];exact Al _ rfl
 ·have e:b=(s.heap.push { cls:=.type "range",data:=.fields #[.int lo t,.int hi u,.int 1 v] }).objs.size:=by simpa using hb
  subst e;exact I1.fpOk (AN _) (I1.hok.fresh (AN _))
def nA(ta:TA):TI:=λσ H R=>ta σ H λvs H1=>∃j:Int,vs=[.int j]/\-(2 ^ 62)<=j/\j < 2 ^ 62/\R (Itr 0 j.toNat) H1
def m9(ta:TA):TI:=λσ H R=>ta σ H λvs H1=>∃i j:Int,vs=[.int i,.int j]/\(-(2 ^ 62)<=i/\i < 2 ^ 62/\-(2 ^ 62)<=j/\j < 2 ^ 62)/\R (Itr i (j - i).toNat) H1
def YI{a}{ta}{p pos}(hg:Gl X "range") (hm:X.mg "range" = none) (ha:PA X [a] ta) (hs:Aa [a] X.env=[(false,B4 a X.env)]:=by rfl):PI X tg (.Call (.Name "range" p) [a] [] pos) (nA ta):=by
 intro ζ s σ H R I h;refine Call_ (MW I hg hm boot_range (C9 (thn (ha pos ζ s σ H _ I h) λus s1 ⟨vs,H1,I1,r1,q1⟩=>?_) hs rfl));obtain⟨j,e,q1,q2,q⟩:=q1;subst e
 cases r1 with
 | cons r rr=>
  cases rr;obtain⟨t,rfl⟩:=r;exact call_range_1 (Tw I1 (by lia) (by lia) q1 q2 (by simpa using q))
def YH(hg:Gl X "range") (hm:X.mg "range" = none) (ha:PA X [a,b] ta) (hs:Aa [a,b] X.env=[(false,B4 a X.env),(false,B4 b X.env)]:=by rfl) (pz:Aa [b] X.env=[(false,B4 b X.env)]:=by rfl) :
  PI X tg (.Call (.Name "range" p) [a,b] [] pos) (m9 ta):=by
 intro ζ s σ H R I h;refine Call_ (MW I hg hm boot_range (C9 (thn (ha pos ζ s σ H _ I h) λus s1 ⟨vs,H1,I1,r1,q1⟩=>?_) (by rw[hs,pz]) (by rw[pz];rfl)));obtain⟨i,j,e,⟨q1,q2,q3,q4⟩,q⟩:=q1;subst e
 cases r1 with
 | cons r rr=>
  cases rr with
  | cons r' rr=>
   cases rr;obtain⟨t,rfl⟩:=r;obtain⟨t',rfl⟩:=r';exact call_range_2 (Tw I1 q1 q2 q3 q4 q)
def tFor(wi:TI)(g:TG)(tb:TS):TS:=λD σ H=>wi σ H λJ H1=>∃W:Nat->Nat->St->Hp->Prop,(∃m,W 0 m σ H1)/\∀i m σ H,W i m σ H ->
 (J.stop i H/\D.nx σ H)∨(J.go i H/\∃N:St->Hp->Prop,(∀σ' H',N σ' H'->∃m',m' < m/\W (i+1) m' σ' H')/\∀x H',J.yld i H x H'->g x σ H' λσ2 H2=>tb { D with nx:=N,ct:=N,bk:=D.nx } σ2 H2)
def Pr(fp:List AV)(h:Cj):List (AV×Obj):=fp.filterMap λb=>(h.get? b).map λo=>(b,o)
def J8(hb:b∈fp)(e:h.get? b=some o):(b,o)∈Pr fp h:=Y6.mpr ⟨b,hb,by rw[e];rfl⟩
def YQ(hp:p∈Pr fp h):p.1∈fp/\h.get? p.1=some p.2:=by
 obtain⟨b,hb,e⟩:=Y6.mp hp
 cases q:h.get? b with
 | none=>rw[q]at e;cases e
 | some o=>
  rw[q]at e;have e':(b,o)=p:=CC e;subst e';exact⟨hb,q⟩
def Inv.pinned(I:Inv X ζ σ H s)(hf:∀b∈fp,Mg X ζ H b)(ho:∀b∈fp,∃o,s.heap.get? b=some o/\∀v,o.data≠.cell v):Inv X (ζ++Pr fp s.heap) σ H s:=
 I.pins_of λp hp=>(Af.mp hp).elim (λz=>I.pin p (Ax _ z)) λz=>by
  obtain⟨hb,e⟩:=YQ z;obtain⟨f0,f1,f2,_⟩:=hf p.1 hb;obtain⟨o,e',d⟩:=ho p.1 hb;rw[e]at e';cases e';exact⟨e,f0,f1,f2,d⟩
def Inv.unpinned(I:Inv X (ζ++pl) σ H s):Inv X ζ σ H s:=I.pins_of λp hp=>I.pin p (Ax _ (Ay _ hp))
def jA(hp:OC (Ac X.prog X.w) X.A X.env X.xe)(hc:X.calm=true)(hi:PI X tg iter wi)(hg:PG X tg g)(hb:PSs X body tb)
  (hs:∀x,Fc iter X.env x=pure x:=by intro _;rfl):PS X (.For tg iter body [] pos) (tFor wi g tb):=by
 intro ζ s σ H D I h;refine wpAny_For (thn (hi ζ s σ H _ I h) λv s1 h1=>thn h1 λitv s2 h2=>?_) hs;obtain⟨it,fp,tn,J,H2,e,I2,T,oj,f2,W,⟨m0,w0⟩,turn⟩:=h2;subst e
 have qf:∀{H':Hp},(∀b∈fp,H' b=none)->∀b∈fp,Mg X ζ H' b:=λhn b hb=>⟨hn b hb,(f2 b hb).2⟩
 refine codeAny_forLoop_any (λn s'=>∃i σ' H',Inv X ζ σ' H' s'/\tn i s'.heap/\(∀b∈fp,H' b=none)/\W i n σ' H') ?_ m0 ⟨0,σ,H2,I2,oj,λb hb=>(f2 b hb).1,w0⟩;rintro n s3 ⟨i,σ3,H3,I3,pT,fr3,w3⟩
 rcases turn i n σ3 H3 w3 with⟨stop,qn⟩ | ⟨go,N,hN,step⟩
 ·refine FK hp (thn (T.done X rfl rfl rfl hc i ζ s3 σ3 H3 X.xe I3 (qf fr3) pT stop) λr s4 ⟨hr,I4⟩=>?_)
  subst hr;exact Iv ⟨σ3,H3,I4,qn⟩
 ·refine FK hp (thn (T.item X rfl rfl rfl hc i ζ s3 σ3 H3 X.xe I3 (qf fr3) pT go) λr s4 ⟨u,hr,h4⟩=>?_)
  subst hr;refine FK hp (thn h4 λ_ s5 ⟨x,H5,I5,r5,y5,qU,fr5⟩=>?_);have wo:=I5.pinned (qf fr5) (T.obj _ _ qU);refine FK hp (thn (hg _ s5 σ3 H5 x u _ wo r5 (step x H5 y5)) λ_ s6 ⟨σ6,H6,I6,q6⟩=>?_);refine FK hp (thn (hb _ s6 σ6 H6 _ I6 q6) λf s7 q7=>?_)
  have kx:∀{σ7:St} {H7:Hp},Inv X (ζ++Pr fp s5.heap) σ7 H7 s7->N σ7 H7->∃m,m < n/\∃i σ' H',Inv X ζ σ' H' s7/\tn i s7.heap/\(∀b∈fp,H' b=none)/\W i m σ' H':=λ{σ7 H7} I7 n7=>by
   obtain⟨m',hm,w7⟩:=hN σ7 H7 n7;refine⟨m',hm,i+1,σ7,H7,I7.unpinned,T.keep _ _ _ qU λb hb o e=>(I7.pin (b,o) (Ax _ (Ax _ (J8 hb e)))).1,λb hb=>?_,w7⟩;obtain⟨o,e,d⟩:=T.obj _ _ qU b hb;exact(I7.pin (b,o) (Ax _ (Ax _ (J8 hb e)))).2.1
  cases f with
  | next=>obtain⟨σ7,H7,I7,n7⟩:=q7;exact kx I7 n7
  | cont=>obtain⟨σ7,H7,I7,n7⟩:=q7;exact kx I7 n7
  | brk=>obtain⟨σ7,H7,I7,q7⟩:=q7;exact⟨σ7,H7,I7.unpinned,q7⟩
  | ret v=>obtain⟨x7,σ7,H7,I7,r7,q7⟩:=q7;exact⟨x7,σ7,H7,I7.unpinned,r7,q7⟩
end
abbrev R2:=V->V->Hp->VK->Prop
def OpR(X:Cx)(f:AH->AH->Sem AH)(r:R2):Prop:=
 ∀(ζ:List (AV×Obj)) (s:AQ) (σ:St) (H:Hp) (x y:V) (v u:AH) (Q:VK),Inv X ζ σ H s->RelV x v->RelV y u->r x y H Q ->
  Aw (Ac X.prog X.w) X.A (f v u) (EP X ζ σ Q) X.xe s
def Ie(X:Cx)(f:AH)(r:List V->Hp->VK->Prop):Prop:=
 ∀(ζ:List (AV×Obj)) (s:AQ) (σ:St) (H:Hp) (xs:List V) (us:List AH) (Q:VK),Inv X ζ σ H s->Bg xs us->r xs H Q ->
  Aw (Ac X.prog X.w) X.A (call f us) (EP X ζ σ Q) X.xe s
def TruR(X:Cx)(r:V->Hp->(Bool->Hp->Prop)->Prop):Prop:=
 ∀(ζ:List (AV×Obj)) (s:AQ) (σ:St) (H:Hp) (x:V) (v:AH) (Q:Bool->Hp->Prop),Inv X ζ σ H s->RelV x v->r x H Q ->
  Aw (Ac X.prog X.w) X.A (hX v) (TP X ζ σ Q) X.xe s
def tOp(r:R2)(ta tb:TE):TE:=λσ H Q=>ta σ H λx H1=>tb σ H1 λy H2=>r x y H2 Q
def rI(C:Int->Int->Prop)(g:Int->Int->V):R2:=λx y H Q=>∃i j,x=.int i/\y=.int j/\C i j/\Q (g i j) H
def rI0(g:Int->Int->V):R2:=λx y H Q=>∃i j,x=.int i/\y=.int j/\Q (g i j) H
section
variable{X:Cx}{a b:Expr}{ta tb:TE}{pos:Pos}
def kb(ha:PE X a ta)(hb:PE X b tb){ζ:List (AV×Obj)}{s:AQ}{σ:St}{H:Hp}{R:V->V->Hp->Prop}(I:Inv X ζ σ H s)
  (h:ta σ H λx H1=>tb σ H1 λy H2=>R x y H2) {Q:AH->AQ->Prop} {f:AH->AH->Sem AH}
  (hf:∀v u s2 x y H2,Inv X ζ σ H2 s2->RelV x v->RelV y u->R x y H2->Aw (Ac X.prog X.w) X.A (f v u) Q X.xe s2) :
  Aw (Ac X.prog X.w) X.A (B4 a X.env) (λv s₁=>Aw (Ac X.prog X.w) X.A (B4 b X.env) (λu s₂=>Aw (Ac X.prog X.w) X.A (f v u) Q X.xe s₂) X.xe s₁) X.xe s:=by
 refine thn (ha ζ s σ H _ I h) λv s1 ⟨x,H1,I1,r1,q1⟩=>?_
 refine thn (hb ζ s1 σ H1 _ I1 q1) λu s2 ⟨y,H2,I2,r2,q2⟩=>?_
 exact hf v u s2 x y H2 I2 r1 r2 q2
def mI{op:Operator}{r:R2}(ho:OpR X (CV op) r)(ha:PE X a ta)(hb:PE X b tb):PE X (.BinOp a op b pos) (tOp r ta tb):=by
 intro ζ s σ H Q I h;exact wpAny_BinOp (kb ha hb I h λv u s2 x y H2 I2 rx ry q=>ho ζ s2 σ H2 x y v u Q I2 rx ry q)
def opI{f:AH->AH->Sem AH}{C:Int->Int->Prop}{g:Int->Int->Int}
  (rule:∀(i j:Int) (t u:Tok) (s:AQ) (Q:AH->AQ->Prop) (E:AH->AQ->Prop),C i j->Q (.int (g i j) s.toks) { s with toks:=s.toks+1 }->Aw (Ac X.prog X.w) X.A (f (.int i t) (.int j u)) Q E s) :
  OpR X f (rI C λi j=>.int (g i j)):=by
 intro ζ s σ H x y v u Q I rx ry h;obtain⟨i,j,rfl,rfl,hc,q⟩:=h;obtain⟨t,rfl⟩:=rx;obtain⟨t',rfl⟩:=ry;exact rule i j t t' s _ _ hc ⟨.int (g i j),H,I.tok _,⟨_,rfl⟩,q⟩
def jZ{f:AH->AH->Sem AH}{g:Int->Int->Int}
  (rule:∀(i j:Int) (t u:Tok) (s:AQ) (Q:AH->AQ->Prop) (E:AH->AQ->Prop),Q (.int (g i j) s.toks) { s with toks:=s.toks+1 }->Aw (Ac X.prog X.w) X.A (f (.int i t) (.int j u)) Q E s) :
  OpR X f (rI0 λi j=>.int (g i j)):=by
 intro ζ s σ H x y v u Q I rx ry h;obtain⟨i,j,rfl,rfl,q⟩:=h;obtain⟨t,rfl⟩:=rx;obtain⟨t',rfl⟩:=ry;exact rule i j t t' s _ _ ⟨.int (g i j),H,I.tok _,⟨_,rfl⟩,q⟩
def ja{f:AH->AH->Sem AH}{g:Int->Int->Bool}
  (rule:∀(i j:Int) (t u:Tok) (s:AQ) (Q:AH->AQ->Prop) (E:AH->AQ->Prop),Q (.bool (g i j)) s->Aw (Ac X.prog X.w) X.A (f (.int i t) (.int j u)) Q E s) :
  OpR X f (rI0 λi j=>.bl (g i j)):=by
 intro ζ s σ H x y v u Q I rx ry h;obtain⟨i,j,rfl,rfl,q⟩:=h;obtain⟨t,rfl⟩:=rx;obtain⟨t',rfl⟩:=ry;exact rule i j t t' s _ _ ⟨.bl (g i j),H,I,rfl,q⟩
def gV(i j:Int):Prop:=0 < j/\j < 1073741824
def b0(i j:Int):Prop:=0<=j/\j<=1000000/\i.natAbs < 2 ^ 64
def Sx(i j:Int):Prop:=(-(2 ^ 64) < i/\i < 2 ^ 64)∨(-(2 ^ 64) < j/\j < 2 ^ 64)
def Sx.ok(h:Sx i j):IntMulOk i j:=by
 rcases h with⟨h1,h2⟩ | ⟨h1,h2⟩
 ·exact .of_left (intBits_le_64 h1 h2)
 ·exact .of_right (intBits_le_64 h1 h2)
def VJ(k:Nat):(0:Int)<=2 ^ k:=by
 rw[two_pow_cast];exact ZJ _
def jY:OpR X (CV .Add) (rI0 λi j=>.int (i+j)):=jZ λ_ _ _ _ _ _ _ q=>add_int q
def jP:OpR X (CV .Sub) (rI0 λi j=>.int (i - j)):=jZ λ_ _ _ _ _ _ _ q=>sub_int q
def jT:OpR X (CV .Mult) (rI Sx λi j=>.int (i * j)):=opI λ_ _ _ _ _ _ _ hc q=>mul_int q hc.ok
def eV:OpR X (CV .FloorDiv) (rI gV λi j=>.int (i / j)):=opI λi j _ _ _ _ _ hc q=>by
 have h1:(0:Int) < j:=hc.1;have h2:j < 1073741824:=hc.2;exact floordiv_int (by lia) (by rw[Rv i (by lia)];exact q) (.inl (PyProof.noPylong_small (by omega)))
def jU:OpR X (CV .Mod) (rI (λ_ j=>0 < j) λi j=>.int (i % j)):=opI λi j _ _ _ _ _ hc q=>by
 have h1:(0:Int) < j:=hc;exact mod_int' (by lia) (by rw[Int.fmod_eq_emod_of_nonneg i (by lia)];exact q)
def jR:OpR X (CV .LShift) (rI b0 λi j=>.int (i * 2 ^ j.toNat)):=opI λ_ _ _ _ _ _ _ hc q=>lshift_int_small hc.1 hc.2.1 hc.2.2 q
def jQ:OpR X (CV .RShift) (rI (λ_ j=>0<=j) λi j=>.int (i / 2 ^ j.toNat)):=opI λi j _ _ _ _ _ hc q=>
 rshift_int hc (by rw[Rv i (VJ _)];exact q)
def jX:OpR X (CV .BitAnd) (rI0 λi j=>.int (Gi i j)):=jZ λ_ _ _ _ _ _ _ q=>and_int q
end
section
variable{X:Cx}{a b c:Expr}{ta tb tc:TE}{pos:Pos}
def bU(I:Inv X ζ σ H s)(q:Q (.bl k) H)(e:k=k'):EP X ζ σ Q (.bool k') s:=by
 subst e;exact⟨.bl k,H,I,rfl,q⟩
def mO:OpR X (Bs .Lt) (rI0 λi j=>.bl (decide (i < j))):=ja λ_ _ _ _ _ _ _ q=>lt_int q
def mP:OpR X (Bs .LtE) (rI0 λi j=>.bl (decide (i<=j))):=ja λ_ _ _ _ _ _ _ q=>le_int q
def mR:OpR X (Bs .GtE) (rI0 λi j=>.bl (decide (j<=i))):=ja λ_ _ _ _ _ _ _ q=>ge_int q
def jV:OpR X (Bs .Is) (λx y H Q=>y=.non/\Q (.bl (decide (x=.non))) H):=by
 intro ζ s σ H x y v u Q I rx ry h;obtain⟨rfl,q⟩:=h;cases ry;refine is_none_gen (bU I q ?_)
 cases x <;> first
  | (cases rx;rfl)
  | (obtain⟨t,rfl⟩:=rx;rfl)
def eS:OpR X (Bs .IsNot) (λx y H Q=>y=.non/\Q (.bl (!decide (x=.non))) H):=by
 intro ζ s σ H x y v u Q I rx ry h;obtain⟨rfl,q⟩:=h;cases ry;refine isnot_none_gen (bU I q ?_)
 cases x <;> first
  | (cases rx;rfl)
  | (obtain⟨t,rfl⟩:=rx;rfl)
def OpR.or(h:OpR X f r)(h':OpR X f r'):OpR X f (λx y H Q=>r x y H Q∨r' x y H Q):=by
 intro ζ s σ H x y v u Q I rx ry q
 rcases q with q | q
 ·exact h ζ s σ H x y v u Q I rx ry q
 ·exact h' ζ s σ H x y v u Q I rx ry q
def DM(b:Expr)(h:op≠.In:=by decide)(h2:op≠.NotIn:=by decide):CM op b=false:=by
 have e1:(op==CmpOp.In)=false:=by cases op <;> first | rfl | exact zX rfl h
 have e2:(op==CmpOp.NotIn)=false:=by cases op <;> first | rfl | exact zX rfl h2
 cases b <;> simp[CM,e1,e2]
def eM{op:CmpOp}{r:R2}(ho:OpR X (Bs op) r)(ha:PE X a ta)(hb:PE X b tb)(hm:CM op b=false):PE X (.Compare a [op] [b] pos) (tOp r ta tb):=by
 intro ζ s σ H Q I h;exact wpAny_Compare1 (kb ha hb I h λv u s2 x y H2 I2 rx ry q=>ho ζ s2 σ H2 x y v u Q I2 rx ry q) hm
def gh(t:TE):TT:=λσ H Q=>t σ H λx H'=>∃k,x=.bl k/\Q k H'
def dk(ho:OpR X (Bs op) r)(ha:PE X a ta)(hb:PE X b tb)(hm:CM op b=false):PT X (.Compare a [op] [b] pos) (gh (tOp r ta tb)):=by
 intro ζ s σ H Q I h
 refine cA (thn (ha ζ s σ H _ I h) λv s1 ⟨x,H1,I1,r1,q1⟩=>thn (hb ζ s1 σ H1 _ I1 q1) λu s2 ⟨y,H2,I2,r2,q2⟩=>
  thn (ho ζ s2 σ H2 x y v u _ I2 r1 r2 q2) λc s3 ⟨z,H3,I3,r3,k,e,q3⟩=>?_) hm
 subst e;cases r3;exact Db ⟨H3,I3,q3⟩
def Zk(r r':R2)(ta tb tc:TE):TE:=λσ H Q=>ta σ H λx H1=>tb σ H1 λy H2=>r x y H2 λz H3=>∃k,z=.bl k /\
 (if k=true then tc σ H3 λw' H4=>r' y w' H4 Q else Q (.bl false) H3)
def Z5(ho:OpR X (Bs op) r)(p9:OpR X (Bs op') r')(ha:PE X a ta)(hb:PE X b tb)(hc:PE X c tc)
  (hm:lastMarks [op,op'] [b,c]=false:=by with_unfolding_all rfl):PT X (.Compare a [op,op'] [b,c] pos) (gh (Zk r r' ta tb tc)):=by
 intro ζ s σ H Q I h
 refine isTrue_chain (thn (ha ζ s σ H _ I h) λv s1 ⟨x,H1,I1,r1,q1⟩=>test_link (thn (hb ζ s1 σ H1 _ I1 q1) λu s2 ⟨y,H2,I2,r2,q2⟩=>
  thn (ho ζ s2 σ H2 x y v u _ I2 r1 r2 q2) λd s3 ⟨z,H3,I3,r3,k,e,q3⟩=>?_)) hm
 subst e;cases r3;refine Db ?_
 cases k with
 | false=>
  obtain⟨k',e',q'⟩:=q3;cases e';exact ite_ff ⟨H3,I3,q'⟩
 | true=>
  refine ite_tt (test_last (thn (hc ζ s3 σ H3 _ I3 q3) λw' s4 ⟨z',H4,I4,r4,q4⟩=>thn (p9 ζ s4 σ H4 y z' u w' _ I4 r2 r4 q4) λd' s5 ⟨z2,H5,I5,r5,k2,e2,q5⟩=>?_));subst e2;cases r5;exact Db ⟨H5,I5,q5⟩
def kd(K:AG)(x:V)(H:Hp)(k:Bool):Prop:=
 match x with
 | .non=>k=false
 | .bl b=>k=b
 | .int i=>k=(i != 0)
 | .str y=>y.length<=sizeLine/\k=((y.length:Int) != 0)
 | .byt y=>y.size<=sizeLine/\k=((y.size:Int) != 0)
 | .ref p=>(∃xs,SqL K H p xs/\k = !xs.isEmpty)∨(∃xs,SqT K H p xs/\k = !xs.isEmpty)∨∃kvs,H p=some (.dK kvs)/\k = !kvs.isEmpty
 | _=>False
def Vt{κ:Type}{kvs:List (κ×V)}{vs:List (κ×AH)}(r:KV kvs vs):(!vs.isEmpty) = !kvs.isEmpty:=by
 cases r <;> rfl
def QG(r:Bg xs i'):(!i'.toArray.isEmpty) = !xs.isEmpty:=by
 cases r <;> simp
def SQ:(sizeLine:Nat) < 2 ^ 63:=by rw[Sz];decide
def ig:TruR X (λx H Q=>∃k,kd X.K x H k/\Q k H):=by
 intro ζ s σ H x v Q I rx h;obtain⟨k,e,q⟩:=h;have hl:=SQ;have hs:sizeLine=16777216:=Sz
 cases x with
 | non=>
  cases rx;have e':k=false:=e;subst e';exact truthy_none ⟨H,I,q⟩
 | bl b=>
  cases rx;have e':k=b:=e;subst e';exact Db ⟨H,I,q⟩
 | int i=>
  obtain⟨t,rfl⟩:=rx;have e':k=(i != 0):=e;subst e';exact PySem.P.truthy_int ⟨H,I,q⟩
 | str y=>
  obtain⟨t,rfl⟩:=rx;obtain⟨hy,e'⟩:y.length<=sizeLine/\k=((y.length:Int) != 0):=e;subst e';exact PySem.P.truthy_str (by lia) ⟨H,I.tok _,q⟩
 | byt y=>
  obtain⟨t,rfl⟩:=rx;obtain⟨hy,e'⟩:y.size<=sizeLine/\k=((y.size:Int) != 0):=e;subst e';exact PySem.W.truthy_bytes (by lia) ⟨H,I.tok _,q⟩
 | ref p=>
  cases rx
  have e':(∃xs,SqL X.K H p xs/\k = !xs.isEmpty)∨(∃xs,SqT X.K H p xs/\k = !xs.isEmpty)∨∃kvs,H p=some (.dK kvs)/\k = !kvs.isEmpty:=e
  rcases e' with⟨xs,hx,e'⟩ | ⟨xs,hx,e'⟩ | ⟨kvs,hx,e'⟩
  ·subst e'
   obtain⟨i',r,pl,hz⟩:=I.list hx;have hlen:=r.length;exact wpAny_truthy_list pl.isList (by simp only[Ae];lia) ⟨H,I.tok _,by rw[QG r];exact q⟩
  ·subst e'
   obtain⟨i',r,pl,hz⟩:=I.tuple hx;have hlen:=r.length;exact truthy_tuple pl (by simp only[Ae];lia) ⟨H,I.tok _,by rw[QG r];exact q⟩
  ·subst e'
   obtain⟨hz,hS,vs,r,m⟩:kvs.length<=sizeLine/\(p==DJ)=false/\∃vs,KV kvs vs/\s.heap.DictOf (Ct X.prog X.w) p vs:=I.hok p _ hx
   have hlen:kvs.length=vs.length:=D4 r;exact wpAny_truthy_dict hS m (by lia) ⟨H,I.tok _,by rw[Vt r];exact q⟩
 | _=>exact(show False from e).elim
def Z3(ha:PE X a ta)(he:∀whole,Uu a X.env whole=(do let v <-whole;kn a.pos;ku [v] (hX v))) :
  PT X a (λσ H Q=>ta σ H λx H'=>∃k,kd X.K x H' k/\Q k H'):=by
 intro ζ s σ H Q I h;exact isTrue_plain (thn (ha ζ s σ H _ I h) λv s1 ⟨x,H1,I1,r1,q1⟩=>ig ζ s1 σ H1 x v Q I1 r1 q1) (he _)
def vals1(r:Bg [x] us):∃u,us=[u]/\RelV x u:=by
 cases r with
 | cons r1 r2=>cases r2;exact⟨_,rfl,r1⟩
theorem vals2(r:Bg [x,y] us):∃u w',us=[u,w']/\RelV x u/\RelV y w':=by
 cases r with
 | cons r1 r2=>
  cases r2 with
  | cons r3 r4=>cases r4;exact⟨_,_,rfl,r1,r3⟩
theorem Yt(hc:X.calm=true):Ie X (.builtin "max") (λxs H Q=>∃i j,xs=[.int i,.int j]/\Q (.int (if j > i then j else i)) H):=by
 intro ζ s σ H xs us Q I r h;obtain⟨i,j,rfl,q⟩:=h;obtain⟨u,w',rfl,⟨t,rfl⟩,⟨t',rfl⟩⟩:=vals2 r
 refine max_two_ints (I.ok.hd hc) λh' tk k=>⟨_,H,I.kept k,?_,q⟩
 by_cases hj:j > i
 ·rw[qX hj,qX hj];exact⟨_,rfl⟩
 ·rw[qY hj,qY hj];exact⟨_,rfl⟩
theorem Ys(hc:X.calm=true):Ie X (.builtin "min") (λxs H Q=>∃i j,xs=[.int i,.int j]/\Q (.int (if j < i then j else i)) H):=by
 intro ζ s σ H xs us Q I r h;obtain⟨i,j,rfl,q⟩:=h;obtain⟨u,w',rfl,⟨t,rfl⟩,⟨t',rfl⟩⟩:=vals2 r
 refine min_two_ints (I.ok.hd hc) λh' tk k=>⟨_,H,I.kept k,?_,q⟩
 by_cases hj:j < i
 ·rw[qX hj,qX hj];exact⟨_,rfl⟩
 ·rw[qY hj,qY hj];exact⟨_,rfl⟩
end
structure Yv(h:Cj)(x dx C:AV)(mA:Str->Option AH):Prop where
 obj:h.get? x=some (Do C dx)
 ns:h.Ns1 dx mA
 ne:dx≠x
theorem YS{h:Cj}{dx:AV}{mA:Str->Option AH}(n:h.Ns1 dx mA):∃od,h.get? dx=some od/\∀name,O7 name od=some (mA name):=by
 obtain⟨o,es,ep,ho,hd,hk,_,hm⟩:=n;refine⟨o,ho,λname=>?_⟩;have e:=hm name;unfold nsFind findBy at e;rw[<-Array.find?_toList]at e;unfold O7;rw[hd];dsimp only;split
 ·rename_i y q
  rw[q]at e;exact congrArg some e
 ·rename_i q
  rw[q]at e
  have a:es.toList.any (·.refKey)=false:=by
   rw[ZI];intro y hy;obtain⟨z,t,rg⟩:=hk y (BZ.mp hy);simp[OH.refKey,rg]
  have a':¬es.toList.any (·.refKey)=true:=by rw[a];exact AL
  rw[qY a'];exact congrArg some e
theorem Yv.look{h}{x dx C}{mA}(I:Yv h x dx C mA):∃od,ZD h x (Do C dx) C (some od)/\∀name,O7 name od=some (mA name):=
 let ⟨od,ho,hl⟩:=YS I.ns
 ⟨od,⟨I.obj,rfl,rfl,ho⟩,hl⟩
section
variable{prog:Bp}{w:CF}{A:CB}{E:AH->AQ->Prop}{s:AQ}{K:AG}{x dx C f:AV}{mA:Str->Option AH}{name:Str}{v:AH}
theorem fJ(X:K.In s.heap)(I:Yv s.heap x dx C mA)(hg:Nb K C name=true)(hh:Mr K C=true)
  (ha:Cf K (.ref C) name=some none) (hv:mA name=some v) (tM:Xa v=true) (h:Q v { s with toks:=s.toks+1 }) :
  Aw (Ac prog w) A (getAttr (.ref x) name expr) Q E s:=by
 obtain⟨od,J,hl⟩:=I.look;exact PySem.W.get_value X J (PySem.W.plainGet_of hg).1 (PySem.W.findObj_own hh ha rfl (by rw[hl,hv])) tM h
theorem db(X:K.In s.heap)(I:Yv s.heap x dx C mA)
  (hs:Cf K (.ref C) "__setattr__" = some (some (.builtin "object.__setattr__"))) (hp:WG K C=true) (ht:OX K C name=some none) (hh:Mr K C=true)
  (hw:TK mA ns) (hsz:ns.length<=sizeLine)
  (h:∀h',Yv h' x dx C (λy=>if y=name then some v else mA y)->Ec dx s.heap h'->Q () { s with heap:=h',toks:=s.toks+2 }) :
  Aw (Ac prog w) A (setAttr (.ref x) name v) Q E s:=by
 obtain⟨od,J,hl⟩:=I.look;refine PySem.W.set_plain X J hs (PySem.W.osa_open (s:={ s with toks:=s.toks+1 }) (r:=none) X J hp ht λb=>?_);obtain⟨cd,hc,pd⟩:=PySem.W.any_some hh;have hx:s.heap.get? x=some ⟨.ref C,some dx,.plain,#[]⟩:=I.obj;refine AB (AR (AB (AB (Ur hx (AB (lP (s:={ s with toks:=s.toks+1 }) (PySem.W.looks_clsIn X hc) ?_))))));rw[pd];refine AR (a:=some dx) (AB (AR (AB ?_)))
 refine wpAny_nsSet1 (s:={ s with toks:=s.toks+1 }) I.ns λh' ph pz=>?_
 obtain⟨oD,esD,epD,hoD,hdD,hcD⟩:=ph.count (nk name v hw);refine AB (wpAny_lookBehind hoD (by rw[hdD];exact pastItsLine_dict (Ao hcD (by rw[A8];lia))) ?_);exact AR (h _ ⟨(pz.2 _ (Br I.ne)).trans I.obj,ph,I.ne⟩ pz)
theorem ag(X:K.In s.heap)(hm:Y2 K C=true)
  (hi:Cf K (.ref C) "__init__" = some (some (.ref f))) (hf:Ke K (.ref f)=some (.type "function"))
  (h:L8 (Ac prog w) (A.under (.builtin "type.__call__" ⟨.ref C :: vs,kw⟩)) (.call (.ref f) ⟨.ref (s.heap.objs.size+1) :: vs,kw⟩) (PySem.W.InitBack (s.heap.objs.size+1) R)
   { s with heap:=(s.heap.push Cg).push (Do C s.heap.objs.size) }) :
  L8 (Ac prog w) A (.call (.ref C) ⟨vs,kw⟩) R s:=by
 obtain⟨hh,g,d,t,os⟩:=s;exact PySem.W.make_core (PySem.W.makes_of X hm) (Kf X hi) (λself=>PySem.W.bind_fn X self hf) (.inl rfl) h
end
def putF(f:Str)(v:V):List (Str×V)->List (Str×V)
 | []=>[(f,v)]
 | (g,x) :: r=>if g=f then(g,v) :: r else(g,x) :: putF f v r
theorem OO(f g:Str)(v:V):∀fs:List (Str×V),(putF f v fs).lookup g=if g=f then some v else fs.lookup g
 | []=>by
  show IA g [(f,v)]=_
  by_cases h:g=f
  ·have hb:(g==f)=true:=beq_iff_eq.mpr h
   simp only[IA,hb,qX h]
  ·have hb:(g==f)=false:=beq_eq_false_iff_ne.mpr h
   simp only[IA,hb,qY h]
 | (k,x) :: r=>by
  have ih:=OO f g v r;rw[show putF f v ((k,x) :: r)=(if k=f then(k,v) :: r else(k,x) :: putF f v r)from rfl]
  by_cases hk:k=f
  ·rw[qX hk]
   by_cases h:g=k
   ·have hb:(g==k)=true:=beq_iff_eq.mpr h
    simp only[IA,hb,qX (h.trans hk)]
   ·have hb:(g==k)=false:=beq_eq_false_iff_ne.mpr h
    simp only[IA,hb,qY (λe:g=f=>h (e.trans hk.symm))]
  ·rw[qY hk]
   by_cases h:g=k
   ·have hb:(g==k)=true:=beq_iff_eq.mpr h
    simp only[IA,hb,qY (λe:g=f=>hk (h.symm.trans e))]
   ·have hb:(g==k)=false:=beq_eq_false_iff_ne.mpr h
    simp only[IA,hb];exact ih
theorem N2(f:Str)(v:V):∀fs:List (Str×V),f∈(putF f v fs).map (·.1)/\∀g,g∈fs.map (·.1)->g∈(putF f v fs).map (·.1)
 | []=>⟨by simp[putF],λg h=>by simp at h⟩
 | (k,x) :: r=>by
  obtain⟨i1,i2⟩:=N2 f v r;rw[show putF f v ((k,x) :: r)=(if k=f then(k,v) :: r else(k,x) :: putF f v r)from rfl]
  by_cases hk:k=f
  ·rw[qX hk]
   subst hk;exact⟨by simp,λg h=>by simpa using h⟩
  ·rw[qY hk]
   refine⟨?_,λg h=>?_⟩
   ·rw[BA]
    exact AT _ i1
   ·rw[BA]at h ⊢
    rcases At.mp h with e | e
    ·exact At.mpr (.inl e)
    ·exact AT _ (i2 g e)
theorem OP(f:Str)(v:V):∀fs:List (Str×V),(putF f v fs).length<=fs.length+1
 | []=>by simp[putF]
 | (k,x) :: r=>by
  have ih:=OP f v r;rw[show putF f v ((k,x) :: r)=(if k=f then(k,v) :: r else(k,x) :: putF f v r)from rfl]
  by_cases hk:k=f
  ·rw[qX hk,A8,A8];lia
  ·rw[qY hk,A8,A8];lia
theorem OB.some_of(r:OB (some v) o):∃u,o=some u/\RelV v u:=by
 cases o with
 | none=>exact(show False from r).elim
 | some u=>exact⟨u,rfl,r⟩
theorem Yc(r:RelV v u):Xa u=true:=by
 cases v with
 | non=>cases(show u=BY from r);rfl
 | bl b=>cases(show u=Mp b from r);rfl
 | int i=>obtain⟨t,e⟩:=(show ∃t,u=OV i t from r);cases e;rfl
 | str x=>obtain⟨t,e⟩:=(show ∃t,u=OU x t from r);cases e;rfl
 | byt b=>obtain⟨t,e⟩:=(show ∃t,u=lB b t from r);cases e;rfl
 | flt b=>obtain⟨t,e⟩:=(show ∃t,u=Uy b t from r);cases e;rfl
 | ref a=>cases(show u=Au a from r);rfl
 | ty n=>cases(show u=GY n from r);rfl
section
variable{P:Bp}{w:CF}{H:Hp}{h:Cj}{a C dx:AV}{fs:List (Str×V)}
theorem SU(hok:HOk P w H h)(e:H a=some (.ins C dx fs)):∃mA,Yv h a dx C mA/\(∀f,OB (fs.lookup f) (mA f))/\TK mA (fs.map (·.1))/\fs.length<=1000/\H dx=some (.own a):=by
 obtain⟨d,z,ne,ob,mA,n,r,q⟩:=(show CH P w H h a (.ins C dx fs)from hok a _ e);exact⟨mA,⟨ob,n,ne⟩,r,q,z,d⟩
end
structure Cls(K:AG)(C:AV):Prop where
 pg:Nb K C Ue=true
 hd:Mr K C=true
 po:WG K C=true
 sa:Cf K (.ref C) "__setattr__" = some (some (.builtin "object.__setattr__"))
theorem Cls.get{K}{C}(c:Cls K C)(f:Str):Nb K C f=true:=c.pg
def Ic(K:AG)(C:AV)(f:Str):Prop:=Cf K (.ref C) f=some none
theorem Ic.taker{K}{C}{f}(n:Ic K C f):OX K C f=some none:=by
 unfold OX;rw[show Cf K (.ref C) f=some none from n];rfl
section
variable{X:Cx}{ζ:List (AV×Obj)}{σ:St}{H:Hp}{s:AQ}{a C dx:AV}{fs:List (Str×V)}{f:Str}{v:V}{A:CB}{E:AH->AQ->Prop}
theorem Vv(I:Inv X ζ σ H s)(e:H a=some (.ins C dx fs))(c:Cls X.K C)(n:Ic X.K C f)(l:fs.lookup f=some v)
  (h:∀u s',Inv X ζ σ H s'->RelV v u->Q u s'):Aw (Ac X.prog X.w) A (getAttr (.ref a) f b) Q E s:=by
 obtain⟨mA,O,r,_,_,_⟩:=SU I.hok e;obtain⟨u,hu,ru⟩:=OB.some_of (v:=v) (o:=mA f) (by rw[<-l];exact r f);exact fJ I.kIn O (c.get f) c.hd n hu (Yc ru) (h u _ (I.tok _) ru)
theorem VZ(I:Inv X ζ σ H s)(e:H a=some (.ins C dx fs))(c:Cls X.K C)(n:Ic X.K C f)(hl:fs.length < 1000)(ry:RelV y u)
  (h:∀s',Inv X ζ σ (upd H a (.ins C dx (putF f y fs))) s'->Q () s'):Aw (Ac X.prog X.w) A (setAttr (.ref a) f u) Q E s:=by
 obtain⟨mA,O,r,wi,_,ho⟩:=SU I.hok e
 have hz:(fs.map (·.1)).length<=sizeLine:=by rw[AE,Sz];lia
 refine db I.kIn O c.sa c.po n.taker c.hd wi hz λh' O' sb=>h _ ?_
 have hd:∃o,h'.get? dx=some o:=let ⟨o,_,_,e',_⟩:=O'.ns;⟨o,e'⟩
 refine I.write (x:=a) (e:=dx) (by rw[e];exact Cu) (.inr ho) (λb q hb z=>(sb.2 b hb).trans z) hd ?_;refine⟨by rw[BN O.ne];exact ho,?_,O.ne,O'.obj,_,O'.ns,λg=>?_,λg hg=>?_⟩
 ·have:=OP f y fs;lia
 ·show OB ((putF f y fs).lookup g) (if g=f then some u else mA g)
  rw[OO]
  by_cases q:g=f
  ·rw[qX q,qX q];exact ry
  ·rw[qY q,qY q];exact r g
 ·by_cases q:g=f
  ·rw[q];exact(N2 f y fs).1
  ·refine(N2 f y fs).2 g (wi g λz=>hg ?_)
   show(if g=f then some u else mA g)=none;rw[qY q];exact z
theorem Inv.made(I:Inv X ζ σ H s):Inv X ζ σ (upd (upd H s.heap.objs.size (.own (s.heap.objs.size+1))) (s.heap.objs.size+1) (.ins C s.heap.objs.size []))
  { s with heap:=(s.heap.push Cg).push (Do C s.heap.objs.size) }:=by
 have e1:(s.heap.push Cg).get? s.heap.objs.size=some Cg:=Al s.heap rfl
 have e2:((s.heap.push Cg).push (Do C s.heap.objs.size)).get? (s.heap.objs.size+1)=some (Do C s.heap.objs.size):=by
  have:=Al (s.heap.push Cg) (o:=Do C s.heap.objs.size) rfl;rwa [Dk]at this
 have e3:(s.heap.push Cg).Ns s.heap.objs.size (λ_=>none):=⟨Cg,#[],_,e1,rfl,(λe he=>zX he (by simp)),λ_=>rfl⟩;have I1:=I.laid (a:=s.heap.objs.size) (o:=.own (s.heap.objs.size+1)) (h':=s.heap.push Cg) (t':=s.toks) (λb u q=>AK _ q) (AN _) ⟨_,e1⟩;refine I1.laid (a:=s.heap.objs.size+1) (o:=.ins C s.heap.objs.size []) (t':=s.toks) (λb u q=>AK _ q) (U1 (Dk _ _)) ?_;have ne:s.heap.objs.size≠s.heap.objs.size+1:=A0 (Cy _);refine⟨by rw[BN ne,Bb],DK _,ne,e2,λ_=>none,(Cj.Ns1.of_empty e3).at λo q=>AK _ q,λ_=>Cu,λy hy=>zX rfl hy⟩
theorem fv(hb:Cp e f env (B4 e env)=B4 e env)
  (h:Aw (Ac prog w) A (B4 e env) (λo s₁=>Aw (Ac prog w) A (getAttr o f true) Q E s₁) E s):Aw (Ac prog w) A (B4 (.Attribute e f pos) env) Q E s:=
 Attribute_any_ h (by rw[arm_eval_Attribute,hb])
end
def tFld(K:AG)(ta:TE)(f:Str):TE:=λσ H Q=>ta σ H λx H1=>∃a C dx fs v,x=.ref a/\H1 a=some (.ins C dx fs)/\Cls K C/\Ic K C f/\fs.lookup f=some v/\Q v H1
def sFld(K:AG)(ta tv:TE)(f:Str):TS:=λD σ H=>tv σ H λy H1=>ta σ H1 λx H2=>∃a C dx fs,x=.ref a/\H2 a=some (.ins C dx fs)/\Cls K C/\Ic K C f/\fs.length < 1000 /\
 D.nx σ (upd H2 a (.ins C dx (putF f y fs)))
section
variable{X:Cx}{o e value:Expr}{f:Str}{pos pos':Pos}{ta tv:TE}
theorem jL(he:PE X e ta)(hb:Cp e f X.env (B4 e X.env)=B4 e X.env):PE X (.Attribute e f pos) (tFld X.K ta f):=by
 intro ζ s σ H Q I h;refine fv hb (thn (he ζ s σ H _ I h) λu s1 ⟨x,H1,I1,rx,a,C,dx,fs,v,ex,ea,c,n,l,q⟩=>?_);subst ex;obtain rfl:u=Au a:=rx
 exact Vv I1 ea c n l λu' s2 I2 ru=>⟨v,H1,I2,ru,q⟩
theorem jB(ha:PE X o ta)(hv:PE X value tv)(hs:GX value (some (.Attribute o f pos')) pos.line X.env=pure false):PS X (.Assign [.Attribute o f pos'] value pos) (sFld X.K ta tv f):=by
 intro ζ s σ H D I h;refine plainObj_wpAny_Assign_Attribute (thn (hv ζ s σ H _ I h) λu s1 ⟨y,H1,I1,ry,q⟩=>thn (ha ζ s1 σ H1 _ I1 q) λov s2 ⟨x,H2,I2,rx,a,C,dx,fs,ex,ea,c,n,l,q2⟩=>?_) hs;subst ex;obtain rfl:ov=Au a:=rx
 exact VZ I2 ea c n l ry λs3 I3=>⟨σ,_,I3,q2⟩
end
section
variable{X:Cx}{ζ:List (AV×Obj)}{σ:St}{H:Hp}{s:AQ}{A:CB}{E:AH->AQ->Prop}{Q:AH->AQ->Prop}{c:AH}{b:Bool}
inductive NV(K:AG)(H:Hp):V->AH->Prop where
 | non:NV K H .non (.type "NoneType")
 | bl (x:Bool):NV K H (.bl x) (.type "bool")
 | int (i:Int):NV K H (.int i) (.type "int")
 | str (x:Str):NV K H (.str x) (.type "str")
 | flt (x:UInt64):NV K H (.flt x) (.type "float")
 | lst {a:AV} {xs:List V} (e:H a=some (.lst xs)):NV K H (.ref a) (.type "list")
 | frz {a:AV} {o:Obj} {xs:List V} (e:H a=some (.frz o (.lst xs))):NV K H (.ref a) (.type "list")
 | tup {a:AV} {xs:List V} (e:H a=some (.tup xs)):NV K H (.ref a) (.type "tuple")
 | dK {a:AV} {kvs:List (Key×V)} (e:H a=some (.dK kvs)):NV K H (.ref a) (.type "dict")
 | dT {a:AV} {kvs:List (List Key×V)} (e:H a=some (.dT kvs)):NV K H (.ref a) (.type "dict")
 | ins {a C dx:AV} {fs:List (Str×V)} (e:H a=some (.ins C dx fs)) (cl:Cls K C) (ha:Cf K (.ref C) "__class__" = some (some (.builtin "object.__class__")))
   (hn:WF K (.builtin "object.__class__") "__get__" = some (some (.builtin "getset_descriptor.__get__"))) (θ:Y1 K (.builtin "object.__class__")=some true)
   (hm:Li K C (.type "object")=some true):NV K H (.ref a) (.ref C)
theorem YY(I:Inv X ζ σ H s)(rx:RelV x u)(ty:NV X.K H x t)(e:Bt X.K t c=some b)(h:∀tk,Q (.bool b) { s with toks:=tk }) :
  Aw (Ac X.prog X.w) A (call (.builtin "isinstance") [u,c]) Q E s:=by
 cases ty with
 | non=>cases(show u=BY from rx);exact CI PySem.W.kitx_none I.kIn Cu e (λz=>nomatch z) h
 | bl y=>cases(show u=Mp y from rx);exact CI PySem.W.kitx_bool I.kIn Cu e (λz=>nomatch z) h
 | int i=>obtain⟨t,q⟩:=(show ∃t,u=OV i t from rx);cases q;exact CI PySem.W.kitx_int I.kIn Cu e (λz=>nomatch z) h
 | str y=>obtain⟨t,q⟩:=(show ∃t,u=OU y t from rx);cases q;exact CI PySem.W.kitx_str I.kIn Cu e (λz=>nomatch z) h
 | flt y=>obtain⟨t,q⟩:=(show ∃t,u=Uy y t from rx);cases q;exact CI PySem.W.kitx_float I.kIn Cu e (λz=>nomatch z) h
 | @lst a xs ea=>
  cases(show u=Au a from rx);obtain⟨_,_,n,_,h1⟩:=(show CH X.prog X.w H s.heap a (.lst xs)from I.hok a _ ea);exact CI WH I.kIn ⟨_,h1,rfl⟩ e (λz=>nomatch z) h
 | @frz a ob xs ea=>
  cases(show u=Au a from rx);obtain⟨_,_,_,n,_,h1⟩:=(show CH X.prog X.w H s.heap a (.frz ob (.lst xs))from I.hok a _ ea);exact CI WH I.kIn ⟨_,h1,rfl⟩ e (λz=>nomatch z) h
 | @tup a xs ea=>
  cases(show u=Au a from rx);obtain⟨_,_,_,p⟩:=(show CH X.prog X.w H s.heap a (.tup xs)from I.hok a _ ea);obtain⟨o,h1,h2,_⟩:=p;exact CI PySem.W.kitx_tuple I.kIn ⟨o,h1,h2⟩ e (λz=>nomatch z) h
 | @dK a kvs ea=>
  cases(show u=Au a from rx);obtain⟨_,_,vs,_,p⟩:=(show CH X.prog X.w H s.heap a (.dK kvs)from I.hok a _ ea);obtain⟨o,es,ep,h1,h2,_⟩:=p;exact CI WI I.kIn ⟨o,h1,h2.1⟩ e (λz=>nomatch z) h
 | @dT a kvs ea=>
  cases(show u=Au a from rx);obtain⟨_,_,xs,_,o,es,ep,h1,h2,_⟩:=(show CH X.prog X.w H s.heap a (.dT kvs)from I.hok a _ ea);exact CI WI I.kIn ⟨o,h1,h2.1⟩ e (λz=>nomatch z) h
 | @ins a C dx fs ea cl ha hn θ hm=>
  cases(show u=Au a from rx);obtain⟨mA,O,_⟩:=SU I.hok ea;obtain⟨od,J,_⟩:=O.look;exact CI (PySem.W.kitx_own (cl.get _) cl.hd ha hn θ hm) I.kIn J e (λz=>nomatch z) h
end
structure Hy(k:Nat)(A:CB):Prop where
 hd:A.handled=none
 dp:A.depth+3 * k+5 < recursionLimit
 un:A.units+16 * k+200 < EA
theorem Hy.mono(r:Hy k A)(h:j<=k):Hy j A:=⟨r.hd,by have:=r.dp;lia,by have:=r.un;lia⟩
theorem Hy.deeper(r:Hy (k+1) A)(env:Env):Hy k (A.deeper env):=
 ⟨r.hd,by have:=r.dp;show A.depth+1+3 * k+5 < _;lia,by have:=r.un;show A.units+3+16 * k+200 < _;lia⟩
theorem Vn{A:CB}{C:AV}{us:List AH}{kw:List (Str×AH)}:(A.under (.builtin "type.__call__" ⟨.ref C :: us,kw⟩)).depth=A.depth+1:=by
 first | rfl | simp[TD,Code.weight,Code.isCreation,Code.isGuard,Code.isCaller,lT,Uo,guardIds]
theorem Vm{A:CB}{C:AV}{us:List AH}{kw:List (Str×AH)}:(A.under (.builtin "type.__call__" ⟨.ref C :: us,kw⟩)).units=A.units+1:=by
 first | rfl | simp[TD,Code.cUnits,lT,Uo]
theorem Hy.make{k}{A}(r:Hy (k+1) A)(C:AV)(us:List AH)(kw:List (Str×AH)):Hy k (A.under (.builtin "type.__call__" ⟨.ref C :: us,kw⟩)):=
 ⟨r.hd,by have:=r.dp;rw[Vn];lia,by have:=r.un;rw[Vm];lia⟩
theorem Hy.depth(r:Hy k A):A.depth < recursionLimit:=by have:=r.dp;lia
theorem Hy.units(r:Hy k A):A.units+64 < EA:=by have:=r.un;lia
def tNil:TA:=λ_ H Q=>Q [] H
def ll(ta:TE)(tr:TA):TA:=λσ H Q=>ta σ H λx H1=>tr σ H1 λxs H2=>Q (x :: xs) H2
section
variable{X:Cx}{e:Expr}{es:List Expr}{te:TE}{t:TA}{pos:Pos}
theorem Hu:PA X [] tNil:=λ_ _ _ _ H Q I h=>Nf ⟨[],H,I,.nil,h⟩
theorem Ew(ha:PE X e te)(hr:PA X es t)(hs:Aa (e :: es) X.env=(false,B4 e X.env) :: Aa es X.env:=by rfl):PA X (e :: es) (ll te t):=by
 intro pos ζ s σ H Q I h;rw[hs];show Aw _ _ (spliced ((false,B4 e X.env) :: Dw pos (Aa es X.env))) _ _ s;refine Ms (thn (ha ζ s σ H _ I h) λu s1 ⟨x,H1,I1,r1,q1⟩=>?_)
 exact thn (hr pos ζ s1 σ H1 _ I1 q1) λus s2 ⟨xs,H2,I2,r2,q2⟩=>⟨x :: xs,H2,I2,.cons r1 r2,q2⟩
def tTup(t:TA):TE:=λσ H Q=>t σ H λxs H1=>xs.length<=sizeLine/\∀p,H1 p=none->Q (.ref p) (upd H1 p (.tup xs))
def tLst(t:TA):TE:=λσ H Q=>t σ H λxs H1=>xs.length<=sizeLine/\∀p,H1 p=none->Q (.ref p) (upd H1 p (.lst xs))
theorem aD{x1}(h:PA X es t):PE X (.Tuple es x1 pos) (tTup t):=by
 intro ζ s σ H Q I hq;refine wpAny_Tuple_spliced (thn (h pos ζ s σ H _ I hq) λus s1 ⟨xs,H1,I1,r,z,q⟩=>⟨by rw[<-r.length];exact z,?_⟩);have hf:H1 s1.heap.objs.size=none:=I1.hok.fresh (AN _);refine⟨.ref s1.heap.objs.size,upd H1 s1.heap.objs.size (.tup xs),I1.laid (t':=s1.toks) (λb u e=>AK _ e) (AN _) ?_,rfl,q _ hf⟩;exact⟨⟨z,⟨_,Al _ rfl,rfl⟩⟩,us,r,⟨_,Al _ rfl,rfl,_,rfl⟩⟩
theorem jJ(h:PA X es t):PE X (.List es pos) (tLst t):=by
 intro ζ s σ H Q I hq;refine wpAny_List_spliced (thn (h pos ζ s σ H _ I hq) λus s1 ⟨xs,H1,I1,r,z,q⟩=>⟨by rw[<-r.length];exact z,?_⟩);have hf:H1 s1.heap.objs.size=none:=I1.hok.fresh (AN _);refine⟨.ref s1.heap.objs.size,upd H1 s1.heap.objs.size (.lst xs),I1.laid (t':=s1.toks) (λb u e=>AK _ e) (AN _) ?_,rfl,q _ hf⟩;exact⟨z,us,0,r,Al _ rfl⟩
end
abbrev Sp:=List V->Hp->VK->XK->Prop
abbrev CXT:=List Env->Hp->AQ->XK->AH->AQ->Prop
structure WB(P:Bp)(w:CF)(K:AG)(mg:Str->Option AH)(base:Cj)(A:CB)(outer:List Env)(s:AQ)(H:Hp):Prop where
 frames:A.frames=some outer
 mod:Mod K mg base
 bs:∀b o,base.get? b=some o->s.heap.get? b=some o/\H b=none
 bsz:base.objs.size<=s.heap.objs.size
 funs:s.heap.FunFrames base outer
 frf:∀b∈frs outer,H b=none
 hok:HOk P w H s.heap
 bare:Ii s.gens
def CE(outer:List Env)(P:Bp)(w:CF)(H:Hp)(s:AQ)(Q:VK)(u:AH)(s':AQ):Prop:=
 ∃v H',s'.os=s.os/\Ii s'.gens/\Un (frs outer) [] H H' s.heap s'.heap/\HOk P w H' s'.heap/\RelV v u/\Q v H'
def CR(CX:CXT)(outer:List Env)(P:Bp)(w:CF)(H:Hp)(s:AQ)(Q:VK)(E:XK)(r:Result)(s':AQ):Prop:=
 match r with
 | .ok (.ret u)=>CE outer P w H s Q u s'
 | .ok _=>False
 | .error e=>CX outer H s E e s'
structure D0(P:Bp)(w:CF)(K:AG)(mg:Str->Option AH)(base:Cj)(CX:CXT)(k:Nat)(f:AV)(fd:LY)(ps:List Str)(sp:Sp):Prop where
 len:∀vs H Q E,sp vs H Q E->vs.length=ps.length
 run:∀(A:CB) (outer:List Env) (s:AQ) (H:Hp) (args:Args) (us:List AH) (vs:List V) (Q:VK) (E:XK),Hy k A->WB P w K mg base A outer s H->Uq s fd args (ps.zip us)->Bg vs us->sp vs H Q E ->
  L8 (Ac P w) A (.call (.ref f) args) (CR CX outer P w H s Q E) s
theorem D0.imp{P}{w}{K}{mg}{base}{CX}{k}{f}{fd}{ps}{sp sp'}(F:D0 P w K mg base CX k f fd ps sp)
  (h:∀vs H Q E,sp' vs H Q E->sp vs H Q E):D0 P w K mg base CX k f fd ps sp':=
 ⟨λvs H Q E q=>F.len vs H Q E (h _ _ _ _ q),λA outer s H args us vs Q E hr he hb hv hs=>F.run A outer s H args us vs Q E hr he hb hv (h _ _ _ _ hs)⟩
theorem WB.make{P}{w}{K}{mg}{base}{A}{outer}{s}{H}(e:WB P w K mg base A outer s H)(C:AV)(us:List AH)(kw:List (Str×AH)) :
  WB P w K mg base (A.under (.builtin "type.__call__" ⟨.ref C :: us,kw⟩)) outer s H:=⟨by first | exact e.frames | (simpa[TD,Code.envs,Uo,pushEnvs]using e.frames),e.mod,e.bs,e.bsz,e.funs,e.frf,e.hok,e.bare⟩
section
variable{X:Cx}{ζ:List (AV×Obj)}{σ:St}{H:Hp}{s s':AQ}
theorem Inv.env0(I:Inv X ζ σ H s):WB X.prog X.w X.K X.mg X.base X.A X.stack s H:=
 ⟨I.ok.frames,I.ok.mod,I.bs,Ao I.ok.bsz I.sz,I.stack,I.stkFree,I.hok,I.bare⟩
theorem Inv.after(I:Inv X ζ σ H s)(h:CE X.stack X.prog X.w H s Q u s'):EP X ζ σ Q u s':=by
 obtain⟨v,H',os,bare,un,hok,r,q⟩:=h;obtain⟨hh,g,d,t,os'⟩:=s';obtain rfl:os'=s.os:=os;exact⟨v,H',I.call (h':=hh) (g':=g) (d':=d) (t':=t) (ch:=[]) un hok bare (λb z=>zX z (by simp)),r,q⟩
end
def lm(sp:Sp)(qo:List V)(E:St->XK)(t:TA):TE:=λσ H Q=>t σ H λvs H1=>sp (vs++qo) H1 Q (E σ)
def lb(C:AV)(sp:Sp)(qo:List V)(E:St->XK)(t:TA):TE:=λσ H Q=>t σ H λvs H1=>∀x dx,H1 x=none->H1 dx=none->dx≠x ->
 sp (.ref x :: (vs++qo)) (upd (upd H1 dx (.own x)) x (.ins C dx [])) (λv H2=>v=.non/\Q (.ref x) H2) (E σ)
def Binds(K:AG)(fd:LY)(ps:List Str)(ds:List AH):Prop:=
 ∀(s:AQ) (us:List AH),K.In s.heap->(us++ds).length=ps.length->Uq s fd ⟨us,[]⟩ (ps.zip (us++ds))
theorem Binds.all{K}{fd}{ps}(h:∀us:List AH,us.length=ps.length->bindArgs fd ⟨us,[]⟩=pure (ps.zip us)):Binds K fd ps []:=λs us _ hl=>by
 rw[BE]at hl ⊢;exact .of_eq (h us hl)
def Mf(CX:CXT)(X:Cx)(E:St->XK):Prop:=∀(ζ:List (AV×Obj)) (σ:St) (H:Hp) (s:AQ) (e:AH) (s':AQ),Inv X ζ σ H s->CX X.stack H s (E σ) e s'->X.xe e s'
section
variable{X:Cx}{k:Nat}{f C:AV}{fd:LY}{ps:List Str}{sp:Sp}{E:St->XK}{x:Str}{p pos:Pos}{e:Expr}{es:List Expr}{t:TA}
theorem iz(F:D0 X.prog X.w X.K X.mg X.base CX k f fd ps sp)(hr:Hy k X.A)(hb:Binds X.K fd ps ds)(hd:Bg qo ds)(hx:Mf CX X E)
  (I:Inv X ζ σ H s) (r:Bg vs us) (h:sp (vs++qo) H Q (E σ)):Aw (Ac X.prog X.w) X.A (call (.ref f) us) (EP X ζ σ Q) X.xe s:=by
 have r2:Bg (vs++qo) (us++ds):=r.append hd
 have hl:(us++ds).length=ps.length:=by rw[<-r2.length];exact F.len _ _ _ _ h
 refine Us (Qa (F.run X.A X.stack s H ⟨us,[]⟩ (us++ds) (vs++qo) Q (E σ) hr I.env0 (hb s us I.kIn hl) r2 h) λr s' hq=>?_)
 cases r with
 | error e=>exact hx ζ σ H s e s' I hq
 | ok fl=>
  cases fl with
  | ret u=>exact I.after hq
  | next=>exact D7 hq
  | brk=>exact D7 hq
  | cont=>exact D7 hq
theorem eN(F:D0 X.prog X.w X.K X.mg X.base CX k f fd ps sp)(hr:Hy k X.A)(hg:Gl X x)(hm:X.mg x=some (.ref f))(hk:Gf X.K (.ref f)=true)(hb:Binds X.K fd ps ds)(hd:Bg qo ds)(hx:Mf CX X E)
  (ha:PA X (e :: es) t) (pG:(x==("__debug__" : Str))=false:=by decide) (he:Aa (e :: es) X.env=(false,B4 e X.env) :: Aa es X.env:=by rfl) (p0:(Dw pos (Aa es X.env)).any (·.1)=false:=by rfl) :
  PE X (.Call (.Name x p) (e :: es) [] pos) (lm sp qo E t):=by
 intro ζ s σ H Q I h;refine HC (NG I hg hm ?_ pG);refine U0 (h₀:=X.base) I.ok.mod.kin hk (thn (ha pos ζ s σ H _ I h) λus s1 ⟨vs,H1,I1,r,q⟩=>⟨I1.kIn,?_⟩) he p0;exact iz F hr hb hd hx I1 r q
structure Mk(K:AG)(C f:AV):Prop where
 makes:Y2 K C=true
 init:Cf K (.ref C) "__init__" = some (some (.ref f))
 fn:PySem.W.isFn K (.ref f)=true
 kp:Gf K (.ref C)=true
theorem Zv(M:Mk X.K C f)(F:D0 X.prog X.w X.K X.mg X.base CX k f fd ps sp)(hr:Hy (k+1) X.A)(hb:Binds X.K fd ps ds)(hd:Bg qo ds)
  (hx:Mf CX X E) (I:Inv X ζ σ H s) (r:Bg vs us)
  (h:∀x dx,H x=none->H dx=none->dx≠x->sp (.ref x :: (vs++qo)) (upd (upd H dx (.own x)) x (.ins C dx [])) (λv H2=>v=.non/\Q (.ref x) H2) (E σ)) :
  Aw (Ac X.prog X.w) X.A (call (.ref C) us) (EP X ζ σ Q) X.xe s:=by
 have hq:=h (s.heap.objs.size+1) s.heap.objs.size (I.hok.fresh (ID _)) (I.hok.fresh (AN _)) (A0 (Cy _));have I2:=Inv.made (C:=C) I;have r2:Bg (V.ref (s.heap.objs.size+1) :: (vs++qo)) (Au (s.heap.objs.size+1) :: (us++ds)):=.cons rfl (r.append hd)
 have hl:(Au (s.heap.objs.size+1) :: us++ds).length=ps.length:=by
  have e:=r2.length;rw[F.len _ _ _ _ hq]at e;exact e.symm
 refine Us (ag (f:=f) I.kIn M.makes M.init (beq_iff_eq.mp M.fn) (Qa (F.run _ X.stack _ _ ⟨Au (s.heap.objs.size+1) :: us,[]⟩ (Au (s.heap.objs.size+1) :: (us++ds)) _ _ (E σ) (hr.make C us [])
  (I2.env0.make C us []) (hb _ (Au (s.heap.objs.size+1) :: us) I2.kIn hl) r2 hq) λr s' tO=>?_))
 cases r with
 | error e=>exact hx ζ σ _ _ e s' I2 tO
 | ok fl=>
  cases fl with
  | ret u=>
   obtain⟨v,H',I3,rv,ev,q3⟩:=I2.after tO;subst ev;exact⟨rv,⟨V.ref (s.heap.objs.size+1),H',I3,rfl,q3⟩⟩
  | next=>exact D7 tO
  | brk=>exact D7 tO
  | cont=>exact D7 tO
theorem eE(M:Mk X.K C f)(F:D0 X.prog X.w X.K X.mg X.base CX k f fd ps sp)(hr:Hy (k+1) X.A)(hg:Gl X x)(hm:X.mg x=some (.ref C))(hb:Binds X.K fd ps ds)(hd:Bg qo ds)(hx:Mf CX X E)
  (ha:PA X (e :: es) t) (pG:(x==("__debug__" : Str))=false:=by decide) (he:Aa (e :: es) X.env=(false,B4 e X.env) :: Aa es X.env:=by rfl) (p0:(Dw pos (Aa es X.env)).any (·.1)=false:=by rfl) :
  PE X (.Call (.Name x p) (e :: es) [] pos) (lb C sp qo E t):=by
 intro ζ s σ H Q I h;refine HC (NG I hg hm ?_ pG);refine U0 (h₀:=X.base) I.ok.mod.kin M.kp (thn (ha pos ζ s σ H _ I h) λus s1 ⟨vs,H1,I1,r,q⟩=>⟨I1.kIn,?_⟩) he p0;exact Zv M F hr hb hd hx I1 r q
end
structure B3(N P:List Str)(sc:Qd):Prop where
 kind:sc.kind=.function
 co:sc.isCoroutine=false
 gen:sc.isGenerator=false
 nd:N.Nodup
 pre:N.take P.length=P
 par:∀x∈P,sc.names.lookup x=some .local∨sc.names.lookup x=some .cell
 nofree:∀y∈sc.names,y.2≠.free
theorem Ra{kindOf}{x}:∀{binds:List (Str×AH)} {m:Str->Option AH},(∀v,(x,v)∉binds)->Yy kindOf binds m x=m x
 | [],_,_=>rfl
 | (n,v) :: r,m,h=>by
  unfold Yy;rw[Ra λw hw=>h w (AT _ hw)];split
  ·have:x≠n:=by rintro rfl;exact h v Aq
   simp[this]
  ·rfl
theorem Rc{kindOf}{x}:∀{binds:List (Str×AH)} {m:Str->Option AH},(∀v,(x,v)∉binds)->Yz kindOf binds m x=m x
 | [],_,_=>rfl
 | (n,v) :: r,m,h=>by
  unfold Yz;rw[Rc λw hw=>h w (AT _ hw)];split
  ·rfl
  ·have:x≠n:=by rintro rfl;exact h v Aq
   simp[this]
theorem Rb{kindOf}{x}{v}:∀{P:List Str} {vs:List AH} {i:Nat} {m:Str->Option AH},P.Nodup->P[i]?=some x->vs[i]?=some v->kindOf x=some .local ->
  Yy kindOf (P.zip vs) m x=some v
 | [],_,_,_,_,h,_,_=>by simp at h
 | _ :: _,[],_,_,_,_,h,_=>by simp at h
 | p :: P,w :: vs,0,m,nd,h1,h2,hk=>by
  simp at h1 h2;subst h1;subst h2;show Yy kindOf ((p,w) :: P.zip vs) m p=_;unfold Yy;rw[Ra λv hv=>(CK.mp nd).1 (QV hv).1,qX hk];simp
 | p :: P,w :: vs,i+1,m,nd,h1,h2,hk=>by
  show Yy kindOf ((p,w) :: P.zip vs) m x=_;unfold Yy;exact Rb (i:=i) (CK.mp nd).2 (by simpa using h1) (by simpa using h2) hk
theorem Re{kindOf}{x}{v}:∀{P:List Str} {vs:List AH} {i:Nat} {m:Str->Option AH},P.Nodup->P[i]?=some x->vs[i]?=some v->kindOf x≠some .local ->
  Yz kindOf (P.zip vs) m x=some v
 | [],_,_,_,_,h,_,_=>by simp at h
 | _ :: _,[],_,_,_,_,h,_=>by simp at h
 | p :: P,w :: vs,0,m,nd,h1,h2,hk=>by
  simp at h1 h2;subst h1;subst h2;show Yz kindOf ((p,w) :: P.zip vs) m p=_;unfold Yz;rw[Rc λv hv=>(CK.mp nd).1 (QV hv).1,qY hk];simp
 | p :: P,w :: vs,i+1,m,nd,h1,h2,hk=>by
  show Yz kindOf ((p,w) :: P.zip vs) m x=_;unfold Yz;exact Re (i:=i) (CK.mp nd).2 (by simpa using h1) (by simpa using h2) hk
def start(N:List Str)(vs:List V):St:=vs.map some++Ak (N.length - vs.length) none
def Sg(CX:CXT)(P:Bp)(w:CF)(K:AG)(mg:Str->Option AH)(base:Cj)(N:List Str)(qual:Str)(scope:Qd)(f:AV)(cd:AH)(A:CB)(outer:List Env)(s:AQ)(H:Hp)(E:XK):Cx where
 prog:=P
 w:=w
 K:=K
 mg:=mg
 base:=base
 A:=A.deeper (L6 qual scope s.heap.objs.size f cd)
 N:=N
 s₀:=s
 H₀:=H
 env:=L6 qual scope s.heap.objs.size f cd
 outer:=outer
 stack:=L6 qual scope s.heap.objs.size f cd :: outer
 ex:=[]
 calm:=true
 fn:=λ_=>true
 pn:=[]
 xe:=λe s'=>Aw (Ac P w) (A.deeper (L6 qual scope s.heap.objs.size f cd)) (leaving (L6 qual scope s.heap.objs.size f cd) e) (λ_ sg=>CX outer H s E e sg) (λe' sg=>CX outer H s E e' sg) s'
theorem UX{sc:Qd}{n:Nat}{x:Str}(h:sc.names.lookup x=some .cell):∃c,(B7 n sc.names []).lookup x=some c:=by
 have q:=Rp sc.names n [] (.inl h);exact Fu.mp q
theorem YZ{CX:CXT}{P:Bp}{w:CF}{K:AG}{mg:Str->Option AH}{base:Cj}{N ps:List Str}{qual:Str}{scope:Qd}{f:AV}{cd:AH}{A:CB}{outer:List Env}{s s1:AQ}{H:Hp}{E:XK}{us:List AH}{vs:List V}
  (S:B3 N ps scope) (hd:A.handled=none) (e0:WB P w K mg base A outer s H) (hl:vs.length=ps.length) (r:Bg vs us)
  (x:InCallC s s.heap.objs.size (Yy (L6 qual scope s.heap.objs.size f cd).kindOf (ps.zip us) λ_=>none) (B7 (s.heap.objs.size+1) scope.names []) (Yz (L6 qual scope s.heap.objs.size f cd).kindOf (ps.zip us) λ_=>none) s1) :
  Inv (Sg CX P w K mg base N qual scope f cd A outer s H E) [] (start N vs) H s1:=by
 have p0:ps.length<=N.length:=by have:=congrArg Gg S.pre;rw[EM]at this;lia
 obtain⟨h1,tk,rfl,hk⟩:=x.done
 have tP:∀b:AV,b∉(Sg CX P w K mg base N qual scope f cd A outer s H E).ex:=λb z=>zX (show b∈([]:List AV)from z) (by simp)
 refine⟨⟨e0.mod,S.kind,rfl,rfl,AN _,λy z c h1 h2=>?_,λy hy=>?_,λy c _ h=>?_,λ_=>hd,CB.frames_deeper e0.frames,.inr ⟨rfl,rfl⟩,λb z=>zX z (tP b),e0.bs,e0.bsz,λb _ _=>tP b,λb z=>zX z (tP b),e0.funs,e0.frf⟩,
  rfl,e0.bare,Un.kept hk,⟨_,x.toInCall.ns,λi y v h1 h2 h3=>?_⟩,λy c h=>⟨_,x.cell y c h⟩,e0.hok.fresh (AN _),λy c h=>?_,λp hp=>zX (show p∈([]:List (AV×Obj))from hp) (by simp),e0.hok.kept hk,?_⟩
 ·exact name_of_addr x.apart (DQ h1) (DQ h2)
 ·have hy:scope.names.lookup y=some .cell∨scope.names.lookup y=some .free:=hy
  rcases hy with hy | hy
  ·exact UX hy
  ·exact zX rfl (S.nofree _ (DQ hy))
 ·exact Kh (x.above y c (DQ h))
 ·have hi:i < vs.length:=by
   unfold start at h2
   by_cases hi:i < vs.length
   ·exact hi
   ·rw[BB (by simpa using hi)]at h2
    rw[DN]at h2
    split at h2 <;> cases h2
  have ha:vs[i]?=some v:=by
   unfold start at h2;rw[Ag (by simpa using hi),AS]at h2
   cases e:vs[i]? with
   | none=>rw[e]at h2;cases h2
   | some a=>rw[e]at h2;cases h2;rfl
  obtain⟨u,hu,rv⟩:=r.get ha
  have hp:ps[i]?=some y:=by
   rw[<-S.pre,TB (by lia)];exact h1
  have ι:ps.Nodup:=by rw[<-S.pre];exact S.nd.sublist (ZE _ _)
  refine⟨u,rv,?_⟩
  rcases S.par y (BK hp)with k | k
  ·exact .inl ⟨k,Rb ι hp hu k⟩
  ·obtain⟨c,e⟩:=UX (n:=s.heap.objs.size+1) k
   refine .inr ⟨.inl k,c,e,?_⟩;have q:=x.cell y c e;rw[Re ι hp hu (by show scope.names.lookup y≠_;rw[k];decide)]at q;exact q
 ·exact e0.hok.fresh (Kh (x.above y c (DQ h)))
 ·unfold start
  show _=N.length;rw[Ad,AE,LL]
  lia
theorem nL{CX}{P}{w}{K}{mg}{base}{k}{f}{name qual}{params}{body}{scope}{dV kV doc pm oZ ct oc}{an od}
  {rS} {N ps} {sp} (lk:K.lookup f=some ⟨oc,od,.func (IC name qual params body scope dV kV doc pm an oZ ct),rS⟩) (qe:O8 K oZ qual=true) (S:B3 N ps scope)
  (len:∀vs H Q E,sp vs H Q E->vs.length=ps.length)
  (pW:∀(A:CB) (outer:List Env) (s:AQ) (H:Hp) (vs:List V) (Q:VK) (E:XK),Hy k (A.deeper (L6 qual scope s.heap.objs.size f oZ))->sp vs H Q E ->
   ∃t,PSs (Sg CX P w K mg base N qual scope f oZ A outer s H E) body t/\t { nx:=λ_ H'=>Q .non H',rt:=Q } (start N vs) H) :
  D0 P w K mg base CX (k+1) f (IC name qual params body scope dV kV doc pm an oZ ct) ps sp:=by
 refine⟨len,λA outer s H args us vs Q E hr e0 hb r qu=>?_⟩;have hl:=len _ _ _ _ qu
 have KX:K.In s.heap:=e0.mod.kin.keeps λb o e=>(e0.bs b o e).1
 have lim:s.heap.NoLimit:=e0.mod.nolimit.keeps λb o e=>(e0.bs b o e).1
 have tQ:∀y∈ps.zip us,scope.names.lookup y.1=some .local∨(scope.names.lookup y.1=some .cell/\((B7 (s.heap.objs.size+1) scope.names []).lookup y.1).isSome=true):=λ⟨n,v⟩ hy=>by
  rcases S.par n (QV hy).1 with q | q
  ·exact .inl q
  ·exact .inr ⟨q,Rp _ _ _ (.inl q)⟩
 refine codeAny_call_function hr.depth (KX _ _ lk) rfl S.co S.gen rfl (PySem.W.codeRec_of KX qe) (hb _ _ _ _ ?_)
 refine wpAny_newFunctionEnv_cells S.kind tQ λenv he s1 x=>?_
 subst he;refine⟨lim.keeps x.toInCall.keep,codeAny_func ?_⟩;obtain⟨t,ht,hq⟩:=pW A outer s H vs Q E (hr.deeper _) qu;have I:Inv (Sg CX P w K mg base N qual scope f oZ A outer s H E) [] (start N vs) H s1:=YZ S hr.hd e0 hl r x
 refine E7 (ht [] s1 (start N vs) H _ I hq) (λfl s' hs=>?_) λe s' hs=>hs
 have fin:∀{σ':St} {H':Hp} {v:V} {u:AH},Inv (Sg CX P w K mg base N qual scope f oZ A outer s H E) [] σ' H' s'->RelV v u->Q v H'->CE outer P w H s Q u s':=
  λ{σ' H' v u} J rv q=>⟨v,H',J.os,J.bare,J.base,J.hok,rv,q⟩
 cases fl with
 | ret u=>
  obtain⟨v,σ',H',J,rv,q⟩:=hs;exact fin J rv q
 | next=>
  obtain⟨σ',H',J,q⟩:=hs;exact fin (v:=V.non) (u:=BY) J rfl q
 | brk=>
  obtain⟨_,_,_,q⟩:=hs;exact D7 q
 | cont=>
  obtain⟨_,_,_,q⟩:=hs;exact D7 q
section
variable{X:Cx}{x:Str}{p pos:Pos}{e:Expr}{es:List Expr}{t:TA}{id T:String}{r:List V->Hp->VK->Prop}
def tCB(r:List V->Hp->VK->Prop)(t:TA):TE:=λσ H Q=>t σ H λvs H1=>r vs H1 Q
theorem JZ(hc:Ie X (.builtin id) r)(hg:Gl X x)(hm:X.mg x=none)(hv:E8 x=some (.builtin id))(ha:PA X (e :: es) t)(hn:x≠"__name__":=by decide) (pG:(x==("__debug__" : Str))=false:=by decide)
  (he:Aa (e :: es) X.env=(false,B4 e X.env) :: Aa es X.env:=by rfl) (p0:(Dw pos (Aa es X.env)).any (·.1)=false:=by rfl):PE X (.Call (.Name x p) (e :: es) [] pos) (tCB r t):=by
 intro ζ s σ H Q I h;refine HC (MW I hg hm hv ?_ hn pG);exact nq (thn (ha pos ζ s σ H _ I h) λus s1 ⟨vs,H1,I1,r1,q1⟩=>hc ζ s1 σ H1 vs us Q I1 r1 q1) he p0
theorem RL(hc:Ie X (.type T) r)(hg:Gl X x)(hm:X.mg x=none)(hv:E8 x=some (.type T))(ha:PA X (e :: es) t)(hn:x≠"__name__":=by decide) (pG:(x==("__debug__" : Str))=false:=by decide)
  (he:Aa (e :: es) X.env=(false,B4 e X.env) :: Aa es X.env:=by rfl) (p0:(Dw pos (Aa es X.env)).any (·.1)=false:=by rfl):PE X (.Call (.Name x p) (e :: es) [] pos) (tCB r t):=by
 intro ζ s σ H Q I h;refine HC (MW I hg hm hv ?_ hn pG);exact C9 (thn (ha pos ζ s σ H _ I h) λus s1 ⟨vs,H1,I1,r1,q1⟩=>hc ζ s1 σ H1 vs us Q I1 r1 q1) he p0
end
end L2
namespace HT
open PySem PyProof.Rows
section
variable{prog:Bp}{w:CF}{A:CB}{E:AH->AQ->Prop}{s:AQ}
theorem fo(ht:IsTup s.heap t vs.toArray)(hb:IsTup s.heap b ws.toArray)(hv:vs≠[])
  (h1:ws=[]->Q (.ref t) s) (h2:ws≠[]->Q (.ref s.heap.objs.size) { s with heap:=s.heap.push { cls:=.type "tuple",data:=.seq (vs++ws).toArray } })
  (hsz:vs.length+ws.length<=sizeLine):Aw (Ac prog w) A (CV .Add (.ref t) (.ref b)) Q E s:=by
 obtain⟨⟨cls,dd,data,sl⟩,ho,hc,n,hd⟩:=id ht;obtain⟨⟨cls2,dd2,data2,tx⟩,ho2,rT,n2,hd2⟩:=id hb;simp only at hc hd rT hd2;subst hc hd rT hd2
 have e:vs.toArray++ws.toArray=(vs++ws).toArray:=by simp
 by_cases hw:ws=[]
 ·exact ZC ⟨_,ho,rfl⟩ ⟨_,ho2,rfl⟩ Ro XW Jp JP (Ix _ _)
   (tuple_addW1 t b vs.toArray ws.toArray n n2 dd dd2 sl tx (by simpa using hv) (by simp[hw])) ⟨ho,ho2,h1 hw⟩
 ·refine ZC ⟨_,ho,rfl⟩ ⟨_,ho2,rfl⟩ Ro XW Jp JP (Ix _ _)
   (tuple_addW2 t b vs.toArray ws.toArray n n2 dd dd2 sl tx (by simpa using hv) (by simpa using hw) (by rw[Ae,Ae];exact hsz)) ⟨ho,ho2,?_⟩
  rw[e];exact h2 hw
end
end HT
namespace L2
open PySem PySem.Spec PyProof.Rows
section
abbrev TO:=St->Hp->(Option Int->Hp->Prop)->Prop
def PO(X:Cx)(e:Option Expr)(t:TO):Prop:=
 ∀(ζ:List (AV×Obj)) (s:AQ) (σ:St) (H:Hp) (Q:Option Int->Hp->Prop),Inv X ζ σ H s->t σ H Q ->
  Aw (Ac X.prog X.w) X.A (evalPart e X.env) (λu s'=>∃o H',Inv X ζ σ H' s'/\IsPart u o/\Q o H') X.xe s
def dQ:TO:=λ_ H Q=>Q none H
def lY(t:TE):TO:=λσ H Q=>t σ H λx H1=>∃i,x=.int i/\Q (some i) H1
theorem intsAre_of:∀{us:List AH},Bg (ns.map V.int) us->GZ us ns:=by
 induction ns with
 | nil=>intro us r;rw[Kb]at r;cases r;exact .nil
 | cons n ns ih=>
  intro us r;rw[BA]at r
  cases r with
  | cons r1 r2=>
   obtain⟨t,e⟩:=r1;subst e;exact .cons n t (ih r2)
section
variable{κ:Type}[DecidableEq κ]
def Jv(kvs:List (κ×V))(k:κ):Option V:=(kvs.find? λkv=>decide (kv.1=k)).map (·.2)
def Ht(kvs:List (κ×V))(k:κ)(v:V):List (κ×V):=
 if (kvs.any λkv=>decide (kv.1=k))=true then kvs.map (λkv=>if kv.1=k then(kv.1,v)else kv)else kvs++[(k,v)]
theorem PX{p:κ×V}{r:List (κ×V)}{k:κ}(e:p.1=k):Jv (p :: r) k=some p.2:=by simp[Jv,BV,e]
theorem PY{p:κ×V}{r:List (κ×V)}{k:κ}(e:¬p.1=k):Jv (p :: r) k=Jv r k:=by simp[Jv,BV,e]
theorem Ta(k:κ):∀kvs:List (κ×V),(kvs.any λkv=>decide (kv.1=k))=(Jv kvs k).isSome
 | []=>rfl
 | p :: r=>by
  rw[Hs]
  by_cases e:p.1=k
  ·simp only[PX e,wX e,Bool.true_or,WJ]
  ·rw[PY e,wY e,iI];exact Ta k r
theorem Kz(kvs:List (κ×V))(k:κ)(v:V):(Ht kvs k v).length<=kvs.length+1:=by
 unfold Ht;split
 ·rw[AE];lia
 ·rw[Ad,A8,IJ];lia
theorem OB.isSome_eq(r:OB o u):o.isSome=u.isSome:=by
 cases o with
 | none=>cases u with
  | none=>rfl
  | some _=>exact(show False from r).elim
 | some _=>cases u with
  | none=>exact(show False from r).elim
  | some _=>rfl
theorem KV.val{kvs:List (κ×V)}{vs:List (κ×AH)}(r:KV kvs vs)(k:κ):OB (Jv kvs k) (QZ vs k):=by
 unfold KV at r
 induction r with
 | nil=>exact Cu
 | @cons p q ps qs h t ih=>
  obtain⟨h1,h2⟩:=h
  by_cases e:p.1=k
  ·have e':q.1=k:=h1.symm.trans e
   have b:QZ (q :: qs) k=some q.2:=by simp[QZ,BV,e']
   rw[PX e,b];exact h2
  ·have e':¬q.1=k:=λz=>e (h1.trans z)
   have b:QZ (q :: qs) k=QZ qs k:=by simp[QZ,BV,e']
   rw[PY e,b];exact ih
theorem KV.any(r:KV kvs vs)(k:κ):(kvs.any λkv=>decide (kv.1=k))=vs.any λkv=>decide (kv.1=k):=by
 unfold KV at r
 induction r with
 | nil=>rfl
 | cons h t ih=>rw[Hs,Hs,ih,h.1]
theorem KV.repl(r:KV kvs vs)(k:κ)(ry:RelV y u) :
  KV (kvs.map λkv=>if kv.1=k then(kv.1,y)else kv) (vs.map λkv=>if kv.1=k then(kv.1,u)else kv):=by
 unfold KV at r ⊢
 induction r with
 | nil=>exact .nil
 | @cons p q ps qs h t ih=>
  rw[BA,BA];refine .cons ?_ ih;obtain⟨h1,h2⟩:=h
  by_cases e:p.1=k
  ·rw[qX e,qX (h1.symm.trans e)];exact⟨h1,ry⟩
  ·rw[qY e,qY (λz=>e (h1.trans z))];exact⟨h1,h2⟩
theorem KV.put(r:KV kvs vs)(k:κ)(ry:RelV y u):KV (Ht kvs k y) (stored vs k u):=by
 unfold Ht stored;rw[r.any k]
 by_cases e:(vs.any λkv=>decide (kv.1=k))=true
 ·rw[qX e,qX e];exact r.repl k ry
 ·rw[qY e,qY e];exact Uj r ⟨rfl,ry⟩
theorem KV.length(r:KV kvs vs):kvs.length=vs.length:=D4 r
end
theorem RQ(r:RelV (kV k) u):(Ct P w).is k u=true:=by
 cases k with
 | inl i=>obtain⟨t,e⟩:=(show ∃t,u=OV i t from r);subst e;exact T8 P w i t
 | inr x=>obtain⟨t,e⟩:=(show ∃t,u=OU x t from r);subst e;exact T7 P w x t
theorem RS:∀{ks:List Key} {us:List AH},Bg (ks.map kV) us->ItemsAre (Ct P w) ks us
 | [],_,r=>by rw[Kb]at r;cases r;exact .nil
 | k :: ks,_,r=>by
  rw[BA]at r
  cases r with
  | cons h t=>exact .cons (RQ h) (RS t)
abbrev KT(H:Hp):List (List Key×V)->List (List Key×AV×AH)->Prop:=FZ λp q=>p.1=q.1/\H q.2.1=some (.tup (p.1.map kV))/\RelV p.2 q.2.2
theorem KT.val{H:Hp}{kvs:List (List Key×V)}{xs:List (List Key×AV×AH)}(r:KT H kvs xs)(k:List Key):OB (Jv kvs k) ((Ux xs k).map (·.2)):=by
 induction r with
 | nil=>exact Cu
 | @cons p q ps qs h t ih=>
  obtain⟨h1,_,h2⟩:=h
  by_cases e:p.1=k
  ·have e':q.1=k:=h1.symm.trans e
   have b:Ux (q :: qs) k=some q.2:=by simp[Ux,BV,e']
   rw[PX e,b];exact h2
  ·have e':¬q.1=k:=λz=>e (h1.trans z)
   have b:Ux (q :: qs) k=Ux qs k:=by simp[Ux,BV,e']
   rw[PY e,b];exact ih
theorem KT.repl(r:KT H kvs xs)(k:List Key)(ry:RelV y u) :
  KT H (kvs.map λkv=>if kv.1=k then(kv.1,y)else kv) (xs.map (putAt k u)):=by
 induction r with
 | nil=>exact .nil
 | @cons p q ps qs h t ih=>
  rw[BA,BA];refine .cons ?_ ih;obtain⟨h1,h2,h3⟩:=h;unfold putAt
  by_cases e:p.1=k
  ·rw[qX e,qX (h1.symm.trans e)];exact⟨h1,h2,ry⟩
  ·rw[qY e,qY (λz=>e (h1.trans z))];exact⟨h1,h2,h3⟩
theorem KT.put(r:KT H kvs xs)(k:List Key)(hb:H b=some (.tup (k.map kV)))(ry:RelV y u) :
  KT H (Ht kvs k y) (storedH xs k b u):=by
 have e:(kvs.any λkv=>decide (kv.1=k))=(Ux xs k).isSome:=by
  rw[Ta,(r.val k).isSome_eq,G0]
 unfold Ht storedH;rw[e]
 by_cases q:(Ux xs k).isSome=true
 ·rw[qX q,qX q];exact r.repl k ry
 ·rw[qY q,qY q];exact Uj r ⟨rfl,hb,ry⟩
theorem KT.keeps(r:KT H kvs xs)(ht:∀b ys,H b=some (.tup ys)->H' b=some (.tup ys)):KT H' kvs xs:=
 FZ.mapP r λ_ _ z=>⟨z.1,ht _ _ z.2.1,z.2.2⟩
variable{X:Cx}{e:Expr}{p2:Pos}
theorem dz:PO X none dQ:=by
 intro ζ s σ H Q I h;rw[evalPart_none];exact AR ⟨none,H,I,.none,h⟩
theorem dy(h:PE X e te):PO X (some e) (lY te):=by
 intro ζ s σ H Q I hw;rw[evalPart_some]
 refine thn (h ζ s σ H _ I hw) λu s1 ⟨x,H1,I1,r1,q1⟩=>?_
 obtain⟨i,rfl,q⟩:=q1;obtain⟨t,rfl⟩:=r1;exact⟨some i,H1,I1,.int i t,q⟩
def mE(K:AG):R2:=λx y H Q=>∃a b xs ys,x=.ref a/\y=.ref b/\SqT K H a xs/\SqT K H b ys/\xs≠[]/\xs.length+ys.length<=sizeLine /\
 (ys=[]->Q (.ref a) H)/\(ys≠[]->∀p,H p=none->Q (.ref p) (upd H p (.tup (xs++ys))))
theorem Bg.nil_iff(r:Bg xs us):us=[]↔xs=[]:=by
 cases r with
 | nil=>simp
 | cons _ _=>simp
theorem eW:OpR X (CV .Add) (mE X.K):=by
 intro ζ s σ H x y v u Q I rx ry h;obtain⟨a,b,xs,ys,rfl,rfl,ha,hb,hx,hz,q1,q2⟩:=h;cases rx;cases ry;obtain⟨i',r1,p1,_⟩:=I.tuple ha;obtain⟨oG,r2,p2,_⟩:=I.tuple hb;refine HT.fo p1 p2 (λz=>hx (r1.nil_iff.mp z)) (λz=>⟨.ref a,H,I,rfl,q1 (r2.nil_iff.mp z)⟩) (λz=>?_) (by rw[<-r1.length,<-r2.length];exact hz);refine⟨.ref s.heap.objs.size,_,I.laid (t':=s.toks) (o:=.tup (xs++ys)) (λb ob q=>AK _ q) (AN _) ?_,rfl,q2 (λw=>z (r2.nil_iff.mpr w)) _ (I.hok.fresh (AN _))⟩;exact⟨⟨by rw[Ad];exact hz,⟨_,Al _ rfl,rfl⟩⟩,_,r1.append r2,oA _ _⟩
end
section
def ixN(n:Nat)(i:Int):Option Nat:=if 0<=i then(if i < n then some i.toNat else none)else if -(n:Int)<=i then some (i+n).toNat else none
def atI{α:Type}(xs:List α)(i:Int):Option α:=(ixN xs.length i).bind λj=>xs[j]?
theorem fA(h:ixN n i=some j):seqIndex? i n=some j/\j < n/\-(n:Int)<=i/\i < n:=by
 unfold ixN at h
 by_cases h0:0<=i
 ·rw[qX h0]at h
  by_cases h1:i < n
  ·rw[qX h1]at h
   have e:i.toNat=j:=CC h;exact⟨by rw[seqIndex_of h0 h1,e],by lia,by lia,h1⟩
  ·rw[qY h1]at h;cases h
 ·rw[qY h0]at h
  by_cases h1:-(n:Int)<=i
  ·rw[qX h1]at h
   have e:(i+n).toNat=j:=CC h;exact⟨by rw[seqIndex_neg (by lia) h1,e],by lia,h1,by lia⟩
  ·rw[qY h1]at h;cases h
theorem XR{α:Type}{xs:List α}{i:Int}{v:α}(h:atI xs i=some v):∃j,seqIndex? i xs.length=some j/\xs[j]?=some v/\j < xs.length/\-(xs.length:Int)<=i/\i < xs.length:=by
 unfold atI at h
 cases e:ixN xs.length i with
 | none=>rw[e]at h;cases h
 | some j=>
  rw[e]at h;obtain⟨h1,h2,h3,h4⟩:=fA e;exact⟨j,h1,h,h2,h3,h4⟩
def Sw(b:Expr):Prop:=∀o i,Sy b false o i=operate [o,i] (ZB o i)
def IxR(X:Cx)(r:R2):Prop:=
 ∀(value slice:Expr) (ζ:List (AV×Obj)) (s:AQ) (σ:St) (H:Hp) (x y:V) (v u:AH) (Q:VK),Inv X ζ σ H s->RelV x v->RelV y u->r x y H Q ->
  Sy slice false v u=operate [v,u] (ZB v u)->Aw (Ac X.prog X.w) X.A (XV value slice v u) (EP X ζ σ Q) X.xe s
def MtR(X:Cx)(id:String)(r:V->List V->Hp->VK->Prop):Prop:=
 ∀(ζ:List (AV×Obj)) (s:AQ) (σ:St) (H:Hp) (x:V) (xs:List V) (v:AH) (us:List AH) (Q:VK),Inv X ζ σ H s->RelV x v->Bg xs us->r x xs H Q ->
  Aw (Ac X.prog X.w) X.A (call (.builtin id) (v :: us)) (EP X ζ σ Q) X.xe s
section
variable{P:Bp}{w:CF}{H:Hp}{h:Cj}{a:AV}
theorem gi(ok:HOk P w H h)(e:Rd H a u):CH P w H h a u:=e.ok ok
theorem RY(ok:HOk P w H h)(e:Rd H a (.dK kvs)):kvs.length<=sizeLine/\(a==DJ)=false/\∃vs,KV kvs vs/\h.DictOf (Ct P w) a vs:=
 show CH P w H h a (.dK kvs)from gi ok e
theorem XF(ok:HOk P w H h)(e:H a=some (.dK kvs)):kvs.length<=sizeLine/\(a==DJ)=false/\∃vs,KV kvs vs/\h.DictOf (Ct P w) a vs:=RY ok (.inl e)
theorem QF(ok:HOk P w H h)(e:H a=some (.tup (ks.map kV))):(Ri (Ct P w)).is h ks a:=by
 obtain⟨_,i',r,o,h1,h2,n,h3⟩:=(show CH P w H h a (.tup (ks.map kV))from ok a _ e);exact⟨o,i'.toArray,n,h1,h2,h3,by simpa using RS r⟩
theorem RX(ok:HOk P w H h)(e:Rd H a (.dT kvs)):kvs.length<=sizeLine/\(a==DJ)=false /\
  ∃xs,KT H kvs xs/\h.DictOfH (Ri (Ct P w)) a xs:=by
 obtain⟨z,y,xs,r,o,es,ep,h1,h2,h3,h4,h5⟩:=(show CH P w H h a (.dT kvs)from gi ok e);refine⟨z,y,xs,r,o,es,ep,h1,h2,h3,h4,λx hx=>?_,h5⟩
 have all:∀{l:List (List Key×V)} {m:List (List Key×AV×AH)},KT H l m->∀x∈m,(Ri (Ct P w)).is h x.1 x.2.1:=by
  intro l m q
  induction q with
  | nil=>intro x hx;exact nomatch hx
  | @cons p q ps qs hq t ih=>
   intro x hx
   rcases At.mp hx with e | hx
   ·subst e
    exact QF ok (by rw[<-hq.1];exact hq.2.1)
   ·exact ih x hx
 exact all r x hx
theorem nP(ok:HOk P w H h)(e:H a=some (.dT kvs)):kvs.length<=sizeLine/\(a==DJ)=false /\
  ∃xs,KT H kvs xs/\h.DictOfH (Ri (Ct P w)) a xs:=RX ok (.inl e)
end
def NW(H:Hp)(a:AV)(y:V)(r:Option V):Prop:=
 (∃kvs k,Rd H a (.dK kvs)/\y=kV k/\r=Jv kvs k)∨∃kvs k b,Rd H a (.dT kvs)/\y=.ref b/\H b=some (.tup (k.map kV))/\r=Jv kvs k
def Ud(H:Hp)(a:AV)(y v:V)(H':Hp):Prop:=
 (∃kvs k,H a=some (.dK kvs)/\y=kV k/\kvs.length < sizeLine/\H'=upd H a (.dK (Ht kvs k v))) ∨
 ∃kvs k b,H a=some (.dT kvs)/\y=.ref b/\H b=some (.tup (k.map kV))/\kvs.length < sizeLine/\H'=upd H a (.dT (Ht kvs k v))
theorem NW.k{H}{a}{kvs}{k}(e:H a=some (.dK kvs)):NW H a (kV k) (Jv kvs k):=.inl ⟨kvs,k,.inl e,rfl,rfl⟩
theorem NW.t{H}{a b}{kvs}{k}(e:H a=some (.dT kvs))(eb:H b=some (.tup (k.map kV))):NW H a (.ref b) (Jv kvs k):=.inr ⟨kvs,k,b,.inl e,rfl,eb,rfl⟩
theorem Ud.k{H}{a}{kvs}{k}{v}(e:H a=some (.dK kvs))(hl:kvs.length < sizeLine):Ud H a (kV k) v (upd H a (.dK (Ht kvs k v))):=.inl ⟨kvs,k,e,rfl,hl,rfl⟩
theorem Ud.t{H}{a b}{kvs}{k}{v}(e:H a=some (.dT kvs))(eb:H b=some (.tup (k.map kV)))(hl:kvs.length < sizeLine) :
  Ud H a (.ref b) v (upd H a (.dT (Ht kvs k v))):=.inr ⟨kvs,k,b,e,rfl,eb,hl,rfl⟩
variable{X:Cx}{a b:Expr}{ta tb:TE}{pos:Pos}
theorem IxR.or(h:IxR X r)(h':IxR X r'):IxR X (λx y H Q=>r x y H Q∨r' x y H Q):=by
 intro value slice ζ s σ H x y v u Q I rx ry q hs
 rcases q with q | q
 ·exact h value slice ζ s σ H x y v u Q I rx ry q hs
 ·exact h' value slice ζ s σ H x y v u Q I rx ry q hs
theorem mJ(hr:IxR X r)(ha:PE X a ta)(hb:PE X b tb)(hs:Sw b):PE X (.Subscript a b pos) (tOp r ta tb):=by
 intro ζ s σ H Q I h;exact iD (kb ha hb I h λv u s2 x y H2 I2 rx ry q=>hr a b ζ s2 σ H2 x y v u Q I2 rx ry q (hs _ _))
def rIxL(K:AG):R2:=λx y H Q=>∃p xs i v,x=.ref p/\y=.int i/\SqL K H p xs/\atI xs i=some v/\Q v H
def rIxT(K:AG):R2:=λx y H Q=>∃p xs i v,x=.ref p/\y=.int i/\SqT K H p xs/\atI xs i=some v/\Q v H
theorem ix_list:IxR X (rIxL X.K):=by
 intro value slice ζ s σ H x y v u Q I rx ry h hs;obtain⟨p,xs,i,z,rfl,rfl,hq,he,q⟩:=h;cases rx;obtain⟨t,rfl⟩:=ry;obtain⟨i',r,pl,hz⟩:=I.list hq;obtain⟨j,h1,h2,h3,h4,h5⟩:=XR he;obtain⟨w,ew,pH⟩:=r.get h2;have hl:=r.length;have hn:=SQ;have fin:EP X ζ σ Q w s:=⟨z,H,I,pH,q⟩
 by_cases h0:0<=i
 ·have hj:i.toNat=j:=by
   rw[seqIndex_of h0 h5]at h1;exact CC h1
  exact item_listR pl.isList h0 (by lia) (by rw[hj];simpa using ew) fin hs
 ·have hj:(i+(i'.toArray.size:Int)).toNat=j:=by
   rw[seqIndex_neg (by lia) h4]at h1;rw[Ae,<-hl];exact CC h1
  exact Y9 (x:=w) pl.isList.typeIs kr.lookup
   (wpAny_getItem_list_neg (Q:=λr s'=>r=w/\EP X ζ σ Q r s') pl.isList (by lia) (by rw[Ae] <;> lia) (by lia) (by rw[hj];simpa using ew) ⟨rfl,fin⟩) hs
theorem jw:IxR X (rIxT X.K):=by
 intro value slice ζ s σ H x y v u Q I rx ry h hs;obtain⟨p,xs,i,z,rfl,rfl,hq,he,q⟩:=h;cases rx;obtain⟨t,rfl⟩:=ry;obtain⟨i',r,pl,hz⟩:=I.tuple hq;obtain⟨j,h1,h2,h3,h4,h5⟩:=XR he;obtain⟨w,ew,pH⟩:=r.get h2;have hl:=r.length;have hn:=SQ;have fin:EP X ζ σ Q w s:=⟨z,H,I,pH,q⟩
 exact Y9 (x:=w) pl.typeIs slot_tuple_getitem.lookup
  (getItem_tuple (j:=j) (Q:=λr s'=>r=w/\EP X ζ σ Q r s') pl (by lia) (by lia) (by rw[Ae,<-hl];exact h1) (by simpa using ew) ⟨rfl,fin⟩) hs
theorem Sm:Ie X (.builtin "len") (λxs H Q=>∃p ys,xs=[.ref p]/\(SqL X.K H p ys∨SqT X.K H p ys)/\Q (.int ys.length) H):=by
 intro ζ s σ H xs us Q I r h;obtain⟨p,ys,rfl,hq,q⟩:=h;obtain⟨u,rfl,rx⟩:=vals1 r;cases rx;have hn:=SQ
 rcases hq with hq | hq
 ·obtain⟨i',r',pl,hz⟩:=I.list hq
  have hlen:=r'.length;exact Calls.call_len_list pl.isList (by simp only[Ae] <;> lia) ⟨.int ys.length,H,I.tok _,⟨s.toks+1,by rw[Ae,hlen]⟩,q⟩
 ·obtain⟨i',r',pl,hz⟩:=I.tuple hq
  have hlen:=r'.length;exact len_tuple pl (by simp only[Ae] <;> lia) ⟨.int ys.length,H,I.tok _,⟨s.toks+1,by rw[Ae,hlen]⟩,q⟩
theorem Sk:Ie X (.type "list") (λxs H Q=>∃p ys,xs=[.ref p]/\(SqL X.K H p ys∨SqT X.K H p ys)/\∀l,H l=none->Q (.ref l) (upd H l (.lst ys))):=by
 intro ζ s σ H xs us Q I r h;obtain⟨p,ys,rfl,hq,q⟩:=h;obtain⟨u,rfl,rx⟩:=vals1 r;cases rx
 have fin:∀(i':List AH),Bg ys i'->ys.length<=sizeLine->∀(h':Cj) (c':Nat),(∀b o',s.heap.get? b=some o'->h'.get? b=some o') ->
   h'.get? s.heap.objs.size=some { cls:=.type "list",dict:=none,data:=.seq i'.toArray c',slots:=#[] }->EP X ζ σ Q (.ref s.heap.objs.size) { s with heap:=h' }:=λi' r' hz h' c' kp e=>
  ⟨.ref s.heap.objs.size,_,I.laid (t':=s.toks) kp (AN _) (show CH X.prog X.w _ h' _ (.lst ys)from⟨hz,i',c',r',e⟩),rfl,q _ (I.hok.fresh (AN _))⟩
 rcases hq with hq | hq
 ·obtain⟨i',r',pl,hz⟩:=I.list hq
  have hlen:=r'.length;obtain⟨o,ho,hc,n,hd⟩:=pl.isList;exact call_list_seq p (.inl rfl) ho hc hd (λh' c' kp e=>fin i' r' hz h' c' kp e) (by simp only[Ae] <;> lia)
 ·obtain⟨i',r',pl,hz⟩:=I.tuple hq
  have hlen:=r'.length;obtain⟨o,ho,hc,n,hd⟩:=pl;exact call_list_seq p (.inr rfl) ho hc hd (λh' c' kp e=>fin i' r' hz h' c' kp e) (by simp only[Ae] <;> lia)
theorem Qw:Ie X (.type "tuple") (λxs H Q=>∃p ys,xs=[.ref p]/\((SqL X.K H p ys/\∀l,H l=none->Q (.ref l) (upd H l (.tup ys)))∨(SqT X.K H p ys/\Q (.ref p) H))):=by
 intro ζ s σ H xs us Q I r h;obtain⟨p,ys,rfl,h⟩:=h;obtain⟨u,rfl,rx⟩:=vals1 r;cases rx
 rcases h with⟨hq,q⟩ | ⟨hq,q⟩
 ·obtain⟨i',r',pl,hz⟩:=I.list hq
  have hlen:=r'.length;refine call_tuple_list pl.isList (λh' kp=>?_) (by simp only[Ae] <;> lia);have I1:Inv X ζ σ H { s with heap:=h' }:=I.kept (t':=s.toks) kp
  have I2:Inv X ζ σ (upd H h'.objs.size (.tup ys)) { s with heap:=h'.push { cls:=.type "tuple",data:=.seq i'.toArray } }:=
   I1.laid (t':=s.toks) (λb o e=>AK _ e) (AN _) (show CH X.prog X.w _ _ _ (.tup ys)from⟨⟨hz,⟨_,Al _ rfl,rfl⟩⟩,i',r',oA _ _⟩)
  exact⟨.ref h'.objs.size,_,I2,rfl,q _ (I1.hok.fresh (AN _))⟩
 ·obtain⟨i',r',pl,hz⟩:=I.tuple hq
  exact call_tuple_same pl ⟨.ref p,H,I,rfl,q⟩
def tyV(K:AG)(T:String)(x:V)(H:Hp):Prop:=match x with
 | .str _=>T = "str"
 | .int _=>T = "int"
 | .ref p=>(T = "list"/\∃xs,SqL K H p xs)∨(T = "tuple"/\∃o,K.lookup p=some o/\o.cls=.type "tuple"/\o.dict=none) ∨
   (T = "dict"/\((∃kvs,H p=some (.dK kvs))∨∃kvs,H p=some (.dT kvs)))∨(T = "set"/\∃S n,H p=some (.set S n))
 | _=>False
theorem Ze(I:Inv X ζ σ H s)(r:RelV x v)(ty:tyV X.K T x H) :
  s.TypeIs v T/\∀a,v=.ref a->∃ob,s.heap.get? a=some ob/\ob.dict=none:=by
 cases x with
 | str z=>
  obtain⟨t,rfl⟩:=r;cases(show T = "str" from ty);exact⟨typeIs_str s z t,λ_ e=>nomatch e⟩
 | int i=>
  obtain⟨t,rfl⟩:=r;cases(show T = "int" from ty);exact⟨hV s i t,λ_ e=>nomatch e⟩
 | ref p=>
  cases r
  rcases ty with⟨rfl,xs,hq⟩ | ⟨rfl,o,hk,hc,hd⟩ | ⟨rfl,hk⟩ | ⟨rfl,S,n,hk⟩
  ·obtain⟨i',_,pl,_⟩:=I.list hq
   refine⟨pl.isList.typeIs,λa e=>?_⟩;cases e;obtain⟨o,n,e,c,hd,_⟩:=pl;exact⟨o,e,hd⟩
  ·refine⟨⟨o,I.kIn p o hk,hc⟩,λa e=>?_⟩
   cases e;exact⟨o,I.kIn _ o hk,hd⟩
  ·have z:∃o,s.heap.get? p=some o/\o.ExactDict:=by
    rcases hk with⟨kvs,hk⟩ | ⟨kvs,hk⟩
    ·obtain⟨_,_,_,_,o,_,_,e,ex,_⟩:=I.hok p _ hk
     exact⟨o,e,ex⟩
    ·obtain⟨_,_,_,_,o,_,_,e,ex,_⟩:=I.hok p _ hk
     exact⟨o,e,ex⟩
   obtain⟨o,e,ex⟩:=z;refine⟨⟨o,e,ex.1⟩,λa e2=>?_⟩;cases e2;exact⟨o,e,ex.2.1⟩
  ·obtain⟨o,_,_,_,e,ex,_⟩:=I.hok p _ hk
   refine⟨⟨o,e,ex.1⟩,λa e2=>?_⟩;cases e2;exact⟨o,e,ex.2.1⟩
 | _=>exact D7 ty
def tBM0(K:AG)(T:String)(r:V->List V->Hp->VK->Prop)(to:TE):TE:=λσ H Q=>to σ H λx H1=>tyV K T x H1/\r x [] H1 Q
def tBM(K:AG)(T:String)(r:V->List V->Hp->VK->Prop)(to:TE)(t:TA):TE:=λσ H Q=>to σ H λx H1=>tyV K T x H1/\t σ H1 λxs H2=>r x xs H2 Q
variable{o e:Expr}{es:List Expr}{to:TE}{t:TA}{name:Str}{apos cpos:Pos}{T id:String}{r:V->List V->Hp->VK->Prop}
theorem aG(pa:PlainAttrs T)(slot:Slot T name id)(wt:typeOf (.builtin id)=pure (.type "method_descriptor")) (hm:MtR X id r) (ho:PE X o to)
  (oJ:Cp o name X.env (B4 o X.env)=B4 o X.env:=by rfl) (oK:(apos.endLine==cpos.line)=true:=by rfl):PE X (.Call (.Attribute o name apos) [] [] cpos) (tBM0 X.K T r to):=by
 intro ζ s σ H Q I h;refine Yw oJ oK (thn (ho ζ s σ H _ I h) λv s1 ⟨x,H1,I1,r1,ty,q1⟩=>?_);obtain⟨h1,h2⟩:=Ze I1 r1 ty;exact⟨T,id,pa,slot,wt,h1,h2,G2 rfl (WE (hm ζ s1 σ H1 x [] v [] Q I1 r1 .nil q1))⟩
theorem gj(pa:PlainAttrs T)(slot:Slot T name id)(wt:typeOf (.builtin id)=pure (.type "method_descriptor")) (hm:MtR X id r) (ho:PE X o to) (ha:PA X (e :: es) t)
  (oJ:Cp o name X.env (B4 o X.env)=B4 o X.env:=by rfl)
  (qH:((Dw cpos (Aa (e :: es) X.env)).all (λx=>!x.1)&&(cM cpos (S8 [] X.env)).all (λx=>x.1.isSome)
    &&decide ((e :: es).length+([]:List OG).length+(if ([]:List OG).isEmpty then 0 else 1) < 30))=true:=by rfl)
  (oK:(apos.endLine==cpos.line)=true:=by rfl) (hs:Aa (e :: es) X.env=(false,B4 e X.env) :: Aa es X.env:=by rfl) (pI:(Dw cpos (Aa es X.env)).any (·.1)=false:=by rfl) :
  PE X (.Call (.Attribute o name apos) (e :: es) [] cpos) (tBM X.K T r to t):=by
 intro ζ s σ H Q I h;refine wpAny_Call_method_late oJ qH oK rfl (thn (ho ζ s σ H _ I h) λv s1 ⟨x,H1,I1,r1,ty,q1⟩=>?_);obtain⟨h1,h2⟩:=Ze I1 r1 ty;refine⟨T,id,pa,slot,wt,h1,h2,?_⟩;have hA:=ha cpos ζ s1 σ H1 _ I1 q1;rw[hs]at hA ⊢;refine G2 (by show(false||(Dw cpos (Aa es X.env)).any (·.1))=false;rw[pI] <;> rfl) (LZ ?_)
 exact thn hA λus s2 ⟨vs,H2,I2,r2,q2⟩=>hm ζ s2 σ H2 x vs v us Q I2 r1 r2 q2
end
section
def MtM(X:Cx)(id:String)(r:V->List V->Hp->VK->Prop):Prop:=
 ∀(ζ:List (AV×Obj)) (s:AQ) (σ:St) (H:Hp) (x:V) (xs:List V) (v:AH) (us:List AH) (Q:VK),Inv X ζ σ H s->RelV x v->Bg xs us->r x xs H Q ->
  Aw (Ac X.prog X.w) X.A (call (.builtin id) (v :: us)) (EP X ζ σ Q) X.xe s
theorem Bg.one:∀{x:V} {us:List AH},Bg [x] us->∃u,us=[u]/\RelV x u
 | _,_,.cons r .nil=>⟨_,rfl,r⟩
theorem Bg.zero:∀{us:List AH},Bg [] us->us=[]
 | _,.nil=>rfl
theorem Bg.dropLast(h:Bg xs us):Bg xs.dropLast us.dropLast:=by
 induction h with
 | nil=>exact .nil
 | cons r t ih=>
  cases t with
  | nil=>exact .nil
  | cons q t'=>exact .cons r ih
theorem Bg.reverse(h:Bg xs us):Bg xs.reverse us.reverse:=by
 induction h with
 | nil=>exact .nil
 | cons r t ih=>rw[JQ,JQ];exact Bg.append ih (.cons r .nil)
theorem Bg.rep(h:Bg xs us):∀k:Nat,Bg (Ak k xs).flatten (Ak k us).flatten
 | 0=>.nil
 | k+1=>by
  rw[DV,DV,FC,FC];exact Bg.append h (Bg.rep h k)
theorem Vx{α:Type}(l:List α):l.eraseIdx (l.length - 1)=l.dropLast:=by
 induction l with
 | nil=>rfl
 | cons a r ih=>
  cases r with
  | nil=>rfl
  | cons b r=>
   have e:(a :: b :: r).length - 1=((b :: r).length - 1)+1:=by
    have h1:(a :: b :: r).length=r.length+2:=rfl;have h2:(b :: r).length=r.length+1:=rfl
    lia
   rw[e,List.eraseIdx_cons_succ,ih]
   all_goals rfl
theorem foldl_rep(i':List AH):∀(k:Nat) (acc:List AH),
  Y7 (λx1 x2=>x1++x2) acc.toArray (Ak k i'.toArray)=(acc++(Ak k i').flatten).toArray
 | 0,acc=>by simp
 | k+1,acc=>by
  have e:acc.toArray++i'.toArray=(acc++i').toArray:=by simp
  have e2:(acc++i')++(Ak k i').flatten=acc++(Ak (k+1) i').flatten:=by
   rw[DV,FC,BC]
  rw[<-e2,<-foldl_rep i' k (acc++i'),<-e,DV,List.foldl_cons]
section
variable{X:Cx}{ζ:List (AV×Obj)}{σ:St}{H:Hp}{s:AQ}{a:AV}{y v:V}{u r:AH}{o:Option V}{A:CB}{E:AH->AQ->Prop}
theorem Inv.big(I:Inv X ζ σ H s):DJ < s.heap.objs.size:=by
 have h:Ah < s.heap.objs.size:=(I.mod.glob.keeps I.bk).lt;exact lS (by decide) h
theorem Yo(hu:A.units+1 < EA)(I:Inv X ζ σ H s)(g:NW H a y (some v))(ry:RelV y u)(h:∀w' s',Inv X ζ σ H s'->RelV v w'->Q w' s') :
  Aw (Ac X.prog X.w) A (ZB (.ref a) u) Q E s:=by
 rcases g with⟨kvs,k,e,ey,l⟩ | ⟨kvs,k,b,e,ey,eb,l⟩
 ·subst ey
  obtain⟨z,hd,vs,rel,dd⟩:=RY I.hok e;obtain⟨w',hw,pH⟩:=OB.some_of (v:=v) (o:=QZ vs k) (by rw[l];exact rel.val k);exact wpAny_getItem_of (RQ ry) dd.mapOf hw (h w' _ (I.tok _) pH)
 ·subst ey
  cases(show u=Au b from ry);obtain⟨z,hd,xs,rel,dd⟩:=RX I.hok e;obtain⟨w',hw,pH⟩:=OB.some_of (v:=v) (o:=(Ux xs k).map (·.2)) (by rw[l];exact rel.val k);obtain⟨p,hp,tR⟩:=Option.map_eq_some_iff.mp hw;refine wpAny_getItem_heap (Jn hu) (QF I.hok eb) dd hp ?_;rw[tR];exact h w' _ (I.tok _) pH
theorem d_in(hu:A.units+1 < EA)(I:Inv X ζ σ H s)(g:NW H a y o)(ry:RelV y u)(h:∀s',Inv X ζ σ H s'->Q (.bool o.isSome) s') :
  Aw (Ac X.prog X.w) A (Bs .In u (.ref a)) Q E s:=by
 rcases g with⟨kvs,k,e,ey,l⟩ | ⟨kvs,k,b,e,ey,eb,l⟩
 ·subst ey
  obtain⟨z,hd,vs,rel,dd⟩:=RY I.hok e;refine wpAny_in_of (RQ ry) hd dd.mapOf ?_;rw[<-(rel.val k).isSome_eq,<-l];exact h _ (I.tok _)
 ·subst ey
  cases(show u=Au b from ry);obtain⟨z,hd,xs,rel,dd⟩:=RX I.hok e;refine wpAny_in_heap (Jn hu) (QF I.hok eb) hd dd ?_;have q:=(rel.val k).isSome_eq;rw[G0]at q;rw[<-q,<-l];exact h _ (I.tok _)
theorem fc(hu:A.units+1 < EA)(I:Inv X ζ σ H s)(g:NW H a y o)(ry:RelV y u)(h:∀s',Inv X ζ σ H s'->Q (.bool (!o.isSome)) s') :
  Aw (Ac X.prog X.w) A (Bs .NotIn u (.ref a)) Q E s:=by
 rcases g with⟨kvs,k,e,ey,l⟩ | ⟨kvs,k,b,e,ey,eb,l⟩
 ·subst ey
  obtain⟨z,hd,vs,rel,dd⟩:=RY I.hok e;refine wpAny_notIn_of (RQ ry) hd dd.mapOf ?_;rw[<-(rel.val k).isSome_eq,<-l];exact h _ (I.tok _)
 ·subst ey
  cases(show u=Au b from ry);obtain⟨z,hd,xs,rel,dd⟩:=RX I.hok e;refine wpAny_notIn_heap (Jn hu) (QF I.hok eb) hd dd ?_;have q:=(rel.val k).isSome_eq;rw[G0]at q;rw[<-q,<-l];exact h _ (I.tok _)
theorem O2(I:Inv X ζ σ H s)(mu:Mut (H a))(hs:Ec a s.heap h')(he:∃q,h'.get? a=some q)(new:CH X.prog X.w (upd H a ob) h' a ob) :
  Inv X ζ σ (upd H a ob) { s with heap:=h',toks:=t' }:=
 I.write (x:=a) (e:=a) mu (.inl rfl) (λb q hb z=>(hs.2 b hb).trans z) he new
theorem Vy(z:kvs.length<=sizeLine)(hd:(a==DJ)=false)(rel:KV kvs vs)(dd:h'.DictOf (Ct P w) a vs) :
  CH P w H' h' a (.dK kvs):=⟨z,hd,vs,rel,dd⟩
theorem Yn(hu:A.units+1 < EA)(I:Inv X ζ σ H s)(g:Ud H a y v H')(ry:RelV y u)(rv:RelV v r)(h:∀s',Inv X ζ σ H' s'->Q () s') :
  Aw (Ac X.prog X.w) A (setItem (.ref a) u r) Q E s:=by
 rcases g with⟨kvs,k,e,ey,l,eH⟩ | ⟨kvs,k,b,e,ey,eb,l,eH⟩
 ·subst ey eH
  obtain⟨z,hd,vs,rel,dd⟩:=XF I.hok e
  have hz:vs.length<=sizeLine:=by rw[<-rel.length];exact z
  have hl:(Ht kvs k v).length<=sizeLine:=by have:=Kz kvs k v;lia
  refine wpAny_setItem_pairs (hsz:=hz) (RQ ry) dd λh' dd' hs=>h _ ?_
  have he:∃q,h'.get? a=some q:=let ⟨q,_,_,hq,_⟩:=dd';⟨q,hq⟩
  exact O2 I (by rw[e];exact Cu) hs he (Vy hl hd (rel.put k rv) dd')
 ·subst ey eH
  cases(show u=Au b from ry);obtain⟨z,hd,xs,rel,dd⟩:=nP I.hok e
  have hz:xs.length<=sizeLine:=by rw[<-D4 rel];exact z
  have hl:(Ht kvs k v).length<=sizeLine:=by have:=Kz kvs k v;lia
  refine wpAny_setItem_heap (hsz:=hz) (Jn hu) (QF I.hok eb) dd λh' dd' hs=>h _ ?_
  obtain⟨q,es,ep,hq,h2,h3,h4,_,h5⟩:=dd';refine O2 I (by rw[e];exact Cu) hs ⟨q,hq⟩ ⟨hl,hd,_,(rel.put k eb rv).keeps λc ys ec=>?_,q,es,ep,hq,h2,h3,h4,h5⟩;rw[BN (mZ ec e (λz=>nomatch z))];exact ec
variable{X:Cx}{ζ:List (AV×Obj)}{σ:St}{H:Hp}{s:AQ}{l:AV}{xs ys:List V}
theorem Inv.lset{i' its':List AH}{n:Nat}{f:Array AH->Array AH}{t':Nat}(I:Inv X ζ σ H s)(hH:H l=some (.lst xs))
  (e:s.heap.get? l=some { cls:=.type "list",data:=.seq i'.toArray n }) (hf:f i'.toArray=its'.toArray) (hv:Bg ys its') (hz:ys.length<=sizeLine) :
  Inv X ζ σ (upd H l (.lst ys)) { s with heap:=s.heap.update l (Hr f),toks:=t' }:=by
 have q:=PySem.IsL.update e f;rw[hf]at q;refine I.write (x:=l) (e:=l) (by rw[hH];exact trivial) (.inl rfl) (λb' u hb hu=>(Eb s.heap (Hr f) (Br hb)).trans hu) ⟨_,q⟩ ?_;exact⟨hz,its',_,hv,q⟩
theorem Inv.lnew(I:Inv X ζ σ H s)(hv:Bg ys i')(hz:ys.length<=sizeLine) :
  Inv X ζ σ (upd H s.heap.objs.size (.lst ys)) { s with heap:=s.heap.push { cls:=.type "list",data:=.seq i'.toArray },toks:=t' }:=
 I.laid (λ_ _ q=>AK _ q) (AN _) ⟨hz,i',0,hv,Al _ rfl⟩
theorem Inv.fresh(I:Inv X ζ σ H s):H s.heap.objs.size=none:=I.hok.fresh (AN _)
theorem Inv.lstM(I:Inv X ζ σ H s)(hH:H l=some (.lst xs)):xs.length<=sizeLine/\∃(i':List AH) (n:Nat),Bg xs i'/\xs.length=i'.length/\s.heap.get? l=some { cls:=.type "list",data:=.seq i'.toArray n }:=by
 obtain⟨z,i',n,r,e⟩:=I.hok l _ hH;exact⟨z,i',n,r,r.length,e⟩
theorem T4(h:n<=sizeLine):Dl n=false:=by
 unfold Dl;exact wY (by lia)
end
def kg(i:Expr):Prop:=∀ov iv,Sy i false ov iv=operate [ov,iv] (ZB ov iv)
theorem dU{prog}{w}{A}{E}{s}{env}{value slice}{pos}{T id}{Q}
  (hl:typeLookup (.type T) "__getitem__" = pure (some (.builtin id))) (hs:kg slice)
  (h:Aw (Ac prog w) A (B4 value env) (λo s₁=>Aw (Ac prog w) A (B4 slice env) (λi s₂=>s₂.TypeIs o T/\Aw (Ac prog w) A (ZB o i) Q E s₂) E s₁) E s) :
  Aw (Ac prog w) A (B4 (.Subscript value slice pos) env) Q E s:=by
 refine iD (E7 h (λo s₁ h₁=>E7 h₁ (λi s₂ h₂=>?_) λ_ _ x=>x) λ_ _ x=>x);obtain⟨hT,h₂⟩:=h₂;unfold XV;refine AB ?_;rw[getitemInPython_of_ne hT.not_modules];refine AB (wpAny_specialOf hT hl ?_)
 have fin:Aw (Ac prog w) A (Sy slice false o i) (λr s₃=>Aw (Ac prog w) A (letTemporaryGo value o r >>= λ_=>pure r) Q E s₃) E s₂:=by
  rw[hs o i];exact wpAny_operating (E7 h₂ (λr s₃ h₃=>AB (wpAny_letTemporaryGo (AR h₃))) λ_ _ x=>x)
 first
  | exact AR (AB fin)
  | exact AB (AR (AB fin))
  | exact AB fin
theorem UT(I:Inv X ζ σ H s)(g:NW H a y o):s.TypeIs (.ref a) "dict":=by
 rcases g with⟨kvs,k,e,_,_⟩ | ⟨kvs,k,b,e,_,_,_⟩
 ·obtain⟨_,_,vs,_,dd⟩:=RY I.hok e
  exact dd.typeIs
 ·obtain⟨_,_,xs,_,dd⟩:=RX I.hok e
  exact dd.typeIs
def lj(td ty:TE):TE:=λσ H Q=>td σ H λx H1=>ty σ H1 λy H2=>∃a v,x=.ref a/\NW H2 a y (some v)/\Q v H2
def lh(ty td:TE):TE:=λσ H Q=>ty σ H λy H1=>td σ H1 λx H2=>∃a o,x=.ref a/\NW H2 a y o/\Q (.bl o.isSome) H2
def We(ty td:TE):TE:=λσ H Q=>ty σ H λy H1=>td σ H1 λx H2=>∃a o,x=.ref a/\NW H2 a y o/\Q (.bl (!o.isSome)) H2
def ls(td ty tv:TE):TS:=λD σ H=>tv σ H λv H1=>td σ H1 λx H2=>ty σ H2 λy H3=>∃a H4,x=.ref a/\Ud H3 a y v H4/\D.nx σ H4
variable{X:Cx}
def dh:V->List V->Hp->VK->Prop:=λx vs H Q=>∃l xs y,x=.ref l/\vs=[y]/\H l=some (.lst xs)/\xs.length < sizeLine/\Q .non (upd H l (.lst (xs++[y])))
theorem RN:MtM X "list.append" dh:=by
 intro ζ s σ H x vs v us Q I rx rv h;obtain⟨l,xs,y,rfl,rfl,hH,hz,q⟩:=h;cases rx;obtain⟨u,rfl,ru⟩:=rv.one;obtain⟨z,i',n,r,hl,e⟩:=I.lstM hH;refine L9 F.slot_list_append ⟨_,e,rfl⟩ F.entry_list_append (F.args_list_append_2 _ _) (PySem.list_append l i'.toArray n u (by rw[Ae];lia)) ⟨e,?_⟩;refine⟨.non,_,I.lset (its':=i'++[u]) hH e (by simp) (r.append (.cons ru .nil)) ?_,rfl,q⟩;rw[Ad,Bu]
 lia
def rPop:V->List V->Hp->VK->Prop:=λx vs H Q=>∃l xs y,x=.ref l/\vs=[]/\H l=some (.lst xs)/\xs[xs.length - 1]?=some y/\Q y (upd H l (.lst xs.dropLast))
theorem jl:MtM X "list.pop" rPop:=by
 intro ζ s σ H x vs v us Q I rx rv h;obtain⟨l,xs,y,rfl,rfl,hH,hy,q⟩:=h;cases rx;have wu:=rv.zero;subst wu;obtain⟨z,i',n,r,hl,e⟩:=I.lstM hH;obtain⟨u,hu,ru⟩:=r.get hy
 have qv:i'.toArray[i'.toArray.size - 1]?=some u:=by
  show i'.toArray[i'.length - 1]?=some u;rw[<-HV,<-hl];exact hu
 refine L9 F.slot_list_pop ⟨_,e,rfl⟩ F.entry_list_pop (F.args_list_pop_1 _) (MeetsSeq.list_pop_last l i'.toArray n u qv (by rw[Ae];lia)) ⟨e,?_⟩;refine⟨y,_,I.lset (its':=i'.dropLast) hH e ?_ r.dropLast ?_,ru,q⟩
 ·show i'.toArray.eraseIdxIfInBounds (i'.toArray.size - 1)=i'.dropLast.toArray
  rw[Ae,List.eraseIdxIfInBounds_toArray,Vx]
 ·rw[List.length_dropLast]
  lia
def Z0:V->List V->Hp->VK->Prop:=λx vs H Q=>∃l xs,x=.ref l/\vs=[]/\H l=some (.lst xs)/\Q .non (upd H l (.lst xs.reverse))
theorem Vk:MtM X "list.reverse" Z0:=by
 intro ζ s σ H x vs v us Q I rx rv h;obtain⟨l,xs,rfl,rfl,hH,q⟩:=h;cases rx;have wu:=rv.zero;subst wu;obtain⟨z,i',n,r,hl,e⟩:=I.lstM hH;refine L9 F.slot_list_reverse ⟨_,e,rfl⟩ F.entry_list_reverse (F.args_list_reverse_1 _) (AutoSeq1.list_reverse_list_0 l i'.toArray n (by rw[Ae];lia)) ⟨e,?_⟩;refine⟨.non,_,I.lset (its':=i'.reverse) hH e (by simp) r.reverse ?_,rfl,q⟩;rw[Xd];omega
def rCat:R2:=λx y H Q=>∃l b xs zs,x=.ref l/\y=.ref b/\H l=some (.lst xs)/\H b=some (.lst zs)/\xs.length+zs.length<=sizeLine/\∀p,H p=none->Q (.ref p) (upd H p (.lst (xs++zs)))
theorem jW:OpR X (CV .Add) rCat:=by
 intro ζ s σ H x y v u Q I rx ry h;obtain⟨l,b,xs,zs,rfl,rfl,hH,hB,hz,q⟩:=h;cases rx;cases ry;obtain⟨z,i',n,r,hl,e⟩:=I.lstM hH;obtain⟨z2,oG,n2,r2,qI,e2⟩:=I.lstM hB;refine PySem.P.add_list e e2 ?_ (by rw[Ae,Ae];lia)
 have ea:i'.toArray++oG.toArray=(i'++oG).toArray:=by simp
 rw[ea];exact⟨.ref _,_,I.lnew (t':=s.toks) (r.append r2) (by rw[Ad];omega),rfl,q _ I.fresh⟩
def rRep:R2:=λx y H Q=>∃l k xs,x=.ref l/\y=.int k/\H l=some (.lst xs)/\-(2 ^ 63)<=k/\k < 2 ^ 63/\xs.length * k.toNat<=sizeLine /\
 ∀p,H p=none->Q (.ref p) (upd H p (.lst (Ak k.toNat xs).flatten))
theorem et{α:Type}(xs:List α)(k:Nat):(Ak k xs).flatten.length=k * xs.length:=by
 induction k with
 | zero=>simp
 | succ k ih=>rw[DV,FC,Ad,ih,Nat.succ_mul,Nat.add_comm]
theorem jS:OpR X (CV .Mult) rRep:=by
 intro ζ s σ H x y v u Q I rx ry h;obtain⟨l,k,xs,rfl,rfl,hH,h1,h2,hz,q⟩:=h;cases rx;obtain⟨t,rfl⟩:=ry;obtain⟨z,i',n,r,hl,e⟩:=I.lstM hH
 have hlen:i'.toArray.size * k.toNat<=sizeLine:=by rw[Ae,<-hl];exact hz
 have wx:¬i'.toArray.size * k.toNat > (2 ^ 63 - 1) / 8:=by
  have:(sizeLine:Nat)<=(2 ^ 63 - 1) / 8:=by decide
  lia
 have wy:¬(!Builtin.List.listFitsIndex k)=true:=by
  rw[fitsIndex_both h1 h2];exact AL
 have qJ:¬Dl (i'.toArray.size * k.toNat)=true:=by
  rw[T4 hlen];exact AL
 have wz:Y7 (λx1 x2=>x1++x2) #[] (Ak (if i'.toArray.isEmpty=true then 0 else k.toNat) i'.toArray)=(Ak k.toNat i').flatten.toArray:=by
  have f0:∀m:Nat,Y7 (λx1 x2=>x1++x2) #[] (Ak m i'.toArray)=(Ak m i').flatten.toArray:=λm=>by
   have:=foldl_rep i' m [];rw[cQ]at this;exact this
  rw[f0]
  cases i' with
  | nil=>simp
  | cons a r'=>rw[qY (by simp)]
 refine wpAny_binaryOp_repeat_ref (T:="list") (U:="int") (by decide) ⟨_,e,rfl⟩ (λs'=>hV s' k t) noFill_list_mul F.fills_int_mul lG repeat_list F.slot_int_index.lookup
  (L9 lG (hV s k t) F.entry_int_rmul (F.args_int_rmul_2 _ _) (int___rmul___int_list k t l i'.toArray n)
   ⟨e,rfl,⟨_,e,rfl⟩,L9 F.slot_list_mul ⟨_,e,rfl⟩ F.entry_list_mul (F.args_list_mul_2 _ _) (AutoListH.list___mul___list_int_3 l i'.toArray n k t wy wx qJ) ⟨e,?_⟩⟩)
 rw[wz];exact⟨.ref _,_,I.lnew (t':=s.toks) (r.rep k.toNat) (by rw[et,Nat.mul_comm];exact hz),rfl,q _ I.fresh⟩
section
variable{X:Cx}{o i value:Expr}{pos pos':Pos}{td ty tv:TE}
theorem eJ(hu:X.A.units+1 < EA)(ho:PE X o td)(hi:PE X i ty)(hs:kg i):PE X (.Subscript o i pos) (lj td ty):=by
 intro ζ s σ H Q I h;refine dU PySem.F.slot_dict_getitem.lookup hs (thn (ho ζ s σ H _ I h) λu s1 ⟨x,H1,I1,rx,q1⟩=>thn (hi ζ s1 σ H1 _ I1 q1) λiv s2 ⟨y,H2,I2,ry,a,v,ex,g,q2⟩=>?_);subst ex;obtain rfl:u=Au a:=rx;exact⟨UT I2 g,Yo hu I2 g ry λw' s3 I3 pH=>⟨v,H2,I3,pH,q2⟩⟩
theorem aH(hu:X.A.units+1 < EA)(hi:PE X i ty)(ho:PE X o td):PC X .In i o (lh ty td):=by
 intro ζ s σ H Q I h
 refine thn (hi ζ s σ H _ I h) λiv s1 ⟨y,H1,I1,ry,q1⟩=>thn (ho ζ s1 σ H1 _ I1 q1) λu s2 ⟨x,H2,I2,rx,a,ov,ex,g,q2⟩=>?_
 subst ex;obtain rfl:u=Au a:=rx
 exact d_in hu I2 g ry λs3 I3=>⟨.bl ov.isSome,H2,I3,rfl,q2⟩
theorem YK(hu:X.A.units+1 < EA)(hi:PE X i ty)(ho:PE X o td):PC X .NotIn i o (We ty td):=by
 intro ζ s σ H Q I h
 refine thn (hi ζ s σ H _ I h) λiv s1 ⟨y,H1,I1,ry,q1⟩=>thn (ho ζ s1 σ H1 _ I1 q1) λu s2 ⟨x,H2,I2,rx,a,ov,ex,g,q2⟩=>?_
 subst ex;obtain rfl:u=Au a:=rx
 exact fc hu I2 g ry λs3 I3=>⟨.bl (!ov.isSome),H2,I3,rfl,q2⟩
theorem dr(hu:X.A.units+1 < EA)(ho:PE X o td)(hi:PE X i ty)(hv:PE X value tv)(hs:GX value (some (.Subscript o i pos')) pos.line X.env=pure false) :
  PS X (.Assign [.Subscript o i pos'] value pos) (ls td ty tv):=by
 intro ζ s σ H D I h;refine wpAny_Assign_Subscript (thn (hv ζ s σ H _ I h) λr s1 ⟨v,H1,I1,rv,q1⟩=>thn (ho ζ s1 σ H1 _ I1 q1) λu s2 ⟨x,H2,I2,rx,q2⟩=>thn (hi ζ s2 σ H2 _ I2 q2) λiv s3 ⟨y,H3,I3,ry,a,H4,ex,g,q3⟩=>?_) hs;subst ex;obtain rfl:u=Au a:=rx
 exact Yn hu I3 g ry rv λs4 I4=>⟨σ,H4,I4,q3⟩
end
theorem US(h:Cj)(hb:DJ < h.objs.size):CH P w H (h.push { cls:=.type "dict",data:=.dict #[] }) h.objs.size (.dK []):=
 ⟨DK _,beq_eq_false_iff_ne.mpr (Br (A0 hb)),[],.nil,Cj.DictOf.new h⟩
theorem bf(h:Cj)(hb:DJ < h.objs.size):CH P w H (h.push { cls:=.type "dict",data:=.dict #[] }) h.objs.size (.dT []):=
 ⟨DK _,beq_eq_false_iff_ne.mpr (Br (A0 hb)),[],.nil,_,#[],0,Al _ rfl,⟨rfl,rfl,rfl⟩,rfl,rfl,G6⟩
def io:TE:=λ_ H Q=>∀p,H p=none->Q (.ref p) (upd H p (.dK []))
def im:TE:=λ_ H Q=>∀p,H p=none->Q (.ref p) (upd H p (.dT []))
variable{prog:Bp}{w:CF}{A:CB}{s:AQ}
section
variable{X:Cx}{pos:Pos}
theorem aF:PE X (.Dict [] [] pos) io:=λζ s σ H Q I h=>
 lL ⟨.ref s.heap.objs.size,_,I.laid (a:=s.heap.objs.size) (o:=.dK []) (t':=s.toks) (λ_ _ q=>AK _ q) (AN _) (US s.heap I.big),rfl,h _ (I.hok.fresh (AN _))⟩
theorem aE:PE X (.Dict [] [] pos) im:=λζ s σ H Q I h=>
 lL ⟨.ref s.heap.objs.size,_,I.laid (a:=s.heap.objs.size) (o:=.dT []) (t':=s.toks) (λ_ _ q=>AK _ q) (AN _) (bf s.heap I.big),rfl,h _ (I.hok.fresh (AN _))⟩
end
def VU:List (TE×TE)->St->Hp->(List (V×V)->Hp->Prop)->Prop
 | [],_,H,Q=>Q [] H
 | (tk,tv) :: r,σ,H,Q=>tk σ H λx H1=>tv σ H1 λy H2=>VU r σ H2 λps H3=>Q ((x,y) :: ps) H3
abbrev VV:List (V×V)->List (AH×AH)->Prop:=FZ λp q=>RelV p.1 q.1/\RelV p.2 q.2
def PPs(X:Cx)(pos:Pos)(keys:List (Option Expr))(values:List Expr)(sh:List (TE×TE)):Prop:=
 ∀(ζ:List (AV×Obj)) (s:AQ) (σ:St) (H:Hp) (Q:List (V×V)->Hp->Prop),Inv X ζ σ H s->VU sh σ H Q ->
  Aw (Ac X.prog X.w) X.A (evalPairs (pairTrees keys values X.env pos)) (λvs s'=>∃ps H',Inv X ζ σ H' s'/\VV ps vs/\Q ps H') X.xe s
theorem dv:PPs X pos [] [] []:=λζ s σ H Q I h=>pairTrees_nil_walk ⟨[],H,I,.nil,h⟩
theorem Z9(hk:PE X k tk)(hv:PE X v tv)(hr:PPs X pos ks vs sh) :
  PPs X pos (some k :: ks) (v :: vs) ((tk,tv) :: sh):=λζ s σ H Q I h=>
 pairTrees_cons_walk (thn (hk ζ s σ H _ I h) λu s1 ⟨x,H1,I1,rx,q1⟩=>thn (hv ζ s1 σ H1 _ I1 q1) λw2 s2 ⟨y,H2,I2,ry,q2⟩=>
  thn (hr ζ s2 σ H2 _ I2 q2) λws s3 ⟨ps,H3,I3,rel,q3⟩=>⟨(x,y) :: ps,H3,I3,.cons ⟨rx,ry⟩ rel,q3⟩)
def JC(kvs more:List (Key×V)):List (Key×V):=more.foldl (λacc kv=>Ht acc kv.1 kv.2) kvs
theorem KV.merge:∀{more:List (Key×V)} {rs:List (Key×AH)} {kvs:List (Key×V)} {vs:List (Key×AH)},KV more rs->KV kvs vs->KV (JC kvs more) (merged vs rs):=by
 intro more rs kvs vs r;unfold KV at r
 induction r generalizing kvs vs with
 | nil=>intro q;exact q
 | @cons p q ps qs h t ih=>
  intro r0
  have e:KV (Ht kvs p.1 p.2) (stored vs q.1 q.2):=by
   have:=r0.put p.1 h.2;rw[<-h.1];exact this
  exact ih e
theorem JD:∀(more kvs:List (Key×V)),(JC kvs more).length<=kvs.length+more.length
 | [],kvs=>by show kvs.length<=kvs.length+0;lia
 | p :: r,kvs=>by
  have h1:=JD r (Ht kvs p.1 p.2);have h2:=Kz kvs p.1 p.2;show(JC (Ht kvs p.1 p.2) r).length<=_;rw[A8];lia
theorem QQ{P}{w}:∀{kvs:List (Key×V)} {ws:List (AH×AH)},VV (kvs.map λkv=>(kV kv.1,kv.2)) ws->∃rs,Carries (Ct P w) ws rs/\KV kvs rs
 | [],_,r=>by rw[Kb]at r;cases r;exact⟨[],Cu,.nil⟩
 | p :: kvs,_,r=>by
  rw[BA]at r
  cases r with
  | @cons a b as bs h t=>
   obtain⟨rs,c,q⟩:=QQ (P:=P) (w:=w) t;obtain⟨b1,b2⟩:=b;exact⟨(p.1,b2) :: rs,⟨RQ h.1,rfl,c⟩,.cons ⟨rfl,h.2⟩ q⟩
def lf(sh:List (TE×TE)):TE:=λσ H Q=>∀p,H p=none->VU sh σ (upd H p (.dK [])) λps H2=>H2 p=some (.dK [])/\∃kvs:List (Key×V),ps=kvs.map (λkv=>(kV kv.1,kv.2))/\kvs.length<=15/\Q (.ref p) (upd H2 p (.dK (JC [] kvs)))
theorem eI(h:PPs X pos keys values sh)(hall:keys.all (·.isSome)=true)(hl:keys.length=values.length)(h0:keys≠[])
  (h15:keys.length<=15):PE X (.Dict keys values pos) (lf sh):=by
 intro ζ s σ H Q I q;have hn:=I.hok.fresh (AN s.heap.objs.size);have I1:=I.laid (a:=s.heap.objs.size) (o:=.dK []) (h':=s.heap.push { cls:=.type "dict",data:=.dict #[] }) (t':=s.toks) (λ_ _ q=>AK _ q) (AN _) (US s.heap I.big);refine wpAny_Dict_walk (knd:=Ct X.prog X.w) hall hl h0 h15 (thn (h ζ _ σ _ _ I1 (q _ hn)) λws s2 ⟨ps,H2,I2,rel,e,kvs,ep,lk,q2⟩=>?_);subst ep;obtain⟨rs,c,rk⟩:=QQ (P:=X.prog) (w:=X.w) rel;obtain⟨z,hd,ν,r0,dd⟩:=XF I2.hok e;cases r0;refine⟨rs,c,dd,λh' dd' hs=>⟨.ref s.heap.objs.size,_,?_,rfl,q2⟩⟩
 have hz:(JC [] kvs).length<=sizeLine:=by
  have h1:=JD kvs [];rw[IJ]at h1;rw[Sz];lia
 have he:∃q,h'.get? s.heap.objs.size=some q:=let ⟨q,_,_,hq,_⟩:=dd';⟨q,hq⟩
 exact O2 I2 (by rw[e];exact Cu) hs he (Vy hz hd (rk.merge .nil) dd')
structure M1(X:Cx)(o:Expr)(m:Str)(apos:Pos)(e:Expr)(cpos:Pos):Prop where
 base:Cp o m X.env (B4 o X.env)=B4 o X.env
 few:((Dw cpos (Aa [e] X.env)).all (λx=>!x.1)&&(cM cpos (S8 [] X.env)).all (λx=>x.1.isSome)
   &&decide (([e]:List Expr).length+([]:List OG).length+(if ([]:List OG).isEmpty then 0 else 1) < 30))=true
 line:(apos.endLine==cpos.line)=true
 trees:Dw cpos (Aa [e] X.env)=[(false,B4 e X.env)]
def IsD(H:Hp)(a:AV):Prop:=(∃kvs,Rd H a (.dK kvs))∨∃kvs,Rd H a (.dT kvs)
theorem bC(I:Inv X ζ σ H s)(d:IsD H a) :
  s.TypeIs (.ref a) "dict"/\(∀b,Au a=.ref b->∃ob,s.heap.get? b=some ob/\ob.dict=none)/\(a==DJ)=false:=by
 rcases d with⟨kvs,e⟩ | ⟨kvs,e⟩
 ·obtain⟨_,hd,vs,_,dd⟩:=RY I.hok e
  refine⟨dd.typeIs,λb q=>?_,hd⟩;cases q;obtain⟨ob,_,_,h1,h2,_⟩:=dd;exact⟨ob,h1,h2.2.1⟩
 ·obtain⟨_,hd,xs,_,dd⟩:=RX I.hok e
  refine⟨dd.typeIs,λb q=>?_,hd⟩;cases q;obtain⟨ob,_,_,h1,h2,_⟩:=dd;exact⟨ob,h1,h2.2.1⟩
end
end L2
namespace Att
open PySem PySem.W PySem.Calls PyProof.Rows
theorem Oi:∀(ns:List Int) (vs:List AH),WellAll P h vs (ns.map nh)->GZ vs ns:=by
 intro ns
 induction ns with
 | nil=>
  intro vs w;rw[Kb]at w;cases w;exact .nil
 | cons n ns ih=>
  intro vs w;rw[BA]at w
  cases w with
  | cons a b=>
   cases a;exact .cons _ _ (ih _ b)
theorem X0{l:OpenLaw}{n:Nat}(hn:l.most=some n){P:Params}{h:Cj}{args:List WData}{vals:List AH}
  (pX:l.row.toRowW.claim.pre args=true) (vh:WellAll P h vals args) :
  ∃a vs ns,vals=[Au a]/\args=[WData.list (ns.map nh)]/\h.get? a=some { cls:=.type "list",data:=.seq vs.toArray }/\GZ vs ns/\ns.length<=n:=by
 have wA:WShape.hasAll [] args [.list .int]=true:=(pre_splitW pX).1;have hc:l.pre.holds [] { args:=args }=true:=(pre_splitW pX).2;obtain⟨d,r,rfl,h1,h2⟩:=hasAllW_cons wA;obtain rfl:=hasAllW_nil h2;obtain⟨xs,rfl,h3⟩:=hasW_list h1;obtain⟨ns,rfl⟩:=items_int h3
 have hlen:ns.length<=n:=by
  unfold OpenLaw.pre at hc
  have h4:(WTm.not (.lt (.lit (.int (n:Int))) (.len (.arg 0)))).holds [] { args:=[.list (ns.map .int)] }=true:=by
   have h4:=(holds_andW hc).1;rw[hn]at h4;exact h4
  have h5:=condW_of h4 (w_not (w_lt w_lit (w_len_list (w_arg rfl))));rw[AE]at h5
  refine PB λq=>?_
  have q':(n:Int) < ((ns.length:Nat):Int):=by omega
  first
   | (rw[wX q']at h5;exact zX h5 (by decide))
   | (simp at h5;omega)
 cases vh with
 | cons w1 w2=>
  cases w2
  cases w1 with
  | list ho hall=>exact⟨_,_,ns,rfl,rfl,ho,Oi ns _ hall,hlen⟩
theorem YD(l:OpenLaw)(args:List WData):l.row.toRowW.claim.post args (.bool true) args=true:=
 postW_of (r:=l.row.toRowW) (X:=(true==true))
  (show kz [] (.bool true) .bool=true by first | rfl | decide | simp[kz,WShape.arms,WShape.armsAll])
  (show(WTm.eq .res (.lit (.bool true))).value [] { args:=args,res:=some (.bool true),after:=args }=some (.bool (true==true))from w_eq_bool (w_res rfl) w_lit) rfl
theorem Ua{l:OpenLaw}{n:Nat}{q:Bp}{loose:List Str}{XP:(Str->Option AH)->Cj->Prop}{YP:CF->Cj->Prop}{d:DefRec}
  (hn:l.most=some n) (tS:d.params.defaults=[])
  (call:∀(w:CF) (s₀ s₁:AQ) (mg mb:Str->Option AH) (fa:AV) (o:Obj) (pm cd doc:AH) (a:AV) (vs:List AH) (ns:List Int),
   Ground q loose [] XP w s₀ mg mb s₁.heap->YP w s₁.heap ->
   s₁.heap.get? fa=some o->o.data=.func (docDef d.name d.params d.body d.scope pm cd doc)->s₁.heap.CodeRec cd d.name->mg d.name=some (.ref fa) ->
   s₁.heap.get? a=some { cls:=.type "list",data:=.seq vs.toArray }->GZ vs ns->ns.length<=n->s₁.gens = #[] ->
   L8 (Ac l.prog w) Qb (.call (.ref fa) ⟨[.ref a],[]⟩) (λr s'=>r=.ok (.ret (.bool true))/\OldK s₁.heap s'.heap/\s'.os=s₁.os/\Ii s'.gens) s₁) :
  WalkO q loose XP YP l.row.toRowW d [] (λf vs=>XZ f vs):=by
 intro w s₀ s₁ mg mb G Y fa o pm cd doc dV kV ho hd qe hD si hg args vals as pX hlay hrd vh rh;obtain rfl:dV=.none:=Dflts.none hD tS;obtain rfl:kV=.none:=Dflts.noKw hD;obtain⟨a,vs,ns,rfl,rfl,sj,hints,hlen⟩:=X0 hn pX vh;refine enter_call (Qa (call w s₀ s₁ mg mb fa o pm cd doc a vs ns G Y ho (fd_plain hd) qe si sj hints hlen hg) λr s' hq=>?_);obtain⟨rfl,h2,h3,h4⟩:=hq;exact⟨.inl ⟨.bool true,.bool true,[],rfl,λ_=>rfl,.bool true,YD l _,λ_=>⟨Q4,λ_ hm=>(nomatch hm)⟩⟩,h2,h3,h4⟩
end Att
namespace L2
open PySem PySem.Spec PyProof.Rows
theorem RE:∀{vs:List AH} {ns:List Int},GZ vs ns->Bg (ns.map V.int) vs
 | _,_,.nil=>.nil
 | _,_,.cons n t h=>.cons ⟨t,rfl⟩ (RE h)
def gP(H:Hp):Prop:=∀b,H b=none∨∃o xs,H b=some (.frz o (.lst xs))
theorem av{P}{w}{K}{mg mb}{CX}{k}{fa a}{fd}{x}{sp}{s₁}{vs}{ns}
  (KX:K.In s₁.heap) (ri:s₁.heap.Ns Ah mg) (hb:s₁.heap.Ns Uw mb) (hbb:∀x:Str,x≠"__name__"->mb x=E8 x) (wB:s₁.heap.NoLimit) (hg:s₁.gens = #[])
  (ha:s₁.heap.get? a=some { cls:=.type "list",data:=.seq vs.toArray }) (hi:GZ vs ns) (hl:ns.length<=sizeLine) (hr:Hy k Qb)
  (F:∀base:Cj,K.In base->base.Ns Ah mg->D0 P w K mg base CX k fa fd [x] sp) (tT:∀(s:AQ) (u:AH),Uq s fd ⟨[u],[]⟩ [(x,u)])
  (qu:∀H:Hp,gP H->SqL K H a (ns.map V.int)->sp [.ref a] H (λv _=>v=.bl true) λ_ _ _=>False)
  (wC:∀H e s',CX [] H s₁ (λ_ _ _=>False) e s'->False) :
  L8 (Ac P w) Qb (.call (.ref fa) ⟨[.ref a],[]⟩) (λr s'=>r=.ok (.ret (.bool true))/\OldK s₁.heap s'.heap/\s'.os=s₁.os/\Ii s'.gens) s₁:=by
 have rv:=RE hi;have wD:=hi.length
 have core:∀H:Hp,gP H->SqL K H a (ns.map V.int)->HOk P w H s₁.heap->(∀b,H b≠none->b=a)->(H a≠none->K.lookup a=none) ->
   L8 (Ac P w) Qb (.call (.ref fa) ⟨[.ref a],[]⟩) (λr s'=>r=.ok (.ret (.bool true))/\OldK s₁.heap s'.heap/\s'.os=s₁.os/\Ii s'.gens) s₁:=by
  intro H hO hS hok hA hK
  have qp:∀{b:AV} {o:Obj},s₁.heap.get? b=some o->H b=none->(SV s₁.heap H).get? b=some o:=λe n=>bJ e n
  have tP:∀{b:AV} {o:Obj} {es:Array OH} {ep:Nat},s₁.heap.get? b=some o->o.data=.dict es ep->H b=none:=λ{b o es ep} e d=>by
   cases q:H b with
   | none=>rfl
   | some u=>
    have e':b=a:=hA b (by rw[q];simp);subst e';rw[ha]at e;cases e;have d':Data.seq vs.toArray _=Data.dict es ep:=d;cases d'
  have vi:∀{b:AV} {m:Str->Option AH},s₁.heap.Ns b m->(SV s₁.heap H).Ns b m:=λ{b m} ⟨o,es,ep,e,d,r⟩=>⟨o,es,ep,qp e (tP e d),d,r⟩
  have ο:K.In (SV s₁.heap H):=λb o e=>qp (KX b o e) (by
   cases q:H b with
   | none=>rfl
   | some u=>
    have e':b=a:=hA b (by rw[q];simp);subst e'
    rw[hK (by rw[q];simp)]at e;cases e)
  have hM:Mod K mg (SV s₁.heap H):=⟨ο,vi ri,⟨mb,vi hb,hbb⟩,let ⟨mc,h1,h2⟩:=wB;⟨mc,vi h1,h2⟩⟩;have e0:WB P w K mg (SV s₁.heap H) Qb [] s₁ H:=⟨rfl,hM,λb o e=>eY e,U1 (Yb _ _),trivial,λb hb=>zX (show b∈([]:List AV)from hb) (by simp),hok,.of_eq hg⟩
  refine Qa ((F _ ο (vi ri)).run Qb [] s₁ H ⟨[.ref a],[]⟩ [.ref a] [.ref a] _ _ hr e0 (tT s₁ (.ref a)) (.cons rfl .nil) (qu H hO hS)) λr s' h=>?_
  cases r with
  | error e=>exact(wC H e s' h).elim
  | ok fl=>
   cases fl with
   | next=>exact D7 h
   | brk=>exact D7 h
   | cont=>exact D7 h
   | ret u=>
    obtain⟨v,H',os,bare,un,wF,r',q⟩:=h;have q':v=.bl true:=q;subst q';obtain rfl:u=Mp true:=r';refine⟨rfl,OldK.of_keep λb o e=>?_,os,bare⟩
    cases q:H b with
    | none=>exact un.keep b o e q (by intro z;exact zX (show b∈([]:List AV)from z) (by simp)) (by simp)
    | some u=>
     rcases hO b with z | ⟨ob,xs,z⟩
     ·rw[q]at z;cases z
     ·have z2:=un.frzs b ob _ z
      obtain⟨e1,_⟩:=hok b _ z;obtain⟨e2,_⟩:=wF b _ z2;rw[e]at e1;cases e1;exact e2
 cases hk:K.lookup a with
 | some o=>
  have e:=KX a o hk;rw[ha]at e;cases e
  refine core (λ_=>none) (λ_=>.inl rfl) (.inr ⟨_,vs.toArray,_,hk,rfl,rfl,rfl,by rw[Ae,wD];exact hl,by simpa using rv⟩) (λb u z=>by have z':(none:Option HO)=some u:=z;cases z') (λb z=>zX rfl z) λz=>zX rfl z
 | none=>
  refine core (λb=>if b=a then some (.frz { cls:=.type "list",data:=.seq vs.toArray } (.lst (ns.map V.int)))else none) (λb=>?_) (.inl (.inr ⟨{ cls:=.type "list",data:=.seq vs.toArray },qX rfl⟩)) (λb u z=>?_) (λb z=>?_) λ_=>hk
  ·by_cases hb:b=a
   ·exact .inr ⟨_,_,qX hb⟩
   ·exact .inl (qY hb)
  ·by_cases hb:b=a
   ·have z':=(qX hb).symm.trans z
    cases z';subst hb;exact⟨ha,by rw[AE];exact hl,vs,_,rv,ha⟩
   ·have z':=(qY hb).symm.trans z
    cases z'
  ·by_cases hb:b=a
   ·exact hb
   ·exact zX (qY hb) z
theorem cX{l:PySem.W.OpenLaw}{n k:Nat}{q:Bp}{loose:List Str}{XP:(Str->Option AH)->Cj->Prop}{YP:CF->Cj->Prop}{d:DefRec}{K:Params->AG}{CX:CF->CXT}{sp:CF->Sp}{x:Str}
  (hn:l.most=some n) (ph:n<=sizeLine) (tS:d.params.defaults=[]) (hr:Hy k Qb)
  (hY:∀(w:CF) (h:Cj),YP w h->(K w.params).In h)
  (F:∀(w:CF) (mg:Str->Option AH) (fa:AV) (h:Cj),(K w.params).In h->h.Ns Ah mg->mg d.name=some (.ref fa) ->
   ∃fd:LY,(∀(s:AQ) (u:AH),Uq s fd ⟨[u],[]⟩ [(x,u)]) /\
    ∀base:Cj,(K w.params).In base->base.Ns Ah mg->D0 l.prog w (K w.params) mg base (CX w) k fa fd [x] (sp w))
  (qu:∀(w:CF) (H:Hp) (a:AV) (ns:List Int),ns.length<=n->gP H->SqL (K w.params) H a (ns.map V.int)->sp w [.ref a] H (λv _=>v=.bl true) λ_ _ _=>False)
  (wC:∀(w:CF) (H:Hp) (s:AQ) (e:AH) (s':AQ),CX w [] H s (λ_ _ _=>False) e s'->False) :
  PySem.W.WalkO q loose XP YP l.row.toRowW d [] (λf vs=>XZ f vs):=by
 refine Att.Ua hn tS λw s₀ s₁ mg mb fa o pm cd doc a vs ns G Y ho hd qe si sj hints hlen hg=>?_
 have KX:=hY w _ Y;obtain⟨fd,hb,hF⟩:=F w mg fa _ KX G.T.g si
 exact av KX G.T.g G.T.b G.T.builtins G.T.nolimit hg sj hints (Ao hlen ph) hr hF hb (λH hO hS=>qu w H a ns hlen hO hS) λH e s'=>wC w H s₁ e s'
def fD(s:ER)(j:Nat):ER:=match s with
 | .ClassDef _ _ _ body _ _ _ _ _ _ _=>body.getD j (.Pass ⟨0,0,0,0⟩)
 | _=>.Pass ⟨0,0,0,0⟩
def B6(s:ER):Arguments:=match s with
 | .FunctionDef _ a _ _ _ _ _ _ _ _=>a
 | _=>{ posonlyargs:=[],args:=[],vararg:=none,kwonlyargs:=[],kw_defaults:=[],kwarg:=none,defaults:=[] }
def By(s:ER):List ER:=match s with
 | .FunctionDef _ _ b _ _ _ _ _ _ _=>b
 | _=>[]
def As(s:ER):Qd:=match s with
 | .FunctionDef _ _ _ _ _ _ sc _ _ _=>sc
 | _=>{ kind:=.function,names:=[],isGenerator:=false,isCoroutine:=false }
structure Fun(K:AG)(x qual:Str)(st:ER)(f:AV)(fd:LY):Prop where
 ex:∃(oc:AH) (od:Option AV) (kV doc pm:AH) (an:Option AV) (oZ ct:AH) (rS:Array (Option AH)),
  fd=IC x qual (B6 st) (By st) (As st) .none kV doc pm an oZ ct/\K.lookup f=some ⟨oc,od,.func fd,rS⟩/\O8 K oZ qual=true
 kp:Gf K (.ref f)=true
section
variable{K:AG}
theorem Fun.binds{x qual}{st}{f}{fd}{ps}(F:Fun K x qual st f fd)
  (h:∀(kV doc pm:AH) (an:Option AV) (oZ ct:AH) (us:List AH),us.length=ps.length->bindArgs (IC x qual (B6 st) (By st) (As st) .none kV doc pm an oZ ct) ⟨us,[]⟩=pure (ps.zip us)):Binds K fd ps []:=by
 obtain⟨oc,od,kV,doc,pm,an,oZ,ct,rS,rfl,lk,qe⟩:=F.ex;exact .all (h kV doc pm an oZ ct)
theorem C4{x qual}{st}{f}{oc}{od an}{rS}{kV doc pm oZ ct}(l:K.lookup f=some ⟨oc,od,.func (IC x qual (B6 st) (By st) (As st) .none kV doc pm an oZ ct),rS⟩)
  (c:O8 K oZ qual=true) (k:Gf K (.ref f)=true):Fun K x qual st f (IC x qual (B6 st) (By st) (As st) .none kV doc pm an oZ ct):=⟨⟨oc,od,kV,doc,pm,an,oZ,ct,rS,rfl,l,c⟩,k⟩
end
section
variable{X:Cx}
def pv(i:Nat)(hN:X.N[i]?=some x:=by rfl)(hv:Vis X.env.scope x:=by first | exact LJ rfl | exact KM (LJ rfl) | exact KM (KM rfl))(hd:(x==("__debug__" : Str))=false:=by decide)
  (qe:(x==("__classdict__" : Str))=false:=by decide):PE X (.Name x pos) (ik i):=jG hN hv hd qe
end
inductive D where
 | non | bl (b:Bool) | int (i:Int) | str (x:Str) | tup (ds:List D) | fro (ds:List D) | ref (n:Nat) | exc (C:AV)
def Qy(K:AG)(H:Hp)(a:AV)(vs:List V):Prop:=
 (∃o,H a=some (.frz o (.lst vs))) ∨
  ∃(o:Obj) (i':Array AH) (n:Nat),K.lookup a=some o/\o.cls=.type "list"/\o.dict=none/\o.data=.seq i' n/\i'.size<=sizeLine/\Bg vs i'.toList
theorem Qy.sq{K}{H}{a}{vs}(h:Qy K H a vs):SqL K H a vs:=by
 rcases h with h | h
 ·exact .inl (.inr h)
 ·exact .inr h
def Qz(o:Obj)(C:AV):Prop:=o.cls=.ref C/\o.dict=none/\∃vs,o.data=.fields vs
mutual
inductive Bo(K:AG)(ρ:List AV)(H:Hp):D->V->Prop where
 | non:Bo K ρ H .non .non
 | bl (b:Bool):Bo K ρ H (.bl b) (.bl b)
 | int (i:Int):Bo K ρ H (.int i) (.int i)
 | str (x:Str):Bo K ρ H (.str x) (.str x)
 | tup {ds:List D} {a:AV} {vs:List V}:H a=some (.tup vs)->Az K ρ H ds vs->Bo K ρ H (.tup ds) (.ref a)
 | fro {ds:List D} {a:AV} {vs:List V}:Qy K H a vs->Az K ρ H ds vs->Bo K ρ H (.fro ds) (.ref a)
 | ref {n:Nat} {a:AV}:ρ[n]?=some a->Bo K ρ H (.ref n) (.ref a)
 | exc {C a:AV} {o:Obj} {u:HO}:H a=some (.frz o u)->Qz o C->Bo K ρ H (.exc C) (.ref a)
inductive Az(K:AG)(ρ:List AV)(H:Hp):List D->List V->Prop where
 | nil:Az K ρ H [] []
 | cons {d:D} {v:V} {ds:List D} {vs:List V}:Bo K ρ H d v->Az K ρ H ds vs->Az K ρ H (d :: ds) (v :: vs)
end
structure Le(K:AG)(ρ:List AV)(H:Hp)(ρ':List AV)(H':Hp):Prop where
 pre:∀(n:Nat) a,ρ[n]?=some a->ρ'[n]?=some a
 tup:∀a xs,H a=some (.tup xs)->H' a=some (.tup xs)
 frz:∀a o u,H a=some (.frz o u)->H' a=some (.frz o u)
 oth:∀a o,H a=some o->(∀n:Nat,ρ[n]?≠some a)->H' a=some o/\∀n:Nat,ρ'[n]?≠some a
theorem Qy.mono{K}{H H'}{a}{xs}(l:∀a o u,H a=some (.frz o u)->H' a=some (.frz o u))(h:Qy K H a xs):Qy K H' a xs:=by
 rcases h with⟨o,h⟩ | h
 ·exact .inl ⟨o,l _ _ _ h⟩
 ·exact .inr h
section
variable{K:AG}{ρ ρ' ρ'':List AV}{H H' qK:Hp}
theorem Le.fro(l:Le K ρ H ρ' H'):∀a xs,Qy K H a xs->Qy K H' a xs:=λ_ _ h=>h.mono l.frz
theorem Le.refl:Le K ρ H ρ H:=⟨λ_ _ h=>h,λ_ _ h=>h,λ_ _ _ h=>h,λ_ _ h n=>⟨h,n⟩⟩
theorem Le.trans(a:Le K ρ H ρ' H')(b:Le K ρ' H' ρ'' qK):Le K ρ H ρ'' qK:=
 ⟨λn x h=>b.pre n x (a.pre n x h),λx xs h=>b.tup x xs (a.tup x xs h),λx o u h=>b.frz x o u (a.frz x o u h),λx o h n=>b.oth x o (a.oth x o h n).1 (a.oth x o h n).2⟩
mutual
theorem Bo.mono(l:Le K ρ H ρ' H'):∀{d:D} {v:V},Bo K ρ H d v->Bo K ρ' H' d v
 | _,_,.non=>.non
 | _,_,.bl b=>.bl b
 | _,_,.int i=>.int i
 | _,_,.str x=>.str x
 | _,_,.tup h r=>.tup (l.tup _ _ h) (Az.mono l r)
 | _,_,.fro h r=>.fro (l.fro _ _ h) (Az.mono l r)
 | _,_,.ref h=>.ref (l.pre _ _ h)
 | _,_,.exc h e=>.exc (l.frz _ _ _ h) e
theorem Az.mono(l:Le K ρ H ρ' H'):∀{ds:List D} {vs:List V},Az K ρ H ds vs->Az K ρ' H' ds vs
 | _,_,.nil=>.nil
 | _,_,.cons r t=>.cons (Bo.mono l r) (Az.mono l t)
end
mutual
theorem Bo.more(l:∀(n:Nat) a,ρ[n]?=some a->ρ'[n]?=some a):∀{d:D} {v:V},Bo K ρ H d v->Bo K ρ' H d v
 | _,_,.non=>.non
 | _,_,.bl b=>.bl b
 | _,_,.int i=>.int i
 | _,_,.str x=>.str x
 | _,_,.tup h r=>.tup h (Az.more l r)
 | _,_,.fro h r=>.fro h (Az.more l r)
 | _,_,.ref h=>.ref (l _ _ h)
 | _,_,.exc h e=>.exc h e
theorem Az.more(l:∀(n:Nat) a,ρ[n]?=some a->ρ'[n]?=some a):∀{ds:List D} {vs:List V},Az K ρ H ds vs->Az K ρ' H ds vs
 | _,_,.nil=>.nil
 | _,_,.cons r t=>.cons (Bo.more l r) (Az.more l t)
end
mutual
theorem Bo.keep(h1:∀a xs,H a=some (.tup xs)->H' a=some (.tup xs))(h2:∀a o u,H a=some (.frz o u)->H' a=some (.frz o u)):∀{d:D} {v:V},Bo K ρ H d v->Bo K ρ H' d v
 | _,_,.non=>.non
 | _,_,.bl b=>.bl b
 | _,_,.int i=>.int i
 | _,_,.str x=>.str x
 | _,_,.tup h r=>.tup (h1 _ _ h) (Az.keep h1 h2 r)
 | _,_,.fro h r=>.fro (h.mono h2) (Az.keep h1 h2 r)
 | _,_,.ref h=>.ref h
 | _,_,.exc h e=>.exc (h2 _ _ _ h) e
theorem Az.keep(h1:∀a xs,H a=some (.tup xs)->H' a=some (.tup xs))(h2:∀a o u,H a=some (.frz o u)->H' a=some (.frz o u)):∀{ds:List D} {vs:List V},Az K ρ H ds vs->Az K ρ H' ds vs
 | _,_,.nil=>.nil
 | _,_,.cons r t=>.cons (Bo.keep h1 h2 r) (Az.keep h1 h2 t)
end
theorem Az.length:∀{ds:List D} {vs:List V},Az K ρ H ds vs->ds.length=vs.length
 | _,_,.nil=>rfl
 | _,_,.cons _ t=>by rw[A8,A8,Az.length t]
theorem Az.get:∀{ds:List D} {vs:List V} {i:Nat} {d:D},Az K ρ H ds vs->ds[i]?=some d->∃v,vs[i]?=some v/\Bo K ρ H d v
 | _,_,_,_,.nil,e=>by simp at e
 | _,_,0,_,.cons r _,e=>by simp at e;subst e;exact⟨_,rfl,r⟩
 | _,_,i+1,d,.cons _ t,e=>by
  obtain⟨v,h1,h2⟩:=Az.get (i:=i) (d:=d) t (by simpa using e);exact⟨v,by simpa using h1,h2⟩
theorem Az.get':∀{ds:List D} {vs:List V} {i:Nat} {v:V},Az K ρ H ds vs->vs[i]?=some v->∃d,ds[i]?=some d/\Bo K ρ H d v
 | _,_,_,_,.nil,e=>by simp at e
 | _,_,0,_,.cons r _,e=>by simp at e;subst e;exact⟨_,rfl,r⟩
 | _,_,i+1,d,.cons _ t,e=>by
  obtain⟨v,h1,h2⟩:=Az.get' (i:=i) (v:=d) t (by simpa using e);exact⟨v,by simpa using h1,h2⟩
theorem Az.append:∀{ds es:List D} {vs us:List V},Az K ρ H ds vs->Az K ρ H es us->Az K ρ H (ds++es) (vs++us)
 | _,_,_,_,.nil,s=>s
 | _,_,_,_,.cons r t,s=>.cons r (Az.append t s)
theorem Az.take:∀{ds:List D} {vs:List V} (n:Nat),Az K ρ H ds vs->Az K ρ H (ds.take n) (vs.take n)
 | _,_,0,_=>.nil
 | _,_,_+1,.nil=>.nil
 | _,_,n+1,.cons r t=>.cons r (Az.take n t)
theorem Az.reverse(h:Az K ρ H ds vs):Az K ρ H ds.reverse vs.reverse:=by
 induction ds generalizing vs with
 | nil=>cases h;exact .nil
 | cons d ds ih=>
  cases h with
  | cons r t=>rw[JQ,JQ];exact(ih t).append (.cons r .nil)
theorem Az.of_ints:∀(ns:List Int),Az K ρ H (ns.map D.int) (ns.map V.int)
 | []=>.nil
 | n :: ns=>.cons (.int n) (Az.of_ints ns)
theorem Az.ints:∀{ns:List Int} {vs:List V},Az K ρ H (ns.map D.int) vs->vs=ns.map V.int
 | [],_,.nil=>rfl
 | n :: ns,_,.cons r t=>by
  cases r;rw[Az.ints (ns:=ns) t];rfl
end
inductive Ob where
 | lst (ds:List D)
 | dK (kvs:List (Key×D))
 | dT (kvs:List (List Key×D))
 | ins (C:AV) (fs:List (Str×D))
 | fK (kvs:List (Key×D))
 | fT (kvs:List (List Key×D))
abbrev Sto:=List Ob
abbrev KVR{κ:Type}(K:AG)(ρ:List AV)(H:Hp):List (κ×D)->List (κ×V)->Prop:=FZ λ(p:κ×D) (q:κ×V)=>p.1=q.1/\Bo K ρ H p.2 q.2
def Ez(K:AG)(ρ:List AV)(H:Hp)(a:AV):Ob->Prop
 | .lst ds=>∃vs,H a=some (.lst vs)/\Az K ρ H ds vs
 | .dK kvs=>∃kvs',H a=some (.dK kvs')/\KVR K ρ H kvs kvs'
 | .dT kvs=>∃kvs',H a=some (.dT kvs')/\KVR K ρ H kvs kvs'
 | .ins C fs=>∃dx rU,H a=some (.ins C dx rU)/\KVR K ρ H fs rU
 | .fK kvs=>∃ob kvs',H a=some (.frz ob (.dK kvs'))/\KVR K ρ H kvs kvs'
 | .fT kvs=>∃ob kvs',H a=some (.frz ob (.dT kvs'))/\KVR K ρ H kvs kvs'
structure B2(K:AG)(ρ:List AV)(S:Sto)(H:Hp):Prop where
 len:ρ.length=S.length
 nd:∀(i j:Nat) a,ρ[i]?=some a->ρ[j]?=some a->i=j
 ob:∀(n:Nat) o a,S[n]?=some o->ρ[n]?=some a->Ez K ρ H a o
section
variable{K:AG}{ρ ρ':List AV}{H H':Hp}{S:Sto}{a p:AV}{o:Ob}{n:Nat}{ho:HO}
theorem KVR.mono{κ:Type}(l:Le K ρ H ρ' H'){x:List (κ×D)}{y:List (κ×V)}(h:KVR K ρ H x y):KVR K ρ' H' x y:=FZ.mapP h λ_ _ z=>⟨z.1,z.2.mono l⟩
theorem Ez.has(h:Ez K ρ H a o):H a≠none:=by
 cases o with
 | lst ds=>obtain⟨_,e,_⟩:=h;rw[e];exact λz=>nomatch z
 | dK ds=>obtain⟨_,e,_⟩:=h;rw[e];exact λz=>nomatch z
 | dT ds=>obtain⟨_,e,_⟩:=h;rw[e];exact λz=>nomatch z
 | ins C fs=>obtain⟨_,_,e,_⟩:=h;rw[e];exact λz=>nomatch z
 | fK ds=>obtain⟨_,_,e,_⟩:=h;rw[e];exact λz=>nomatch z
 | fT ds=>obtain⟨_,_,e,_⟩:=h;rw[e];exact λz=>nomatch z
theorem Ez.mono(l:Le K ρ H ρ' H')(e:H' a=H a)(h:Ez K ρ H a o):Ez K ρ' H' a o:=by
 cases o with
 | lst ds=>obtain⟨vs,h1,h2⟩:=h;exact⟨vs,e.trans h1,h2.mono l⟩
 | dK ds=>obtain⟨vs,h1,h2⟩:=h;exact⟨vs,e.trans h1,h2.mono l⟩
 | dT ds=>obtain⟨vs,h1,h2⟩:=h;exact⟨vs,e.trans h1,h2.mono l⟩
 | ins C fs=>obtain⟨dx,vs,h1,h2⟩:=h;exact⟨dx,vs,e.trans h1,h2.mono l⟩
 | fK ds=>obtain⟨dx,vs,h1,h2⟩:=h;exact⟨dx,vs,e.trans h1,h2.mono l⟩
 | fT ds=>obtain⟨dx,vs,h1,h2⟩:=h;exact⟨dx,vs,e.trans h1,h2.mono l⟩
theorem Ez.keep(h1:∀a xs,H a=some (.tup xs)->H' a=some (.tup xs))(h2:∀a o u,H a=some (.frz o u)->H' a=some (.frz o u))(e:H' a=H a)(h:Ez K ρ H a o):Ez K ρ H' a o:=by
 cases o with
 | lst ds=>obtain⟨vs,q1,q2⟩:=h;exact⟨vs,e.trans q1,q2.keep h1 h2⟩
 | dK ds=>obtain⟨vs,q1,q2⟩:=h;exact⟨vs,e.trans q1,FZ.mapP q2 λ_ _ z=>⟨z.1,z.2.keep h1 h2⟩⟩
 | dT ds=>obtain⟨vs,q1,q2⟩:=h;exact⟨vs,e.trans q1,FZ.mapP q2 λ_ _ z=>⟨z.1,z.2.keep h1 h2⟩⟩
 | ins C fs=>obtain⟨dx,vs,q1,q2⟩:=h;exact⟨dx,vs,e.trans q1,FZ.mapP q2 λ_ _ z=>⟨z.1,z.2.keep h1 h2⟩⟩
 | fK ds=>obtain⟨dx,vs,q1,q2⟩:=h;exact⟨dx,vs,e.trans q1,FZ.mapP q2 λ_ _ z=>⟨z.1,z.2.keep h1 h2⟩⟩
 | fT ds=>obtain⟨dx,vs,q1,q2⟩:=h;exact⟨dx,vs,e.trans q1,FZ.mapP q2 λ_ _ z=>⟨z.1,z.2.keep h1 h2⟩⟩
theorem Ez.mono'(l:∀(n:Nat) a,ρ[n]?=some a->ρ'[n]?=some a)(h:Ez K ρ H a o):Ez K ρ' H a o:=by
 cases o with
 | lst ds=>obtain⟨vs,h1,h2⟩:=h;exact⟨vs,h1,h2.more l⟩
 | dK ds=>obtain⟨vs,h1,h2⟩:=h;exact⟨vs,h1,FZ.mapP h2 λ_ _ z=>⟨z.1,z.2.more l⟩⟩
 | dT ds=>obtain⟨vs,h1,h2⟩:=h;exact⟨vs,h1,FZ.mapP h2 λ_ _ z=>⟨z.1,z.2.more l⟩⟩
 | ins C fs=>obtain⟨dx,vs,h1,h2⟩:=h;exact⟨dx,vs,h1,FZ.mapP h2 λ_ _ z=>⟨z.1,z.2.more l⟩⟩
 | fK ds=>obtain⟨dx,vs,h1,h2⟩:=h;exact⟨dx,vs,h1,FZ.mapP h2 λ_ _ z=>⟨z.1,z.2.more l⟩⟩
 | fT ds=>obtain⟨dx,vs,h1,h2⟩:=h;exact⟨dx,vs,h1,FZ.mapP h2 λ_ _ z=>⟨z.1,z.2.more l⟩⟩
theorem Gq(hp:H p=none∨Mut (H p)):(∀a xs,H a=some (.tup xs)->upd H p ho a=some (.tup xs))/\∀a o u,H a=some (.frz o u)->upd H p ho a=some (.frz o u):=by
 have ne:∀a u,H a=some u->¬Mut (some u)->a≠p:=λa u e nm z=>by
  subst z
  rcases hp with h | h
  ·rw[e]at h;cases h
  ·rw[e]at h;exact nm h
 refine⟨λa xs e=>?_,λa o u e=>?_⟩
 ·rw[BN (ne a _ e λz=>z)];exact e
 ·rw[BN (ne a _ e λz=>z)];exact e
theorem Le.fresh(hp:H p=none):Le K ρ H ρ (upd H p ho):=
 ⟨λ_ _ h=>h,(Gq (.inl hp)).1,(Gq (.inl hp)).2,λa o e n=>⟨by rw[BN (Bq e hp)];exact e,n⟩⟩
theorem Le.write(hn:ρ[n]?=some p)(hm:Mut (H p)):Le K ρ H ρ (upd H p ho):=
 ⟨λ_ _ h=>h,(Gq (.inr hm)).1,(Gq (.inr hm)).2,λa o e h=>⟨by rw[BN λz=>h n (by rw[z];exact hn)];exact e,h⟩⟩
theorem IT{α:Type}{l:List α}{x:α}{m:Nat}{a:α}(e:(l++[x])[m]?=some a):(l[m]?=some a/\m < l.length)∨(m=l.length/\a=x):=by
 by_cases hm:m < l.length
 ·rw[Ag hm]at e;exact .inl ⟨e,hm⟩
 ·rw[BB (by lia)]at e
  have:m - l.length=0:=by
   have:=(AC.mp e).1;simp at this;omega
  rw[this]at e;exact .inr ⟨by lia,by simpa using e.symm⟩
theorem Le.alloc(hp:H p=none):Le K ρ H (ρ++[p]) (upd H p ho):=by
 refine⟨λn a h=>by rw[Ag (AC.mp h).1];exact h,(Gq (.inl hp)).1,(Gq (.inl hp)).2,λa o e h=>⟨by rw[BN (Bq e hp)];exact e,λn q=>?_⟩⟩
 rcases IT q with⟨q,_⟩ | ⟨_,q⟩
 ·exact h n q
 ·exact Bq e hp q
theorem B2.at(h:B2 K ρ S H)(e:S[n]?=some o):∃a,ρ[n]?=some a/\Ez K ρ H a o:=by
 have hn:n < ρ.length:=by rw[h.len];exact(AC.mp e).1
 exact⟨ρ[n],by simp[hn],h.ob n o _ e (by simp[hn])⟩
theorem B2.there(h:B2 K ρ S H){m:Nat}(e:ρ[m]?=some a):∃o,S[m]?=some o/\Ez K ρ H a o:=by
 have hn:m < S.length:=by rw[<-h.len];exact(AC.mp e).1
 exact⟨S[m],by simp[hn],h.ob m _ a (by simp[hn]) e⟩
theorem B2.notIn(h:B2 K ρ S H)(hp:H p=none){m:Nat}(e:ρ[m]?=some p):False:=by
 obtain⟨o,_,r⟩:=h.there e;exact r.has hp
theorem B2.alloc(h:B2 K ρ S H)(hp:H p=none)(tU:Ez K (ρ++[p]) (upd H p ho) p o):B2 K (ρ++[p]) (S++[o]) (upd H p ho)/\Le K ρ H (ρ++[p]) (upd H p ho)/\(ρ++[p])[S.length]?=some p:=by
 have le:Le K ρ H (ρ++[p]) (upd H p ho):=Le.alloc hp
 have at':∀(m:Nat) a,(ρ++[p])[m]?=some a->(ρ[m]?=some a/\m < ρ.length)∨(m=ρ.length/\a=p):=λm a e=>IT e
 refine⟨⟨by simp[h.len],λi j a hi hj=>?_,λm ob a hm ha=>?_⟩,le,by rw[<-h.len];simp⟩
 ·rcases at' i a hi with⟨qw,_⟩ | ⟨qw,ea⟩ <;> rcases at' j a hj with⟨hj1,_⟩ | ⟨hj1,rW⟩
  ·exact h.nd i j a qw hj1
  ·rw[rW]at qw;exact(h.notIn hp qw).elim
  ·rw[ea]at hj1;exact(h.notIn hp hj1).elim
  ·lia
 ·rcases at' m a ha with⟨ha1,oM⟩ | ⟨rfl,rfl⟩
  ·rw[Ag (by rw[<-h.len];exact oM)]at hm
   refine(h.ob m ob a hm ha1).mono le (BN λz=>?_);rw[z]at ha1;exact h.notIn hp ha1
  ·rw[h.len]at hm
   simp at hm;subst hm;exact tU
theorem B2.write(h:B2 K ρ S H)(hn:ρ[n]?=some a)(tU:Ez K ρ (upd H a ho) a o)(le:Le K ρ H ρ (upd H a ho)):B2 K ρ (S.set n o) (upd H a ho)/\Le K ρ H ρ (upd H a ho):=by
 refine⟨⟨by simp[h.len],h.nd,λm ob b hm hb=>?_⟩,le⟩
 by_cases e:m=n
 ·subst e
  rw[hn]at hb;cases hb;rw[Am (by rw[<-h.len];exact(AC.mp hn).1)]at hm;cases hm;exact tU
 ·rw[AY (Br e)]at hm
  refine(h.ob m ob b hm hb).mono le (BN λz=>?_);subst z;exact e (h.nd m n b hb hn)
theorem Le.back{S':Sto}(l:Le K ρ H ρ' H')(s:B2 K ρ S H)(s':B2 K ρ' S' H')(hp:H' p=none):H p=none:=by
 cases q:H p with
 | none=>rfl
 | some o=>
  by_cases hn:∃n:Nat,ρ[n]?=some p
  ·obtain⟨n,hn⟩:=hn
   exact(s'.notIn hp (l.pre n p hn)).elim
  ·have:=(l.oth p o q λn h=>hn ⟨n,h⟩).1
   rw[hp]at this;cases this
theorem B2.adopt(h:B2 K ρ S H)(hn:∀m:Nat,ρ[m]?≠some p)(tU:Ez K (ρ++[p]) H p o):B2 K (ρ++[p]) (S++[o]) H/\(ρ++[p])[S.length]?=some p:=by
 have le:∀a ob,Ez K ρ H a ob->Ez K (ρ++[p]) H a ob:=λa ob r=>by
  have l0:∀(n:Nat) a,ρ[n]?=some a->(ρ++[p])[n]?=some a:=λn a h=>by rw[Ag (AC.mp h).1];exact h
  exact r.mono' l0
 refine⟨⟨by simp[h.len],λi j a hi hj=>?_,λm ob a hm ha=>?_⟩,by rw[<-h.len];simp⟩
 ·rcases IT hi with⟨qw,_⟩ | ⟨qw,ea⟩ <;> rcases IT hj with⟨hj1,_⟩ | ⟨hj1,rW⟩
  ·exact h.nd i j a qw hj1
  ·rw[rW]at qw;exact(hn i qw).elim
  ·rw[ea]at hj1;exact(hn j hj1).elim
  ·lia
 ·rcases IT ha with⟨ha,oM⟩ | ⟨rfl,rfl⟩
  ·rw[Ag (by rw[<-h.len];exact oM)]at hm
   exact le a ob (h.ob m ob a hm ha)
  ·rw[h.len]at hm
   simp at hm;subst hm;exact tU
end
inductive Res(α:Type) where
 | ok (a:α) (S:Sto) | err (c:AV) (S:Sto) | bad
def Res.bind{α β:Type}(r:Res α)(f:α->Sto->Res β):Res β:=match r with
 | .ok a S=>f a S
 | .err c S=>.err c S
 | .bad=>.bad
abbrev Lo:=List (Option D)
abbrev ME:=Lo->Sto->Res D
abbrev MT:=Lo->Sto->Res Bool
abbrev ML:=Lo->Sto->Res (List D)
inductive Fl where
 | nx (e:Lo) | rt (d:D) | bk (e:Lo) | ct (e:Lo) | ex (c:AV) (e:Lo)
abbrev MS:=Lo->Sto->Res Fl
abbrev MG:=D->Lo->Sto->Res Lo
abbrev Me:=Sto->Option (List D)
abbrev MI:=Lo->Sto->Res Me
structure E1(K:AG)(ρ:List AV)(H:Hp)(e:Lo)(σ:St):Prop where
 len:e.length=σ.length
 at':∀(i:Nat) d,e[i]?=some (some d)->∃v,σ[i]?=some (some v)/\Bo K ρ H d v
section
variable{K:AG}{ρ ρ':List AV}{H H':Hp}{e:Lo}{σ:St}
theorem E1.mono(l:Le K ρ H ρ' H')(h:E1 K ρ H e σ):E1 K ρ' H' e σ:=⟨h.len,λi d q=>by
 obtain⟨v,h1,h2⟩:=h.at' i d q
 exact⟨v,h1,h2.mono l⟩⟩
theorem E1.set(h:E1 K ρ H e σ)(r:Bo K ρ H d v)(i:Nat):E1 K ρ H (e.set i (some d)) (σ.set i (some v)):=by
 refine⟨by simp[h.len],λj d' q=>?_⟩
 by_cases hj:i=j
 ·subst hj
  have hi:i < e.length:=by
   have:=(AC.mp q).1;simpa using this
  rw[Am hi]at q;cases q;exact⟨v,by rw[Am (by rw[<-h.len];exact hi)],r⟩
 ·rw[AY hj]at q ⊢
  exact h.at' j d' q
end
abbrev EW:=AV->St->Hp->Prop
abbrev EH:=AV->Hp->Prop
abbrev noE:EW:=λ_ _ _=>False
abbrev noH:EH:=λ_ _=>False
def Bw{α:Type}(K:AG)(E:EH)(ρ:List AV)(H:Hp)(r:Res α)(k:α->Sto->Prop):Prop:=match r with
 | .ok a S=>k a S
 | .err c S=>∀ρ' H',Le K ρ H ρ' H'->B2 K ρ' S H'->E c H'
 | .bad=>False
section
variable{K:AG}{E:EH}{ρ ρ1:List AV}{H H1:Hp}
theorem Bw.seq(h:Bw K E ρ H (r.bind F) k)(f:∀a S,Bw K E ρ H (F a S) k->k' a S):Bw K E ρ H r k':=by
 cases r with
 | ok a S=>exact f a S h
 | err c S=>exact h
 | bad=>exact h
theorem Bw.later(h:Bw K E ρ H r k)(l:Le K ρ H ρ1 H1):Bw K E ρ1 H1 r k:=by
 cases r with
 | ok a S=>exact h
 | err c S=>exact λρ' H' l'=>h ρ' H' (l.trans l')
 | bad=>exact h
theorem Bw.imp(h:Bw K E ρ H r k)(f:∀a S,k a S->k' a S):Bw K E ρ H r k':=by
 cases r with
 | ok a S=>exact f a S h
 | err c S=>exact h
 | bad=>exact h
theorem Bw.go(h:Bw K E ρ H r k)(l:Le K ρ H ρ1 H1)(f:∀a S,k a S->k' a S):Bw K E ρ1 H1 r k':=(h.later l).imp f
end
def okR{α:Type}:Res α->Res α
 | .ok a S=>.ok a S
 | _=>.bad
theorem Bw.okR{α:Type}{K:AG}{E:EH}{ρ:List AV}{H:Hp}{r:Res α}{k:α->Sto->Prop}(h:Bw K E ρ H (L2.okR r) k):∃a S,r=.ok a S/\k a S:=by
 cases r with
 | ok a S=>exact⟨a,S,rfl,h⟩
 | err c S=>exact h.elim
 | bad=>exact h.elim
section
variable(K:AG)(E:EW)
def gE(m:ME):TE:=λσ H Q=>∃ρ e S,E1 K ρ H e σ/\B2 K ρ S H/\Bw K (λc=>E c σ) ρ H (m e S) λd S'=>∀ρ' H' x,Le K ρ H ρ' H'->B2 K ρ' S' H'->Bo K ρ' H' d x->Q x H'
def gT(m:MT):TT:=λσ H Q=>∃ρ e S,E1 K ρ H e σ/\B2 K ρ S H/\Bw K (λc=>E c σ) ρ H (m e S) λb S'=>∀ρ' H',Le K ρ H ρ' H'->B2 K ρ' S' H'->Q b H'
def gA(m:ML):TA:=λσ H Q=>∃ρ e S,E1 K ρ H e σ/\B2 K ρ S H/\Bw K (λc=>E c σ) ρ H (m e S) λds S'=>∀ρ' H' xs,Le K ρ H ρ' H'->B2 K ρ' S' H'->Az K ρ' H' ds xs->Q xs H'
def gL(m:ML):TE:=λσ H Q=>∃ρ e S,E1 K ρ H e σ/\B2 K ρ S H/\Bw K (λc=>E c σ) ρ H (m e S) λds S'=>∀ρ' H' p xs,Le K ρ H ρ' H'->B2 K ρ' S' H'->Az K ρ' H' ds xs->H' p=some (.lst xs)->(∀n:Nat,ρ'[n]?≠some p)->H p=none->Q (.ref p) H'
def gQ(m:ML):TE:=λσ H Q=>∃ρ e S,E1 K ρ H e σ/\B2 K ρ S H/\Bw K (λc=>E c σ) ρ H (m e S) λds S'=>∀ρ' H' p xs,Le K ρ H ρ' H'->B2 K ρ' S' H'->Az K ρ' H' ds xs->(SqL K H' p xs∨SqT K H' p xs)->Q (.ref p) H'
def Oj(K:AG)(E:EW)(ρ:List AV)(H:Hp)(S':Sto)(D:WC):Fl->Prop
 | .ex c e'=>∀ρ' H' σ',Le K ρ H ρ' H'->B2 K ρ' S' H'->E1 K ρ' H' e' σ'->E c σ' H'
 | .nx e'=>∀ρ' H' σ',Le K ρ H ρ' H'->B2 K ρ' S' H'->E1 K ρ' H' e' σ'->D.nx σ' H'
 | .bk e'=>∀ρ' H' σ',Le K ρ H ρ' H'->B2 K ρ' S' H'->E1 K ρ' H' e' σ'->D.bk σ' H'
 | .ct e'=>∀ρ' H' σ',Le K ρ H ρ' H'->B2 K ρ' S' H'->E1 K ρ' H' e' σ'->D.ct σ' H'
 | .rt d=>∀ρ' H' x,Le K ρ H ρ' H'->B2 K ρ' S' H'->Bo K ρ' H' d x->D.rt x H'
def gS(m:MS):TS:=λD σ H=>∃ρ e S,E1 K ρ H e σ/\B2 K ρ S H/\Bw K noH ρ H (m e S) λfl S'=>Oj K E ρ H S' D fl
def gG(m:MG):TG:=λv σ H Q=>∃ρ e S d,Bo K ρ H d v/\E1 K ρ H e σ/\B2 K ρ S H/\Bw K noH ρ H (m d e S) λe' S'=>∀ρ' H' σ',Le K ρ H ρ' H'->B2 K ρ' S' H'->E1 K ρ' H' e' σ'->Q σ' H'
def Md(ρ0:List AV)(H0:Hp)(J:It)(v:Me):Prop:=∀ρ H S ds (i:Nat),Le K ρ0 H0 ρ H->B2 K ρ S H->v S=some ds ->
 (ds[i]?=none->J.stop i H)/\∀d,ds[i]?=some d->J.go i H/\∀x H',J.yld i H x H'->∃ρ',Le K ρ H ρ' H'/\B2 K ρ' S H'/\Bo K ρ' H' d x
def gI(m:MI):TI:=λσ H R=>∃ρ e S,E1 K ρ H e σ/\B2 K ρ S H/\Bw K (λc=>E c σ) ρ H (m e S) λv S'=>∀ρ' H' J,Le K ρ H ρ' H'->B2 K ρ' S' H'->Md K ρ' H' J v->R J H'
end
abbrev GE(X:Cx)(E:EW)(e:Expr)(m:ME):Prop:=PE X e (gE X.K E m)
abbrev GT(X:Cx)(E:EW)(e:Expr)(m:MT):Prop:=PT X e (gT X.K E m)
abbrev GA(X:Cx)(E:EW)(es:List Expr)(m:ML):Prop:=PA X es (gA X.K E m)
abbrev GL(X:Cx)(E:EW)(e:Expr)(m:ML):Prop:=PE X e (gL X.K E m)
abbrev GQ(X:Cx)(E:EW)(e:Expr)(m:ML):Prop:=PE X e (gQ X.K E m)
abbrev GS(X:Cx)(E:EW)(s:ER)(m:MS):Prop:=PS X s (gS X.K E m)
abbrev GSs(X:Cx)(E:EW)(s:List ER)(m:MS):Prop:=PSs X s (gS X.K E m)
abbrev GG(X:Cx)(t:Expr)(m:MG):Prop:=PG X t (gG X.K m)
abbrev GI(X:Cx)(E:EW)(tg t:Expr)(m:MI):Prop:=PI X tg t (gI X.K E m)
theorem PE.imp(h:PE X e t)(i:∀σ H Q,t' σ H Q->t σ H Q):PE X e t':=λζ s σ H Q I q=>h ζ s σ H Q I (i σ H Q q)
theorem PT.imp(h:PT X e t)(i:∀σ H Q,t' σ H Q->t σ H Q):PT X e t':=λζ s σ H Q I q=>h ζ s σ H Q I (i σ H Q q)
theorem PW.imp(h:PW X e t)(i:∀σ H Q,t' σ H Q->t σ H Q):PW X e t':=λwh ζ s σ H Q I q=>h wh ζ s σ H Q I (i σ H Q q)
theorem PA.imp(h:PA X e t)(i:∀σ H Q,t' σ H Q->t σ H Q):PA X e t':=λpos ζ s σ H Q I q=>h pos ζ s σ H Q I (i σ H Q q)
theorem PS.imp(h:PS X e t)(i:∀D σ H,t' D σ H->t D σ H):PS X e t':=λζ s σ H D I q=>h ζ s σ H D I (i D σ H q)
theorem PSs.imp(h:PSs X e t)(i:∀D σ H,t' D σ H->t D σ H):PSs X e t':=λζ s σ H D I q=>h ζ s σ H D I (i D σ H q)
theorem PG.imp(h:PG X e t)(i:∀v σ H Q,t' v σ H Q->t v σ H Q):PG X e t':=λζ s σ H v u Q I r q=>h ζ s σ H v u Q I r (i v σ H Q q)
theorem PI.imp(h:PI X tg e t)(i:∀σ H R,t' σ H R->t σ H R):PI X tg e t':=λζ s σ H R I q=>h ζ s σ H R I (i σ H R q)
theorem OpR.imp(h:OpR X f r)(i:∀x y H Q,r' x y H Q->r x y H Q):OpR X f r':=λζ s σ H x y v u Q I rx ry q=>h ζ s σ H x y v u Q I rx ry (i x y H Q q)
theorem IxR.imp(h:IxR X r)(i:∀x y H Q,r' x y H Q->r x y H Q):IxR X r':=λva sl ζ s σ H x y v u Q I rx ry q=>h va sl ζ s σ H x y v u Q I rx ry (i x y H Q q)
def AA(i:Nat):ME:=λe S=>match e[i]? with
 | some (some d)=>.ok d S
 | _=>.bad
def mC(d:D):ME:=λ_ S=>.ok d S
section
variable{X:Cx}{E:EW}{e a b:Expr}{pos:Pos}{ma mb:ME}
theorem AD(h:PE X e (ik i)):GE X E e (AA i):=h.imp λσ H Q ⟨ρ,l,S,hl,hs,hm⟩=>by
 unfold AA at hm;split at hm
 ·rename_i d' hd
  obtain⟨v,h1,h2⟩:=hl.at' i _ hd;exact⟨v,h1,hm ρ H v .refl hs h2⟩
 ·exact hm.elim
theorem bR(h:PE X e (tC v))(hd:∀ρ H,Bo X.K ρ H d v):GE X E e (mC d):=h.imp λσ H Q ⟨ρ,l,S,hl,hs,hm⟩=>by
 exact hm ρ H v .refl hs (hd _ _)
theorem ge_int{i j pos}:GE X E (.Constant (.int i) j pos) (mC (.int i)):=bR jK λ_ _=>.int i
theorem Jh{b j pos}:GE X E (.Constant (.bool b) j pos) (mC (.bl b)):=bR mK λ_ _=>.bl b
theorem N5{j pos}:GE X E (.Constant .none j pos) (mC .non):=bR jI λ_ _=>.non
theorem MY{x j pos}:GE X E (.Constant (.str x) j pos) (mC (.str x)):=bR jH λ_ _=>.str x
theorem UN(hg:Gl X x)(hm:X.mg x=some (.int i tk))(hd:(x==("__debug__" : Str))=false:=by decide):GE X E (.Name x pos) (mC (.int i)):=
 bR (Im (v:=.int i) hg hm ⟨tk,rfl⟩ hd) λ_ _=>.int i
def m2(f:D->D->Sto->Res D)(ma mb:ME):ME:=λe S=>(ma e S).bind λx S1=>(mb e S1).bind λy S2=>okR (f x y S2)
def rD(K:AG)(f:D->D->Sto->Res D):R2:=λu v H Q=>∃ρ S x y d S',B2 K ρ S H/\Bo K ρ H x u/\Bo K ρ H y v/\f x y S=.ok d S' /\
 ∀ρ' H' z,Le K ρ H ρ' H'->B2 K ρ' S' H'->Bo K ρ' H' d z->Q z H'
theorem MC{K:AG}{f:D->D->Sto->Res D}{σ:St}{H:Hp}{Q:VK}(h:gE K E (m2 f ma mb) σ H Q):tOp (rD K f) (gE K E ma) (gE K E mb) σ H Q:=by
 obtain⟨ρ,l,S,hl,hs,hm⟩:=h;refine⟨ρ,l,S,hl,hs,hm.seq λx S1 hm ρ1 H1 u l1 s1 r1=>⟨ρ1,l,S1,hl.mono l1,s1,(hm.later l1).seq λy S2 hm ρ2 H2 v l2 s2 r2=>?_⟩⟩;obtain⟨d,S',e,k⟩:=hm.okR;exact⟨ρ2,S2,x,y,d,S',s2,r1.mono l2,r2,e,λρ' H' z l' s' r'=>k ρ' H' z (l1.trans (l2.trans l')) s' r'⟩
theorem BX(ho:OpR X (CV op) (rD X.K f))(ha:GE X E a ma)(hb:GE X E b mb):GE X E (.BinOp a op b pos) (m2 f ma mb):=(mI ho ha hb).imp λ_ _ _ h=>MC h
theorem Sa(ho:OpR X (Bs op) (rD X.K f))(ha:GE X E a ma)(hb:GE X E b mb)(hm:CM op b=false):GE X E (.Compare a [op] [b] pos) (m2 f ma mb):=(eM ho ha hb hm).imp λ_ _ _ h=>MC h
theorem nH(ho:IxR X (rD X.K f))(ha:GE X E a ma)(hb:GE X E b mb)(hs:Sw b:=by intro _ _;rfl):GE X E (.Subscript a b pos) (m2 f ma mb):=(mJ ho ha hb hs).imp λ_ _ _ h=>MC h
def mB(m:ME):MT:=λe S=>(m e S).bind λd S1=>match d with
 | .bl b=>.ok b S1
 | _=>.bad
def P6(d:D)(S:Sto):Option Bool:=match d with
 | .non=>some false
 | .bl b=>some b
 | .int i=>some (i != 0)
 | .tup ds=>some (!ds.isEmpty)
 | .fro ds=>some (!ds.isEmpty)
 | .ref n=>match S[n]? with
  | some (.lst ds)=>some (!ds.isEmpty)
  | some (.dK kvs)=>some (!kvs.isEmpty)
  | _=>none
 | _=>none
def Lc(m:ME):MT:=λe S=>(m e S).bind λd S1=>match P6 d S1 with
 | some b=>.ok b S1
 | none=>.bad
theorem Az.empty{K}{ρ}{H}{ds}{vs}(h:Az K ρ H ds vs):ds.isEmpty=vs.isEmpty:=by cases h <;> rfl
theorem KVR.empty{κ:Type}{K:AG}{ρ:List AV}{H:Hp}{x:List (κ×D)}{y:List (κ×V)}(h:KVR K ρ H x y):x.isEmpty=y.isEmpty:=by cases h <;> rfl
theorem dO{K:AG}{ρ:List AV}{H:Hp}{S:Sto}{d:D}{x:V}{b:Bool}(hs:B2 K ρ S H)(r:Bo K ρ H d x)(h:P6 d S=some b):kd K x H b:=by
 cases r with
 | non=>cases h;rfl
 | bl c=>cases h;rfl
 | int i=>cases h;rfl
 | str x=>cases h
 | tup h1 h2=>cases h;rw[h2.empty];exact .inr (.inl ⟨_,.inl (.inl h1),rfl⟩)
 | fro h1 h2=>cases h;rw[h2.empty];exact .inl ⟨_,h1.sq,rfl⟩
 | exc _ _=>cases h
 | @ref n a hn=>
  obtain⟨o,ho,ro⟩:=hs.there hn;unfold P6 at h;simp only[ho]at h
  cases o with
  | lst ds=>cases h;obtain⟨vs,e,rr⟩:=ro;rw[rr.empty];exact .inl ⟨_,.inl (.inl e),rfl⟩
  | dK kvs=>cases h;obtain⟨vs,e,rr⟩:=ro;rw[KVR.empty rr];exact .inr (.inr ⟨_,e,rfl⟩)
  | dT kvs=>cases h
  | ins C fs=>cases h
  | fK _=>cases h
  | fT _=>cases h
theorem kA(h:GE X E e ma)(he:∀whole,Uu e X.env whole=(do let v <-whole;kn e.pos;ku [v] (hX v)):=by intro _;rfl):GT X E e (mB ma):=(i6 h he).imp λσ H Q ⟨ρ,l,S,hl,hs,hm⟩=>by
 refine⟨ρ,l,S,hl,hs,hm.seq λd S1 hm ρ1 H1 x l1 s1 r1=>?_⟩
 cases d <;> first | exact hm.elim | skip
 cases r1;exact⟨_,rfl,hm ρ1 H1 l1 s1⟩
theorem NO(h:GE X E e ma)(he:∀whole,Uu e X.env whole=(do let v <-whole;kn e.pos;ku [v] (hX v)):=by intro _;rfl):GT X E e (Lc ma):=(Z3 h he).imp λσ H Q ⟨ρ,l,S,hl,hs,hm⟩=>by
 refine⟨ρ,l,S,hl,hs,hm.seq λd S1 hm ρ1 H1 x l1 s1 r1=>?_⟩
 cases hb:P6 d S1 with
 | none=>rw[hb]at hm;exact hm.elim
 | some c=>
  rw[hb]at hm;exact⟨c,dO s1 r1 hb,hm ρ1 H1 l1 s1⟩
theorem DT{op}{f}(ho:OpR X (Bs op) (rD X.K f))(ha:GE X E a ma)(hb:GE X E b mb)(hm:CM op b=false):GT X E (.Compare a [op] [b] pos) (mB (m2 f ma mb)):=(dk ho ha hb hm).imp λσ H Q ⟨ρ,l,S,hl,hs,hm⟩=>by
 refine MC (Q:=λx H'=>∃k,x=.bl k/\Q k H') ⟨ρ,l,S,hl,hs,hm.seq λd S1 hm ρ1 H1 x l1 s1 r1=>?_⟩
 cases d <;> first | exact hm.elim | skip
 cases r1;exact⟨_,rfl,hm ρ1 H1 l1 s1⟩
def UA(m:MT):MT:=λe S=>(m e S).bind λb S1=>.ok (!b) S1
def Qr(ma mb:MT):MT:=λe S=>(ma e S).bind λb S1=>if b=true then mb e S1 else .ok false S1
def mOr(ma mb:MT):MT:=λe S=>(ma e S).bind λb S1=>if b=true then .ok true S1 else mb e S1
variable{ta tb:MT}{rest:List Expr}
theorem bM(h:GT X E a ta):GT X E (.UnaryOp .Not a pos) (UA ta):=(i7 h).imp λσ H Q ⟨ρ,l,S,hl,hs,hm⟩=>by
 exact⟨ρ,l,S,hl,hs,hm.seq λd S1 hm ρ1 H1 l1 s1=>hm ρ1 H1 l1 s1⟩
theorem dR{K}{σ}{H}{Q}(h:gT K E (Qr ta tb) σ H Q):ln (gT K E ta) (gT K E tb) σ H Q:=by
 obtain⟨ρ,l,S,hl,hs,hm⟩:=h;refine⟨ρ,l,S,hl,hs,hm.seq λc S1 hm ρ1 H1 l1 s1=>?_⟩
 cases c with
 | true=>rw[qX rfl]at hm ⊢;exact⟨ρ1,l,S1,hl.mono l1,s1,hm.go l1 λ_ _ k ρ2 H2 l2 s2=>k ρ2 H2 (l1.trans l2) s2⟩
 | false=>rw[qY AL]at hm ⊢;exact hm ρ1 H1 l1 s1
theorem il{K}{σ}{H}{Q}(h:gT K E (mOr ta tb) σ H Q):tOr (gT K E ta) (gT K E tb) σ H Q:=by
 obtain⟨ρ,l,S,hl,hs,hm⟩:=h;refine⟨ρ,l,S,hl,hs,hm.seq λc S1 hm ρ1 H1 l1 s1=>?_⟩
 cases c with
 | false=>rw[qY AL]at hm ⊢;exact⟨ρ1,l,S1,hl.mono l1,s1,hm.go l1 λ_ _ k ρ2 H2 l2 s2=>k ρ2 H2 (l1.trans l2) s2⟩
 | true=>rw[qX rfl]at hm ⊢;exact hm ρ1 H1 l1 s1
abbrev GW(X:Cx)(E:EW)(e:Expr)(m:MT):Prop:=PW X e (gT X.K E m)
theorem W0(ha:GT X E a ta):GW X E (.BoolOp .And [a] pos) ta:=di ha
theorem j8(ha:GT X E a ta):GW X E (.BoolOp .Or [a] pos) ta:=i4 ha
theorem bL(ha:GT X E a ta)(hb:GW X E (.BoolOp .And (b :: rest) pos) tb):GW X E (.BoolOp .And (a :: b :: rest) pos) (Qr ta tb):=(i5 ha hb).imp λ_ _ _ h=>dR h
theorem nE(ha:GT X E a ta)(hb:GW X E (.BoolOp .Or (b :: rest) pos) tb):GW X E (.BoolOp .Or (a :: b :: rest) pos) (mOr ta tb):=(mG ha hb).imp λ_ _ _ h=>il h
theorem j9(h:GW X E e t):GT X E e t:=PW.pt h
def m3(f g:D->D->Sto->Res D)(ma mb mc:ME):ME:=λe S=>(ma e S).bind λx S1=>(mb e S1).bind λy S2=>(okR (f x y S2)).bind λz S3=>match z with
 | .bl true=>(mc e S3).bind λw S4=>okR (g y w S4)
 | .bl false=>.ok (.bl false) S3
 | _=>.bad
def Aj:ML:=λ_ S=>.ok [] S
def AF(m:ME)(r:ML):ML:=λe S=>(m e S).bind λd S1=>(r e S1).bind λds S2=>.ok (d :: ds) S2
variable{es:List Expr}{ml:ML}
theorem Av:GA X E [] Aj:=Hu.imp λσ H Q ⟨ρ,l,S,hl,hs,hm⟩=>by
 exact hm ρ H [] .refl hs .nil
theorem AI(ha:GE X E e ma)(hr:GA X E es ml)(hs:Aa (e :: es) X.env=(false,B4 e X.env) :: Aa es X.env:=by rfl):GA X E (e :: es) (AF ma ml):=(Ew ha hr hs).imp λσ H Q ⟨ρ,l,S,hl,hs,hm⟩=>by
 exact⟨ρ,l,S,hl,hs,hm.seq λd S1 hm ρ1 H1 x l1 s1 r1=>⟨ρ1,l,S1,hl.mono l1,s1,(hm.later l1).seq λpR S2 hm ρ2 H2 xs l2 s2 r2=>hm ρ2 H2 (x :: xs) (l1.trans l2) s2 (.cons (r1.mono l2) r2)⟩⟩
def Ga(m:ML):ME:=λe S=>(m e S).bind λds S1=>if ds.length<=sizeLine then .ok (.tup ds) S1 else .bad
theorem HX{K}{ρ}{H}{S}{p}{ho}(hs:B2 K ρ S H)(hp:H p=none):B2 K ρ S (upd H p ho)/\Le K ρ H ρ (upd H p ho):=by
 have le:Le K ρ H ρ (upd H p ho):=Le.fresh hp;refine⟨⟨hs.len,hs.nd,λn o a h1 h2=>(hs.ob n o a h1 h2).mono le (BN λz=>?_)⟩,le⟩;subst z;exact hs.notIn hp h2
theorem JE{x1}(h:GA X E es ml):GE X E (.Tuple es x1 pos) (Ga ml):=(aD h).imp λσ H Q ⟨ρ,l,S,hl,hs,hm⟩=>by
 refine⟨ρ,l,S,hl,hs,hm.seq λds S1 hm ρ1 H1 xs l1 s1 r1=>?_⟩;split at hm
 ·rename_i hz
  refine⟨by rw[<-r1.length];exact hz,λp hp=>?_⟩;obtain⟨s2,l2⟩:=HX (ho:=.tup xs) s1 hp;exact hm ρ1 _ _ (l1.trans l2) s2 (.tup Bb (r1.mono l2))
 ·exact hm.elim
def Bi(m:ML):ML:=λe S=>(m e S).bind λds S1=>if ds.length<=sizeLine then .ok ds S1 else .bad
theorem FH(h:GA X E es ml):GL X E (.List es pos) (Bi ml):=(jJ h).imp λσ H Q ⟨ρ,l,S,hl,hs,hm⟩=>by
 refine⟨ρ,l,S,hl,hs,hm.seq λds S1 hm ρ1 H1 xs l1 s1 r1=>?_⟩;split at hm
 ·rename_i hz
  refine⟨by rw[<-r1.length];exact hz,λp hp=>?_⟩;obtain⟨s2,l2⟩:=HX (ho:=.lst xs) s1 hp;exact hm ρ1 _ p xs (l1.trans l2) s2 (r1.mono l2) Bb (λn q=>s1.notIn hp q) (l1.back hs s1 hp)
 ·exact hm.elim
def CL(m:ML):ME:=λe S=>(m e S).bind λds S1=>.ok (.ref S1.length) (S1++[.lst ds])
theorem C2(h:GL X E e ml):GE X E e (CL ml):=PE.imp h λσ H Q ⟨ρ,l,S,hl,hs,hm⟩=>by
 refine⟨ρ,l,S,hl,hs,hm.seq λds S1 hm ρ1 H1 p xs l1 s1 r1 hp hn sk=>?_⟩
 have l0:∀(n:Nat) a,ρ1[n]?=some a->(ρ1++[p])[n]?=some a:=λn a h=>by rw[Ag (AC.mp h).1];exact h
 obtain⟨s2,at2⟩:=s1.adopt (o:=.lst ds) hn ⟨xs,hp,r1.more l0⟩;refine hm _ _ _ ⟨λn a h=>l0 n a (l1.pre n a h),l1.tup,l1.frz,λa o e h=>⟨(l1.oth a o e h).1,λn q=>?_⟩⟩ s2 (.ref at2)
 rcases IT q with⟨q,_⟩ | ⟨_,q⟩
 ·exact(l1.oth a o e h).2 n q
 ·exact Bq e sk q
def Gm(d:D)(S:Sto):Option (List D):=match d with
 | .tup ds=>some ds
 | .fro ds=>some ds
 | .ref n=>match S[n]? with
  | some (.lst ds)=>some ds
  | _=>none
 | _=>none
def Qq(m:ME):ML:=λe S=>(m e S).bind λd S1=>match Gm d S1 with
 | some ds=>.ok ds S1
 | none=>.bad
theorem Ot{K}{ρ}{H}{S}{d}{x}{ds}(hs:B2 K ρ S H)(r:Bo K ρ H d x)(h:Gm d S=some ds):∃p xs,x=.ref p/\Az K ρ H ds xs/\(SqL K H p xs∨SqT K H p xs):=by
 cases r with
 | tup h1 h2=>cases h;exact⟨_,_,rfl,h2,.inr (.inl (.inl h1))⟩
 | fro h1 h2=>cases h;exact⟨_,_,rfl,h2,.inl h1.sq⟩
 | @ref n a hn=>
  obtain⟨o,ho,ro⟩:=hs.there hn;unfold Gm at h;simp only[ho]at h
  cases o with
  | lst es=>cases h;obtain⟨vs,e,rr⟩:=ro;exact⟨_,_,rfl,rr,.inl (.inl (.inl e))⟩
  | _=>cases h
 | _=>cases h
theorem bO(h:GE X E e ma):GQ X E e (Qq ma):=PE.imp h λσ H Q ⟨ρ,l,S,hl,hs,hm⟩=>by
 refine⟨ρ,l,S,hl,hs,hm.seq λx S1 hm ρ1 H1 v l1 s1 r1=>?_⟩
 cases hq:Gm x S1 with
 | none=>rw[hq]at hm;exact hm.elim
 | some ds=>
  rw[hq]at hm;obtain⟨p,xs,rfl,r2,sq⟩:=Ot s1 r1 hq;exact hm ρ1 H1 p xs l1 s1 r2 sq
end
def Res.lift{α:Type}(r:Res α)(e:Lo)(f:α->Sto->Res Fl):Res Fl:=match r with
 | .ok a S=>f a S
 | .err c S=>.ok (.ex c e) S
 | .bad=>.bad
theorem Bw.lift{α:Type}{K:AG}{E:EW}{ρ ρ1:List AV}{H H1:Hp}{σ:St}{e:Lo}{D:WC}{r:Res α}{F:α->Sto->Res Fl}{k':α->Sto->Prop}(h:Bw K noH ρ1 H1 (r.lift e F) λfl S'=>Oj K E ρ H S' D fl)(hl:E1 K ρ1 H1 e σ)(l:Le K ρ H ρ1 H1)
  (f:∀a S,(Bw K noH ρ1 H1 (F a S) λfl S'=>Oj K E ρ H S' D fl)->k' a S):Bw K (λc=>E c σ) ρ1 H1 r k':=by
 cases r with
 | ok a S=>exact f a S h
 | err c S=>exact λρ' H' l' s'=>h ρ' H' σ (l.trans l') s' (hl.mono l')
 | bad=>exact h
def sNx:MS:=λe S=>.ok (.nx e) S
def BD(a b:MS):MS:=λe S=>(a e S).bind λf S1=>match f with
 | .nx e1=>b e1 S1
 | f=>.ok f S1
def B0(m:ME):MS:=λe S=>(m e S).lift e λ_ S1=>.ok (.nx e) S1
def Dj(m:ME):MS:=λe S=>(m e S).lift e λd S1=>.ok (.rt d) S1
def sIf(t:MT)(a b:MS):MS:=λe S=>(t e S).lift e λc S1=>if c=true then a e S1 else b e S1
def Va(m:ME)(g:MG):MS:=λe S=>(m e S).lift e λd S1=>(g d e S1).bind λe1 S2=>.ok (.nx e1) S2
def tgN(i:Nat):MG:=λd e S=>.ok (e.set i (some d)) S
def Bc(i:Nat)(m:ME):MS:=Va m (tgN i)
section
variable{X:Cx}{E:EW}{st:ER}{rest:List ER}{e:Expr}{pos:Pos}{a b:MS}{t:MT}
theorem Oj.later{K}{ρ ρ1}{H H1}{S}{D}{f}(l:Le K ρ H ρ1 H1)(h:Oj K E ρ H S D f):Oj K E ρ1 H1 S D f:=by
 cases f with
 | nx e=>exact λρ' H' σ' l'=>h ρ' H' σ' (l.trans l')
 | bk e=>exact λρ' H' σ' l'=>h ρ' H' σ' (l.trans l')
 | ct e=>exact λρ' H' σ' l'=>h ρ' H' σ' (l.trans l')
 | ex c e=>exact λρ' H' σ' l'=>h ρ' H' σ' (l.trans l')
 | rt d=>exact λρ' H' x l'=>h ρ' H' x (l.trans l')
theorem CW:GSs X E [] sNx:=dn.imp λD σ H ⟨ρ,l,S,hl,hs,hm⟩=>by
 exact hm ρ H σ .refl hs hl
theorem AW(h1:GS X E st a)(h2:GSs X E rest b):GSs X E (st :: rest) (BD a b):=(Z6 h1 h2).imp λD σ H ⟨ρ,l,S,hl,hs,hm⟩=>by
 refine⟨ρ,l,S,hl,hs,hm.seq λg S1 hm=>?_⟩
 cases g with
 | nx e'=>exact λρ1 H1 σ1 l1 s1 r1=>⟨ρ1,e',S1,r1,s1,hm.go l1 λ_ _ k=>k.later l1⟩
 | rt d=>exact hm
 | bk d=>exact hm
 | ct d=>exact hm
 | ex c d=>exact hm
theorem Ap(h1:GS X E st a):GSs X E [st] a:=dm h1
theorem DG(he:GE X E e m)(hs:GX e none pos.line X.env=pure false:=by rfl):GS X E (.Expr e pos) (B0 m):=(dq he hs).imp λD σ H ⟨ρ,l,S,hl,hs,hm⟩=>by
 exact⟨ρ,l,S,hl,hs,hm.lift hl .refl λd S1 hm ρ1 H1 x l1 s1 r1=>hm ρ1 H1 σ l1 s1 (hl.mono l1)⟩
theorem CU(he:GE X E e m):GS X E (.Return (some e) pos) (Dj m):=(i9 he).imp λD σ H ⟨ρ,l,S,hl,hs,hm⟩=>by
 exact⟨ρ,l,S,hl,hs,hm.lift hl .refl λd S1 hm ρ1 H1 x l1 s1 r1=>hm ρ1 H1 x l1 s1 r1⟩
theorem Dt{c}{sa sb}(hc:GT X E c t)(ha:GSs X E sa a)(hb:GSs X E sb b):GS X E (.If c sa sb pos) (sIf t a b):=(mH hc ha hb).imp λD σ H ⟨ρ,l,S,hl,hs,hm⟩=>by
 refine⟨ρ,l,S,hl,hs,hm.lift hl .refl λc S1 hm ρ1 H1 l1 s1=>?_⟩
 cases c with
 | true=>rw[qX rfl]at hm ⊢;exact⟨ρ1,l,S1,hl.mono l1,s1,hm.go l1 λ_ _ k=>k.later l1⟩
 | false=>rw[qY AL]at hm ⊢;exact⟨ρ1,l,S1,hl.mono l1,s1,hm.go l1 λ_ _ k=>k.later l1⟩
theorem fH(h:PG X tg (W8 i)):GG X tg (tgN i):=h.imp λv σ H Q ⟨ρ,l,S,d,hd,hl,hs,hm⟩=>by
 exact hm ρ H _ .refl hs (hl.set hd i)
theorem kE{tg:Expr}{g:MG}(he:GE X E e m)(hg:GG X tg g)(hs:swapsWithSole [tg] e pos.line X.env=pure false:=by rfl)(hw:swappedStores [tg] e X.env=pure none:=by rfl)
  (h1:(E9 [tg] X.env).map (·.2)=[O5 tg X.env]:=by rfl):GS X E (.Assign [tg] e pos) (Va m g):=(jC he hg hs hw h1).imp λD σ H ⟨ρ,l,S,hl,hs,hm⟩=>by
 exact⟨ρ,l,S,hl,hs,hm.lift hl .refl λd S1 hm ρ1 H1 x l1 s1 r1=>⟨ρ1,l,S1,d,r1,hl.mono l1,s1,(hm.later l1).seq λe1 S2 hm ρ2 H2 σ2 l2 s2 r2=>hm ρ2 H2 σ2 (l1.trans l2) s2 r2⟩⟩
theorem kD{i}{x}{pos'}(hN:X.N.Nodup)(hi:X.N[i]?=some x)(hx:Loc X.env.scope x)(he:GE X E e m)(hs:GX e (some (.Name x pos')) pos.line X.env=pure false:=by rfl)
  (hf:X.fn x=true∨X.env.scope.names.lookup x=some .local:=by first | exact .inl rfl | exact .inr rfl | assumption):GS X E (.Assign [.Name x pos'] e pos) (Bc i m):=(i8 hN hi hx he hs hf).imp λD σ H ⟨ρ,l,S,hl,hs,hm⟩=>by
 exact⟨ρ,l,S,hl,hs,hm.lift hl .refl λd S1 hm ρ1 H1 x l1 s1 r1=>hm ρ1 H1 _ l1 s1 ((hl.mono l1).set r1 i)⟩
def Ji(v:Me)(g:MG)(b:MS):Nat->Nat->Lo->Sto->Res Fl
 | k,i,e,S=>match v S with
  | none=>.bad
  | some ds=>match ds[i]? with
   | none=>.ok (.nx e) S
   | some d=>match k with
    | 0=>.bad
    | k+1=>(g d e S).bind λe1 S1=>(b e1 S1).bind λf S2=>match f with
     | .nx e2=>Ji v g b k (i+1) e2 S2
     | .ct e2=>Ji v g b k (i+1) e2 S2
     | .bk e2=>.ok (.nx e2) S2
     | .rt d=>.ok (.rt d) S2
     | .ex c e2=>.ok (.ex c e2) S2
def Cr(v:Me)(S:Sto):Nat:=match v S with
 | none=>0
 | some ds=>ds.length
def G3(m:MI)(g:MG)(b:MS):MS:=λe S=>(m e S).lift e λv S1=>Ji v g b (Cr v S1) 0 e S1
theorem FG{tg iter}{body}{mi}{g}(hp:OC (Ac X.prog X.w) X.A X.env X.xe)(hc:X.calm=true)(hi:GI X E tg iter mi)(hg:GG X tg g)(hb:GSs X E body b)
  (hs:∀x,Fc iter X.env x=pure x:=by intro _;rfl):GS X E (.For tg iter body [] pos) (G3 mi g b):=(jA hp hc hi hg hb hs).imp λD σ H ⟨ρ,l,S,hl,hs,hm⟩=>by
 refine⟨ρ,l,S,hl,hs,hm.lift hl .refl λv S1 hm ρ1 H1 J l1 s1 vo=>?_⟩;refine⟨λi n σ2 H2=>∃ρ2 e2 S2,Le X.K ρ1 H1 ρ2 H2/\E1 X.K ρ2 H2 e2 σ2/\B2 X.K ρ2 S2 H2/\Bw X.K noH ρ2 H2 (Ji v g b n i e2 S2) λfl S'=>Oj X.K E ρ H S' D fl,⟨Cr v S1,ρ1,l,S1,.refl,hl.mono l1,s1,hm.later l1⟩,?_⟩;rintro i n σ2 H2 ⟨ρ2,e2,S2,l2,r2,s2,ot⟩;unfold Ji at ot
 cases hv:v S2 with
 | none=>rw[hv]at ot;exact ot.elim
 | some ds=>
  rw[hv]at ot;dsimp only at ot;obtain⟨v1,v2⟩:=vo ρ2 H2 S2 ds i l2 s2 hv
  cases hd:ds[i]? with
  | none=>
   rw[hd]at ot;exact .inl ⟨v1 hd,ot ρ2 H2 σ2 (l1.trans l2) s2 r2⟩
  | some d=>
   rw[hd]at ot;dsimp only at ot;obtain⟨go,yl⟩:=v2 d hd
   cases n with
   | zero=>exact ot.elim
   | succ n=>
    dsimp only at ot;refine .inr ⟨go,λσ' H'=>∃ρ2 e2 S2,Le X.K ρ1 H1 ρ2 H'/\E1 X.K ρ2 H' e2 σ'/\B2 X.K ρ2 S2 H'/\Bw X.K noH ρ2 H' (Ji v g b n (i+1) e2 S2) λfl S'=>Oj X.K E ρ H S' D fl,λσ' H' q=>⟨n,Cy n,q⟩,λx H' y=>?_⟩;obtain⟨ρ3,l3,s3,rd⟩:=yl x H' y;refine⟨ρ3,e2,S2,d,rd,r2.mono l3,s3,(ot.later l3).seq λe3 S3 ot ρ4 H4 σ4 l4 s4 r4=>?_⟩;refine⟨ρ4,e3,S3,r4,s4,(ot.later l4).seq λf4 S4 ot=>?_⟩
    cases f4 with
    | nx e5=>exact λρ5 H5 σ5 l5 s5 r5=>⟨ρ5,e5,S4,l2.trans (l3.trans (l4.trans l5)),r5,s5,ot.later l5⟩
    | ct e5=>exact λρ5 H5 σ5 l5 s5 r5=>⟨ρ5,e5,S4,l2.trans (l3.trans (l4.trans l5)),r5,s5,ot.later l5⟩
    | bk e5=>exact λρ5 H5 σ5 l5 s5 r5=>ot ρ5 H5 σ5 (l1.trans (l2.trans (l3.trans (l4.trans l5)))) s5 r5
    | ex c e5=>exact λρ5 H5 σ5 l5 s5 r5=>ot ρ5 H5 σ5 (l1.trans (l2.trans (l3.trans (l4.trans l5)))) s5 r5
    | rt d5=>exact λρ5 H5 x5 l5 s5 r5=>ot ρ5 H5 x5 (l1.trans (l2.trans (l3.trans (l4.trans l5)))) s5 r5
def GC(c:MT)(b:MS):Nat->MS
 | 0=>λ_ _=>.bad
 | n+1=>λe S=>(c e S).lift e λt S1=>if t=true then(b e S1).bind λf S2=>match f with
   | .nx e2=>GC c b n e2 S2
   | .ct e2=>GC c b n e2 S2
   | .bk e2=>.ok (.nx e2) S2
   | .rt d=>.ok (.rt d) S2
   | .ex c e2=>.ok (.ex c e2) S2
  else .ok (.nx e) S1
theorem UL{c}{body}(N:Nat)(hp:OC (Ac X.prog X.w) X.A X.env X.xe)(hc:GT X E c t)(hb:GSs X E body b):GS X E (.While c body [] pos) (GC t b N):=(Z7 hp hc hb).imp λD σ H ⟨ρ,l,S,hl,hs,hm⟩=>by
 refine⟨λn σ2 H2=>∃ρ2 e2 S2,Le X.K ρ H ρ2 H2/\E1 X.K ρ2 H2 e2 σ2/\B2 X.K ρ2 S2 H2/\Bw X.K noH ρ2 H2 (GC t b n e2 S2) λfl S'=>Oj X.K E ρ H S' D fl,⟨N,ρ,l,S,.refl,hl,hs,hm⟩,?_⟩;rintro n σ2 H2 ⟨ρ2,e2,S2,l2,r2,s2,ot⟩
 cases n with
 | zero=>exact ot.elim
 | succ n=>
  refine⟨ρ2,e2,S2,r2,s2,ot.lift r2 l2 λtc S3 ot ρ3 H3 l3 s3=>?_⟩
  cases tc with
  | false=>rw[qY AL]at ot ⊢;exact ot ρ3 H3 σ2 (l2.trans l3) s3 (r2.mono l3)
  | true=>
   rw[qX rfl]at ot ⊢;refine⟨λσ' H'=>∃ρ2 e2 S2,Le X.K ρ H ρ2 H'/\E1 X.K ρ2 H' e2 σ'/\B2 X.K ρ2 S2 H'/\Bw X.K noH ρ2 H' (GC t b n e2 S2) λfl S'=>Oj X.K E ρ H S' D fl,λσ' H' q=>⟨n,Cy n,q⟩,?_⟩;refine⟨ρ3,e2,S3,r2.mono l3,s3,(ot.later l3).seq λf4 S4 ot=>?_⟩
   cases f4 with
   | nx e5=>exact λρ5 H5 σ5 l5 s5 r5=>⟨ρ5,e5,S4,l2.trans (l3.trans l5),r5,s5,ot.later l5⟩
   | ct e5=>exact λρ5 H5 σ5 l5 s5 r5=>⟨ρ5,e5,S4,l2.trans (l3.trans l5),r5,s5,ot.later l5⟩
   | bk e5=>exact λρ5 H5 σ5 l5 s5 r5=>ot ρ5 H5 σ5 (l2.trans (l3.trans l5)) s5 r5
   | ex c e5=>exact λρ5 H5 σ5 l5 s5 r5=>ot ρ5 H5 σ5 (l2.trans (l3.trans l5)) s5 r5
   | rt d5=>exact λρ5 H5 x5 l5 s5 r5=>ot ρ5 H5 x5 (l2.trans (l3.trans l5)) s5 r5
end
section
variable{X:Cx}{E:EW}{tg e:Expr}{m:ME}{K:AG}
def OK(d:D):Me:=λS=>match d with
 | .ref n=>match S[n]? with
  | some (.lst ds)=>some ds
  | _=>none
 | .fro ds=>some ds
 | _=>none
def Dp(ds:List D):Me:=λ_=>some ds
def nB(m:ME):MI:=λe S=>(m e S).bind λd S1=>match OK d S1 with
 | some _=>.ok (OK d) S1
 | none=>.bad
def gv(m:ME):MI:=λe S=>(m e S).bind λd S1=>match d with
 | .tup ds=>.ok (Dp ds) S1
 | _=>.bad
theorem PP(s:B2 K ρ S H)(r:Bo K ρ H d (.ref a))(hv:OK d S=some ds):∃xs,SqL K H a xs/\Az K ρ H ds xs:=by
 cases r with
 | tup h1 h2=>cases hv
 | exc _ _=>cases hv
 | fro h1 h2=>cases hv;exact⟨_,h1.sq,h2⟩
 | @ref n _ hn=>
  obtain⟨o,ho,ro⟩:=s.there hn;unfold OK at hv;simp only[ho]at hv
  cases o with
  | lst es=>
   cases hv;obtain⟨vs,e,rr⟩:=ro;exact⟨vs,.inl (.inl e),rr⟩
  | _=>cases hv
theorem PM(r:Bo K ρ H d (.ref a)):Md K ρ H (Itl K a) (OK d):=by
 intro ρ2 H2 S ds i l s hv;obtain⟨xs,sq,rr⟩:=PP s (r.mono l) hv;refine⟨λhn=>⟨xs,sq,by rw[<-rr.length];exact Bn.mp hn⟩,λd hd=>?_⟩;obtain⟨x,hx,rx⟩:=rr.get hd;refine⟨⟨xs,x,sq,hx⟩,λy H' ⟨e,hy⟩=>?_⟩;subst e;have:=hy xs sq;rw[hx]at this;cases this;exact⟨ρ2,.refl,s,rx⟩
theorem kH(h:GE X E e m):GI X E tg e (nB m):=(d6 h).imp λσ H R ⟨ρ,l,S,hl,hs,hm⟩=>by
 refine⟨ρ,l,S,hl,hs,hm.seq λd S1 hm ρ1 H1 x l1 s1 r1=>?_⟩
 cases hv:OK d S1 with
 | none=>rw[hv]at hm;exact hm.elim
 | some ds=>
  rw[hv]at hm
  have:∃a,x=.ref a:=by
   cases r1 <;> first | exact⟨_,rfl⟩ | (cases hv;done)
  obtain⟨a,rfl⟩:=this;obtain⟨xs,sq,_⟩:=PP s1 r1 hv;exact⟨a,rfl,⟨xs,sq⟩,hm ρ1 H1 _ l1 s1 (PM r1)⟩
theorem PK(h1:H a=some (.tup xs))(h2:Az K ρ H ds xs):Md K ρ H (Itt K a) (Dp ds):=by
 intro ρ2 H2 S pR i l s hv;cases hv;have rr:=h2.mono l;have sq:SqT K H2 a xs:=.inl (.inl (l.tup _ _ h1));refine⟨λhn=>⟨xs,sq,by rw[<-rr.length];exact Bn.mp hn⟩,λd hd=>?_⟩;obtain⟨x,hx,rx⟩:=rr.get hd;refine⟨⟨xs,x,sq,hx⟩,λy H' ⟨e,hy⟩=>?_⟩;subst e;have:=hy xs sq;rw[hx]at this;cases this;exact⟨ρ2,.refl,s,rx⟩
theorem kG(h:GE X E e m):GI X E tg e (gv m):=(jE h).imp λσ H R ⟨ρ,l,S,hl,hs,hm⟩=>by
 refine⟨ρ,l,S,hl,hs,hm.seq λd S1 hm ρ1 H1 x l1 s1 r1=>?_⟩
 cases d <;> first | exact hm.elim | skip
 cases r1 with
 | tup q1 q2=>exact⟨_,rfl,⟨_,.inl (.inl q1)⟩,hm ρ1 H1 _ l1 s1 (PK q1 q2)⟩
def DE(lo:Int)(n:Nat):List D:=(A7 n).map λi:Nat=>D.int (lo+i)
theorem Nq(lo:Int)(n i:Nat):(DE lo n)[i]?=if i < n then some (.int (lo+i))else none:=by
 unfold DE;rw[AS]
 by_cases h:i < n
 ·rw[BU h,qX h];rfl
 ·rw[qY h,Bn.mpr (by simpa using h)];rfl
theorem PL(lo:Int)(n:Nat):Md K ρ H (Itr lo n) (Dp (DE lo n)):=by
 intro ρ2 H2 S pR i l s hv;cases hv;rw[Nq];refine⟨λhn=>?_,λd hd=>?_⟩
 ·split at hn
  ·cases hn
  ·rename_i h;exact PB h
 ·split at hd
  ·rename_i h
   cases hd;refine⟨h,λy H' ⟨e,hy⟩=>?_⟩;subst e;subst hy;exact⟨ρ2,.refl,s,.int _⟩
  ·cases hd
def iR1(ml:ML):MI:=λe S=>(ml e S).bind λds S1=>match ds with
 | [.int j]=>if -(2 ^ 62)<=j/\j < 2 ^ 62 then .ok (Dp (DE 0 j.toNat)) S1 else .bad
 | _=>.bad
def iR2(ml:ML):MI:=λe S=>(ml e S).bind λds S1=>match ds with
 | [.int i,.int j]=>if -(2 ^ 62)<=i/\i < 2 ^ 62/\-(2 ^ 62)<=j/\j < 2 ^ 62 then .ok (Dp (DE i (j - i).toNat)) S1 else .bad
 | _=>.bad
theorem Da(hg:Gl X "range") (hm:X.mg "range" = none) (ha:GA X E [a] ml) (hs:Aa [a] X.env=[(false,B4 a X.env)]:=by rfl):GI X E tg (.Call (.Name "range" p) [a] [] pos) (iR1 ml):=(YI hg hm ha hs).imp λσ H R ⟨ρ,l,S,hl,hs,hm⟩=>by
 refine⟨ρ,l,S,hl,hs,hm.seq λds S1 hm ρ1 H1 xs l1 s1 r1=>?_⟩;split at hm
 ·rename_i j
  split at hm
  ·rename_i hj
   cases r1 with
   | cons r t=>
    cases t;cases r;exact⟨j,rfl,hj.1,hj.2,hm ρ1 H1 _ l1 s1 (PL 0 j.toNat)⟩
  ·exact hm.elim
 ·exact hm.elim
theorem N4(hg:Gl X "range") (hm:X.mg "range" = none) (ha:GA X E [a,b] ml) (hs:Aa [a,b] X.env=[(false,B4 a X.env),(false,B4 b X.env)]:=by rfl) (pz:Aa [b] X.env=[(false,B4 b X.env)]:=by rfl) :
  GI X E tg (.Call (.Name "range" p) [a,b] [] pos) (iR2 ml):=(YH hg hm ha hs pz).imp λσ H R ⟨ρ,l,S,hl,hs,hm⟩=>by
 refine⟨ρ,l,S,hl,hs,hm.seq λds S1 hm ρ1 H1 xs l1 s1 r1=>?_⟩;split at hm
 ·rename_i i j
  split at hm
  ·rename_i hj
   cases r1 with
   | cons r t=>
    cases t with
    | cons r' t=>
     cases t;cases r;cases r';exact⟨i,j,rfl,hj,hm ρ1 H1 _ l1 s1 (PL i _)⟩
  ·exact hm.elim
 ·exact hm.elim
end
def G7:List D->Lo->Sto->Res Lo
 | [],e,S=>.ok e S
 | _,_,_=>.bad
def CG(g:MG)(r:List D->Lo->Sto->Res Lo):List D->Lo->Sto->Res Lo
 | d :: ds,e,S=>(g d e S).bind λe1 S1=>r ds e1 S1
 | [],_,_=>.bad
def Gj(n:Nat)(r:List D->Lo->Sto->Res Lo):MG:=λd e S=>match d with
 | .tup ds=>if ds.length=n then r ds e S else .bad
 | _=>.bad
section
variable{X:Cx}
def gGs(K:AG)(r:List D->Lo->Sto->Res Lo):TGs:=λvs σ H Q=>∃ρ e S ds,Az K ρ H ds vs/\E1 K ρ H e σ/\B2 K ρ S H/\Bw K noH ρ H (r ds e S) λe' S'=>∀ρ' H' σ',Le K ρ H ρ' H'->B2 K ρ' S' H'->E1 K ρ' H' e' σ'->Q σ' H'
abbrev GGs(X:Cx)(ts:List Expr)(r:List D->Lo->Sto->Res Lo):Prop:=PGs X ts (gGs X.K r)
theorem PGs.imp(h:PGs X ts t)(i:∀vs σ H Q,t' vs σ H Q->t vs σ H Q):PGs X ts t':=λζ s σ H vs us Q I r q=>h ζ s σ H vs us Q I r (i vs σ H Q q)
theorem IG:GGs X [] G7:=d9.imp λvs σ H Q ⟨ρ,l,S,ds,hd,hl,hs,hm⟩=>by
 cases ds with
 | nil=>cases hd;exact⟨rfl,hm ρ H σ .refl hs hl⟩
 | cons d ds=>exact hm.elim
theorem Co(h1:GG X e g)(h2:GGs X es r)
  (hs:(E9 (e :: es) X.env).map (·.2)=O5 e X.env :: (E9 es X.env).map (·.2):=by rfl):GGs X (e :: es) (CG g r):=(aC h1 h2 hs).imp λvs σ H Q ⟨ρ,l,S,ds,hd,hl,hs,hm⟩=>by
 cases ds with
 | nil=>exact hm.elim
 | cons d ds=>
  cases hd with
  | cons q1 q2=>
   exact⟨_,_,rfl,ρ,l,S,d,q1,hl,hs,hm.seq λe1 S1 hm ρ1 H1 σ1 l1 s1 r1=>⟨ρ1,e1,S1,ds,q2.mono l1,r1,s1,hm.go l1 λ_ _ k ρ2 H2 σ2 l2 s2 r2=>k ρ2 H2 σ2 (l1.trans l2) s2 r2⟩⟩
theorem KC(hc:X.calm=true)(h:GGs X es r)
  (hn:(E9 es X.env).length=n:=by rfl) (qC:(E9 es X.env).findIdx? (·.1)=none:=by rfl):GG X (.Tuple es k pos) (Gj n r):=(jF hc h hn qC).imp λv σ H Q ⟨ρ,l,S,d,hd,hl,hs,hm⟩=>by
 cases d <;> first | exact hm.elim | skip
 rename_i ds
 cases hd with
 | tup q1 q2=>
  unfold Gj at hm;dsimp only at hm;split at hm
  ·rename_i hlen
   exact⟨_,_,rfl,.inl (.inl q1),by rw[<-q2.length];exact hlen,ρ,l,S,ds,q2,hl,hs,hm⟩
  ·exact hm.elim
end
def spM(K:AG)(n:Nat)(f:List D->Sto->Res D):Sp:=λvs H Q E=>∃ρ ds S,ds.length=n/\Az K ρ H ds vs/\B2 K ρ S H/\Bw K (λc H'=>E (.ref c) none H') ρ H (f ds S) λd S'=>
 ∀ρ' H' x,Le K ρ H ρ' H'->B2 K ρ' S' H'->Bo K ρ' H' d x->Q x H'
theorem spM.len{K}{n}{f}{vs}{H}{Q}{E}(h:spM K n f vs H Q E):vs.length=n:=by
 obtain⟨ρ,ds,S,h1,h2,_⟩:=h;rw[<-h2.length];exact h1
def BG(n:Nat)(f:List D->Sto->Res D)(m:ML):ME:=λe S=>(m e S).bind λds S1=>if ds.length=n then f ds S1 else .bad
def P7(C:AV)(n:Nat)(f:List D->Sto->Res D)(m:ML):ME:=λe S=>(m e S).bind λds S1=>if ds.length+1=n then(f (.ref S1.length :: ds) (S1++[.ins C []])).bind (λd S2=>match d with
  | .non=>.ok (.ref S1.length) S2
  | _=>.bad)else .bad
def Xk(E:EW)(σ:St):XK:=λv o H=>o=none/\∃c,v=.ref c/\E c σ H
section
variable{X:Cx}{E:EW}{k n:Nat}{x:Str}{e:Expr}{es:List Expr}
theorem Bw.xk{α:Type}{K:AG}{σ:St}{ρ ρ1:List AV}{H H1:Hp}{r:Res α}{k k':α->Sto->Prop}(h:Bw K (λc=>E c σ) ρ H r k)(l:Le K ρ H ρ1 H1)(f:∀a S,k a S->k' a S):Bw K (λc H'=>Xk E σ (.ref c) none H') ρ1 H1 r k':=by
 cases r with
 | ok a S=>exact f a S h
 | err c S=>exact λρ' H' l' s=>⟨rfl,c,rfl,h ρ' H' (l.trans l') s⟩
 | bad=>exact h
theorem Bh(F:D0 X.prog X.w X.K X.mg X.base CX k f fd ps (spM X.K n g))(hx:Mf CX X (Xk E))(hr:Hy k X.A)(hg:Gl X x)(hm:X.mg x=some (.ref f))(hk:Gf X.K (.ref f)=true)(hb:Binds X.K fd ps [])
  (ha:GA X E (e :: es) ml) (pG:(x==("__debug__" : Str))=false:=by decide) (he:Aa (e :: es) X.env=(false,B4 e X.env) :: Aa es X.env:=by rfl) (p0:(Dw pos (Aa es X.env)).any (·.1)=false:=by rfl) :
  GE X E (.Call (.Name x p) (e :: es) [] pos) (BG n g ml):=(eN (E:=Xk E) F hr hg hm hk hb .nil hx ha pG he p0).imp λσ H Q ⟨ρ,l,S,hl,hs,hm⟩=>by
 refine⟨ρ,l,S,hl,hs,hm.seq λds S1 hm ρ1 H1 xs l1 s1 r1=>?_⟩;split at hm
 ·rename_i hlen
  rw[BE];exact⟨ρ1,ds,S1,hlen,r1,s1,hm.xk l1 λ_ _ k ρ' H' z l' s' r'=>k ρ' H' z (l1.trans l') s' r'⟩
 ·exact hm.elim
theorem W4(M:Mk X.K C f)(F:D0 X.prog X.w X.K X.mg X.base CX k f fd ps (spM X.K n g))(hx:Mf CX X (Xk E))(hr:Hy (k+1) X.A)(hg:Gl X x)(hm:X.mg x=some (.ref C))(hb:Binds X.K fd ps [])
  (ha:GA X E (e :: es) ml) (pG:(x==("__debug__" : Str))=false:=by decide) (he:Aa (e :: es) X.env=(false,B4 e X.env) :: Aa es X.env:=by rfl) (p0:(Dw pos (Aa es X.env)).any (·.1)=false:=by rfl) :
  GE X E (.Call (.Name x p) (e :: es) [] pos) (P7 C n g ml):=(eE (E:=Xk E) M F hr hg hm hb .nil hx ha pG he p0).imp λσ H Q ⟨ρ,l,S,hl,hs,hm⟩=>by
 refine⟨ρ,l,S,hl,hs,hm.seq λds S1 hm ρ1 H1 xs l1 s1 r1 a dx ha hdx oO=>?_⟩;split at hm
 ·rename_i hlen
  rw[BE];obtain⟨s2,l2⟩:=HX (ho:=.own a) s1 hdx
  have vj:upd H1 dx (.own a) a=none:=by rw[BN (Br oO)];exact ha
  obtain⟨s3,l3,ς⟩:=s2.alloc (p:=a) (ho:=.ins C dx []) (o:=.ins C []) vj ⟨dx,[],Bb,.nil⟩;refine⟨ρ1++[a],.ref S1.length :: ds,S1++[.ins C []],by simpa using hlen,.cons (.ref ς) (r1.mono (l2.trans l3)),s3,Bw.xk (hm.seq λz S2 hm=>hm) (l1.trans (l2.trans l3)) λz S2 hm ρ' H' y l' s' r'=>?_⟩
  cases z <;> first | exact hm.elim | skip
  cases r';exact⟨rfl,hm ρ' H' _ (l1.trans (l2.trans (l3.trans l'))) s' (.ref (l'.pre _ _ ς))⟩
 ·exact hm.elim
end
theorem KVR.lookup{K}{ρ}{H}(f:Str):∀{x:List (Str×D)} {y:List (Str×V)} {d:D},KVR K ρ H x y->x.lookup f=some d->∃v,y.lookup f=some v/\Bo K ρ H d v
 | _,_,_,.nil,h=>by simp at h
 | (g,a) :: x,(g',b) :: y,d,.cons r t,h=>by
  obtain⟨r1,r2⟩:=r;dsimp only at r1 r2;subst r1;rw[Bd]at h ⊢
  cases hq:(f==g)with
  | true=>rw[hq]at h;cases h;exact⟨b,rfl,r2⟩
  | false=>rw[hq]at h;exact KVR.lookup f t h
def Oe(f:Str)(v:D):List (Str×D)->List (Str×D)
 | []=>[(f,v)]
 | (g,x) :: r=>if g=f then(g,v) :: r else(g,x) :: Oe f v r
theorem KVR.putF{K}{ρ}{H}(f:Str){d}{v}(rd:Bo K ρ H d v):∀{x:List (Str×D)} {y:List (Str×V)},KVR K ρ H x y->KVR K ρ H (Oe f d x) (putF f v y)
 | _,_,.nil=>.cons ⟨rfl,rd⟩ .nil
 | (g,a) :: x,(g',b) :: y,.cons r t=>by
  obtain⟨r1,r2⟩:=r;dsimp only at r1 r2;subst r1;unfold Oe L2.putF
  by_cases hq:g=f
  ·rw[qX hq,qX hq];exact .cons ⟨rfl,rd⟩ t
  ·rw[qY hq,qY hq];exact .cons ⟨rfl,r2⟩ (KVR.putF f rd t)
theorem KVR.length{κ:Type}{K:AG}{ρ:List AV}{H:Hp}{x:List (κ×D)}{y:List (κ×V)}(h:KVR K ρ H x y):x.length=y.length:=D4 h
def Hl(C:AV)(f:Str)(m:ME):ME:=λe S=>(m e S).bind λd S1=>match d with
 | .ref n=>match S1[n]? with
  | some (.ins C' fs)=>if C'=C then(match fs.lookup f with | some v=>.ok v S1 | none=>.bad)else .bad
  | _=>.bad
 | _=>.bad
def RJ(C:AV)(f:Str)(mo mv:ME):MS:=λe S=>(mv e S).lift e λv S1=>(mo e S1).lift e λd S2=>match d with
 | .ref n=>match S2[n]? with
  | some (.ins C' fs)=>if C'=C/\fs.length < 1000 then .ok (.nx e) (S2.set n (.ins C (Oe f v fs)))else .bad
  | _=>.bad
 | _=>.bad
section
variable{X:Cx}{E:EW}{o e value:Expr}{m mv:ME}
theorem JF(hc:Cls X.K C)(hn:Ic X.K C f)(he:GE X E e m)(hb:Cp e f X.env (B4 e X.env)=B4 e X.env:=by rfl):GE X E (.Attribute e f pos) (Hl C f m):=(jL he hb).imp λσ H Q ⟨ρ,l,S,hl,hs,hm⟩=>by
 refine⟨ρ,l,S,hl,hs,hm.seq λx S1 hm ρ1 H1 v l1 s1 r1=>?_⟩
 cases x <;> first | exact hm.elim | skip
 rename_i n;dsimp only at hm
 cases ho:S1[n]? with
 | none=>rw[ho]at hm;exact hm.elim
 | some ob=>
  rw[ho]at hm
  cases ob <;> first | exact hm.elim | skip
  rename_i C' fs;dsimp only at hm;split at hm
  ·rename_i hC
   rw[hC]at ho
   cases r1 with
   | ref qd=>
    obtain⟨dx,rU,e1,e2⟩:=s1.ob n _ _ ho qd
    cases hq:fs.lookup f with
    | none=>rw[hq]at hm;exact hm.elim
    | some w=>
     rw[hq]at hm;obtain⟨v,h3,h4⟩:=KVR.lookup f e2 hq;exact⟨_,_,dx,rU,v,rfl,e1,hc,hn,h3,hm ρ1 H1 v l1 s1 h4⟩
  ·exact hm.elim
theorem Vu(hc:Cls X.K C)(hn:Ic X.K C f)(ha:GE X E o m)(hv:GE X E value mv)(hs:GX value (some (.Attribute o f pos')) pos.line X.env=pure false:=by rfl):GS X E (.Assign [.Attribute o f pos'] value pos) (RJ C f m mv):=(jB ha hv hs).imp λD σ H ⟨ρ,l,S,hl,hs,hm⟩=>by
 refine⟨ρ,l,S,hl,hs,hm.lift hl .refl λv S1 hm ρ1 H1 y l1 s1 r1=>⟨ρ1,l,S1,hl.mono l1,s1,(hm.later l1).lift (hl.mono l1) l1 λx S2 hm ρ2 H2 u l2 s2 r2=>?_⟩⟩
 cases x <;> first | exact hm.elim | skip
 rename_i n;dsimp only at hm
 cases ho:S2[n]? with
 | none=>rw[ho]at hm;exact hm.elim
 | some ob=>
  rw[ho]at hm
  cases ob <;> first | exact hm.elim | skip
  rename_i C' fs;dsimp only at hm;split at hm
  ·rename_i hC
   obtain⟨hC,hlen⟩:=hC;rw[hC]at ho
   cases r2 with
   | ref qd=>
    obtain⟨dx,rU,e1,e2⟩:=s2.ob n _ _ ho qd;have le:Le X.K ρ2 H2 ρ2 (upd H2 _ (.ins C dx (putF f y rU))):=Le.write qd (by rw[e1];trivial);obtain⟨s3,l3⟩:=s2.write (ho:=.ins C dx (putF f y rU)) (o:=.ins C (Oe f v fs)) qd ⟨dx,_,Bb,(KVR.putF f (r1.mono l2) e2).mono le⟩ le;refine⟨_,C,dx,rU,rfl,e1,hc,hn,by rw[<-KVR.length e2];exact hlen,?_⟩;exact hm ρ2 _ σ (l1.trans (l2.trans l3)) s3 (hl.mono (l1.trans (l2.trans l3)))
  ·exact hm.elim
end
theorem CH.get(x:CH P w H h a o):∃u,h.get? a=some u:=by
 cases o with
 | lst xs=>obtain⟨_,_,_,_,e⟩:=x;exact⟨_,e⟩
 | tup xs=>obtain⟨_,_,_,o,e,_⟩:=x;exact⟨_,e⟩
 | dK kvs=>obtain⟨_,_,_,_,o,_,_,e,_⟩:=x;exact⟨_,e⟩
 | dT kvs=>obtain⟨_,_,_,_,o,_,_,e,_⟩:=x;exact⟨_,e⟩
 | set S n=>obtain⟨o,_,_,_,e,_⟩:=x;exact⟨_,e⟩
 | ins C dx fs=>obtain⟨_,_,_,e,_⟩:=x;exact⟨_,e⟩
 | own y=>exact x
 | xd fs=>obtain⟨_,⟨_,_,_,e,_⟩,_⟩:=x;exact⟨_,e⟩
 | rng lo hi=>obtain⟨_,_,_,e⟩:=x;exact⟨_,e⟩
 | frz ob u=>obtain⟨e,_⟩:=x;exact⟨_,e⟩
 | tbl ps=>exact⟨_,(show h.get? a=some _ from x)⟩
 | met f y=>exact⟨_,(show h.get? a=some _ from x)⟩
 | ext φ=>obtain⟨_,e,_⟩:=x;exact e
def Q0(Nw:AV->Prop)(F:Option AH->Prop)(ea C:AV)(H:Hp)(h:Cj):Prop:=
 H ea=none/\Nw ea/\∃(oe:Obj) (vs:Array AH) (a0:AH),h.get? ea=some oe/\oe.cls=.ref C/\(oe.dict=none/\oe.data=.fields vs)/\vs[0]?=some a0 /\
  ((F none/\vs[1]?=some .none)∨∃(T:AV) (oT:Obj) (ts:Array AH) (fl:AH),F (some fl)/\vs[1]?=some (.ref T)/\T≠ea/\H T=none/\Nw T/\h.get? T=some oT/\oT.data=.fields ts/\ts[3]?=some fl)
theorem Q0.imp(x:Q0 Nw F ea C H h)(f:∀o,F o->G o):Q0 Nw G ea C H h:=by
 obtain⟨n1,n2,oe,vs,a0,g1,g2,g3,g4,g5⟩:=x;refine⟨n1,n2,oe,vs,a0,g1,g2,g3,g4,?_⟩
 rcases g5 with⟨a,b⟩ | ⟨T,oT,ts,fl,a,b⟩
 ·exact .inl ⟨f _ a,b⟩
 ·exact .inr ⟨T,oT,ts,fl,f _ a,b⟩
structure Jk(X:Cx):Prop where
 st:X.stack=X.env :: X.outer
 fr:X.env.frame=some X.env.locals
 ex:X.ex=[]
def Nw(X:Cx)(b:AV):Prop:=X.s₀.heap.get? b=none/\∀p∈X.pn,p.1≠b
section
variable{X:Cx}{σ:St}{H:Hp}{s:AQ}{h':Cj}{ea C:AV}{F:Option AH->Prop}
theorem Inv.old(I:Inv X ζ σ H s)(O:Jk X)(e:s.heap.get? b=none):H b=none/\Nw X b:=by
 refine⟨?_,?_,λp hp z=>?_⟩
 ·cases q:H b with
  | none=>rfl
  | some u=>
   obtain⟨o,ho⟩:=(I.hok b u q).get;rw[e]at ho;cases ho
 ·cases q:X.s₀.heap.get? b with
  | none=>rfl
  | some o=>
   obtain⟨o',ho⟩:=I.base.there b o q (by rw[O.ex];simp);rw[e]at ho;cases ho
 ·have:=(I.pin p (Ay _ hp)).1
  rw[z,e]at this;cases this
theorem Inv.recs(I:Inv X [] σ H s)(O:Jk X)(hc:∀b∈ch,H b=none/\Nw X b/\∃o vs,s.heap.get? b=some o/\o.data=.fields vs)
  (st:(KL s.heap (frs X.stack++ch)).StaysIn h') (up:s.heap.UpToSlots h'):Inv X [] σ H { s with heap:=h' }:=by
 have qL:∀b o,b∉frs X.stack->b∉ch->s.heap.get? b=some o->h'.get? b=some o:=λb o h1 h2 e=>
  st b o (Ui _ e λz=>(Af.mp z).elim h1 h2)
 have noL:∀b∈ch,b≠X.env.locals:=λb hb z=>by
  obtain⟨_,_,o,vs,e,d⟩:=hc b hb;obtain⟨m,⟨o',es,ep,p9,pd,_⟩,_⟩:=I.loc;rw[z,p9]at e;cases e;rw[pd]at d;cases d
 have noC:∀b∈ch,∀x c,X.env.cells.lookup x=some c->c≠b:=λb hb x c q z=>by
  obtain⟨_,_,o,vs,e,d⟩:=hc b hb;obtain⟨v,o',p9,pd⟩:=I.cell x c q;rw[z,e]at p9;cases p9;rw[d]at pd;cases pd
 refine I.stepN (g':=s.gens) (t':=s.toks) (d':=s.drawn) (ch:=ch) (λb hb=>⟨.inr (hc b hb).2.1.1,noL b hb,noC b hb,λp hp=>(hc b hb).2.1.2 p (by rwa [BE]at hp)⟩)
  (λb o nl nf nc e _=>qL b o (λz=>(At.mp (I.stkSub b z)).elim nl nf) nc e) (λb o _ hf _ e _=>?_) (λ_ _ _ _ n=>n) (λb o nc e=>?_) (λ_ _ q=>q) (λ_ _ _ q=>q) (λb ps q=>⟨#[],by rw[q];simp⟩) (λm hm=>up.ns hm) (λa o e=>?_) I.bare
 ·obtain⟨o',p9,nf⟩:=(I.funs.mem hf).2
  rw[e]at p9;cases p9;exact up b o e nf
 ·by_cases hb:b∈frs X.stack
  ·obtain⟨o',p9,nf⟩:=(I.stack.mem hb).2
   rw[e]at p9;cases p9;obtain⟨sl,q⟩:=up b o e nf;exact⟨_,q⟩
  ·exact⟨o,qL b o hb nc e⟩
 ·have tr:∀b u,H b=some u->∀v,s.heap.get? b=some v->h'.get? b=some v:=λb u q v r=>
   qL b v (λz=>by rw[I.stkFree b z]at q;cases q) (λz=>by rw[(hc b z).1]at q;cases q) r
  refine(I.hok a o e).stay (λb u hb q=>?_) (λ_ q=>q) λ_ _ q=>q
  rcases hb with z | z
  ·subst z;exact tr _ _ e u q
  ·exact tr _ _ z u q
abbrev bK(X:Cx)(h:Cj)(ch:List AV):Cj:=KL h (frs X.stack++ch)
theorem RT(hb:b∈ch):(bK X h ch).get? b=none:=Kg _ (Ax _ hb)
theorem LC(f:Array AH->Array AH)(o:Obj):(C8 f o).dict=o.dict:=by
 obtain⟨c,d,dt,sl⟩:=o
 cases dt <;> rfl
theorem UR
  (hfr:A.frames=some (env :: outer)) (hl:s.heap.FunFrames base (env :: outer)) (hf:env.frame=some L) (he:s.heap.get? e=some oe) (hd:oe.data=.fields vs) (hsz:1 < vs.size)
  (k:∀h2 T oT ts,T≠e->s.heap.get? T=none->(∀b o,b≠e->b∉frs (env :: outer)->s.heap.get? b=some o->h2.get? b=some o)->(∀b o,b≠e->s.heap.get? b=some o->∃sl,h2.get? b=some { o with slots:=sl }) ->
   h2.get? e=some (C8 (·.setIfInBounds 1 (.ref T)) oe)->h2.get? T=some oT->oT.data=.fields ts->ts[3]?=some (Eo L)->Q () { s with heap:=h2 }) :
  Aw M A (do let a <-frameOf env;let pl <-entryPlaceOf L hadNext;let b <-Rx head a .none (Eo L) .none pl;cJ (.ref e) 1 b) Q E s:=by
 have sr:e∉frs (env :: outer):=λz=>by
  obtain⟨_,o,ho,nf⟩:=hl.mem z;rw[he]at ho;cases ho;exact nf vs hd
 refine AB (wpAny_frameOf_fun hfr hl hf λg1 so=>AB (wpAny_entryPlaceOf λpl p0=>?_));unfold Rx newFields;refine AB (EL ?_ (p0.sizeOk5 _ _ _ _ _));have e1:g1.get? e=some oe:=(so.2.1 e sr).trans he;have e2:=AK (h:=g1) { cls:=.type "traceback",dict:=none,data:=.fields ([head,.ref L,.none,Eo L,.none]++(if pl.isEmpty then Ak 6 BY else pl)).toArray } e1;refine F0 e2 hd hsz ?_;have υ:g1.objs.size≠e:=HE (Ai e1);have dd:=CJ hd (·.setIfInBounds 1 (Au g1.objs.size))
 have old:∀b o,b≠e->g1.get? b=some o->((g1.push { cls:=.type "traceback",dict:=none,data:=.fields ([head,.ref L,.none,Eo L,.none]++(if pl.isEmpty then Ak 6 BY else pl)).toArray }).update e (C8 (·.setIfInBounds 1 (Au g1.objs.size)))).get? b=some o:=λb o ne q=>by
  rw[Eb _ _ (Br ne)];exact AK _ q
 refine k _ g1.objs.size { cls:=.type "traceback",dict:=none,data:=.fields ([head,.ref L,.none,Eo L,.none]++(if pl.isEmpty then Ak 6 BY else pl)).toArray } _ υ (WO (U1 so.1.symm)) (λb o ne nf q=>old b o ne ((so.2.1 b nf).trans q)) (λb o ne q=>?_) (E5 _ e2 (FA dd)) ?_ rfl ?_
 ·obtain⟨sl,z⟩:=so.2.2 b o q
  exact⟨sl,old b _ ne z⟩
 ·rw[Eb _ _ (Br υ)]
  exact Al g1 rfl
 ·rcases p0 with rfl | ⟨_,_,_,_,_,_,_,rfl⟩ <;> simp
theorem Tg(keep:∀b o,b∉frs X.stack->b∉ch->h.get? b=some o->h'.get? b=some o):(bK X h ch).StaysIn h':=λb o q=>by
 have hb:b∉frs X.stack++ch:=λz=>by
  have:=Kg (h:=h) (frs X.stack++ch) z;rw[show(bK X h ch).get? b=(KL h (frs X.stack++ch)).get? b from rfl,this]at q;cases q
 exact keep b o (λz=>hb (Ay _ z)) (λz=>hb (Ax _ z)) (MA _ q)
theorem SK(I:Inv X [] σ H s)(O:Jk X)(hA:A.frames=some X.stack)(x:Q0 (Nw X) F ea C H s.heap)
  (hF:∀o,F o->o=none∨o=some .none∨o=some (Eo X.env.locals))
  (k:∀h',Inv X [] σ H { s with heap:=h' }->Q0 (Nw X) (· = some (Eo X.env.locals)) ea C H h'->Q () { s with heap:=h' }):Aw M A (Yx (.ref ea) X.env) Q E s:=by
 obtain⟨n1,n2,oe,vs,a0,g1,g2,⟨g0,g3⟩,g4,g5⟩:=x
 have χ:A.frames=some (X.env :: X.outer):=by rw[hA,O.st]
 have qC:frs (X.env :: X.outer)=frs X.stack:=by rw[O.st]
 have fr:s.heap.FunFrames X.base (X.env :: X.outer):=by rw[<-O.st];exact I.stack
 rcases g5 with⟨_,h1⟩ | ⟨T,oT,ts,fl,hf,h1,ne,m1,m2,gT,dT,h3⟩
 ·have hsz:=(FN.mp h1).1
  unfold Yx;simp only[O.fr];refine AB (E3 g1 g3 h1 ?_);rw[qY (by decide)]
  refine UR χ fr O.fr g1 g3 hsz λh2 T oT ts nT fT kp up q1 q2 q3 q4=>?_
  rw[qC]at kp;have hT:=I.old O fT
  have hc:∀b∈[ea],H b=none/\Nw X b/\∃o vs,s.heap.get? b=some o/\o.data=.fields vs:=λb hb=>by
   cases AJ.mp hb;exact⟨n1,n2,oe,vs,g1,g3⟩
  refine k h2 (I.recs O hc (Tg λb o z1 z2 q=>kp b o (λz=>z2 (AJ.mpr z)) z1 q) λb o q nf=>up b o (λz=>?_) q) ?_
  ·rw[z,g1]at q
   cases q;exact nf vs g3
  ·exact⟨n1,n2,_,_,a0,q1,by rw[Jl];exact g2,⟨by rw[LC];exact g0,CJ g3 _⟩,by rw[OI (by decide)];exact g4,.inr ⟨T,oT,ts,_,rfl,by simp[hsz],nT,hT.1,hT.2,q2,q3,q4⟩⟩
 ·rcases hF _ hf with e | e | e
  ·cases e
  ·cases e
   have hsz:=(FN.mp h1).1;unfold Yx;simp only[O.fr];refine AB (E3 g1 g3 h1 ?_);rw[qX (show(Au T != BY)=true from by simp)];refine AB (E3 gT dT h3 ?_);rw[qY (show ¬((BY==Eo X.env.locals)=true)from by simp[Eo])];refine AB (F0 gT dT (FN.mp h3).1 ?_)
   have oth:∀b,b≠T->(s.heap.update T (C8 (·.setIfInBounds 3 BY))).get? b=s.heap.get? b:=λb hb=>Eb _ _ (Br hb)
   have rj:∀b o,s.heap.get? b=some o->(∀vs,o.data≠.fields vs)->b≠T:=λb o hb nf q=>by
    rw[q,gT]at hb;cases hb;exact nf ts dT
   have fr2:(s.heap.update T (C8 (·.setIfInBounds 3 BY))).FunFrames X.base (X.env :: X.outer):=fr.of_keeps λb o hb nf=>⟨o,(oth b (rj b o hb nf)).trans hb,rfl⟩
   have gU:(s.heap.update T (C8 (·.setIfInBounds 3 BY))).get? T=some (C8 (·.setIfInBounds 3 BY) oT):=E5 _ gT (FA (CJ dT _))
   have hc:∀b∈[ea,T],H b=none/\Nw X b/\∃o vs,s.heap.get? b=some o/\o.data=.fields vs:=λb hb=>by
    rcases At.mp hb with rfl | hb
    ·exact⟨n1,n2,oe,vs,g1,g3⟩
    ·cases AJ.mp hb
     exact⟨m1,m2,oT,ts,gT,dT⟩
   refine UR (s:={ s with heap:=s.heap.update T (C8 (·.setIfInBounds 3 BY)) }) χ fr2 O.fr ((oth ea (Br ne)).trans g1) g3 hsz λh2 T2 oT2 ts2 nT fT kp up q1 q2 q3 q4=>?_
   rw[qC]at kp
   have fT':s.heap.get? T2=none:=by
    have z:T2≠T:=λz=>by rw[z]at fT;exact zX (fT.symm.trans gU) (by simp)
    rw[<-oth T2 z];exact fT
   have hT:=I.old O fT';refine k h2 (I.recs O hc (Tg λb o z1 z2 q=>kp b o (λz=>z2 (by rw[z];exact Aq)) z1 ((oth b λz=>z2 (by rw[z];exact AT _ (AJ.mpr rfl))).trans q)) λb o q nf=>up b o (λz=>?_) ((oth b (rj b o q nf)).trans q)) ?_
   ·rw[z,g1]at q
    cases q;exact nf vs g3
   ·exact⟨n1,n2,_,_,a0,q1,by rw[Jl];exact g2,⟨by rw[LC];exact g0,CJ g3 _⟩,by rw[OI (by decide)];exact g4,.inr ⟨T2,oT2,ts2,_,rfl,by simp[hsz],nT,hT.1,hT.2,q2,q3,q4⟩⟩
  ·cases e
   have hTn:(bK X s.heap [ea,T]).get? T=none:=RT (AT _ (AJ.mpr rfl));refine wpAny_noteFrame_againW (base:=bK X s.heap [ea,T]) (cls:=.ref C) (a0:=a0) O.fr ⟨oe,vs,T,oT,ts,g1,⟨g2,g4⟩,g3,h1,hTn,ne,gT,dT,h3⟩ ?_;exact k s.heap I ⟨n1,n2,oe,vs,a0,g1,g2,⟨g0,g3⟩,g4,.inr ⟨T,oT,ts,_,rfl,h1,ne,m1,m2,gT,dT,h3⟩⟩
theorem LS(f:Option AV)(I:Inv X [] σ H s)(O:Jk X)(x:Q0 (Nw X) F ea C H s.heap)(hF:¬F none)
  (k:∀h',Inv X [] σ H { s with heap:=h' }->Q0 (Nw X) (· = some (f.elim BY λa=>Eo a)) ea C H h'->Q () { s with heap:=h' }):Aw M A (setFlight (.ref ea) f) Q E s:=by
 obtain⟨n1,n2,oe,vs,a0,g1,g2,⟨g0,g3⟩,g4,g5⟩:=x
 rcases g5 with⟨z,_⟩ | ⟨T,oT,ts,fl,hf,h1,ne,m1,m2,gT,dT,h3⟩
 ·exact(hF z).elim
 ·have hc:∀b∈[ea,T],H b=none/\Nw X b/\∃o vs,s.heap.get? b=some o/\o.data=.fields vs:=λb hb=>by
   rcases At.mp hb with rfl | hb
   ·exact⟨n1,n2,oe,vs,g1,g3⟩
   ·cases AJ.mp hb
    exact⟨m1,m2,oT,ts,gT,dT⟩
  have hsz:3 < ts.size:=(FN.mp h3).1;unfold setFlight;refine AB (E3 g1 g3 h1 ?_);rw[qX (show(Au T != BY)=true from by simp)];refine F0 gT dT hsz ?_
  have oth:∀b,b≠T->(s.heap.update T (C8 (·.setIfInBounds 3 (f.elim BY λa=>Eo a)))).get? b=s.heap.get? b:=λb hb=>Eb _ _ (Br hb)
  have rj:∀b o,s.heap.get? b=some o->(∀vs,o.data≠.fields vs)->b≠T:=λb o hb nf q=>by
   rw[q,gT]at hb;cases hb;exact nf ts dT
  refine k _ (I.recs O hc (λb o q=>?_) λb o q nf=>⟨o.slots,(oth b (rj b o q nf)).trans q⟩) ?_
  ·have hb:b≠T:=λz=>by rw[z,RT (AT _ (AJ.mpr rfl))]at q;cases q
   exact(oth b hb).trans (MA _ q)
  ·refine⟨n1,n2,oe,vs,a0,(oth ea (Br ne)).trans g1,g2,⟨g0,g3⟩,g4,.inr ⟨T,_,_,_,rfl,h1,ne,m1,m2,E5 _ gT (FA (CJ dT _)),CJ dT _,?_⟩⟩
   simp[hsz]
end
def trF(X:Cx)(o:Option AH):Prop:=o=none∨o=some .none∨o=some (Eo X.env.locals)
def XE(X:Cx)(E:EW)(e:AH)(s':AQ):Prop:=∃ea C σ H',e=.ref ea/\Inv X [] σ H' s'/\Q0 (Nw X) (trF X) ea C H' s'.heap/\E C σ H'
def CXG(P:Bp)(w:CF):CXT:=λouter H s E e s'=>∃ea C H',e=.ref ea/\s'.os=s.os/\Ii s'.gens/\Un (frs outer) [] H H' s.heap s'.heap/\HOk P w H' s'.heap/\Q0 (λb=>s.heap.get? b=none) (· = some .none) ea C H' s'.heap/\E (.ref C) none H'
theorem XE.own(O:Jk X):OC (Ac X.prog X.w) X.A X.env (XE X E):=by
 rintro e s' ⟨ea,C,σ,H,rfl,I,x,w⟩
 refine SK I O I.ok.frames x (λo z=>z) λh1 I1 x1=>?_
 have x1':=x1;obtain⟨n1,n2,oe,vs,a0,g1,g2,g3,g4,g5⟩:=x1'
 rcases g5 with⟨z,_⟩ | ⟨T,oT,ts,fl,hf,h1',_⟩
 ·cases z
 ·show Aw _ _ _ _ _ _
  refine AB (E3 (s:={ s' with heap:=h1 }) g1 g3.2 h1' ?_);rw[qY (by simp)];rw[O.fr]
  refine LS (s:={ s' with heap:=h1 }) (some X.env.locals) I1 O x1 (by simp) λh2 I2 x2=>?_
  exact⟨ea,C,σ,H,rfl,I2,x2.imp λo z=>.inr (.inr z),w⟩
theorem XE.leave(O:Jk X)(h:XE X E e s')
  (k:∀ea C σ H' sg,e=.ref ea->Inv X [] σ H' sg->Q0 (Nw X) (· = some .none) ea C H' sg.heap->E C σ H'->Q () sg):Aw (Ac X.prog X.w) X.A (leaving X.env e) Q E' s':=by
 obtain⟨ea,C,σ,H,rfl,I,x,w⟩:=h;unfold leaving;refine AB (SK I O I.ok.frames x (λo z=>z) λh1 I1 x1=>?_)
 refine LS (s:={ s' with heap:=h1 }) none I1 O x1 (by simp) λh2 I2 x2=>?_
 exact k ea C σ H _ rfl I2 x2 w
abbrev Cx.p(X:Cx)(pn:List (AV×Obj)):Cx:={ X with pn:=pn }
abbrev Cx.w'(X:Cx)(pn:List (AV×Obj))(E:EW):Cx:={ X with pn:=pn,xe:=XE (X.p pn) E }
theorem Inv.with(I:Inv X ζ σ H s)(z:AH->AQ->Prop):Inv { X with xe:=z } ζ σ H s:=by
 obtain⟨ok,a,b,c,d,e,f,g,i,j,l⟩:=I;obtain⟨o1,o2,o3,o4,o5,o6,o7,o8,o9,sv,sx,sy,sC,sD,sE,sG,sH,sJ⟩:=ok;exact⟨⟨o1,o2,o3,o4,o5,o6,o7,o8,o9,sv,sx,sy,sC,sD,sE,sG,sH,sJ⟩,a,b,c,d,e,f,g,i,j,l⟩
theorem Inv.without(I:Inv { X with xe:=z } ζ σ H s):Inv X ζ σ H s:=by
 have:=I.with X.xe
 exact this
theorem Inv.pinIn(I:Inv X ζ σ H s):Inv (X.p (X.pn++ζ)) [] σ H s:=by
 obtain⟨ok,a,b,c,d,e,f,g,i,j,l⟩:=I;obtain⟨o1,o2,o3,o4,o5,o6,o7,o8,o9,sv,sx,sy,sC,sD,sE,sG,sH,sJ⟩:=ok;exact⟨⟨o1,o2,o3,o4,o5,o6,o7,o8,o9,sv,sx,sy,sC,sD,sE,sG,sH,sJ⟩,a,b,c,d,e,f,g,λq hq=>i q (by rwa [BE]at hq),j,l⟩
theorem Inv.pinOut(I:Inv (X.p (X.pn++ζ)) [] σ H s):Inv X ζ σ H s:=by
 obtain⟨ok,a,b,c,d,e,f,g,i,j,l⟩:=I;obtain⟨o1,o2,o3,o4,o5,o6,o7,o8,o9,sv,sx,sy,sC,sD,sE,sG,sH,sJ⟩:=ok;exact⟨⟨o1,o2,o3,o4,o5,o6,o7,o8,o9,sv,sx,sy,sC,sD,sE,sG,sH,sJ⟩,a,b,c,d,e,f,g,λq hq=>i q (by show q∈(X.pn++ζ)++[];rwa [BE]),j,l⟩
structure Good(X:Cx)(E:EW):Prop where
 pass:Mf (CXG X.prog X.w) X (Xk E)
 own:OC (Ac X.prog X.w) X.A X.env X.xe
 made:∀(ζ:List (AV×Obj)) (σ:St) (H:Hp) (s:AQ) (h':Cj) (ea C:AV) (args:List AH),Inv X ζ σ H s->E C σ H->Cj.MadeExcOf s.heap h' ea (.ref C) args->X.xe (.ref ea) { s with heap:=h' }
theorem Jk.p(O:Jk X)(pn:List (AV×Obj)):Jk (X.p pn):=⟨O.st,O.fr,O.ex⟩
theorem BJ(O:Jk X):Good (X.w' pn E) E:=by
 have O':=O.p pn;refine⟨λζ σ H s e s' I h=>?_,XE.own O',λζ σ H s h' ea C args I w hx=>?_⟩
 ·obtain⟨ea,C,H',rfl,os,bare,un,hok,x,_,c,ec,w⟩:=h
  cases ec;have I0:Inv (X.p pn) ζ σ H s:=Inv.without (X:=X.p pn) I;have I1:Inv (X.p pn) ζ σ H' s':=I0.call' os un hok bare (λb z=>zX z (by simp))
  have I2:Inv (X.p pn) [] σ H' s':=I1.pins_of λp hp=>zX hp (by simp)
  obtain⟨n1,n2,oe,vs,a0,g1,g2,g3,g4,g5⟩:=x;refine⟨ea,C,σ,H',rfl,I2,⟨n1,(I0.old O' n2).2,oe,vs,a0,g1,g2,g3,g4,?_⟩,w⟩
  rcases g5 with⟨z,_⟩ | ⟨T,oT,ts,fl,hf,h1,ne,m1,m2,r⟩
  ·cases z
  ·exact .inr ⟨T,oT,ts,fl,.inr (.inl hf),h1,ne,m1,(I0.old O' m2).2,r⟩
 ·have I0:Inv (X.p pn) ζ σ H s:=Inv.without (X:=X.p pn) I
  have I1:Inv (X.p pn) ζ σ H { s with heap:=h',toks:=s.toks }:=I0.kept hx.keeps;obtain⟨t,g1,_,_⟩:=hx.there;have hold:=I0.old O' hx.new;exact⟨ea,C,σ,H,rfl,I1.pins_of λp hp=>zX hp (by simp),⟨hold.1,hold.2,_,_,_,g1,rfl,⟨rfl,rfl⟩,rfl,.inl ⟨.inl rfl,rfl⟩⟩,w⟩
theorem good_none(hx:X.xe=λ_ _=>False):Good X noE:=by
 refine⟨λζ σ H s e s' I h=>?_,by rw[hx];exact OC.never,λ_ _ _ _ _ _ _ _ _ w _=>w.elim⟩;obtain⟨ea,C,H',rfl,os,bare,un,hok,x,_,c,ec,w⟩:=h;exact w.elim
abbrev QR:List AH:=[.type "ValueError",.type "Exception",.type "BaseException",.type "object"]
structure XCl(K:AG)(C:AV):Prop where
 ex:cB K C QR "ValueError.__new__" = true
theorem XCl.obj{K}{C}(c:XCl K C):∃bm N nm q bs hdct sn sub ab col dd k0 k1 k2 k3 k5,K.lookup C=some (excClassObj nm q C N bs bm hdct sn sub ab col dd k0 k1 k2 k3 k5 "ValueError.__new__") /\
  O6 K N=true/\PySem.W.nsIn K N "__init__" = some none/\PySem.W.tailIn K QR bm=true:=by
 have q:=c.ex;unfold cB at q;split at q
 ·rename_i ddx cdx slx hox
  split at q
  ·rename_i Cx bmx j0 j1 j2 j3 nx j5 hmx hsx
   simp only[EN,beq_iff_eq,ZK]at q;obtain⟨⟨⟨⟨⟨e1,e2⟩,e3⟩,e4⟩,e5⟩,e6⟩:=q;subst e1;subst e2;obtain⟨f1,f2,f3,f4,f5,f6,f7,f8,f9,tD,tV⟩:=cdx;dsimp only at hmx e3 e5 e6;subst hmx;subst e3;obtain⟨lx⟩:=slx;dsimp only at hsx;subst hsx;exact⟨bmx,f4,f1,f5,f2,f6,f7,f8,f9,tD,ddx,j0,j1,j2,j3,j5,hox,e5,e6,e4⟩
  ·cases q
 ·cases q
theorem ed{K}{N}{h h2}{m}(e:O6 K N=true)(X:K.In h)(X2:K.In h2)(n:h.Ns N m):h2.Ns N m:=by
 obtain⟨o,es,ep,ho,r⟩:=n;unfold O6 at e;split at e
 ·rename_i hk
  have z:=X _ _ hk;rw[ho]at z;cases z;exact⟨_,es,ep,X2 _ _ hk,r⟩
 ·cases e
def EU(C:AV)(ml:ML):MS:=λe S=>(ml e S).lift e λds S1=>if ds.length<=sizeLine then .ok (.ex C e) S1 else .bad
section
variable{E:EW}{x:Str}{e:Expr}{C:AV}
theorem Jd(G:Good X E)(hc:X.calm=true)(c:XCl X.K C)(hg:Gl X x)(hm:X.mg x=some (.ref C))(ha:GA X E (e :: es) ml)(pG:(x==("__debug__" : Str))=false:=by decide)
  (he:Aa (e :: es) X.env=(false,B4 e X.env) :: Aa es X.env:=by rfl) (p0:(Dw cpos (Aa es X.env)).any (·.1)=false:=by rfl) :
  GS X E (.Raise (some (.Call (.Name x np) (e :: es) [] cpos)) none pos) (EU C ml):=by
 intro ζ s σ H D I ⟨ρ,l,S,hl,hs,tW⟩;have hh:X.A.handled=none:=I.ok.hd hc;obtain⟨bm,N,nm,q,bs,hdct,sn,sub,ab,col,dd,k0,k1,k2,k3,k5,hC,hok,wG,ψ⟩:=c.obj;have hN:s.heap.Ns N (s.heap.nsMap N):=.of_isNs (PySem.W.isNs_of_in I.kIn hok)
 refine wpAny_Raise_call_subT (C:=C) (nm:=nm) (q:=q) (N:=N) (bs:=bs) (bm:=bm) (hdct:=hdct) (sn:=sn) (sub:=sub) (ab:=ab) (col:=col) (dd:=dd) (k0:=k0) (k1:=k1) (k2:=k2) (k3:=k3) (k5:=k5) (bmB:=QR) PySem.F.excBase_ValueError
  ((Uz I.kIn ψ).hasType (by decide +kernel)) hh (by rw[he];show(false||(Dw cpos (Aa es X.env)).any (·.1))=false;rw[p0];rfl) (PySem.W.nsMap_none_of_in I.kIn hok wG)
  (NG I hg hm ⟨rfl,?_⟩ pG)
 have ω:=ha cpos ζ s σ H (λvs H1=>vs.length<=sizeLine/\E C σ H1) I ⟨ρ,l,S,hl,hs,Bw.lift tW hl .refl λds S1 hm ρ1 H1 xs l1 s1 r1=>by
  split at hm
  ·rename_i hz
   exact⟨by rw[<-r1.length];exact hz,hm ρ1 H1 σ l1 s1 (hl.mono l1)⟩
  ·exact hm.elim⟩
 rw[he]at ω ⊢;refine LZ (thn ω λus s2 ⟨vs,H2,I2,rv,hz,w⟩=>?_);exact⟨rfl,by rw[<-rv.length];exact hz,I2.kIn _ _ hC,ed hok I.kIn I2.kIn hN,Uz I2.kIn ψ,λh' ea hx=>G.made ζ σ H2 s2 h' ea C us I2 w hx⟩
end
abbrev Cx.suite(X:Cx)(ea:AV):Cx:={ X with A:=X.A.mark (some (.ref ea)),calm:=false,xe:=λ_ _=>False }
theorem Inv.suite(I:Inv X ζ σ H s)(ea:AV):Inv (X.suite ea) ζ σ H s:=by
 obtain⟨ok,a,b,c,d,e,f,g,i,j,l⟩:=I;obtain⟨o1,o2,o3,o4,o5,o6,o7,o8,o9,sv,sx,sy,sC,sD,sE,sG,sH,sJ⟩:=ok;exact⟨⟨o1,o2,o3,o4,o5,o6,o7,o8,λz=>zX (show false=true from z) AL,sv,sx,sy,sC,sD,sE,sG,sH,sJ⟩,a,b,c,d,e,f,g,i,j,l⟩
theorem Inv.unsuite(ok:X.Ok)(I:Inv (X.suite ea) ζ σ H s):Inv X ζ σ H s:=by
 obtain⟨_,a,b,c,d,e,f,g,i,j,l⟩:=I;exact⟨ok,a,b,c,d,e,f,g,i,j,l⟩
theorem Inv.track(I:Inv X [] σ H s)(n1:H ea=none)(n2:Nw X ea)(g1:s.heap.get? ea=some o)(g3:o.data=.fields vs) :
  Inv X [] σ (upd H ea (.frz o (.ext λh=>∃u,h.get? ea=some u))) s:=by
 have qE:X.env.locals≠ea:=λz=>by
  obtain⟨m,⟨o',es,ep,p9,pd,_⟩,_⟩:=I.loc;rw[z,g1]at p9;cases p9;rw[g3]at pd;cases pd
 have qF:∀x c,X.env.cells.lookup x=some c->c≠ea:=λx c q z=>by
  obtain⟨v,o',p9,pd⟩:=I.cell x c q;rw[z,g1]at p9;cases p9;rw[g3]at pd;cases pd
 refine⟨I.ok,I.os,I.bare,⟨I.base.keep,I.base.slot,λb u q n hx=>?_,I.base.there,λb xs q=>?_,λb u xs q=>?_,λb ps q=>?_⟩,I.loc,I.cell,?_,λx c q=>?_,λp hp=>?_,λb u q=>?_,I.len⟩
 ·rw[BN λz=>by rw[z,n2.1]at q;cases q]
  exact I.base.free b u q n hx
 ·have:=I.base.tups b xs q
  rw[BN (Bq this n1)];exact this
 ·have:=I.base.frzs b u xs q
  rw[BN (Bq this n1)];exact this
 ·obtain⟨more,this⟩:=I.base.tbls b ps q
  exact⟨more,by rw[BN (Bq this n1)];exact this⟩
 ·rw[BN qE];exact I.free
 ·rw[BN (qF x c q)];exact I.freeC x c q
 ·obtain⟨z1,z2,z3⟩:=I.pin p hp
  exact⟨z1,by rw[BN (n2.2 p (by rwa [BE]at hp))];exact z2,z3⟩
 ·by_cases hb:b=ea
  ·subst hb
   rw[Bb]at q;cases q;exact⟨g1,⟨o,g1⟩,⟨o,g1⟩,λh1 h2 ⟨u,e1⟩ k=>⟨u,k u e1⟩⟩
  ·rw[BN hb]at q
   exact(I.hok b u q).stay (λ_ _ _ z=>z) (λc z=>by rw[BN (Bq z n1)];exact z) λc xs z=>by rw[BN (Bq z n1)];exact z
theorem LP(I:Inv X [] σ H s)(hN:X.N.Nodup)(hi:X.N[i]?=some n)(hn:X.env.scope.names.lookup n=some .local)
  (k:∀s',Inv X [] (σ.set i none) H s'->Q () s'):Aw M A (do bindName X.env n .none;unbindBehindTheSuite X.env n pos) Q E s:=by
 obtain⟨m,hm,hl⟩:=id I.loc
 have hp:(X.env.scope.kind==.class||(X.env.scope.kind==.module&&X.env.locals != X.env.globals))=false:=by rw[I.ok.kind];rfl
 have qE:∀b o,X.s₀.heap.get? b=some o->b≠X.env.locals:=λb o e=>A0 (AU (Ai e) I.ok.above)
 obtain⟨oL,_,_,ε,_⟩:=id hm
 refine wpAny_nameGoes_keeps hn hm hp λh' v qd sb=>k _ ?_
 have cellK:∀y c w',X.env.cells.lookup y=some c->s.heap.IsCell c w'->h'.IsCell c w':=λy c w' q z=>z.sameBut sb (I.cne y c q)
 refine⟨I.ok,I.os,I.bare,⟨λb o e z hb hx=>(sb.2 b (qE b o e)).trans (I.base.keep b o e z hb hx),λb o e z hb hx=>?_,I.base.free,λb o e hx=>?_,I.base.tups,I.base.frzs,I.base.tbls⟩,⟨_,qd,λj y v' e1 e2 e3=>?_⟩,λy c q=>?_,I.free,I.freeC,λp hp=>?_,λb u q=>?_,by simpa using I.len⟩
 ·obtain⟨sl,q⟩:=I.base.slot b o e z hb hx
  exact⟨sl,(sb.2 b (qE b o e)).trans q⟩
 ·obtain⟨o',q⟩:=I.base.there b o e hx
  exact⟨o',(sb.2 b (qE b o e)).trans q⟩
 ·by_cases hj:i=j
  ·subst hj
   rw[TM ]at e2
   cases hq:σ[i]? <;> rw[hq]at e2 <;> cases e2
  ·rw[AY hj]at e2
   obtain⟨u',r',q⟩:=hl j y v' e1 e2 e3;refine⟨u',r',?_⟩
   rcases q with⟨kk,e⟩ | ⟨kk,c,e,z⟩
   ·refine .inl ⟨kk,?_⟩
    have:y≠n:=λz=>hj (P0 hN (z▸hi) e1)
    show(if y=n then v else m y)=_;rw[qY this];exact e
   ·exact .inr ⟨kk,c,e,cellK y c _ e z⟩
 ·obtain⟨w',z⟩:=I.cell y c q
  exact⟨w',cellK y c w' q z⟩
 ·obtain⟨z1,z2,z3,z4⟩:=I.pin p hp
  exact⟨(sb.2 p.1 z3).trans z1,z2,z3,z4⟩
 ·refine(I.hok b u q).stay (λc v' hc z=>(sb.2 c ?_).trans z) (λ_ z=>z) λ_ _ z=>z
  intro e
  rcases hc with z | z
  ·rw[z]at e;rw[e,I.free]at q;cases q
  ·rw[e,I.free]at z;cases z
structure WD(K:AG)(C G:AV):Prop where
 ty:Ke K (.ref G)=some (.type "type")
 cl:(EZ K G).isSome=true
 ba:Lh K (.ref G) (.type "BaseException")=some true
 su:Lh K (.ref C) (.ref G)=some true
theorem Vl{K}{C G ea}{oe}{M}{A}{E}{Q}{s}(c:WD K C G)(X:K.In s.heap)(g1:s.heap.get? ea=some oe)(g2:oe.cls=.ref C)(q:Q true s) :
  Aw M A (excMatches (.ref ea) (.ref G)) Q E s:=by
 have L1:HU M s.heap (isInstance (.ref G) (.type "tuple")) false:=PySem.W.looks_instIn X (by unfold PySem.W.instIn;rw[c.ty];show Lh K (.type "type") (.type "tuple")=some false;kernel_rfl);have L2:HU M s.heap (isSubtype (.ref G) (.type "BaseException")) true:=Ug X c.ba;have L3:HU M s.heap (isSubtype (.ref C) (.ref G)) true:=Ug X c.su
 have L4:HU M s.heap (isType (.ref G)) true:=by
  have z:=c.cl;unfold EZ at z;split at z
  ·rename_i hk
   intro A' Q' E' s' k q;unfold isType loadHead;exact AB (Ur (k _ _ (X _ _ hk)) (AR q))
  ·cases z
 have L5:HU M s.heap (typeOf (.ref ea)) (.ref C):=g2▸(lO g1).andThen .now;unfold excMatches isExcClass;refine AB (L1.at ?_);rw[qY AL];refine AB (AR ?_);dsimp only;refine AB ?_;rw[Ki];refine AB (AB (AB (L4.at ?_)));rw[qX rfl];refine L2.at ?_;simp only[iH,Cv,if_false];refine AR ?_;dsimp only;rw[Ll];refine AR (AB (L5.at (AB ?_)));rw[Ki];refine AB (AB (L3.at ?_));rw[qX rfl];exact AR (AR (AR q))
def X3(cs:List AV)(i:Nat)(b h:MS):MS:=λe S=>(b e S).bind λf S1=>match f with
 | .ex c e1=>if c∈cs then(h (e1.set i (some (.exc c))) S1).bind λf2 S2=>match f2 with
   | .nx e2=>.ok (.nx (e2.set i none)) S2
   | .bk e2=>.ok (.bk (e2.set i none)) S2
   | .ct e2=>.ok (.ct (e2.set i none)) S2
   | .rt d=>.ok (.rt d) S2
   | .ex _ _=>.bad
  else .bad
 | f=>.ok f S1
theorem E1.forget{K}{ρ}{H}{e}{σ}(i:Nat)(h:E1 K ρ H e σ):E1 K ρ H (e.set i none) (σ.set i none):=by
 refine⟨by simp[h.len],λj d q=>?_⟩
 by_cases hj:i=j
 ·subst hj
  rw[TM]at q
  cases hq:e[i]? <;> rw[hq]at q <;> cases q
 ·rw[AY hj]at q ⊢
  exact h.at' j d q
section
variable{E:EW}{g n:Str}{mb mh:MS}
theorem kC(O:Jk X)(hN:X.N.Nodup)(hi:X.N[i]?=some n)(hn:X.env.scope.names.lookup n=some .local)(hg:Gl X g)(hm:X.mg g=some (.ref G))(hcs:∀c∈cs,WD X.K c G)
  (hb:∀tX E',GSs (X.w' tX E') E' body mb) (hh:∀tX ea,GSs ((X.p tX).suite ea) noE (b₀ :: suite) mh) (pG:(g==("__debug__" : Str))=false:=by decide) :
  GS (X.w' pn E) E (.Try body [.ExceptHandler (some (.Name g gp)) (some n) (b₀ :: suite) wH] [] [] pos) (X3 cs i mb mh):=by
 intro ζ s σ H D I ⟨ρ,l,S,hl,hs,tW⟩;have I0:Inv (X.p pn) ζ σ H s:=Inv.without (X:=X.p pn) I;have I1:Inv (X.p (pn++ζ)) [] σ H s:=I0.pinIn;have O1:=O.p (pn++ζ)
 let DS:WC:={ nx:=λσ2 H2=>D.nx (σ2.set i none) H2,rt:=D.rt,bk:=λσ2 H2=>D.bk (σ2.set i none) H2,ct:=λσ2 H2=>D.ct (σ2.set i none) H2 }
 let ET:EW:=λC σ' H'=>C∈cs/\∀ea o u,H' ea=none->Qz o C->gS X.K noE mh DS (σ'.set i (some (.ref ea))) (upd H' ea (.frz o u))
 have run:=hb (pn++ζ) ET [] s σ H D (I1.with _) ⟨ρ,l,S,hl,hs,tW.seq λf S1 hm=>by
  cases f with
  | nx e'=>exact hm
  | rt d=>exact hm
  | bk d=>exact hm
  | ct d=>exact hm
  | ex c e1=>
   intro ρ' H' σ' l' s' r';dsimp only at hm;split at hm
   ·rename_i hc
    refine⟨hc,λea o u hn ho=>?_⟩;have le:Le X.K ρ' H' ρ' (upd H' ea (.frz o u)):=Le.fresh hn;have s2:=(HX (ho:=.frz o u) s' hn).1;refine⟨ρ',e1.set i (some (.exc c)),S1,(r'.mono le).set (.exc Bb ho) i,s2,((Bw.later hm (l'.trans le)).seq λf2 S2 hm=>?_)⟩
    cases f2 with
    | nx e2=>exact λρ2 H2 σ2 l2 q2 r2=>hm ρ2 H2 _ (l'.trans (le.trans l2)) q2 (r2.forget i)
    | bk e2=>exact λρ2 H2 σ2 l2 q2 r2=>hm ρ2 H2 _ (l'.trans (le.trans l2)) q2 (r2.forget i)
    | ct e2=>exact λρ2 H2 σ2 l2 q2 r2=>hm ρ2 H2 _ (l'.trans (le.trans l2)) q2 (r2.forget i)
    | rt d=>exact λρ2 H2 x2 l2 q2 r2=>hm ρ2 H2 x2 (l'.trans (le.trans l2)) q2 r2
    | ex c' e2=>exact hm.elim
   ·exact hm.elim⟩
 refine wpAny_Try_except (E7 run (λf s1 q=>?_) λe s1 q=>?_)
 ·-- the body went through
  cases f with
  | next=>
   obtain⟨σ',H',J,z⟩:=q;exact Iv ⟨σ',H',(Inv.pinOut (X:=X.p pn) J.without).with _,z⟩
  | brk=>
   obtain⟨σ',H',J,z⟩:=q;exact⟨σ',H',(Inv.pinOut (X:=X.p pn) J.without).with _,z⟩
  | cont=>
   obtain⟨σ',H',J,z⟩:=q;exact⟨σ',H',(Inv.pinOut (X:=X.p pn) J.without).with _,z⟩
  | ret u=>
   obtain⟨v,σ',H',J,r,z⟩:=q;exact⟨v,σ',H',(Inv.pinOut (X:=X.p pn) J.without).with _,r,z⟩
 ·-- an exception is caught
  obtain⟨ea,C,σ',H',rfl,J,x,hC,w⟩:=q
  refine SK (X:=X.p (pn++ζ)) J O1 J.ok.frames x (λo z=>z) λh1 J1 x1=>?_
  refine LS (X:=X.p (pn++ζ)) (s:={ s1 with heap:=h1 }) none J1 O1 x1 (by simp) λh2 J2 x2=>?_
  refine wpAny_handleBy_cons (codeAny_handlers_test ?_) (by intro z;cases z);have J2s:=J2.suite ea;refine NG (X:=(X.p (pn++ζ)).suite ea) J2s hg hm ?_ pG;have x2':=x2;obtain⟨n1,n2,oe,vs,a0,g1,g2,⟨g0,g3⟩,_⟩:=x2';refine Vl (hcs C hC) J2.kIn g1 g2 ?_;refine codeAny_handlers_suite_as ?_
  refine LS (X:=X.p (pn++ζ)) (s:={ s1 with heap:=h2 }) none J2 O1 x2 (by simp) λh3 J3 x3=>?_
  obtain⟨n1,n2,oe,vs,a0,g1,g2,⟨g0,g3⟩,_⟩:=x3;have J4:=J3.track n1 n2 g1 g3;refine Pc (X:=(X.p (pn++ζ)).suite ea) (v:=.ref ea) (J4.suite ea) hN hi (.inl hn) rfl (λs5 J5=>?_) (.inr hn)
  refine E7 (hh (pn++ζ) ea [] s5 _ _ DS J5 (w ea oe _ n1 ⟨g2,g0,vs,g3⟩)) (λf s6 q=>?_) λ_ _ z=>z.elim
  have ok:(X.p (pn++ζ)).Ok:=J.ok
  cases f with
  | next=>
   obtain⟨σ6,H6,J6,z⟩:=q
   exact LP (X:=X.p (pn++ζ)) (J6.unsuite ok) hN hi hn λs7 J7=>⟨_,H6,(Inv.pinOut (X:=X.p pn) J7).with _,z⟩
  | brk=>
   obtain⟨σ6,H6,J6,z⟩:=q
   exact LP (X:=X.p (pn++ζ)) (J6.unsuite ok) hN hi hn λs7 J7=>⟨_,H6,(Inv.pinOut (X:=X.p pn) J7).with _,z⟩
  | cont=>
   obtain⟨σ6,H6,J6,z⟩:=q
   exact LP (X:=X.p (pn++ζ)) (J6.unsuite ok) hN hi hn λs7 J7=>⟨_,H6,(Inv.pinOut (X:=X.p pn) J7).with _,z⟩
  | ret u=>
   obtain⟨v,σ6,H6,J6,r,z⟩:=q
   exact LP (X:=X.p (pn++ζ)) (J6.unsuite ok) hN hi hn λs7 J7=>⟨v,_,H6,(Inv.pinOut (X:=X.p pn) J7).with _,r,z⟩
end
def Cm(n:Nat)(ds:List D):Lo:=ds.map some++Ak (n - ds.length) none
theorem VX{K}{ρ}{H}{N}{ds}{vs}(r:Az K ρ H ds vs):E1 K ρ H (Cm N.length ds) (start N vs):=by
 refine⟨by simp[Cm,start,r.length],λi d q=>?_⟩;unfold Cm at q;unfold start
 by_cases hi:i < ds.length
 ·rw[Ag (by simpa using hi),AS]at q
  rw[Ag (by rw[AE,<-r.length];exact hi),AS]
  cases e:ds[i]? with
  | none=>rw[e]at q;cases q
  | some d'=>
   rw[e]at q;cases q;obtain⟨v,h1,h2⟩:=r.get e;exact⟨v,by rw[h1];rfl,h2⟩
 ·rw[BB (by simpa using hi),DN]at q
  split at q <;> cases q
def EY(n:Nat)(mb:MS)(ds:List D)(S:Sto):Res D:=(okR (mb (Cm n ds) S)).bind λf S1=>match f with
 | .rt d=>.ok d S1
 | .nx _=>.ok .non S1
 | .ex c _=>.err c S1
 | _=>.bad
section
variable{P:Bp}{w:CF}{K:AG}{mg:Str->Option AH}{base:Cj}
theorem kR{x qual}{st}{f}{fd}{N ps}{k n}(F:Fun K x qual st f fd)(Sc:B3 N ps (As st))(hn:ps.length=n){mb}
  (pW:∀(oZ:AH) (A:CB) (outer:List Env) (s:AQ) (H:Hp) (E:XK),Hy k (A.deeper (L6 qual (As st) s.heap.objs.size f oZ))->∀pn E',GSs ((Sg (CXG P w) P w K mg base N qual (As st) f oZ A outer s H E).w' pn E') E' (By st) mb) :
  D0 P w K mg base (CXG P w) (k+1) f fd ps (spM K n (EY N.length mb)):=by
 obtain⟨oc,od,kV,doc,pm,an,oZ,ct,rS,rfl,lk,qe⟩:=F.ex
 refine nL lk qe Sc (λvs H Q E h=>by rw[hn];exact h.len) λA outer s H vs Q E hr h=>?_
 obtain⟨ρ,ds,S,h1,h2,h3,h4⟩:=h;have O:Jk (Sg (CXG P w) P w K mg base N qual (As st) f oZ A outer s H E):=⟨rfl,rfl,rfl⟩;have hb:=pW oZ A outer s H E hr [] (λc _ H'=>E (.ref c) none H');refine⟨gS K (λc _ H'=>E (.ref c) none H') mb,λζ s' σ H' D I q=>E7 (hb ζ s' σ H' D (I.with _) q) (λfl s1 z=>?_) λe s1 z=>?_,ρ,_,S,VX h2,h3,?_⟩
 ·cases fl with
  | next=>obtain⟨σ',H2,J,z⟩:=z;exact⟨σ',H2,J.without,z⟩
  | brk=>obtain⟨σ',H2,J,z⟩:=z;exact⟨σ',H2,J.without,z⟩
  | cont=>obtain⟨σ',H2,J,z⟩:=z;exact⟨σ',H2,J.without,z⟩
  | ret u=>obtain⟨v,σ',H2,J,r,z⟩:=z;exact⟨v,σ',H2,J.without,r,z⟩
 ·refine XE.leave O z λea C σ' H2 s2 e1 J x w=>⟨ea,C,H2,e1,J.os,J.bare,J.base,J.hok,?_,w⟩
  obtain⟨n1,n2,oe,rX,a0,g1,g2,g3,g4,g5⟩:=x;refine⟨n1,n2.1,oe,rX,a0,g1,g2,g3,g4,?_⟩
  rcases g5 with z | ⟨T,oT,ts,fl,hf,h1,ne,m1,m2,r⟩
  ·exact .inl z
  ·exact .inr ⟨T,oT,ts,fl,hf,h1,ne,m1,m2.1,r⟩
 ·unfold EY at h4
  cases hr:mb (Cm N.length ds) S with
  | bad=>rw[hr]at h4;exact h4.elim
  | err c S'=>rw[hr]at h4;exact h4.elim
  | ok fl S'=>
   rw[hr]at h4
   cases fl with
   | nx e'=>exact λρ' H' σ' l s' r=>h4 ρ' H' .non l s' .non
   | rt d=>exact h4
   | bk e'=>exact h4.elim
   | ct e'=>exact h4.elim
   | ex c e'=>exact λρ' H' σ' l s' r=>h4 ρ' H' l s'
end
section
variable{X:Cx}
def intOp(C:Int->Int->Prop)[∀i j,Decidable (C i j)](g:Int->Int->D):D->D->Sto->Res D
 | .int i,.int j,S=>if C i j then .ok (g i j) S else .bad
 | _,_,_=>.bad
theorem bD[∀i j,Decidable (C i j)](h:intOp C g a b S=.ok d S'):∃i j,a=.int i/\b=.int j/\C i j/\d=g i j/\S'=S:=by
 unfold intOp at h;split at h
 ·split at h
  ·rename_i i j _ hc
   cases h;exact⟨_,_,rfl,rfl,hc,rfl,rfl⟩
  ·cases h
 ·cases h
theorem Nv[∀i j,Decidable (C i j)](hv:∀ρ H i j,Bo X.K ρ H (g i j) (v i j))(h:OpR X f (rI C v)):OpR X f (rD X.K (intOp C g)):=h.imp λx y H Q ⟨ρ,S,a,b,d,S',hs,ra,rb,hm,k⟩=>by
 obtain⟨i,j,rfl,rfl,hc,rfl,rfl⟩:=bD hm;cases ra;cases rb;exact⟨i,j,rfl,rfl,hc,k ρ H _ .refl hs (hv _ _ _ _)⟩
theorem M9(hv:∀ρ H i j,Bo X.K ρ H (g i j) (v i j))(h:OpR X f (rI0 v)):OpR X f (rD X.K (intOp (λ_ _=>True) g)):=
 Nv (C:=λ_ _=>True) hv (h.imp λx y H Q ⟨i,j,e1,e2,_,q⟩=>⟨i,j,e1,e2,q⟩)
instance(i j:Int):Decidable (gV i j):=inferInstanceAs (Decidable (_/\_))
instance(i j:Int):Decidable (b0 i j):=inferInstanceAs (Decidable (_/\_/\_))
instance(i j:Int):Decidable (Sx i j):=inferInstanceAs (Decidable (_∨_))
abbrev Zl:=intOp (λ_ _=>True) λi j=>.int (i - j)
abbrev Kv:=intOp Sx λi j=>.int (i * j)
abbrev Jj:=intOp gV λi j=>.int (i / j)
abbrev DZ:=intOp (λ_ j=>0 < j) λi j=>.int (i % j)
abbrev ltD:=intOp (λ_ _=>True) λi j=>.bl (decide (i < j))
abbrev leD:=intOp (λ_ _=>True) λi j=>.bl (decide (i<=j))
abbrev geD:=intOp (λ_ _=>True) λi j=>.bl (decide (j<=i))
theorem Vf:OpR X (CV .Sub) (rD X.K Zl):=M9 (λ_ _ _ _=>.int _) jP
theorem MQ:OpR X (CV .Mult) (rD X.K Kv):=Nv (λ_ _ _ _=>.int _) jT
theorem LO:OpR X (CV .FloorDiv) (rD X.K Jj):=Nv (λ_ _ _ _=>.int _) eV
theorem EF:OpR X (CV .Mod) (rD X.K DZ):=Nv (λ_ _ _ _=>.int _) jU
theorem T3:OpR X (Bs .Lt) (rD X.K ltD):=M9 (λ_ _ _ _=>.bl _) mO
theorem aO:OpR X (Bs .LtE) (rD X.K leD):=M9 (λ_ _ _ _=>.bl _) mP
theorem mU:OpR X (Bs .GtE) (rD X.K geD):=M9 (λ_ _ _ _=>.bl _) mR
def FJ:D->D->Sto->Res D
 | .int i,.int j,S=>.ok (.int (i+j)) S
 | .tup xs,.tup ys,S=>if xs.length+ys.length<=sizeLine then .ok (.tup (xs++ys)) S else .bad
 | .ref l,.ref b,S=>match S[l]?,S[b]? with
  | some (.lst xs),some (.lst ys)=>if xs.length+ys.length<=sizeLine then .ok (.ref S.length) (S++[.lst (xs++ys)])else .bad
  | _,_=>.bad
 | _,_,_=>.bad
def mF(K:AG):R2:=λx y H Q=>∃a b xs ys,x=.ref a/\y=.ref b/\H a=some (.tup xs)/\H b=some (.tup ys)/\xs.length+ys.length<=sizeLine /\
 (xs=[]->Q (.ref b) H)/\(ys=[]->Q (.ref a) H)/\(∀p,H p=none->Q (.ref p) (upd H p (.tup (xs++ys))))
theorem eX:OpR X (CV .Add) (mF X.K):=by
 intro ζ s σ H x y v u Q I rx ry h;obtain⟨a,b,xs,ys,rfl,rfl,ha,hb,hz,q0,q1,q2⟩:=h;cases rx;cases ry;obtain⟨i',r1,p1,_⟩:=I.tuple (a:=a) (xs:=xs) (.inl (.inl ha));obtain⟨oG,r2,p2,_⟩:=I.tuple (a:=b) (xs:=ys) (.inl (.inl hb))
 by_cases hx:xs=[]
 ·obtain⟨⟨cls,dd,data,sl⟩,ho,hc,n,hd⟩:=id p1
  obtain⟨⟨cls2,dd2,data2,tx⟩,ho2,rT,n2,hd2⟩:=id p2;simp only at hc hd rT hd2;subst hc hd rT hd2;have hi:i'=[]:=r1.nil_iff.mpr hx
  exact ZC ⟨_,ho,rfl⟩ ⟨_,ho2,rfl⟩ Ro XW Jp JP (Ix _ _)
   (tuple_addW0 a b i'.toArray oG.toArray n n2 dd dd2 sl tx (by simp[hi])) ⟨ho,ho2,⟨.ref b,H,I,rfl,q0 hx⟩⟩
 ·exact eW ζ s σ H (.ref a) (.ref b) _ _ Q I rfl rfl ⟨a,b,xs,ys,rfl,rfl,.inl (.inl ha),.inl (.inl hb),hx,hz,q1,λ_ p hp=>q2 p hp⟩
theorem Az.nil_of{K}{ρ}{H}{xs}{vs}(r:Az K ρ H xs vs)(e:vs=[]):xs=[]:=by
 subst e;cases r;rfl
theorem HK:OpR X (CV .Add) (rD X.K FJ):=(jY.or (eX.or jW)).imp λx y H Q ⟨ρ,S,a,b,d,S',hs,ra,rb,hm,k⟩=>by
 cases ra with
 | int i=>
  cases rb <;> first | (cases hm;done) | skip
  cases hm;exact .inl ⟨_,_,rfl,rfl,k ρ H _ .refl hs (.int _)⟩
 | @tup xs a1 vs h1 h2=>
  cases rb with
  | @tup ys b1 ws h3 h4=>
   unfold FJ at hm;dsimp only at hm;split at hm
   ·rename_i hz
    cases hm;refine .inr (.inl ⟨_,_,_,_,rfl,rfl,h1,h3,by rw[<-h2.length,<-h4.length];exact hz,λe=>?_,λe=>?_,λp hp=>?_⟩)
    ·rw[h2.nil_of e,cQ]at k
     exact k ρ H _ .refl hs (.tup h3 h4)
    ·rw[h4.nil_of e,BE]at k
     exact k ρ H _ .refl hs (.tup h1 h2)
    ·obtain⟨s2,l2⟩:=HX (ho:=.tup (vs++ws)) hs hp
     exact k ρ _ _ l2 s2 (.tup Bb ((h2.append h4).mono l2))
   ·cases hm
  | _=>cases hm
 | @ref n a1 hn=>
  cases rb with
  | @ref m b1 qd=>
   unfold FJ at hm;dsimp only at hm;split at hm
   ·rename_i xs ys h1 h2
    split at hm
    ·rename_i hz
     cases hm;obtain⟨vs,e1,r1⟩:=hs.ob _ _ _ h1 hn;obtain⟨us,e2,r2⟩:=hs.ob _ _ _ h2 qd;refine .inr (.inr ⟨_,_,_,_,rfl,rfl,e1,e2,by rw[<-r1.length,<-r2.length];exact hz,λp hp=>?_⟩);have le:Le X.K ρ H (ρ++[p]) (upd H p (.lst (vs++us))):=Le.alloc hp;obtain⟨s2,l2,at2⟩:=hs.alloc (ho:=.lst (vs++us)) (o:=.lst (xs++ys)) hp ⟨_,Bb,(r1.append r2).mono le⟩;exact k _ _ _ l2 s2 (.ref at2)
    ·cases hm
   ·cases hm
  | _=>cases hm
 | _=>cases hm
def ixD:D->D->Sto->Res D:=λa b S=>match Gm a S,b with
 | some ds,.int i=>match atI ds i with
  | some d=>.ok d S
  | none=>.bad
 | _,_=>.bad
theorem fw{K}{ρ}{H}{ds}{vs}{i}{d}(r:Az K ρ H ds vs)(h:atI ds i=some d):∃v,atI vs i=some v/\Bo K ρ H d v:=by
 unfold atI at h ⊢;rw[<-r.length]
 cases hq:ixN ds.length i with
 | none=>rw[hq]at h;cases h
 | some j=>
  rw[hq]at h;exact r.get h
theorem mT:IxR X (rD X.K ixD):=(ix_list.or jw).imp λx y H Q ⟨ρ,S,a,b,d,S',hs,ra,rb,hm,k⟩=>by
 unfold ixD at hm;split at hm
 ·rename_i ds i hq
  split at hm
  ·rename_i d' hd
   cases hm;cases rb;obtain⟨p,xs,rfl,rr,sq⟩:=Ot hs ra hq;obtain⟨v,h1,h2⟩:=fw rr hd
   rcases sq with sq | sq
   ·exact .inl ⟨p,xs,_,v,rfl,rfl,sq,h1,k ρ H v .refl hs h2⟩
   ·exact .inr ⟨p,xs,_,v,rfl,rfl,sq,h1,k ρ H v .refl hs h2⟩
  ·cases hm
 ·cases hm
def Vr(neg:Bool)(x y:D)(S:Sto):Res D:=match y with
 | .non=>match x with
  | .non=>.ok (.bl (!neg)) S
  | _=>.ok (.bl neg) S
 | _=>.bad
theorem aP:OpR X (Bs .Is) (rD X.K (Vr false)):=jV.imp λx y H Q ⟨ρ,S,a,b,d,S',hs,ra,rb,hm,k⟩=>by
 cases rb <;> first | (cases hm;done) | skip
 refine⟨rfl,?_⟩
 cases ra <;> (cases hm;exact k ρ H _ .refl hs (.bl _))
theorem eZ:OpR X (Bs .IsNot) (rD X.K (Vr true)):=eS.imp λx y H Q ⟨ρ,S,a,b,d,S',hs,ra,rb,hm,k⟩=>by
 cases rb <;> first | (cases hm;done) | skip
 refine⟨rfl,?_⟩
 cases ra <;> (cases hm;exact k ρ H _ .refl hs (.bl _))
end
def mQ(f:List D->Sto->Res D)(m:ML):ME:=λe S=>(m e S).bind λds S1=>okR (f ds S1)
section
variable{X:Cx}{E:EW}{e:Expr}{es:List Expr}{x:Str}{p pos:Pos}{ml:ML}{id T:String}{r:List V->Hp->VK->Prop}{f:List D->Sto->Res D}
def ke(K:AG)(r:List V->Hp->VK->Prop)(f:List D->Sto->Res D):Prop:=∀ρ H S ds q xs d S' (Q:VK),B2 K ρ S H->Az K ρ H ds xs->(SqL K H q xs∨SqT K H q xs)->f ds S=.ok d S' ->
 (∀ρ' H' z,Le K ρ H ρ' H'->B2 K ρ' S' H'->Bo K ρ' H' d z->Q z H')->r [.ref q] H Q
def kh(K:AG)(r:List V->Hp->VK->Prop)(f:List D->Sto->Res D):Prop:=∀ρ H S ds xs d S' (Q:VK),B2 K ρ S H->Az K ρ H ds xs->f ds S=.ok d S' ->
 (∀ρ' H' z,Le K ρ H ρ' H'->B2 K ρ' S' H'->Bo K ρ' H' d z->Q z H')->r xs H Q
def nY(K:AG)(r:List V->Hp->VK->Prop)(f:List D->Option (List D)):Prop:=∀ρ H S ds q xs es (Q:VK),B2 K ρ S H->Az K ρ H ds xs->(SqL K H q xs∨SqT K H q xs)->f ds=some es ->
 (∀ρ' H' p ys,Le K ρ H ρ' H'->B2 K ρ' S H'->Az K ρ' H' es ys->H' p=some (.lst ys)->(∀n:Nat,ρ'[n]?≠some p)->H p=none->Q (.ref p) H')->r [.ref q] H Q
theorem W3(hc:Ie X (.builtin id) r)(hf:ke X.K r f)(hg:Gl X x)(hm:X.mg x=none)(hv:E8 x=some (.builtin id))(h:GQ X E e ml)(hn:x≠"__name__":=by decide) (pG:(x==("__debug__" : Str))=false:=by decide)
  (he:Aa [e] X.env=(false,B4 e X.env) :: Aa [] X.env:=by rfl):GE X E (.Call (.Name x p) [e] [] pos) (mQ f ml):=(JZ hc hg hm hv (Ew h Hu he) hn pG he rfl).imp λσ H Q ⟨ρ,l,S,hl,hs,hm⟩=>by
 refine⟨ρ,l,S,hl,hs,hm.seq λds S1 hm ρ1 H1 q xs l1 s1 r1 sq=>?_⟩;obtain⟨d,S',e,k⟩:=hm.okR
 exact hf ρ1 H1 S1 ds q xs d S' Q s1 r1 sq e λρ' H' z l' s' r'=>k ρ' H' z (l1.trans l') s' r'
theorem W6(hc:Ie X (.builtin id) r)(hf:kh X.K r f)(hg:Gl X x)(hm:X.mg x=none)(hv:E8 x=some (.builtin id))(h:GA X E (e :: es) ml)(hn:x≠"__name__":=by decide) (pG:(x==("__debug__" : Str))=false:=by decide)
  (he:Aa (e :: es) X.env=(false,B4 e X.env) :: Aa es X.env:=by rfl) (p0:(Dw pos (Aa es X.env)).any (·.1)=false:=by rfl):GE X E (.Call (.Name x p) (e :: es) [] pos) (mQ f ml):=(JZ hc hg hm hv h hn pG he p0).imp λσ H Q ⟨ρ,l,S,hl,hs,hm⟩=>by
 refine⟨ρ,l,S,hl,hs,hm.seq λds S1 hm ρ1 H1 xs l1 s1 r1=>?_⟩;obtain⟨d,S',e,k⟩:=hm.okR
 exact hf ρ1 H1 S1 ds xs d S' Q s1 r1 e λρ' H' z l' s' r'=>k ρ' H' z (l1.trans l') s' r'
def mN(f:List D->Option (List D))(m:ML):ML:=λe S=>(m e S).bind λds S1=>match f ds with
 | some es=>.ok es S1
 | none=>.bad
theorem fF{f}(hc:Ie X (.type T) r)(hf:nY X.K r f)(hg:Gl X x)(hm:X.mg x=none)(hv:E8 x=some (.type T))(h:GQ X E e ml)(hn:x≠"__name__":=by decide) (pG:(x==("__debug__" : Str))=false:=by decide)
  (he:Aa [e] X.env=(false,B4 e X.env) :: Aa [] X.env:=by rfl):GL X E (.Call (.Name x p) [e] [] pos) (mN f ml):=(RL hc hg hm hv (Ew h Hu he) hn pG he rfl).imp λσ H Q ⟨ρ,l,S,hl,hs,hm⟩=>by
 refine⟨ρ,l,S,hl,hs,hm.seq λds S1 hm ρ1 H1 q xs l1 s1 r1 sq=>?_⟩
 cases hq:f ds with
 | none=>rw[hq]at hm;exact hm.elim
 | some es=>
  rw[hq]at hm
  exact hf ρ1 H1 S1 ds q xs es Q s1 r1 sq hq λρ' H' p ys l' s' r' hp hn sk=>hm ρ' H' p ys (l1.trans l') s' r' hp hn (l1.back hs s1 sk)
def my(ds:List D)(S:Sto):Res D:=.ok (.int ds.length) S
theorem iw:ke X.K (λxs H Q=>∃p ys,xs=[.ref p]/\(SqL X.K H p ys∨SqT X.K H p ys)/\Q (.int ys.length) H) my:=λρ H S ds q xs d S' Q hs rr sq hm k=>by
 cases hm;exact⟨q,xs,rfl,sq,k ρ H _ .refl hs (by rw[rr.length];exact .int _)⟩
def ND:List D->Sto->Res D
 | [.int i,.int j],S=>.ok (.int (if j < i then j else i)) S
 | _,_=>.bad
def NF:List D->Sto->Res D
 | [.int i,.int j],S=>.ok (.int (if j > i then j else i)) S
 | _,_=>.bad
theorem gK:kh X.K (λxs H Q=>∃i j,xs=[.int i,.int j]/\Q (.int (if j < i then j else i)) H) ND:=λρ H S ds xs d S' Q hs rr hm k=>by
 unfold ND at hm;split at hm
 ·cases hm
  cases rr with
  | cons a t=>
   cases t with
   | cons b t=>
    cases t;cases a;cases b;exact⟨_,_,rfl,k ρ H _ .refl hs (.int _)⟩
 ·cases hm
theorem gM:kh X.K (λxs H Q=>∃i j,xs=[.int i,.int j]/\Q (.int (if j > i then j else i)) H) NF:=λρ H S ds xs d S' Q hs rr hm k=>by
 unfold NF at hm;split at hm
 ·cases hm
  cases rr with
  | cons a t=>
   cases t with
   | cons b t=>
    cases t;cases a;cases b;exact⟨_,_,rfl,k ρ H _ .refl hs (.int _)⟩
 ·cases hm
def Wu(ds:List D):Option (List D):=some ds
theorem dY:nY X.K (λxs H Q=>∃p ys,xs=[.ref p]/\(SqL X.K H p ys∨SqT X.K H p ys)/\∀l,H l=none->Q (.ref l) (upd H l (.lst ys))) Wu:=λρ H S ds q xs es Q hs rr sq hm k=>by
 cases hm;refine⟨q,xs,rfl,sq,λl hl=>?_⟩;obtain⟨s2,l2⟩:=HX (ho:=.lst xs) hs hl;exact k ρ _ l xs l2 s2 (rr.mono l2) Bb (λn e=>hs.notIn hl e) hl
end
def Dz(X:Cx)(scope:Qd)(N':List Str)(cl:List (Str×AV))(C:AV)(s₁:AQ)(H₁:Hp)(ex:List AV)(pn:List (AV×Obj)):Cx where
 prog:=X.prog
 w:=X.w
 K:=X.K
 mg:=X.mg
 base:=X.base
 A:=X.A
 N:=N'
 s₀:=s₁
 H₀:=H₁
 env:=compEnvC scope cl C X.env
 outer:=X.stack
 stack:=X.stack
 ex:=ex
 fn:=λx=>scope.names.lookup x==some .cell
 calm:=X.calm
 pn:=pn
 xe:=λ_ _=>False
theorem Sh:∀(names:List (Str×Nc)) (acc:List (Str×AV)),(∀y∈names,y.2=.free->∃c,env.cells.lookup y.1=some c)->(∀n c,acc.lookup n=some c->env.cells.lookup n=some c) ->
  ∃cl,(forIn names acc (λ(x:Str×Nc) (cs:List (Str×AV))=>match x with | (name,kind)=>if (kind==Fe)=true then do let a <-cellOf env name;pure (Hh ((name,a) :: cs))else pure (Hh cs)):Sem (List (Str×AV)))=pure cl /\
   (∀n c,cl.lookup n=some c->env.cells.lookup n=some c)/\(∀n c,acc.lookup n=some c->∃c',cl.lookup n=some c')/\∀y∈names,y.2=.free->∃c,cl.lookup y.1=some c
 | [],acc,_,ha=>⟨acc,rfl,ha,λn c h=>⟨c,h⟩,λ_ h=>nomatch h⟩
 | (n,k) :: r,acc,h,ha=>by
  rw[Ki]
  by_cases hk:k=.free
  ·subst hk
   obtain⟨c,hc⟩:=h (n,.free) Aq rfl
   obtain⟨cl,e,h1,h2,h3⟩:=Sh r ((n,c) :: acc) (λy hy=>h y (AT _ hy)) (λm d hm=>by
    rw[Bd]at hm
    cases hq:(m==n)with
    | true=>rw[hq]at hm;cases hm;rw[eq_of_beq hq];exact hc
    | false=>rw[hq]at hm;exact ha m d hm)
   have e0:cellOf env n=pure c:=by unfold cellOf;rw[hc]
   refine⟨cl,?_,h1,λm d hm=>h2 m (if m==n then c else d) ?_,λy hy hf=>?_⟩
   ·simp only[beq_self_eq_true,if_true,e0,pure_bind]
    exact e
   ·rw[Bd]
    cases hq:(m==n)with
    | true=>rfl
    | false=>exact hm
   ·rcases At.mp hy with rfl | hy
    ·exact h2 n c (by rw[Bd,beq_self_eq_true])
    ·exact h3 y hy hf
  ·have hb:(k==Fe)=false:=by simpa using hk
   obtain⟨cl,e,h1,h2,h3⟩:=Sh r acc (λy hy=>h y (AT _ hy)) ha;refine⟨cl,?_,h1,h2,λy hy hf=>?_⟩
   ·simp only[hb,Cv,if_false,pure_bind]
    exact e
   ·rcases At.mp hy with rfl | hy
    ·exact(hk hf).elim
    ·exact h3 y hy hf
theorem XG(h:∀y∈scope.names,y.2=.free->∃c,env.cells.lookup y.1=some c):∃cl,closureFor scope env=pure cl /\
  (∀n c,cl.lookup n=some c->env.cells.lookup n=some c)/\∀y∈scope.names,y.2=.free->∃c,cl.lookup y.1=some c:=by
 obtain⟨cl,e,h1,_,h3⟩:=Sh scope.names [] h (λn c z=>by simp at z);refine⟨cl,?_,h1,h3⟩;unfold closureFor;exact(congrArg (λz=>z >>= λcs=>pure cs) e).trans (by rw[pure_bind])
def V9(X:Cx)(ifs:List Expr)(t:TT):Prop:=
 ∀(ζ:List (AV×Obj)) (s:AQ) (σ:St) (H:Hp) (Q:Bool->Hp->Prop),Inv X ζ σ H s->t σ H Q ->
  Aw (Ac X.prog X.w) X.A (forIn ifs true λc r=>if r=true then do let ok <-Uu c X.env (B4 c X.env);pure (Hh ok)else pure (Hh r)) (TP X ζ σ Q) X.xe s
theorem aB:V9 X [] (λ_ H Q=>Q true H):=λζ s σ H Q I h=>wpAny_tests_nil ⟨H,I,h⟩
theorem aA(h:PT X c t):V9 X [c] t:=λζ s σ H Q I q=>wpAny_tests_one (h ζ s σ H Q I q)
structure Mh(X:Cx)(scope:Qd)(own N':List Str):Prop where
 kind:scope.kind=.function
 names:∀y∈scope.names,y.2=.local->scope.names.lookup y.1=some .local
 free:∀y∈scope.names,y.2=.free->X.env.kindOf y.1=some .cell∨X.env.kindOf y.1=some .free
 len:N'.length=own.length+X.N.length
 up:∀i x,N'[own.length+i]?=some x->Vis (JO scope X.env) x->(X.N[i]?=some x/\Vis X.env.scope x/\((JO scope X.env).names.lookup x=some .cell∨(JO scope X.env).names.lookup x=some .free)/\X.env.kindOf x≠some .local)/\(x,Ce)∉scope.names/\(x,Fe)∈scope.names
 vis:∀x,((JO scope X.env).names.lookup x=some .cell∨(JO scope X.env).names.lookup x=some .free)->(x,Fe)∈scope.names∨(x,Ce)∈scope.names
theorem FV:∀(names:List (Str×Nc)) (n:Nat) (acc:List (Str×AV)) (x:Str) (c:AV),(B7 n names acc).lookup x=some c ->
  ((x,Ce)∈names/\n<=c)∨acc.lookup x=some c
 | [],_,_,_,_,h=>.inr h
 | (y,k) :: r,n,acc,x,c,h=>by
  unfold B7 at h;split at h
  ·rename_i hk
   have hk:k=.cell:=by simpa using hk
   subst hk
   rcases FV r (n+1) _ x c h with⟨h1,h2⟩ | h1
   ·exact .inl ⟨AT _ h1,OZ h2⟩
   ·rw[Bd]at h1
    cases hb:x==y with
    | true=>rw[hb]at h1;cases h1;rw[beq_iff_eq.mp hb];exact .inl ⟨Aq,AN _⟩
    | false=>rw[hb]at h1;exact .inr h1
  ·rcases FV r n acc x c h with⟨h1,h2⟩ | h1
   ·exact .inl ⟨AT _ h1,h2⟩
   ·exact .inr h1
theorem C0:∀(names:List (Str×Nc)) (n:Nat) (acc:List (Str×AV)) (x:Str),(∃c,acc.lookup x=some c)->∃c,(B7 n names acc).lookup x=some c
 | [],_,_,_,h=>h
 | (y,k) :: r,n,acc,x,h=>by
  unfold B7;split
  ·refine C0 r (n+1) _ x ?_
   rw[Bd]
   cases hb:x==y with
   | true=>exact⟨_,rfl⟩
   | false=>exact h
  ·exact C0 r n acc x h
theorem Ds:∀(names:List (Str×Nc)) (n:Nat) (acc:List (Str×AV)) (x:Str),(x,Ce)∈names->∃c,(B7 n names acc).lookup x=some c/\n<=c
 | (y,k) :: r,n,acc,x,h=>by
  unfold B7
  by_cases hr:(x,Ce)∈r
  ·split
   ·obtain⟨c,h1,h2⟩:=Ds r (n+1) ((y,n) :: acc) x hr
    exact⟨c,h1,OZ h2⟩
   ·exact Ds r n acc x hr
  ·rcases At.mp h with e | e
   ·cases e
    rw[qX (show(Ce==Ce)=true from rfl)];obtain⟨c,hc⟩:=C0 r (n+1) ((y,n) :: acc) y ⟨n,by rw[Bd,beq_self_eq_true]⟩
    rcases FV r (n+1) _ y c hc with⟨h1,_⟩ | h1
    ·exact(hr h1).elim
    ·rw[Bd,beq_self_eq_true]at h1
     cases h1;exact⟨n,hc,AN _⟩
   ·exact(hr e).elim
theorem Ld(hx:(x,Ce)∉names)(h:acc.lookup x=some c):(B7 n names acc).lookup x=some c:=by
 obtain⟨c',h'⟩:=C0 names n acc x ⟨c,h⟩
 rcases FV names n acc x c' h' with⟨h1,_⟩ | h1
 ·exact(hx h1).elim
 ·rw[h]at h1;cases h1;exact h'
theorem JJ:∀(names:List (Str×Nc)) (n:Nat) (acc:List (Str×AV)),(∀x c,acc.lookup x=some c->c < n)->(∀x y c,acc.lookup x=some c->acc.lookup y=some c->x=y) ->
  ∀x y c,(B7 n names acc).lookup x=some c->(B7 n names acc).lookup y=some c->x=y
 | [],_,_,_,h=>h
 | (z,k) :: r,n,acc,hl,h=>by
  unfold B7;split
  ·have key:∀x c,((z,n) :: acc).lookup x=some c->(x=z/\c=n)∨acc.lookup x=some c:=λx c q=>by
    rw[Bd]at q
    cases hb:x==z with
    | true=>rw[hb]at q;cases q;exact .inl ⟨beq_iff_eq.mp hb,rfl⟩
    | false=>rw[hb]at q;exact .inr q
   refine JJ r (n+1) _ (λx c q=>?_) λx y c q1 q2=>?_
   ·rcases key x c q with⟨_,rfl⟩ | e
    ·exact Cy _
    ·exact OY (hl x c e)
   ·rcases key x c q1 with⟨e,e1⟩ | e <;> rcases key y c q2 with⟨e',e1'⟩ | e'
    ·rw[e,e']
    ·subst e1;exact zX (hl _ _ e') (Df _)
    ·subst e1';exact zX (hl _ _ e) (Df _)
    ·exact h x y c e e'
  ·exact JJ r n acc hl h
theorem JI:∀(names:List (Str×Nc)) (h:Cj) (acc:List (Str×AV)) (x:Str) (c:AV),(B7 h.objs.size names acc).lookup x=some c->acc.lookup x=some c∨((Ep h names).IsCell c none/\h.objs.size<=c)
 | [],_,_,_,_,q=>.inl q
 | (y,k) :: r,h,acc,x,c,q=>by
  unfold B7 at q;unfold Ep;split at q
  ·rename_i hk
   rw[qX hk];have:=JI r (h.push { cls:=.type "cell",data:=.cell none }) ((y,h.objs.size) :: acc) x c (by rw[Dk];exact q)
   rcases this with e | ⟨e,l⟩
   ·rw[Bd]at e
    cases hb:x==y with
    | true=>
     rw[hb]at e;cases e;exact .inr ⟨⟨_,TH _ _ _ _ (Al _ rfl),rfl⟩,AN _⟩
    | false=>rw[hb]at e;exact .inl e
   ·exact .inr ⟨e,by rw[Dk]at l;exact OZ l⟩
  ·rename_i hk
   rw[qY hk];exact JI r h acc x c q
theorem U6
  (h:Q (newEnv scope s.heap.objs.size globals (B7 (s.heap.push { cls:=.type "dict",data:=.dict #[] }).objs.size scope.names cl) qual none .none (some outer) Uw) { s with heap:=Ep (s.heap.push { cls:=.type "dict",data:=.dict #[] }) scope.names }) :
  Aw M A (Ut scope globals cl [] qual none .none (some outer)) Q E s:=by
 simp only[Ut,WJ,if_true];refine AB (wpAny_alloc ?_);refine AB (wpAny_layCells _ (λname kind cells=>by cases hkc:kind==Ce <;> simp[hkc]) _ _ _ _ ?_);rw[Ll];exact AB (AR (AR h))
section
theorem V1(Sc:Mh X scope own N')(I:Inv X ζ σ H2 s2)(hf:∀b∈fp,Mg X ζ H2 b)(qM:∀b∈fp,b < s2.heap.objs.size)
  (c1:∀n c,cl.lookup n=some c->X.env.cells.lookup n=some c) (c2:∀y∈scope.names,y.2=.free->∃c,cl.lookup y.1=some c)
  (qd:s2.heap.objs.size<=n) (wI:∀x c,(B7 n scope.names cl).lookup x=some c->cl.lookup x=some c∨(s.heap.IsCell c none/\n<=c)) (vk:∀c,n<=c->H c=none)
  (hC:s2.heap.objs.size<=C) (hn:s.heap.Ns C m) (hos:s.os=s2.os) (hg:Ii s.gens)
  (u:Un (frs X.stack) fp H2 H s2.heap s.heap) (hok:HOk X.prog X.w H s.heap) (rY:H C=none) :
  Inv (Dz X scope N' (B7 n scope.names cl) C s2 H2 fp (X.pn++ζ)) [] (Ak own.length none++σ) H s:=by
 have cellK:∀x c v,cl.lookup x=some c->s2.heap.IsCell c v->s.heap.IsCell c v:=λx c v e ⟨o,ho,hd⟩=>by
  obtain⟨sl,q⟩:=u.any ho (I.freeC x c (c1 x c e)) λz=>(hf c z).2.2.2.2.1 x c (c1 x c e) rfl
  exact⟨_,q,hd⟩
 have clt:∀x c,cl.lookup x=some c->c < n:=λx c e=>by
  obtain⟨v,z⟩:=I.cell x c (c1 x c e);exact AU z.lt qd
 have wJ:(Dz X scope N' (B7 n scope.names cl) C s2 H2 fp (X.pn++ζ)).Ok:=by
  refine⟨I.ok.mod,Sc.kind,I.ok.glob,I.ok.blt,hC,JJ _ _ _ clt λx y c h1 h2=>I.ok.inj x y c (c1 x c h1) (c1 y c h2),λx hx=>?_,λx c z q=>?_,I.ok.hd,I.ok.frames,.inl rfl,λb hb=>?_,I.bs,Ao I.ok.bsz I.sz,λb o e hb=>?_,λb hb pe=>?_,I.stack,I.stkFree⟩
  ·rcases Sc.vis x hx with h | h
   ·exact C0 _ _ _ _ (c2 _ h rfl)
   ·obtain⟨c,hc,_⟩:=Ds scope.names n cl x h
    exact⟨c,hc⟩
  ·have z:(scope.names.lookup x==some .cell)=true:=z
   obtain⟨c',rR,hl⟩:=Ds scope.names n cl x (DQ (beq_iff_eq.mp z));have q:(B7 n scope.names cl).lookup x=some c:=q;rw[rR]at q;cases q;exact Ao qd hl
  ·refine⟨A0 (AU (qM b hb) hC),λx c e=>?_⟩
   rcases wI x c e with e | ⟨_,e⟩
   ·exact(hf b hb).2.2.2.2.1 x c (c1 x c e)
   ·exact HE (AU (qM b hb) (Ao qd e))
  ·obtain⟨_,_,_,z,_⟩:=hf b hb
   rcases z with z | z
   ·exact I.ok.noex b o e z
   ·exact zX (AU (Ai (I.ok.bs b o e).1) z) (Df _)
  ·obtain⟨_,z1,z2,_⟩:=hf b hb
   rcases At.mp (I.stkSub b pe)with e | e
   ·exact z1 e
   ·exact z2 e
 refine⟨wJ,hos,hg,u,⟨m,hn,λi x v e1 e2 e3=>?_⟩,λx c e=>?_,rY,λx c e=>?_,λp hp=>?_,hok,?_⟩
 ·have hi:own.length<=i:=by
   apply PB
   intro oM;rw[Ag (by simpa using oM),DN,qX oM]at e2;cases e2
  obtain⟨j,rfl⟩:∃j,i=own.length+j:=⟨i - own.length,by lia⟩
  rw[BB (by simp)]at e2
  have e2':σ[j]?=some (some v):=by simpa using e2
  obtain⟨⟨n1,n2,n3,n4⟩,n5,n6⟩:=Sc.up j x e1 e3;obtain⟨m0,tE,hl⟩:=I.loc;obtain⟨w',r,lk⟩:=hl j x v n1 e2' n2;refine⟨w',r,.inr ⟨n3,?_⟩⟩
  rcases lk with⟨k,_⟩ | ⟨_,c,hc,pF⟩
  ·exact(n4 k).elim
  ·obtain⟨c',rR⟩:=c2 _ n6 rfl
   have e:=c1 x c' rR;rw[hc]at e;cases e;exact⟨c,Ld n5 rR,cellK x c _ rR pF⟩
 ·rcases wI x c e with e | ⟨e,_⟩
  ·obtain⟨v,z⟩:=I.cell x c (c1 x c e)
   exact⟨v,cellK x c v e z⟩
  ·exact⟨none,e⟩
 ·rcases wI x c e with e | ⟨_,e⟩
  ·obtain⟨v,o,ho,hd⟩:=I.cell x c (c1 x c e)
   exact u.free c o ho (I.freeC x c (c1 x c e)) λz=>(hf c z).2.2.2.2.1 x c (c1 x c e) rfl
  ·exact vk c e
 ·have ϐ:p∈X.pn++ζ:=by
   have hp:p∈(X.pn++ζ)++[]:=hp;rwa [BE]at hp
  obtain⟨e,n,ne,nf,d⟩:=I.pin p ϐ
  have ϑ:p.1∉frs X.stack:=λz=>(At.mp (I.stkSub _ z)).elim ne nf
  have ϒ:p.1∉fp:=λz=>(hf _ z).2.2.2.2.2 p ϐ rfl
  exact⟨u.keep p.1 p.2 e n ϑ ϒ,u.free p.1 p.2 e n ϒ,A0 (AU (Ai e) hC),ϑ,d⟩
 ·show(Ak own.length none++σ).length=N'.length
  rw[Ad,LL,I.len,Sc.len]
def Zj(k:Nat)(wi:TI)(g:TG)(tc:TT)(te:TE):TE:=λσ H Q=>wi σ H λJ H1=>∀p,H1 p=none->∃W:Nat->Nat->St->Hp->List V->Prop,(∃m,W 0 m (Ak k none++σ) (upd H1 p (.lst [])) []) /\
 ∀i m σ' H' xs,W i m σ' H' xs->H' p=some (.lst xs)/\((J.stop i H'/\Q (.ref p) H')∨(J.go i H'/\xs.length < sizeLine/\∀x qK,J.yld i H' x qK->g x σ' qK λσ2 H2=>tc σ2 H2 λb H3=>
  if b=true then te σ2 H3 λy H4=>H4 p=some (.lst xs)/\∃m',m' < m/\W (i+1) m' σ2 (upd H4 p (.lst (xs++[y]))) (xs++[y])else ∃m',m' < m/\W (i+1) m' σ2 H3 xs))
theorem Yp{X':Cx}{elt ϖ iter:Expr}{ifs:List Expr}{pos:Pos}{J:It}{it p:AV}{tn:Nat->Cj->Prop}{g:TG}{tc:TT}{te:TE}{R:Result->AQ->Prop}{Q:Hp->Prop}
  (hc:X'.calm=true) (hx:X'.xe=λ_ _=>False) (T:Sr X'.prog X'.w X'.K ϖ J fp it tn) (hg:PG X' ϖ g) (qN:V9 X' ifs tc) (he:PE X' elt te)
  (W:Nat->Nat->St->Hp->List V->Prop) (turn:∀i m σ' H' xs,W i m σ' H' xs->H' p=some (.lst xs)/\((J.stop i H'/\Q H')∨(J.go i H'/\xs.length < sizeLine/\∀x qK,J.yld i H' x qK->g x σ' qK λσ2 H2=>tc σ2 H2 λb H3=>
   if b=true then te σ2 H3 λy H4=>H4 p=some (.lst xs)/\∃m',m' < m/\W (i+1) m' σ2 (upd H4 p (.lst (xs++[y]))) (xs++[y])else ∃m',m' < m/\W (i+1) m' σ2 H3 xs)))
  (fin:∀σ' H' s',Inv X' [] σ' H' s'->Q H'->R (.ok .next) s')
  {m0:Nat} {σ0:St} {H0:Hp} {s0:AQ} (I0:Inv X' [] σ0 H0 s0) (st0:tn 0 s0.heap) (f0:∀b∈fp,Mg X' [] H0 b) (w0:W 0 m0 σ0 H0 []) :
  L8 (Ac X'.prog X'.w) X'.A (.compLoop (.ListComp elt [⟨ϖ,iter,ifs,0⟩] scope pos) 0 (.ref it) (.ref p) X'.env) R s0:=by
 have qf:∀{H':Hp},(∀b∈fp,H' b=none)->∀b∈fp,Mg X' [] H' b:=λhn b hb=>⟨hn b hb,(f0 b hb).2⟩
 refine codeAny_loop rfl (λn s'=>∃i σ' H' xs,Inv X' [] σ' H' s'/\tn i s'.heap/\(∀b∈fp,H' b=none)/\W i n σ' H' xs) (λn s1 hI=>?_) m0 ⟨0,σ0,H0,[],I0,st0,λb hb=>(f0 b hb).1,w0⟩;obtain⟨i,σ1,H1,xs,I1,oR,ϓ,w1⟩:=hI;show Aw _ X'.A ((compTurn (.ListComp elt [⟨ϖ,iter,ifs,0⟩] scope pos) 0 (.ref it) (.ref p) X'.env).onRaise (λx=>do Yx x X'.env;theTreesLotGoes x)) _ _ s1;refine wpAny_noted ?_;rw[compTurn_list]
 have up:∀{α:Type} {t:Sem α} {P:α->AQ->Prop} {E:AH->AQ->Prop} {s:AQ},Aw (Ac X'.prog X'.w) X'.A t P X'.xe s->Aw (Ac X'.prog X'.w) X'.A t P E s:=λh=>E7 h (λ_ _ z=>z) λ_ _ z=>by rw[hx]at z;exact z.elim
 obtain⟨hp,tY⟩:=turn i n σ1 H1 xs w1;refine AB (wpAny_standAt (AB ?_))
 rcases tY with⟨stop,q⟩ | ⟨go,hz,step⟩
 ·refine up (thn (T.done X' rfl rfl rfl hc i [] s1 σ1 H1 X'.xe I1 (qf ϓ) oR stop) λr s4 ⟨hr,I4⟩=>?_)
  subst hr;exact AR (fin σ1 H1 s4 I4 q)
 ·refine up (thn (T.item X' rfl rfl rfl hc i [] s1 σ1 H1 X'.xe I1 (qf ϓ) oR go) λr s4 ⟨u,hr,h4⟩=>?_)
  subst hr;refine AB (up (thn h4 λ_ s5 ⟨x,H5,I5,r5,y5,qU,fr5⟩=>?_));have wo:=I5.pinned (qf fr5) (T.obj _ _ qU);refine AB (up (thn (hg _ s5 σ1 H5 x u _ wo r5 (step x H5 y5)) λ_ s6 ⟨σ6,H6,I6,q6⟩=>?_))
  have kx:∀{s7:AQ} {σ7:St} {H7:Hp} {ys:List V},Inv X' ([]++Pr fp s5.heap) σ7 H7 s7->(∃m',m' < n/\W (i+1) m' σ7 H7 ys)->∃m,m < n/\∃i σ' H' xs,Inv X' [] σ' H' s7/\tn i s7.heap/\(∀b∈fp,H' b=none)/\W i m σ' H' xs:=λ{s7 σ7 H7 ys} I7 ⟨m',hm,w7⟩=>by
   refine⟨m',hm,i+1,σ7,H7,ys,I7.unpinned,T.keep _ _ _ qU λb hb o e=>(I7.pin (b,o) (Ax _ (Ax _ (J8 hb e)))).1,λb hb=>?_,w7⟩;obtain⟨o,e,d⟩:=T.obj _ _ qU b hb;exact(I7.pin (b,o) (Ax _ (Ax _ (J8 hb e)))).2.1
  refine AB (up (thn (qN _ s6 σ6 H6 _ I6 q6) λok s7 ⟨H7,I7,q7⟩=>?_))
  cases ok with
  | false=>
   rw[qY AL]at q7;exact AR ⟨rfl,kx I7 q7⟩
  | true=>
   rw[qX rfl]at q7;refine AB (AB (up (thn (he _ s7 σ6 H7 _ I7 q7) λyv s8 ⟨y,H8,I8,r8,hp8,q8⟩=>?_)));refine AB (up (thn (RN (X:=X') _ s8 σ6 H8 (.ref p) [y] (.ref p) [yv] (λv H9=>v=.non/\H9=upd H8 p (.lst (xs++[y]))) I8 rfl (.cons r8 .nil) ⟨p,xs,y,rfl,rfl,hp8,hz,rfl,rfl⟩) λv9 s9 ⟨v,H9,I9,r9,e9,e10⟩=>?_));subst e10;exact AR (AR ⟨rfl,kx I9 q8⟩)
end
section
theorem RZ(I2:Inv X ζ σ H2 s2)(J:Inv (Dz X scope N' cl C s2 H2 fp (X.pn++ζ)) [] σ' H' s')(hC:s2.heap.objs.size<=C)(hf:∀b∈fp,Mg X ζ H2 b)
  (sb:Ec C s'.heap h'):Inv X ζ σ H' { s' with heap:=h' }:=by
 have ne:∀b o,s2.heap.get? b=some o->b≠C:=λb o e=>A0 (AU (Ai e) hC)
 have jb:Un (frs X.stack) fp H2 H' s2.heap s'.heap:=J.base
 have u:Un (frs X.stack) fp H2 H' s2.heap h':=by
  refine⟨λb o e n hb hx=>(sb.2 b (ne b o e)).trans (jb.keep b o e n hb hx),λb o e n hb hx=>?_,jb.free,λb o e hx=>?_,jb.tups,jb.frzs,jb.tbls⟩
  ·obtain⟨sl,q⟩:=jb.slot b o e n hb hx
   exact⟨sl,(sb.2 b (ne b o e)).trans q⟩
  ·obtain⟨o',q⟩:=jb.there b o e hx
   exact⟨o',(sb.2 b (ne b o e)).trans q⟩
 have rY:H' C=none:=J.free
 have hok:HOk X.prog X.w H' h':=λa o e=>(J.hok a o e).stay (λb u hb q=>(sb.2 b λz=>by
  subst z
  rcases hb with z | z
  ·subst z;rw[rY]at e;cases e
  ·rw[rY]at z;cases z).trans q) (λ_ q=>q) λ_ _ q=>q
 exact I2.call' (s':={ s' with heap:=h' }) (ch:=fp) J.os u hok J.bare λb hb=>by
  obtain⟨_,z1,z2,z3,z4,z5⟩:=hf b hb;exact⟨z3,z1,z4,z5⟩
theorem QN{σ:St}{E:AH->AQ->Prop}{Qf:AV->Hp->Prop}{RR:AH->AV->Result->AQ->Prop}{it:AV}{J:It}{tn:Nat->Cj->Prop}(hc:X.calm=true)(Sc:Mh X scope own N')
  (hg:∀cl C s₁ H₁ ex pn,PG (Dz X scope N' cl C s₁ H₁ ex pn) ϖ g) (qN:∀cl C s₁ H₁ ex pn,V9 (Dz X scope N' cl C s₁ H₁ ex pn) ifs tc) (he:∀cl C s₁ H₁ ex pn,PE (Dz X scope N' cl C s₁ H₁ ex pn) elt te)
  (c1:∀n c,cl.lookup n=some c->X.env.cells.lookup n=some c) (c2:∀y∈scope.names,y.2=.free->∃c,cl.lookup y.1=some c)
  (I2:Inv X ζ σ H2 s2) (T:Sr X.prog X.w X.K ϖ J fp it tn) (oj:tn 0 s2.heap) (f2:∀b∈fp,Mg X ζ H2 b)
  (q2:∀p,H2 p=none->∃W:Nat->Nat->St->Hp->List V->Prop,(∃m,W 0 m (Ak own.length none++σ) (upd H2 p (.lst [])) []) /\
   ∀i m σ' H' xs,W i m σ' H' xs->H' p=some (.lst xs)/\((J.stop i H'/\Qf p H')∨(J.go i H'/\xs.length < sizeLine/\∀x qK,J.yld i H' x qK->g x σ' qK λσ2 H2=>tc σ2 H2 λb H3=>
    if b=true then te σ2 H3 λy H4=>H4 p=some (.lst xs)/\∃m',m' < m/\W (i+1) m' σ2 (upd H4 p (.lst (xs++[y]))) (xs++[y])else ∃m',m' < m/\W (i+1) m' σ2 H3 xs)))
  (hRR:∀D C cl σ' H' s',s2.heap.objs.size<=C->Inv (Dz X scope N' cl C s2 H2 fp (X.pn++ζ)) [] σ' H' s'->Qf D H'->RR (.ref D) C (.ok .next) s') :
  Aw (Ac X.prog X.w) X.A (newList []) (λacc s₃=>Aw (Ac X.prog X.w) X.A (Ut scope X.env.globals cl [] X.env.qual none .none (some X.env)) (λtZ s₄=>
   L8 (Ac X.prog X.w) X.A (.compStart (.ListComp elt [⟨ϖ,iter,ifs,0⟩] scope pos) 0 (.ref it) acc { tZ with scope:=JO scope X.env }) (RR acc tZ.locals) s₄) E s₃) E s2:=by
 have qM:∀b∈fp,b < s2.heap.objs.size:=λb hb=>by
  obtain⟨o,e,_⟩:=T.obj _ _ oj b hb;exact Ai e
 refine EL (U6 ?_);dsimp only;generalize hH3:s2.heap.push { cls:=.type "list",dict:=none,data:=.seq ([]:List AH).toArray }=H3;generalize hH4:H3.push { cls:=.type "dict",data:=.dict #[] }=H4
 have hC:H3.objs.size=s2.heap.objs.size+1:=by rw[<-hH3,Dk]
 have hC4:H4.objs.size=H3.objs.size+1:=by rw[<-hH4,Dk]
 have hDC:s2.heap.objs.size≠H3.objs.size:=by rw[hC];exact A0 (Cy _)
 have rl:s2.heap.objs.size<=H3.objs.size:=by rw[hC];exact ID _
 have u0:s2.heap.objs.size<=H4.objs.size:=by rw[hC4];exact Nat.le_succ_of_le rl
 have u5:∀b o,H3.get? b=some o->(Ep H4 scope.names).get? b=some o:=λb o e=>TH _ _ _ _ (hH4▸AK _ e)
 have old:∀b o,s2.heap.get? b=some o->(Ep H4 scope.names).get? b=some o:=λb o e=>u5 b o (hH3▸AK _ e)
 have rm:(Ep H4 scope.names).get? s2.heap.objs.size=some { cls:=.type "list",dict:=none,data:=.seq ([]:List AH).toArray }:=u5 _ _ (hH3▸Al _ rfl)
 have wK:(Ep H4 scope.names).Ns H3.objs.size λ_=>none:=by
  have:=(Cj.Ns.new H3 (.type "dict")).keeps (TH scope.names (H3.push { cls:=.type "dict",data:=.dict #[] }));rw[hH4]at this;exact this
 have hD:H2 s2.heap.objs.size=none:=I2.hok.fresh (AN _);have u:Un (frs X.stack) fp H2 (upd H2 s2.heap.objs.size (.lst [])) s2.heap (Ep H4 scope.names):=Un.laid old (AN _) hD;have hok:HOk X.prog X.w (upd H2 s2.heap.objs.size (.lst [])) (Ep H4 scope.names):=I2.hok.laid old (AN _) ⟨DK _,[],0,.nil,rm⟩
 have vk:∀c,s2.heap.objs.size < c->upd H2 s2.heap.objs.size (.lst []) c=none:=λc h=>by rw[BN (HE h)];exact I2.hok.fresh (Kh h)
 have rY:upd H2 s2.heap.objs.size (.lst []) H3.objs.size=none:=vk _ (by rw[hC];exact Cy _)
 have qy:∀x c,(B7 H4.objs.size scope.names cl).lookup x=some c->cl.lookup x=some c∨((Ep H4 scope.names).IsCell c none/\H4.objs.size<=c):=λx c e=>JI scope.names H4 cl x c e
 obtain⟨W,⟨m0,w0⟩,turn⟩:=q2 s2.heap.objs.size hD
 have loop:∀s₃:AQ,s₃={ s2 with heap:=Ep H4 scope.names } ->
   L8 (Ac X.prog X.w) X.A (.compLoop (.ListComp elt [⟨ϖ,iter,ifs,0⟩] scope pos) 0 (.ref it) (.ref s2.heap.objs.size) (compEnvC scope (B7 H4.objs.size scope.names cl) H3.objs.size X.env))
    (RR (.ref s2.heap.objs.size) H3.objs.size) s₃:=by
  rintro s₃ rfl
  have J0:Inv (Dz X scope N' (B7 H4.objs.size scope.names cl) H3.objs.size s2 H2 fp (X.pn++ζ)) [] (Ak own.length none++σ) (upd H2 s2.heap.objs.size (.lst [])) { s2 with heap:=Ep H4 scope.names }:=
   V1 (s:={ s2 with heap:=Ep H4 scope.names }) Sc I2 f2 qM c1 c2 u0 qy (λc h=>vk c (by lia)) rl wK rfl I2.bare u hok rY
  refine Yp (X':=Dz X scope N' (B7 H4.objs.size scope.names cl) H3.objs.size s2 H2 fp (X.pn++ζ)) (fp:=fp) (Q:=Qf s2.heap.objs.size) hc rfl T (hg _ _ _ _ _ _) (qN _ _ _ _ _ _) (he _ _ _ _ _ _) W turn (λσ' H' s' J q=>hRR _ _ _ σ' H' s' rl J q) J0 (T.keep _ _ _ oj λb _ o e=>old b o e) (λb hb=>?_) w0;obtain⟨z0,z1,z2,z3,z4,z5⟩:=f2 b hb;refine⟨by rw[BN (A0 (qM b hb))];exact z0,A0 (AU (qM b hb) rl),λz=>?_,.inl hb,λx c e=>?_,λp hp=>?_⟩
  ·exact(At.mp (I2.stkSub _ z)).elim z1 z2
  ·rcases qy x c e with e | ⟨_,e⟩
   ·exact z4 x c (c1 x c e)
   ·exact HE (AU (qM b hb) (Ao u0 e))
  ·have hp:p∈(X.pn++ζ)++[]:=hp
   rw[BE]at hp;exact z5 p hp
 exact codeAny_compStart_list (loop _ rfl) (T.self X.A 0 _ _ _ (T.keep _ _ _ oj λb _ o e=>old b o e) (loop _ rfl))
theorem eK(hc:X.calm=true)(Sc:Mh X scope own N')(hi:PI X ϖ iter wi)
  (hg:∀cl C s₁ H₁ ex pn,PG (Dz X scope N' cl C s₁ H₁ ex pn) ϖ g) (qN:∀cl C s₁ H₁ ex pn,V9 (Dz X scope N' cl C s₁ H₁ ex pn) ifs tc) (he:∀cl C s₁ H₁ ex pn,PE (Dz X scope N' cl C s₁ H₁ ex pn) elt te)
  (hs:∀x,Fc iter X.env x=pure x:=by intro _;rfl):PE X (.ListComp elt [⟨ϖ,iter,ifs,0⟩] scope pos) (Zj own.length wi g tc te):=by
 intro ζ s σ H Q I h;rw[eval_ListComp];obtain⟨cl,qO,c1,c2⟩:=XG (scope:=scope) (env:=X.env) (λy hy hf=>I.ok.has y.1 (Sc.free y hy hf));refine XU (use:=none) rfl hs qO Sc.kind Sc.names (thn (hi ζ s σ H _ I h) λv s1 h1=>thn h1 λitv s2 h2=>?_);obtain⟨it,fp,tn,J,H2,rfl,I2,T,oj,f2,q2⟩:=h2
 refine QN (Qf:=λp H'=>Q (.ref p) H') (RR:=λacc C=>compPost (Ac X.prog X.w) X.A X.xe none (EP X ζ σ Q) acc C) hc Sc hg qN he c1 c2 I2 T oj f2 q2 λD C cl' σ' H' s' hC J q=>?_
 obtain⟨m,hn,_⟩:=J.loc;exact⟨m,hn,λh' sb=>⟨.ref D,H',RZ I2 J hC f2 sb,rfl,q⟩⟩
theorem du{i:Nat}{y:Str}{py rn:Pos}(hc:X.calm=true)(wL:GX (.ListComp elt [⟨ϖ,iter,ifs,0⟩] scope pos) (some (.Name y py)) rn.line X.env=pure true)
  (hN:X.N.Nodup) (hy:X.N[i]?=some y) (sL:Loc X.env.scope y) (Sc:Mh X scope own N') (hi:PI X ϖ iter wi)
  (hg:∀cl C s₁ H₁ ex pn,PG (Dz X scope N' cl C s₁ H₁ ex pn) ϖ g) (qN:∀cl C s₁ H₁ ex pn,V9 (Dz X scope N' cl C s₁ H₁ ex pn) ifs tc) (he:∀cl C s₁ H₁ ex pn,PE (Dz X scope N' cl C s₁ H₁ ex pn) elt te)
  (hs:∀x,Fc iter X.env x=pure x:=by intro _;rfl) (hf:X.fn y=true∨X.env.scope.names.lookup y=some .local:=by first | exact .inl rfl | exact .inr rfl | assumption) :
  PS X (.Assign [.Name y py] (.ListComp elt [⟨ϖ,iter,ifs,0⟩] scope pos) rn) (ip (Zj own.length wi g tc te) (W8 i)):=by
 intro ζ s σ H D I h;rw[exec_Assign_Name_used _ _ _ _ wL];refine AB (wpAny_standAt (AB ?_));show Aw _ X.A (do let _ <-comprehension (.ListComp elt [⟨ϖ,iter,ifs,0⟩] scope pos) scope X.env _ (newList []) false (B4 iter X.env) (some (O5 (.Name y py) X.env))) _ _ s;obtain⟨cl,qO,c1,c2⟩:=XG (scope:=scope) (env:=X.env) (λy hy hf=>I.ok.has y.1 (Sc.free y hy hf))
 refine AB (E7 (XU (use:=some (O5 (.Name y py) X.env)) (Q:=λ_ s'=>SP X ζ D .next s') rfl hs qO Sc.kind Sc.names
  (thn (hi ζ s σ H _ I h) λv s1 h1=>thn h1 λitv s2 h2=>?_)) (λ_ s' hq=>AR (AR hq)) λ_ _ e=>e)
 obtain⟨it,fp,tn,J,H2,rfl,I2,T,oj,f2,q2⟩:=h2
 refine QN (Qf:=λp H'=>D.nx (σ.set i (some (.ref p))) H') (RR:=λacc C=>compPost (Ac X.prog X.w) X.A X.xe (some (O5 (.Name y py) X.env)) (λ_ s'=>SP X ζ D .next s') acc C) hc Sc hg qN he c1 c2 I2 T oj f2 q2 λA C cl' σ' H' s' hC J q=>?_
 obtain⟨m,hn,_⟩:=J.loc;have I3:Inv X ζ σ H' s':=RZ I2 J hC f2 (oC ..);have rY:H' C=none:=J.free
 have pF:∀x c,X.env.cells.lookup x=some c->c≠C:=λx c e z=>by
  obtain⟨v,q⟩:=I2.cell x c e;exact zX (AU q.lt (by rw[z];exact hC)) (Df _)
 have rZ:C≠X.env.locals:=HE (AU I2.lt hC);show Aw _ X.A (O5 (.Name y py) X.env (.ref A)) _ _ s';refine kl (RF (v:=.ref A) I3 hN hy sL rfl (λs4 I4 ⟨a,sb,ha⟩=>?_) hf)
 have haC:C≠a:=by
  rcases ha with e | e
  ·rw[e];exact rZ
  ·exact Br (pF _ _ e)
 refine⟨m,hn.sameBut sb haC,λh' sb'=>⟨_,H',?_,q⟩⟩
 refine I4.turned (t':=s4.toks) (it:=C) (λb o hb e=>(sb'.2 b hb).trans e) rY rZ (.inr (Ao I2.sz hC)) pF λp hp z=>?_
 exact zX (AU (Ai (I2.pin p hp).1) (by rw[z];exact hC)) (Df _)
end
def Fp(v:Me)(g:MG)(c:MT)(m:ME):Nat->Nat->Lo->Sto->List D->Res (List D)
 | k,i,e,S,acc=>match v S with
  | none=>.bad
  | some ds=>match ds[i]? with
   | none=>.ok acc S
   | some d=>match k with
    | 0=>.bad
    | k+1=>if acc.length < sizeLine then(okR (g d e S)).bind λe1 S1=>(okR (c e1 S1)).bind λb S2=>if b=true then(okR (m e1 S2)).bind λy S3=>Fp v g c m k (i+1) e1 S3 (acc++[y])else Fp v g c m k (i+1) e1 S2 acc else .bad
def D6(n:Nat)(mi:MI)(g:MG)(c:MT)(m:ME):ML:=λe S=>(mi e S).bind λv S1=>Fp v g c m (Cr v S1) 0 (Ak n none++e) S1 []
def FY:MT:=λ_ S=>.ok true S
section
abbrev gR(X:Cx)(E:EW)(ifs:List Expr)(c:MT):Prop:=V9 X ifs (gT X.K E c)
theorem Gr:gR X E [] FY:=λζ s σ H Q I ⟨ρ,l,S,hl,hs,hm⟩=>by
 exact aB ζ s σ H Q I (hm ρ H .refl hs)
theorem Je(h:GT X E e c):gR X E [e] c:=aA h
theorem E1.grow{K}{ρ}{H}{e}{σ}(n:Nat)(h:E1 K ρ H e σ):E1 K ρ H (Ak n none++e) (Ak n none++σ):=by
 refine⟨by simp[h.len],λi d q=>?_⟩
 by_cases hi:i < n
 ·rw[Ag (by simpa using hi),DN,qX hi]at q
  cases q
 ·rw[BB (by simpa using hi)]at q ⊢
  simp only[LL]at q ⊢;exact h.at' _ d q
theorem Bw.ok_of{α:Type}{K:AG}{E:EH}{ρ:List AV}{H:Hp}{r:Res α}{k:α->Sto->Prop}{a:α}{S:Sto}(e:r=.ok a S)(h:k a S):Bw K E ρ H r k:=by
 subst e;exact h
theorem Px{α β:Type}{r:Res α}{F:α->Sto->Res β}{b:β}{S:Sto}(h:(okR r).bind F=.ok b S):∃a S1,r=.ok a S1/\F a S1=.ok b S:=by
 cases r with
 | ok a S1=>exact⟨a,S1,rfl,h⟩
 | err c S1=>cases h
 | bad=>cases h
theorem UW:∀(k i:Nat) (e:Lo) (S:Sto) (acc:List D),Fp v g c m k i e S acc≠.err er S':=by
 intro k
 induction k with
 | zero=>
  intro i e S acc h;unfold Fp at h;split at h
  ·cases h
  ·split at h <;> cases h
 | succ k ih=>
  intro i e S acc h;unfold Fp at h;split at h
  ·cases h
  ·split at h
   ·cases h
   ·dsimp only at h
    split at h
    ·cases h1:g _ e S with
     | ok e1 S1=>
      rw[h1]at h;dsimp only[okR,Res.bind]at h
      cases h2:c e1 S1 with
      | ok b S2=>
       rw[h2]at h;dsimp only[okR,Res.bind]at h
       cases b with
       | true=>
        rw[qX rfl]at h
        cases h3:m e1 S2 with
        | ok y S3=>rw[h3]at h;exact ih _ _ _ _ h
        | err _ _=>rw[h3]at h;cases h
        | bad=>rw[h3]at h;cases h
       | false=>
        rw[qY AL]at h;exact ih _ _ _ _ h
      | err _ _=>rw[h2]at h;cases h
      | bad=>rw[h2]at h;cases h
     | err _ _=>rw[h1]at h;cases h
     | bad=>rw[h1]at h;cases h
    ·cases h
theorem Te{K:AG}{n:Nat}{σ:St}{H:Hp}{Q:VK}(h:gL K E (D6 n mi g c m) σ H Q):Zj n (gI K E mi) (gG K g) (gT K noE c) (gE K noE m) σ H Q:=by
 obtain⟨ρ,l,S,hl,hs,hm⟩:=h;refine⟨ρ,l,S,hl,hs,hm.seq λv S1 hm ρ1 H1 J l1 s1 vo p hp=>?_⟩
 obtain⟨ds,S',hm,k⟩:∃ds S',Fp v g c m (Cr v S1) 0 (Ak n none++l) S1 []=.ok ds S'/\∀ρ' H' p xs,Le K ρ H ρ' H'->B2 K ρ' S' H'->Az K ρ' H' ds xs->H' p=some (.lst xs)->(∀n:Nat,ρ'[n]?≠some p)->H p=none->Q (.ref p) H':=by
  cases hc:Fp v g c m (Cr v S1) 0 (Ak n none++l) S1 []with
  | ok ds S'=>rw[hc]at hm;exact⟨ds,S',rfl,hm⟩
  | err c S'=>exact(UW _ _ _ _ _ hc).elim
  | bad=>rw[hc]at hm;exact hm.elim
 obtain⟨s1',u6⟩:=HX (ho:=.lst []) s1 hp;have sk:H p=none:=l1.back hs s1 hp
 refine⟨λi j σ2 H2 xs=>∃ρ2 e2 S2 acc,Le K ρ1 H1 ρ2 H2/\E1 K ρ2 H2 e2 σ2/\B2 K ρ2 S2 H2/\Az K ρ2 H2 acc xs/\H2 p=some (.lst xs)/\(∀q:Nat,ρ2[q]?≠some p)/\Fp v g c m j i e2 S2 acc=.ok ds S',
  ⟨Cr v S1,ρ1,_,S1,[],u6,(hl.mono (l1.trans u6)).grow n,s1',.nil,Bb,λq e=>s1.notIn hp e,hm⟩,?_⟩
 rintro i j σ2 H2 xs ⟨ρ2,e2,S2,acc,l2,r2,s2,ra,tR,ph,ot⟩;refine⟨tR,?_⟩;unfold Fp at ot
 cases hv:v S2 with
 | none=>rw[hv]at ot;cases ot
 | some vs=>
  rw[hv]at ot;dsimp only at ot;obtain⟨v1,v2⟩:=vo ρ2 H2 S2 vs i l2 s2 hv
  cases hd:vs[i]? with
  | none=>
   rw[hd]at ot;cases ot;exact .inl ⟨v1 hd,k ρ2 H2 p xs (l1.trans l2) s2 ra tR ph sk⟩
  | some d=>
   rw[hd]at ot;dsimp only at ot;obtain⟨go,yl⟩:=v2 d hd
   cases j with
   | zero=>cases ot
   | succ j=>
    dsimp only at ot;split at ot
    ·rename_i hz
     obtain⟨e3,S3,h3,ot⟩:=Px ot;obtain⟨b,S4,h4,ot⟩:=Px ot;refine .inr ⟨go,by rw[<-ra.length];exact hz,λx H' y=>?_⟩;obtain⟨ρ3,l3,s3,rd⟩:=yl x H' y;obtain⟨hp3,hn3⟩:=l3.oth p _ tR ph;refine⟨ρ3,e2,S2,d,rd,r2.mono l3,s3,Bw.ok_of h3 λρ4 H4 σ4 l4 s4 r4=>?_⟩;obtain⟨hp4,hn4⟩:=l4.oth p _ hp3 hn3;refine⟨ρ4,e3,S3,r4,s4,Bw.ok_of h4 λρ5 H5 l5 s5=>?_⟩;obtain⟨ϔ,ϕ⟩:=l5.oth p _ hp4 hn4
     cases b with
     | false=>
      rw[qY AL]at ot ⊢;exact⟨j,Cy j,ρ5,e3,S4,acc,l2.trans (l3.trans (l4.trans l5)),r4.mono l5,s5,ra.mono (l3.trans (l4.trans l5)),ϔ,ϕ,ot⟩
     | true=>
      rw[qX rfl]at ot ⊢;obtain⟨yv,S5,h5,ot⟩:=Px ot;refine⟨ρ5,e3,S4,r4.mono l5,s5,Bw.ok_of h5 λρ6 H6 y6 l6 s6 r6=>?_⟩;obtain⟨vm,ϗ⟩:=l6.oth p _ ϔ ϕ
      have l7:∀qg,Le K ρ6 H6 ρ6 (upd H6 p (.lst qg))->True:=λ_ _=>trivial
      have up7:∀qg:List V,B2 K ρ6 S5 (upd H6 p (.lst qg))/\(∀a o,Ez K ρ6 H6 a o->a≠p->Ez K ρ6 (upd H6 p (.lst qg)) a o)/\∀e' w',Bo K ρ6 H6 e' w'->Bo K ρ6 (upd H6 p (.lst qg)) e' w':=λqg=>by
       have kk:=Gq (H:=H6) (p:=p) (ho:=.lst qg) (.inr (by rw[vm];trivial))
       have mono:∀e' w',Bo K ρ6 H6 e' w'->Bo K ρ6 (upd H6 p (.lst qg)) e' w':=λe' w' r=>r.keep kk.1 kk.2
       have Ϙ:∀a o,Ez K ρ6 H6 a o->a≠p->Ez K ρ6 (upd H6 p (.lst qg)) a o:=λa o r ne=>r.keep kk.1 kk.2 (BN ne)
       exact⟨⟨s6.len,s6.nd,λn o a q1 q2=>Ϙ a o (s6.ob n o a q1 q2) λz=>ϗ n (by rw[<-z];exact q2)⟩,Ϙ,mono⟩
      obtain⟨u1,u2,u3⟩:=up7 (xs++[y6]);refine⟨vm,j,Cy j,ρ6,e3,S5,acc++[yv],?_,?_,u1,?_,Bb,ϗ,ot⟩
      ·have lx:=l2.trans (l3.trans (l4.trans (l5.trans l6)))
       have kk:=Gq (H:=H6) (p:=p) (ho:=.lst (xs++[y6])) (.inr (by rw[vm];trivial))
       exact⟨lx.pre,λa zs q=>kk.1 a zs (lx.tup a zs q),λa o u q=>kk.2 a o u (lx.frz a o u q),λa o q z=>by
        have nap:a≠p:=Bq q hp;obtain⟨z1,z2⟩:=lx.oth a o q z
        exact⟨by rw[BN nap];exact z1,z2⟩⟩
      ·have rr:=r4.mono (l5.trans l6)
       exact⟨rr.len,λq d' hq=>by
        obtain⟨w',z1,z2⟩:=rr.at' q d' hq
        exact⟨w',z1,u3 _ _ z2⟩⟩
      ·have ra6:=ra.mono (l3.trans (l4.trans (l5.trans l6)))
       have kk:=Gq (H:=H6) (p:=p) (ho:=.lst (xs++[y6])) (.inr (by rw[vm];trivial));exact(ra6.keep kk.1 kk.2).append (.cons (u3 _ _ r6) .nil)
    ·cases ot
theorem Iq(hc:X.calm=true)(Sc:Mh X scope own N')(hi:GI X E ϖ iter mi)
  (hg:∀cl C s₁ H₁ ex pn,GG (Dz X scope N' cl C s₁ H₁ ex pn) ϖ g) (qN:∀cl C s₁ H₁ ex pn,gR (Dz X scope N' cl C s₁ H₁ ex pn) noE ifs c) (he:∀cl C s₁ H₁ ex pn,GE (Dz X scope N' cl C s₁ H₁ ex pn) noE elt m)
  (hs:∀x,Fc iter X.env x=pure x:=by intro _;rfl):GL X E (.ListComp elt [⟨ϖ,iter,ifs,0⟩] scope pos) (D6 own.length mi g c m):=
 (eK (g:=gG X.K g) (tc:=gT X.K noE c) (te:=gE X.K noE m) hc Sc hi hg qN he hs).imp λ_ _ _ h=>Te h
theorem KB(hc:X.calm=true)(wL:GX (.ListComp elt [⟨ϖ,iter,ifs,0⟩] scope pos) (some (.Name y py)) rn.line X.env=pure true)
  (hN:X.N.Nodup) (hy:X.N[i]?=some y) (sL:Loc X.env.scope y) (Sc:Mh X scope own N') (hi:GI X E ϖ iter mi)
  (hg:∀cl C s₁ H₁ ex pn,GG (Dz X scope N' cl C s₁ H₁ ex pn) ϖ g) (qN:∀cl C s₁ H₁ ex pn,gR (Dz X scope N' cl C s₁ H₁ ex pn) noE ifs c) (he:∀cl C s₁ H₁ ex pn,GE (Dz X scope N' cl C s₁ H₁ ex pn) noE elt m)
  (hs:∀x,Fc iter X.env x=pure x:=by intro _;rfl) (hf:X.fn y=true∨X.env.scope.names.lookup y=some .local:=by first | exact .inl rfl | exact .inr rfl | assumption) :
  GS X E (.Assign [.Name y py] (.ListComp elt [⟨ϖ,iter,ifs,0⟩] scope pos) rn) (Bc i (CL (D6 own.length mi g c m))):=by
 refine(du (g:=gG X.K g) (tc:=gT X.K noE c) (te:=gE X.K noE m) hc wL hN hy sL Sc hi hg qN he hs hf).imp λD σ H ⟨ρ,l,S,hl,hs,hm⟩=>?_
 refine Te (E:=E) (Q:=λx H'=>D.nx (σ.set i (some x)) H') ⟨ρ,l,S,hl,hs,Bw.seq (F:=λds S1=>Res.ok (L2.D.ref S1.length) (S1++[Ob.lst ds])) (k:=λd S2=>Bw X.K noH ρ H ((tgN i d l S2).bind λe1 S2=>.ok (.nx e1) S2) λfl S'=>Oj X.K E ρ H S' D fl) (Bw.lift hm hl .refl λd S2 h=>h) λds S1 hm ρ1 H1 p xs l1 s1 r1 hp hn sk=>?_⟩
 have l0:∀(n:Nat) a,ρ1[n]?=some a->(ρ1++[p])[n]?=some a:=λn a h=>by rw[Ag (AC.mp h).1];exact h
 obtain⟨s2,at2⟩:=s1.adopt (o:=.lst ds) hn ⟨xs,hp,r1.more l0⟩
 have l2:Le X.K ρ H (ρ1++[p]) H1:=⟨λn a h=>l0 n a (l1.pre n a h),l1.tup,l1.frz,λa o e h=>⟨(l1.oth a o e h).1,λn q=>by
  rcases IT q with⟨q,_⟩ | ⟨_,q⟩
  ·exact(l1.oth a o e h).2 n q
  ·exact Bq e sk q⟩⟩
 exact hm _ _ _ l2 s2 ((hl.mono l2).set (.ref at2) i)
end
end L2
namespace L2
open PySem PySem.Spec PyProof.Rows PySem.SeqAt
def LB:D->D->Option Bool
 | .non,.non=>some true
 | .bl a,.bl b=>some (a==b)
 | .int a,.int b=>some (a==b)
 | .str a,.str b=>some (a==b)
 | .non,.int _=>some false
 | .non,.str _=>some false
 | .non,.bl _=>some false
 | .non,.tup _=>some false
 | .int _,.non=>some false
 | .str _,.non=>some false
 | .bl _,.non=>some false
 | .tup _,.non=>some false
 | .int _,.tup _=>some false
 | .tup _,.int _=>some false
 | _,_=>none
def eqL(f:D->D->Option Bool):List D->List D->Option Bool
 | [],[]=>some true
 | [],_ :: _=>some false
 | _ :: _,[]=>some false
 | x :: xs,y :: ys=>match f x y,eqL f xs ys with
  | some a,some b=>some (a&&b)
  | _,_=>none
def eqP:Nat->D->D->Option Bool
 | 0,x,y=>LB x y
 | n+1,x,y=>match x,y with
  | .tup xs,.tup ys=>eqL (eqP n) xs ys
  | x,y=>LB x y
theorem LA(h:eqL f (x :: xs) (y :: ys)=some b):∃a c,f x y=some a/\eqL f xs ys=some c/\b=(a&&c):=by
 unfold eqL at h;split at h
 ·rename_i a c h1 h2
  cases h;exact⟨a,c,h1,h2,rfl⟩
 ·cases h
theorem Sb:∀{xs ys:List D} {b:Bool},eqL f xs ys=some b->(∀(j:Nat) x y,xs[j]?=some x->ys[j]?=some y->∃c,f x y=some c) /\
  b=((A7 (min xs.length ys.length)).all (λj=>match xs[j]?,ys[j]? with | some x,some y=>(f x y).getD false | _,_=>false)&&xs.length==ys.length)
 | [],[],b,h=>by cases h;exact⟨λj x y h=>by simp at h,by simp⟩
 | [],y :: ys,b,h=>by cases h;exact⟨λj x y h=>by simp at h,by simp⟩
 | x :: xs,[],b,h=>by cases h;exact⟨λj x y _ h=>by simp at h,by simp⟩
 | x :: xs,y :: ys,b,h=>by
  obtain⟨a,c,h1,h2,rfl⟩:=LA h;obtain⟨i1,i2⟩:=Sb h2;refine⟨λj x' y' e1 e2=>?_,?_⟩
  ·cases j with
   | zero=>simp at e1 e2;subst e1;subst e2;exact⟨a,h1⟩
   | succ j=>exact i1 j x' y' (by simpa using e1) (by simpa using e2)
  ·rw[i2,A8,A8,show min (xs.length+1) (ys.length+1)=min xs.length ys.length+1 by lia,List.range_succ_eq_map,iF,Um]
   simp only[List.getElem?_cons_zero,h1,OD,Function.comp_def,List.getElem?_cons_succ];rw[Bool.and_assoc]
   congr 1
   congr 1
   rw[Bool.eq_iff_iff];simp
section
variable{K:AG}{ρ:List AV}{H:Hp}
theorem XA(n k:Nat)(y:D):eqP n (.ref k) y=none:=by cases n <;> cases y <;> rfl
theorem XB(n:Nat)(ds:List D)(y:D):eqP n (.fro ds) y=none:=by cases n <;> cases y <;> rfl
theorem XC(n:Nat)(c:AV)(y:D):eqP n (.exc c) y=none:=by cases n <;> cases y <;> rfl
theorem M3(r1:Bo K ρ H x v)(r2:Bo K ρ H x' v):x=x'∨(∃ds pR vs,x=.tup ds/\x'=.tup pR/\Az K ρ H ds vs/\Az K ρ H pR vs)∨(∀n y,eqP n x y=none)∨∀n y,eqP n x' y=none:=by
 cases r1 with
 | non=>cases r2;exact .inl rfl
 | bl b=>cases r2;exact .inl rfl
 | int b=>cases r2;exact .inl rfl
 | str b=>cases r2;exact .inl rfl
 | fro _ _=>exact .inr (.inr (.inl λn y=>XB n _ y))
 | ref _=>exact .inr (.inr (.inl λn y=>XA n _ y))
 | exc _ _=>exact .inr (.inr (.inl λn y=>XC n _ y))
 | tup u1 u2=>
  cases r2 with
  | fro _ _=>exact .inr (.inr (.inr λn y=>XB n _ y))
  | ref _=>exact .inr (.inr (.inr λn y=>XA n _ y))
  | exc _ _=>exact .inr (.inr (.inr λn y=>XC n _ y))
  | tup w1 w2=>
   rw[u1]at w1;cases w1;exact .inr (.inl ⟨_,_,_,rfl,rfl,u2,w2⟩)
theorem fU:∀(n:Nat) {x x' y:D} {v:V} {b b':Bool},Bo K ρ H x v->Bo K ρ H x' v->eqP n x y=some b->eqP n x' y=some b'->b=b':=by
 intro n
 induction n with
 | zero=>
  intro x x' y v b b' r1 r2 h h'
  rcases M3 r1 r2 with rfl | ⟨ds,pR,vs,rfl,rfl,_,_⟩ | q | q
  ·rw[h]at h';cases h';rfl
  ·have:eqP 0 (.tup ds) y=eqP 0 (.tup pR) y:=by cases y <;> rfl
   rw[<-this,h]at h';cases h';rfl
  ·rw[q]at h;cases h
  ·rw[q]at h';cases h'
 | succ n ih=>
  intro x x' y v b b' r1 r2 h h'
  have lists:∀{xs:List D} {vs:List V} {qg ys:List D} {b b':Bool},Az K ρ H xs vs->Az K ρ H qg vs->eqL (eqP n) xs ys=some b->eqL (eqP n) qg ys=some b'->b=b':=by
   intro xs
   induction xs with
   | nil=>
    intro vs qg ys b b' q1 q2 g g';cases q1;cases q2;rw[g]at g';cases g';rfl
   | cons d ds ihl=>
    intro vs qg ys b b' q1 q2 g g'
    cases q1 with
    | cons a1 a2=>
     cases q2 with
     | cons c1 c2=>
      cases ys with
      | nil=>cases g;cases g';rfl
      | cons y ys=>
       obtain⟨p,q,g1,g2,rfl⟩:=LA g;obtain⟨p',q',g1',g2',rfl⟩:=LA g';rw[ih a1 c1 g1 g1',ihl a2 c2 g2 g2']
  rcases M3 r1 r2 with rfl | ⟨ds,pR,vs,rfl,rfl,q1,q2⟩ | q | q
  ·rw[h]at h';cases h';rfl
  ·by_cases c:∃ys,y=.tup ys
   ·obtain⟨ys,rfl⟩:=c
    exact lists q1 q2 h h'
   ·have:eqP (n+1) (.tup ds) y=eqP (n+1) (.tup pR) y:=by
     cases y <;> first | rfl | exact(c ⟨_,rfl⟩).elim
    rw[<-this,h]at h';cases h';rfl
  ·rw[q]at h;cases h
  ·rw[q]at h';cases h'
theorem EO(h:LB x x=some b):b=true:=by
 cases x <;> first | (cases h;done) | (cases h;simp)
theorem QK:∀(n:Nat) {x:D} {b:Bool},eqP n x x=some b->b=true
 | 0,_,_,h=>EO h
 | n+1,x,b,h=>by
  have lists:∀{xs:List D} {b:Bool},eqL (eqP n) xs xs=some b->b=true:=by
   intro xs
   induction xs with
   | nil=>intro b g;cases g;rfl
   | cons d ds ih=>
    intro b g;obtain⟨p,q,g1,g2,rfl⟩:=LA g;rw[QK n g1,ih g2];rfl
  cases x with
  | tup xs=>exact lists h
  | non=>exact EO (x:=.non) h
  | bl c=>exact EO (x:=.bl c) h
  | int c=>exact EO (x:=.int c) h
  | str c=>exact EO (x:=.str c) h
  | ref c=>exact EO (x:=.ref c) h
  | fro c=>exact EO (x:=.fro c) h
  | exc c=>exact EO (x:=.exc c) h
theorem LU(hy:(∃f,y=.fro f)∨(∃r,y=.ref r)∨∃c,y=.exc c)(n:Nat):eqP n x y=none:=by
 rcases hy with⟨f,rfl⟩ | ⟨r,rfl⟩ | ⟨c,rfl⟩ <;> (cases n <;> cases x <;> rfl)
theorem bX(n:Nat)(h1:Bo K ρ H x v)(h2:Bo K ρ H y v)(h:eqP n x y=some b):b=true:=by
 induction n generalizing x y v b with
 | zero=>
  rcases M3 h1 h2 with rfl | ⟨ds,pR,vs,rfl,rfl,_,_⟩ | q | q
  ·exact QK 0 h
  ·cases h
  ·rw[q]at h;cases h
  ·cases h2 with
   | fro _ _=>rw[LU (.inl ⟨_,rfl⟩)]at h;cases h
   | ref _=>rw[LU (.inr (.inl ⟨_,rfl⟩))]at h;cases h
   | exc _ _=>rw[LU (.inr (.inr ⟨_,rfl⟩))]at h;cases h
   | non=>cases(q 0 .non)
   | bl b=>cases(q 0 (.bl b))
   | int b=>cases(q 0 (.int b))
   | str b=>cases(q 0 (.str b))
   | tup _ _=>cases(q 0 .non)
 | succ n ih=>
  have lists:∀{xs ys:List D} {vs:List V} {b:Bool},Az K ρ H xs vs->Az K ρ H ys vs->eqL (eqP n) xs ys=some b->b=true:=by
   intro xs
   induction xs with
   | nil=>intro ys vs b q1 q2 g;cases q1;cases q2;cases g;rfl
   | cons d ds ihl=>
    intro ys vs b q1 q2 g
    cases q1 with
    | cons a1 a2=>
     cases q2 with
     | cons c1 c2=>
      obtain⟨p,q,g1,g2,rfl⟩:=LA g;rw[ih a1 c1 g1,ihl a2 c2 g2];rfl
  rcases M3 h1 h2 with rfl | ⟨ds,pR,vs,rfl,rfl,q1,q2⟩ | q | q
  ·exact QK (n+1) h
  ·exact lists q1 q2 h
  ·rw[q]at h;cases h
  ·cases h2 with
   | fro _ _=>rw[LU (.inl ⟨_,rfl⟩)]at h;cases h
   | ref _=>rw[LU (.inr (.inl ⟨_,rfl⟩))]at h;cases h
   | exc _ _=>rw[LU (.inr (.inr ⟨_,rfl⟩))]at h;cases h
   | non=>cases(q 0 .non)
   | bl b=>cases(q 0 (.bl b))
   | int b=>cases(q 0 (.int b))
   | str b=>cases(q 0 (.str b))
   | tup _ _=>cases(q 0 .non)
end
section
variable{X:Cx}{ζ:List (AV×Obj)}{σ:St}{H:Hp}{s:AQ}{ρ:List AV}
theorem Ek(A:CB):A.in1.units=A.units+1:=rfl
theorem Bg.at_(r:Bg vs i')(h:j < i'.toArray.size):∃v,vs[j]?=some v/\RelV v i'.toArray[j]:=by
 have hj:j < i'.length:=by simpa using h
 have hv:j < vs.length:=by rw[r.length];exact hj
 obtain⟨u,h1,h2⟩:=r.get (i:=j) (x:=vs[j]) (by simp[hv]);refine⟨vs[j],by simp[hv],?_⟩
 have:i'.toArray[j]=u:=by
  have:=AC.mp h1;obtain⟨_,e⟩:=this;simpa using e
 rw[this];exact h2
theorem R7(ih:∀(x y:D) (b:Bool) (xv yv:V) (u v:AH),eqP n x y=some b->Bo X.K ρ H x xv->Bo X.K ρ H y yv->RelV xv u->RelV yv v->EqAt A s u v b)
  (h:eqL (eqP n) xs ys=some b) (r1:Az X.K ρ H xs vs) (r2:Az X.K ρ H ys ws) (q1:Bg vs us) (q2:Bg ws zs) :
  ∃e:Nat->Bool,(∀j (h1:j < us.toArray.size) (h2:j < zs.toArray.size),EqAt A s us.toArray[j] zs.toArray[j] (e j))/\b=((A7 (min us.toArray.size zs.toArray.size)).all e&&us.toArray.size==zs.toArray.size):=by
 obtain⟨i1,i2⟩:=Sb h;refine⟨λj=>match xs[j]?,ys[j]? with | some x,some y=>(eqP n x y).getD false | _,_=>false,λj h1 h2=>?_,?_⟩
 ·obtain⟨v,e1,rv⟩:=Bg.at_ q1 h1
  obtain⟨w,e2,pH⟩:=Bg.at_ q2 h2;obtain⟨x,e3,rx⟩:=r1.get' e1;obtain⟨y,e4,ry⟩:=r2.get' e2;obtain⟨c,hc⟩:=i1 j x y e3 e4;have:=ih x y c v w _ _ hc rx ry rv pH;simp only[e3,e4,hc,OD];exact this
 ·rw[i2,r1.length,r2.length,q1.length,q2.length]
  simp
theorem N6(I:Inv X ζ σ H s)(hu:A.units < EA)(h:LB x y=some b)(r1:Bo X.K ρ H x xv)(r2:Bo X.K ρ H y yv)(q1:RelV xv u)(q2:RelV yv v) :
  EqAt A s u v b/\RcAt A s u v b/\RcNeAt A s u v (!b):=by
 cases r1 with
 | non=>
  cases q1
  cases r2 with
  | non=>cases q2;cases h;exact⟨EqAt.same _,RcAt.none_none,RcNeAt.none_none⟩
  | bl c=>cases q2;cases h;exact⟨EqAt.none_bool _,RcAt.none_bool _,RcNeAt.none_bool _⟩
  | int i=>obtain⟨t,rfl⟩:=q2;cases h;exact⟨EqAt.none_int _ _,RcAt.none_int _ _,RcNeAt.none_int _ _⟩
  | str z=>obtain⟨t,rfl⟩:=q2;cases h;exact⟨EqAt.none_str _ _,RcAt.none_str _ _,RcNeAt.none_str _ _⟩
  | tup a1 a2=>
   cases q2;cases h;obtain⟨i',_,p,_⟩:=I.tuple (.inl (.inl a1));exact⟨EqAt.none_tuple p hu,RcAt.none_tuple p hu,RcNeAt.none_tuple p hu⟩
  | _=>cases h
 | bl a=>
  cases q1
  cases r2 with
  | non=>cases q2;cases h;exact⟨EqAt.bool_none _,RcAt.bool_none _,RcNeAt.bool_none _⟩
  | bl c=>cases q2;cases h;exact⟨EqAt.bool_bool _ _,RcAt.bool_bool _ _,RcNeAt.bool_bool _ _⟩
  | _=>cases h
 | int a=>
  obtain⟨t,rfl⟩:=q1
  cases r2 with
  | non=>cases q2;cases h;exact⟨EqAt.int_none _ _,RcAt.int_none _ _,RcNeAt.int_none _ _⟩
  | int i=>obtain⟨t',rfl⟩:=q2;cases h;exact⟨EqAt.int_int _ _ _ _,RcAt.int_int _ _ _ _,RcNeAt.int_int _ _ _ _⟩
  | tup a1 a2=>
   cases q2;cases h;obtain⟨i',_,p,_⟩:=I.tuple (.inl (.inl a1));exact⟨EqAt.int_tuple _ _ p hu,RcAt.int_tuple _ _ p hu,RcNeAt.int_tuple _ _ p hu⟩
  | _=>cases h
 | str a=>
  obtain⟨t,rfl⟩:=q1
  cases r2 with
  | non=>cases q2;cases h;exact⟨EqAt.str_none _ _,RcAt.str_none _ _,RcNeAt.str_none _ _⟩
  | str i=>obtain⟨t',rfl⟩:=q2;cases h;exact⟨EqAt.str_str _ _ _ _,RcAt.str_str _ _ _ _,RcNeAt.str_str _ _ _ _⟩
  | _=>cases h
 | tup a1 a2=>
  cases q1;obtain⟨i',_,p,_⟩:=I.tuple (.inl (.inl a1))
  cases r2 with
  | non=>cases q2;cases h;exact⟨EqAt.tuple_none p hu,RcAt.tuple_none p hu,RcNeAt.tuple_none p hu⟩
  | int i=>obtain⟨t',rfl⟩:=q2;cases h;exact⟨EqAt.tuple_int _ _ p hu,RcAt.tuple_int _ _ p hu,RcNeAt.tuple_int _ _ p hu⟩
  | _=>cases h
 | _=>cases h
theorem Sd(I:Inv X ζ σ H s):∀(n:Nat) (A:CB) (x y:D) (b:Bool) (xv yv:V) (u v:AH),A.units+n < EA->eqP n x y=some b->Bo X.K ρ H x xv->Bo X.K ρ H y yv->RelV xv u->RelV yv v->EqAt A s u v b:=by
 intro n
 induction n with
 | zero=>exact λA x y b xv yv u v hu h r1 r2 q1 q2=>(N6 I (by omega) h r1 r2 q1 q2).1
 | succ n ih=>
  intro A x y b xv yv u v hu h r1 r2 q1 q2
  by_cases ht:∃xs ys,x=.tup xs/\y=.tup ys
  ·obtain⟨xs,ys,rfl,rfl⟩:=ht
   cases r1 with
   | @tup _ a vs a1 a2=>
    cases r2 with
    | @tup _ c ws b1 b2=>
     cases q1;cases q2
     by_cases hac:a=c
     ·subst hac
      rw[bX (n+1) (.tup a1 a2) (.tup b1 b2) h];exact EqAt.same _
     ·obtain⟨i',rv,p,_⟩:=I.tuple (.inl (.inl a1))
      obtain⟨oG,pH,p2,_⟩:=I.tuple (.inl (.inl b1));obtain⟨e,he,rfl⟩:=R7 (A:=A.in1) (λx y b xv yv u v g1 g2 g3 g4 g5=>ih A.in1 x y b xv yv u v (by rw[Ek];lia) g1 g2 g3 g4 g5) h a2 b2 rv pH;exact lH hac (lN p p2 (by lia) he)
  ·have hf:LB x y=some b:=by
    cases x <;> cases y <;> first | exact h | exact(ht ⟨_,_,rfl,rfl⟩).elim
   exact(N6 I (by lia) hf r1 r2 q1 q2).1
def QB(d:D)(S:Sto):Option (List D):=match d with
 | .fro ds=>some ds
 | .ref n=>match S[n]? with
  | some (.lst ds)=>some ds
  | _=>none
 | _=>none
def eqB(x y:D)(S:Sto):Option Bool:=match QB x S,QB y S with
 | some xs,some ys=>if xs.length=ys.length then eqL (eqP 8) xs ys else some false
 | none,none=>eqP 8 x y
 | some _,none=>match y with
  | .tup _=>some false
  | .non=>some false
  | _=>none
 | none,some _=>match x with
  | .tup _=>some false
  | .non=>some false
  | _=>none
def eqD(neg:Bool)(x y:D)(S:Sto):Res D:=match eqB x y S with
 | some b=>.ok (.bl (if neg then !b else b)) S
 | none=>.bad
theorem LR{K}{S}{d}{x}{ds}(hs:B2 K ρ S H)(r:Bo K ρ H d x)(h:QB d S=some ds):∃p xs,x=.ref p/\Az K ρ H ds xs/\SqL K H p xs:=by
 cases r with
 | fro h1 h2=>cases h;exact⟨_,_,rfl,h2,h1.sq⟩
 | @ref n a hn=>
  obtain⟨o,ho,ro⟩:=hs.there hn;unfold QB at h;simp only[ho]at h
  cases o with
  | lst es=>cases h;obtain⟨vs,e,rr⟩:=ro;exact⟨_,_,rfl,rr,.inl (.inl e)⟩
  | _=>cases h
 | _=>cases h
theorem bb{S}{x y}{b}{xv yv}{u v}(I:Inv X ζ σ H s)(hu:X.A.units+64 < EA)(hs:B2 X.K ρ S H)(r1:Bo X.K ρ H x xv)(r2:Bo X.K ρ H y yv)(q1:RelV xv u)(q2:RelV yv v)(h:eqB x y S=some b) :
  RcAt X.A s u v b/\RcNeAt X.A s u v (!b):=by
 unfold eqB at h;split at h
 ·rename_i xs ys h1 h2
  obtain⟨p,vs,rfl,rr,sq⟩:=LR hs r1 h1;obtain⟨p',rX,rfl,sM,sq'⟩:=LR hs r2 h2;cases q1;cases q2;obtain⟨i',rv,pl,_⟩:=I.list sq;obtain⟨oG,sO,rp,_⟩:=I.list sq';split at h
  ·rename_i hlen
   obtain⟨e,he,rfl⟩:=R7 (A:=X.A.in1) (λx y b xv yv u v g1 g2 g3 g4 g5=>Sd I 8 X.A.in1 x y b xv yv u v (by rw[Ek];lia) g1 g2 g3 g4 g5) h rr sM rv sO
   have hsz:i'.toArray.size=oG.toArray.size:=by
    simp only[Ae];rw[<-rv.length,<-sO.length,<-rr.length,<-sM.length];exact hlen
   have e1:((A7 (min i'.toArray.size oG.toArray.size)).all e&&i'.toArray.size==oG.toArray.size)=(A7 i'.toArray.size).all e:=by
    rw[<-hsz,lR,beq_self_eq_true,iJ]
   rw[e1];exact⟨nj pl.isList rp.isList hsz (by lia) he,gY pl.isList rp.isList hsz (by lia) he⟩
  ·rename_i hlen
   cases h
   have hsz:(i'.toArray.size != oG.toArray.size)=true:=by
    simp only[Ae];rw[<-rv.length,<-sO.length,<-rr.length,<-sM.length];simpa using hlen
   exact⟨Y0 pl.isList rp.isList hsz (by lia),Uf pl.isList rp.isList hsz (by lia)⟩
 ·by_cases ht:∃xs ys,x=.tup xs/\y=.tup ys
  ·obtain⟨xs,ys,rfl,rfl⟩:=ht
   cases r1 with
   | tup a1 a2=>
    cases r2 with
    | tup b1 b2=>
     cases q1;cases q2;obtain⟨i',rv,p,_⟩:=I.tuple (.inl (.inl a1));obtain⟨oG,pH,p2,_⟩:=I.tuple (.inl (.inl b1));obtain⟨e,he,rfl⟩:=R7 (n:=7) (A:=X.A.in1) (λx y b xv yv u v g1 g2 g3 g4 g5=>Sd I 7 X.A.in1 x y b xv yv u v (by rw[Ek];lia) g1 g2 g3 g4 g5) h a2 b2 rv pH;exact⟨lN p p2 (by lia) he,RcNeAt.tuples p p2 (by lia) he⟩
  ·have hf:LB x y=some b:=by
    cases x <;> cases y <;> first | exact h | exact(ht ⟨_,_,rfl,rfl⟩).elim
   exact(N6 I (by lia) hf r1 r2 q1 q2).2
 ·rename_i xs h1 h2
  obtain⟨p,vs,rfl,rr,sq⟩:=LR hs r1 h1;cases q1;obtain⟨i',rv,pl,_⟩:=I.list sq;split at h
  ·cases h
   cases r2 with
   | tup b1 b2=>
    cases q2;obtain⟨oG,pH,p2,_⟩:=I.tuple (.inl (.inl b1));exact⟨RcAt.list_tuple pl.isList p2 (by lia),RcNeAt.list_tuple pl.isList p2 (by lia)⟩
  ·cases h
   cases r2;cases q2;exact⟨RcAt.list_none pl.isList (by lia),RcNeAt.list_none pl.isList (by lia)⟩
  ·cases h
 ·rename_i xs h1 h2
  obtain⟨p,vs,rfl,rr,sq⟩:=LR hs r2 h2;cases q2;obtain⟨i',rv,pl,_⟩:=I.list sq;split at h
  ·cases h
   cases r1 with
   | tup b1 b2=>
    cases q1;obtain⟨oG,pH,p2,_⟩:=I.tuple (.inl (.inl b1));exact⟨RcAt.tuple_list p2 pl.isList (by lia),RcNeAt.tuple_list p2 pl.isList (by lia)⟩
  ·cases h
   cases r1;cases q1;exact⟨RcAt.none_list pl.isList (by lia),RcNeAt.none_list pl.isList (by lia)⟩
  ·cases h
theorem KR(hu:X.A.units+64 < EA):OpR X (Bs .Eq) (rD X.K (eqD false)):=by
 intro ζ s σ H x y v u Q I rx ry h;obtain⟨ρ,S,a,b,d,S',hs,ra,rb,hm,k⟩:=h;unfold eqD at hm;split at hm
 ·rename_i c hc
  cases hm;exact(bb I hu hs ra rb rx ry hc).1 _ _ _ _ ⟨.bl c,H,I,rfl,k ρ H _ .refl hs (.bl _)⟩
 ·cases hm
theorem aN(hu:X.A.units+64 < EA):OpR X (Bs .NotEq) (rD X.K (eqD true)):=by
 intro ζ s σ H x y v u Q I rx ry h;obtain⟨ρ,S,a,b,d,S',hs,ra,rb,hm,k⟩:=h;unfold eqD at hm;split at hm
 ·rename_i c hc
  cases hm;exact(bb I hu hs ra rb rx ry hc).2 _ _ _ _ ⟨.bl (!c),H,I,rfl,k ρ H _ .refl hs (.bl _)⟩
 ·cases hm
def Ly(x:D):List D->Option Bool
 | []=>some false
 | d :: ds=>match eqP 8 d x,Ly x ds with
  | some a,some b=>some (a||b)
  | _,_=>none
def inD(neg:Bool)(x y:D)(S:Sto):Res D:=match Gm y S with
 | some ds=>match Ly x ds with
  | some b=>.ok (.bl (if neg then !b else b)) S
  | none=>.bad
 | none=>.bad
theorem V6(h:Ly x (d :: ds)=some b):∃a c,eqP 8 d x=some a/\Ly x ds=some c/\b=(a||c):=by
 unfold Ly at h;split at h
 ·rename_i a c h1 h2
  cases h;exact⟨a,c,h1,h2,rfl⟩
 ·cases h
open Classical in
theorem NT(I:Inv X ζ σ H s)(hu:A.units+8 < EA)(rx:Bo X.K ρ H x xv)(qx:RelV xv v):∀{ds:List D} {vs:List V} {us:List AH} {b:Bool},Az X.K ρ H ds vs->Bg vs us->Ly x ds=some b ->
  ∃e:AH->Bool,(∀y∈us,EqAt A s y v (e y))/\b=us.any e:=by
 intro ds vs us b r q h
 let e:AH->Bool:=λy=>decide (∃d w,d∈ds/\Bo X.K ρ H d w/\RelV w y/\eqP 8 d x=some true)
 have all:∀{pR:List D} {rX:List V} {u7:List AH} {b':Bool},(∀d∈pR,d∈ds)->Az X.K ρ H pR rX->Bg rX u7->Ly x pR=some b'->(∀y∈u7,EqAt A s y v (e y))/\b'=u7.any e:=by
  intro pR
  induction pR with
  | nil=>intro rX u7 b' _ r q h;cases r;cases q;cases h;exact⟨(λ_ z=>nomatch z),rfl⟩
  | cons d pR ih=>
   intro rX u7 b' sP r q h
   cases r with
   | cons r1 r2=>
    cases q with
    | @cons w y _ _ q1 q2=>
     obtain⟨a,c,h1,h2,rfl⟩:=V6 h;obtain⟨i1,i2⟩:=ih (λz hz=>sP z (AT _ hz)) r2 q2 h2
     have ha:e y=a:=by
      by_cases hq:∃d w,d∈ds/\Bo X.K ρ H d w/\RelV w y/\eqP 8 d x=some true
      ·obtain⟨d',w',_,g1,g2,g3⟩:=id hq
       rw[RelV.inj g2 q1]at g1;have:=fU 8 g1 r1 g3 h1;rw[<-this];exact wX hq
      ·have:a=false:=by
        cases a with
        | false=>rfl
        | true=>exact(hq ⟨d,_,sP d Aq,r1,q1,h1⟩).elim
       rw[this];exact wY hq
     refine⟨λz hz=>?_,by rw[Hs,ha,<-i2]⟩
     rcases At.mp hz with rfl | hz
     ·rw[ha]
      exact Sd I 8 A d x a _ _ _ _ hu h1 r1 rx q1 qx
     ·exact i1 z hz
 obtain⟨e1,e2⟩:=all (λ_ h=>h) r q h;exact⟨e,e1,e2⟩
theorem gk(hu:X.A.units+64 < EA):OpR X (Bs .In) (rD X.K (inD false)):=by
 intro ζ s σ H x y v u Q I rx ry h;obtain⟨ρ,S,a,b,d,S',hs,ra,rb,hm,k⟩:=h;unfold inD at hm;split at hm
 ·rename_i ds hq
  split at hm
  ·rename_i c hc
   cases hm;obtain⟨p,xs,rfl,rr,sq⟩:=Ot hs rb hq;cases ry
   rcases sq with sq | sq
   ·obtain⟨i',rv,pl,_⟩:=I.list sq
    obtain⟨e,he,rfl⟩:=NT I (A:=X.A.in1) (by rw[Ek];lia) ra rx rr rv hc;exact in_listAt e pl.isList (λz hz=>he z (by simpa using hz)) ⟨.bl (i'.toArray.any e),H,I,rfl,by rw[KO];exact k ρ H _ .refl hs (.bl _)⟩
   ·obtain⟨i',rv,pl,_⟩:=I.tuple sq
    obtain⟨e,he,rfl⟩:=NT I (A:=X.A.in1) (by rw[Ek];lia) ra rx rr rv hc;exact in_tupleAt e pl (λz hz=>he z (by simpa using hz)) ⟨.bl (i'.toArray.any e),H,I,rfl,by rw[KO];exact k ρ H _ .refl hs (.bl _)⟩
  ·cases hm
 ·cases hm
theorem aM(hu:X.A.units+64 < EA):OpR X (Bs .NotIn) (rD X.K (inD true)):=by
 intro ζ s σ H x y v u Q I rx ry h;obtain⟨ρ,S,a,b,d,S',hs,ra,rb,hm,k⟩:=h;unfold inD at hm;split at hm
 ·rename_i ds hq
  split at hm
  ·rename_i c hc
   cases hm;obtain⟨p,xs,rfl,rr,sq⟩:=Ot hs rb hq;cases ry
   rcases sq with sq | sq
   ·obtain⟨i',rv,pl,_⟩:=I.list sq
    obtain⟨e,he,rfl⟩:=NT I (A:=X.A.in1) (by rw[Ek];lia) ra rx rr rv hc;exact notIn_listAt e pl.isList (λz hz=>he z (by simpa using hz)) ⟨.bl (!i'.toArray.any e),H,I,rfl,by rw[KO];exact k ρ H _ .refl hs (.bl _)⟩
   ·obtain⟨i',rv,pl,_⟩:=I.tuple sq
    obtain⟨e,he,rfl⟩:=NT I (A:=X.A.in1) (by rw[Ek];lia) ra rx rr rv hc;exact notIn_tupleAt e pl (λz hz=>he z (by simpa using hz)) ⟨.bl (!i'.toArray.any e),H,I,rfl,by rw[KO];exact k ρ H _ .refl hs (.bl _)⟩
  ·cases hm
 ·cases hm
end
open PySem PySem.Spec PyProof.Rows
def GH(mo ma:ME):ME:=λe S=>(mo e S).bind λd S1=>match d with
 | .ref n=>match S1[n]? with
  | some (.lst _)=>(ma e S1).bind λy S2=>match S2[n]? with
   | some (.lst xs)=>if xs.length < sizeLine then .ok .non (S2.set n (.lst (xs++[y])))else .bad
   | _=>.bad
  | _=>.bad
 | _=>.bad
section
variable{X:Cx}{E:EW}{o e:Expr}{mo ma:ME}
theorem Wj{K}{ρ}{S}{H}{n}{x}{xs}(s:B2 K ρ S H)(r:Bo K ρ H (.ref n) x)(h:S[n]?=some (.lst xs)):∃a vs,x=.ref a/\ρ[n]?=some a/\H a=some (.lst vs)/\Az K ρ H xs vs:=by
 cases r with
 | ref hn=>
  obtain⟨vs,e,rr⟩:=s.ob n _ _ h hn;exact⟨_,vs,rfl,hn,e,rr⟩
theorem EI(ho:GE X E o mo)(ha:GE X E e ma)(oJ:Cp o "append" X.env (B4 o X.env)=B4 o X.env:=by rfl)
  (qH:((Dw cpos (Aa [e] X.env)).all (λx=>!x.1)&&(cM cpos (S8 [] X.env)).all (λx=>x.1.isSome)
    &&decide ([e].length+([]:List OG).length+(if ([]:List OG).isEmpty then 0 else 1) < 30))=true:=by rfl)
  (oK:(apos.endLine==cpos.line)=true:=by rfl) (hs:Aa [e] X.env=(false,B4 e X.env) :: Aa [] X.env:=by rfl) (pI:(Dw cpos (Aa [] X.env)).any (·.1)=false:=by rfl) :
  GE X E (.Call (.Attribute o "append" apos) [e] [] cpos) (GH mo ma):=(gj GK PySem.F.slot_list_append PySem.F.type_list_append RN ho (Ew ha Hu hs) oJ qH oK hs pI).imp λσ H Q ⟨ρ,l,S,hl,hs,hm⟩=>by
 refine⟨ρ,l,S,hl,hs,hm.seq λx S1 hm ρ1 H1 v l1 s1 r1=>?_⟩
 cases x <;> first | exact hm.elim | skip
 rename_i n;dsimp only at hm;split at hm
 ·rename_i xs0 h0
  obtain⟨a,vs,rfl,hn,e0,_⟩:=Wj s1 r1 h0;refine⟨.inl ⟨rfl,vs,.inl (.inl e0)⟩,ρ1,l,S1,hl.mono l1,s1,(hm.later l1).seq λy S2 hm ρ2 H2 u l2 s2 r2=>?_⟩;split at hm
  ·rename_i xs h3
   split at hm
   ·rename_i hz
    have ph:=l2.pre n a hn;obtain⟨ws,e3,rr⟩:=s2.ob n _ _ h3 ph;have le:Le X.K ρ2 H2 ρ2 (upd H2 a (.lst (ws++[u]))):=Le.write ph (by rw[e3];trivial);obtain⟨s3,l3⟩:=s2.write (ho:=.lst (ws++[u])) (o:=.lst (xs++[y])) ph ⟨_,Bb,(rr.append (.cons r2 .nil)).mono le⟩ le;exact⟨a,ws,u,rfl,rfl,e3,by rw[<-rr.length];exact hz,hm ρ2 _ _ (l1.trans (l2.trans l3)) s3 .non⟩
   ·exact hm.elim
  ·exact hm.elim
 ·exact hm.elim
end
def A5{κ β:Type}[DecidableEq κ](kvs:List (κ×β))(k:κ):Option β:=(kvs.find? λkv=>decide (kv.1=k)).map (·.2)
def CA{κ β:Type}[DecidableEq κ](kvs:List (κ×β))(k:κ)(v:β):List (κ×β):=
 if (kvs.any λkv=>decide (kv.1=k))=true then kvs.map (λkv=>if kv.1=k then(kv.1,v)else kv)else kvs++[(k,v)]
section
variable{κ:Type}[DecidableEq κ]{K:AG}{ρ:List AV}{H:Hp}
theorem KVR.val(k:κ):∀{x:List (κ×D)} {y:List (κ×V)},KVR K ρ H x y->(A5 x k=none->Jv y k=none)/\∀d,A5 x k=some d->∃v,Jv y k=some v/\Bo K ρ H d v
 | _,_,.nil=>⟨λ_=>rfl,λd h=>by cases h⟩
 | (g,a) :: x,(g',b) :: y,.cons r t=>by
  obtain⟨r1,r2⟩:=r;dsimp only at r1 r2;subst r1;unfold A5 Jv;rw[BV,BV]
  by_cases e:g=k
  ·simp only[e,decide_true]
   exact⟨(λh=>nomatch h),(λd h=>by cases h;exact⟨b,rfl,r2⟩)⟩
  ·simp only[e,decide_false]
   exact KVR.val k t
theorem KVR.any(k:κ):∀{x:List (κ×D)} {y:List (κ×V)},KVR K ρ H x y->(x.any λkv=>decide (kv.1=k))=y.any λkv=>decide (kv.1=k)
 | _,_,.nil=>rfl
 | (g,a) :: x,(g',b) :: y,.cons r t=>by
  rw[Hs,Hs,KVR.any k t,show g=g' from r.1]
theorem KVR.repl(k:κ)(rd:Bo K ρ H d v):∀{x:List (κ×D)} {y:List (κ×V)},KVR K ρ H x y->KVR K ρ H (x.map λkv=>if kv.1=k then(kv.1,d)else kv) (y.map λkv=>if kv.1=k then(kv.1,v)else kv)
 | _,_,.nil=>.nil
 | (g,a) :: x,(g',b) :: y,.cons r t=>by
  obtain⟨r1,r2⟩:=r;dsimp only at r1 r2;subst r1;rw[BA,BA];refine .cons ?_ (KVR.repl k rd t)
  by_cases e:g=k
  ·rw[qX e,qX e];exact⟨rfl,rd⟩
  ·rw[qY e,qY e];exact⟨rfl,r2⟩
theorem KVR.put(k:κ)(rd:Bo K ρ H d v)(h:KVR K ρ H x y):KVR K ρ H (CA x k d) (Ht y k v):=by
 unfold CA Ht;rw[KVR.any k h];split
 ·exact KVR.repl k rd h
 ·exact Uj h ⟨rfl,rd⟩
end
def YV:D->Option Key
 | .int i=>some (.inl i)
 | .str x=>some (.inr x)
 | _=>none
def RO:List D->Option (List Key)
 | []=>some []
 | d :: ds=>match YV d,RO ds with
  | some k,some ks=>some (k :: ks)
  | _,_=>none
theorem NK{K}{ρ}{H}{d}{v}{k}(r:Bo K ρ H d v)(h:YV d=some k):v=kV k:=by
 cases r <;> first | (cases h;done) | (cases h;rfl)
theorem NI{K}{ρ}{H}:∀{ds:List D} {vs:List V} {ks:List Key},Az K ρ H ds vs->RO ds=some ks->vs=ks.map kV
 | _,_,_,.nil,h=>by cases h;rfl
 | _,_,_,.cons r t,h=>by
  unfold RO at h;split at h
  ·rename_i k ks h1 h2
   cases h;rw[NK r h1,NI t h2];rfl
  ·cases h
def Lf(x y:D)(S:Sto):Option (Option D):=match x with
 | .ref n=>match S[n]? with
  | some (.dK kvs)=>match YV y with
   | some k=>some (A5 kvs k)
   | none=>none
  | some (.dT kvs)=>match y with
   | .tup ds=>match RO ds with
    | some ks=>some (A5 kvs ks)
    | none=>none
   | _=>none
  | some (.fK kvs)=>match YV y with
   | some k=>some (A5 kvs k)
   | none=>none
  | some (.fT kvs)=>match y with
   | .tup ds=>match RO ds with
    | some ks=>some (A5 kvs ks)
    | none=>none
   | _=>none
  | _=>none
 | _=>none
theorem Sf{K}{ρ}{S}{H}{x y}{xv yv}{o}(s:B2 K ρ S H)(rx:Bo K ρ H x xv)(ry:Bo K ρ H y yv)(h:Lf x y S=some o) :
  ∃a o',xv=.ref a/\NW H a yv o'/\(o=none->o'=none)/\∀d,o=some d->∃v,o'=some v/\Bo K ρ H d v:=by
 unfold Lf at h;split at h
 ·rename_i n
  cases rx with
  | @ref _ a hn=>
   split at h
   ·rename_i kvs h1
    split at h
    ·rename_i k hk
     cases h;obtain⟨kvs',e,r⟩:=s.ob n _ _ h1 hn;rw[NK ry hk];obtain⟨v1,v2⟩:=KVR.val k r;exact⟨a,Jv kvs' k,rfl,NW.k e,v1,v2⟩
    ·cases h
   ·rename_i kvs h1
    split at h
    ·rename_i ds
     split at h
     ·rename_i ks hk
      cases h;obtain⟨kvs',e,r⟩:=s.ob n _ _ h1 hn
      cases ry with
      | tup b1 b2=>
       obtain⟨v1,v2⟩:=KVR.val ks r;rw[NI b2 hk]at b1;exact⟨a,Jv kvs' ks,rfl,NW.t e b1,v1,v2⟩
     ·cases h
    ·cases h
   ·rename_i kvs h1
    split at h
    ·rename_i k hk
     cases h;obtain⟨ob,kvs',e,r⟩:=s.ob n _ _ h1 hn;rw[NK ry hk];obtain⟨v1,v2⟩:=KVR.val k r;exact⟨a,Jv kvs' k,rfl,(.inl ⟨_,_,.inr ⟨ob,e⟩,rfl,rfl⟩),v1,v2⟩
    ·cases h
   ·rename_i kvs h1
    split at h
    ·rename_i ds
     split at h
     ·rename_i ks hk
      cases h;obtain⟨ob,kvs',e,r⟩:=s.ob n _ _ h1 hn
      cases ry with
      | tup b1 b2=>
       obtain⟨v1,v2⟩:=KVR.val ks r;rw[NI b2 hk]at b1;exact⟨a,Jv kvs' ks,rfl,(.inr ⟨_,_,_,.inr ⟨ob,e⟩,rfl,b1,rfl⟩),v1,v2⟩
     ·cases h
    ·cases h
   ·cases h
 ·cases h
def Lx(x y:D)(S:Sto):Res D:=match Lf x y S with
 | some (some d)=>.ok d S
 | _=>.bad
def KH(neg:Bool)(y x:D)(S:Sto):Res D:=match Lf x y S with
 | some o=>.ok (.bl (if neg then !o.isSome else o.isSome)) S
 | none=>.bad
section
variable{X:Cx}{E:EW}{mo mi mv:ME}
theorem fO(hu:X.A.units+1 < EA)(ho:GE X E o mo)(hi:GE X E i mi)(hs:kg i:=by intro _ _;rfl):GE X E (.Subscript o i pos) (m2 Lx mo mi):=(eJ hu ho hi hs).imp λσ H Q h=>by
 refine(MC h:tOp (rD X.K Lx) (gE X.K E mo) (gE X.K E mi) σ H Q) |> λt=>?_
 obtain⟨ρ,l,S,hl,hs,k⟩:=t;refine⟨ρ,l,S,hl,hs,k.imp λx S1 k ρ1 H1 u l1 s1 r1=>?_⟩;obtain⟨ρ2,l2,S2,qI,pz,k2⟩:=k ρ1 H1 u l1 s1 r1;refine⟨ρ2,l2,S2,qI,pz,k2.imp λy S3 k2 ρ3 H3 v l3 s3 r3=>?_⟩;obtain⟨ρ4,S4,x4,y4,d,S5,s4,r4,r5,hm,k4⟩:=k2 ρ3 H3 v l3 s3 r3;unfold Lx at hm;split at hm
 ·rename_i d' hd
  cases hm;obtain⟨a,o',rfl,g,_,g2⟩:=Sf s4 r4 r5 hd;obtain⟨w',rfl,pH⟩:=g2 _ rfl;exact⟨a,w',rfl,g,k4 ρ4 H3 w' .refl s4 pH⟩
 ·cases hm
theorem Wf{σ}{H}{Q}(h:gE X.K E (m2 (KH false) mi mo) σ H Q):lh (gE X.K E mi) (gE X.K E mo) σ H Q:=by
 obtain⟨ρ,l,S,hl,hs,k⟩:=(MC h:tOp (rD X.K (KH false)) (gE X.K E mi) (gE X.K E mo) σ H Q);refine⟨ρ,l,S,hl,hs,k.imp λx S1 k ρ1 H1 u l1 s1 r1=>?_⟩;obtain⟨ρ2,l2,S2,qI,pz,k2⟩:=k ρ1 H1 u l1 s1 r1;refine⟨ρ2,l2,S2,qI,pz,k2.imp λy S3 k2 ρ3 H3 v l3 s3 r3=>?_⟩;obtain⟨ρ4,S4,x4,y4,d,S5,s4,r4,r5,hm,k4⟩:=k2 ρ3 H3 v l3 s3 r3;unfold KH at hm;split at hm
 ·rename_i o' hd
  cases hm;obtain⟨a,o2,rfl,g,g1,g2⟩:=Sf s4 r5 r4 hd;refine⟨a,o2,rfl,g,?_⟩
  have:o2.isSome=o'.isSome:=by
   cases o' with
   | none=>rw[g1 rfl];rfl
   | some d=>obtain⟨w',rfl,_⟩:=g2 d rfl;rfl
  rw[this];exact k4 ρ4 H3 _ .refl s4 (.bl _)
 ·cases hm
theorem VW{σ}{H}{Q}(h:gE X.K E (m2 (KH true) mi mo) σ H Q):We (gE X.K E mi) (gE X.K E mo) σ H Q:=by
 obtain⟨ρ,l,S,hl,hs,k⟩:=(MC h:tOp (rD X.K (KH true)) (gE X.K E mi) (gE X.K E mo) σ H Q);refine⟨ρ,l,S,hl,hs,k.imp λx S1 k ρ1 H1 u l1 s1 r1=>?_⟩;obtain⟨ρ2,l2,S2,qI,pz,k2⟩:=k ρ1 H1 u l1 s1 r1;refine⟨ρ2,l2,S2,qI,pz,k2.imp λy S3 k2 ρ3 H3 v l3 s3 r3=>?_⟩;obtain⟨ρ4,S4,x4,y4,d,S5,s4,r4,r5,hm,k4⟩:=k2 ρ3 H3 v l3 s3 r3;unfold KH at hm;split at hm
 ·rename_i o' hd
  cases hm;obtain⟨a,o2,rfl,g,g1,g2⟩:=Sf s4 r5 r4 hd;refine⟨a,o2,rfl,g,?_⟩
  have:o2.isSome=o'.isSome:=by
   cases o' with
   | none=>rw[g1 rfl];rfl
   | some d=>obtain⟨w',rfl,_⟩:=g2 d rfl;rfl
  rw[this];exact k4 ρ4 H3 _ .refl s4 (.bl _)
 ·cases hm
theorem kN(hu:X.A.units+1 < EA)(hi:GE X E i mi)(ho:GE X E o mo)(h1:CM .In o=false:=by rfl):GE X E (.Compare i [.In] [o] pos) (m2 (KH false) mi mo):=(jM (aH hu hi ho) h1).imp λ_ _ _ h=>Wf h
theorem ao{K}{m}{σ}{H}{Q}(h:gT K E (mB m) σ H Q):gE K E m σ H λx H1=>∃c,x=.bl c/\Q c H1:=by
 obtain⟨ρ,l,S,hl,hs,hm⟩:=h;refine⟨ρ,l,S,hl,hs,hm.seq λd S1 hm ρ1 H1 x l1 s1 r1=>?_⟩
 cases d <;> first | exact hm.elim | skip
 cases r1;exact⟨_,rfl,hm ρ1 H1 l1 s1⟩
theorem kB(hu:X.A.units+1 < EA)(hi:GE X E i mi)(ho:GE X E o mo)(h1:CM .In o=false:=by rfl):GT X E (.Compare i [.In] [o] pos) (mB (m2 (KH false) mi mo)):=(Z4 (aH hu hi ho) h1).imp λ_ _ _ h=>Wf (ao h)
theorem Ye(hu:X.A.units+1 < EA)(hi:GE X E i mi)(ho:GE X E o mo)(h1:CM .NotIn o=false:=by rfl):GT X E (.Compare i [.NotIn] [o] pos) (mB (m2 (KH true) mi mo)):=(Z4 (YK hu hi ho) h1).imp λ_ _ _ h=>VW (ao h)
def Hv:ME:=λ_ S=>.ok (.ref S.length) (S++[.dK []])
def am:ME:=λ_ S=>.ok (.ref S.length) (S++[.dT []])
theorem Jg:GE X E (.Dict [] [] pos) Hv:=(aF (X:=X) (pos:=pos)).imp λσ H Q ⟨ρ,l,S,hl,hs,k⟩ p hp=>by
 obtain⟨s2,l2,at2⟩:=hs.alloc (ho:=.dK []) (o:=.dK []) hp ⟨[],Bb,.nil⟩;exact k _ _ _ l2 s2 (.ref at2)
theorem bP:GE X E (.Dict [] [] pos) am:=(aE (X:=X) (pos:=pos)).imp λσ H Q ⟨ρ,l,S,hl,hs,k⟩ p hp=>by
 obtain⟨s2,l2,at2⟩:=hs.alloc (ho:=.dT []) (o:=.dT []) hp ⟨[],Bb,.nil⟩;exact k _ _ _ l2 s2 (.ref at2)
def Qv(x y v:D)(S:Sto):Option Sto:=match x with
 | .ref n=>match S[n]? with
  | some (.dK kvs)=>match YV y with
   | some k=>if kvs.length < sizeLine then some (S.set n (.dK (CA kvs k v)))else none
   | none=>none
  | some (.dT kvs)=>match y with
   | .tup ds=>match RO ds with
    | some ks=>if kvs.length < sizeLine then some (S.set n (.dT (CA kvs ks v)))else none
    | none=>none
   | _=>none
  | _=>none
 | _=>none
def DL(mo mi mv:ME):MS:=λe S=>(mv e S).lift e λv S1=>(mo e S1).lift e λx S2=>(mi e S2).lift e λy S3=>match Qv x y v S3 with
 | some S4=>.ok (.nx e) S4
 | none=>.bad
theorem Ip(hu:X.A.units+1 < EA)(ho:GE X E o mo)(hi:GE X E i mi)(hv:GE X E value mv)(hs:GX value (some (.Subscript o i pos')) pos.line X.env=pure false:=by rfl):GS X E (.Assign [.Subscript o i pos'] value pos) (DL mo mi mv):=(dr hu ho hi hv hs).imp λD σ H ⟨ρ,l,S,hl,hs,hm⟩=>by
 refine⟨ρ,l,S,hl,hs,hm.lift hl .refl λv S1 hm ρ1 H1 vv l1 s1 r1=>⟨ρ1,l,S1,hl.mono l1,s1,(hm.later l1).lift (hl.mono l1) l1 λx S2 hm ρ2 H2 xv l2 s2 r2=>⟨ρ2,l,S2,hl.mono (l1.trans l2),s2,(hm.later l2).lift (hl.mono (l1.trans l2)) (l1.trans l2) λy S3 hm ρ3 H3 yv l3 s3 r3=>?_⟩⟩⟩;have vn:=r1.mono (l2.trans l3);have r2':=r2.mono l3;have ϙ:=hl.mono (l1.trans (l2.trans l3));split at hm
 ·rename_i S4 hp
  unfold Qv at hp;split at hp
  ·rename_i n
   cases r2' with
   | @ref _ a hn=>
    split at hp
    ·rename_i kvs h4
     split at hp
     ·rename_i ky hk
      split at hp
      ·rename_i hz
       cases hp;obtain⟨kvs',e,r⟩:=s3.ob n _ _ h4 hn;rw[NK r3 hk];have le:Le X.K ρ3 H3 ρ3 (upd H3 a (.dK (Ht kvs' ky vv))):=Le.write hn (by rw[e];trivial);obtain⟨s5,l5⟩:=s3.write (ho:=.dK (Ht kvs' ky vv)) (o:=.dK (CA kvs ky v)) hn ⟨_,Bb,(KVR.put ky vn r).mono le⟩ le;exact⟨a,_,rfl,Ud.k e (by rw[<-KVR.length r];exact hz),hm ρ3 _ σ (l1.trans (l2.trans (l3.trans l5))) s5 (ϙ.mono l5)⟩
      ·cases hp
     ·cases hp
    ·rename_i kvs h4
     split at hp
     ·rename_i ds
      split at hp
      ·rename_i ks hk
       split at hp
       ·rename_i hz
        cases hp;obtain⟨kvs',e,r⟩:=s3.ob n _ _ h4 hn
        cases r3 with
        | tup b1 b2=>
         rw[NI b2 hk]at b1;have le:Le X.K ρ3 H3 ρ3 (upd H3 a (.dT (Ht kvs' ks vv))):=Le.write hn (by rw[e];trivial);obtain⟨s5,l5⟩:=s3.write (ho:=.dT (Ht kvs' ks vv)) (o:=.dT (CA kvs ks v)) hn ⟨_,Bb,(KVR.put ks vn r).mono le⟩ le;exact⟨a,_,rfl,Ud.t e b1 (by rw[<-KVR.length r];exact hz),hm ρ3 _ σ (l1.trans (l2.trans (l3.trans l5))) s5 (ϙ.mono l5)⟩
       ·cases hp
      ·cases hp
     ·cases hp
    ·cases hp
  ·cases hp
 ·exact hm.elim
end
section
variable{X:Cx}{E:EW}{a b c:Expr}{pos:Pos}
theorem Xw{K}{f g}{σ}{H}{Q}(h:gE K E (m3 f g ma mb mc) σ H Q):Zk (rD K f) (rD K g) (gE K E ma) (gE K E mb) (gE K E mc) σ H Q:=by
 obtain⟨ρ,l,S,hl,hs,hm⟩:=h;refine⟨ρ,l,S,hl,hs,hm.seq λx S1 hm ρ1 H1 u l1 s1 r1=>⟨ρ1,l,S1,hl.mono l1,s1,(hm.later l1).seq λy S2 hm ρ2 H2 v l2 s2 r2=>?_⟩⟩
 cases hf:f x y S2 with
 | bad=>rw[hf]at hm;exact hm.elim
 | err _ _=>rw[hf]at hm;exact hm.elim
 | ok z S3=>
  rw[hf]at hm;dsimp only[okR,Res.bind]at hm;refine⟨ρ2,S2,x,y,z,S3,s2,r1.mono l2,r2,hf,λρ3 H3 w l3 s3 r3=>?_⟩
  cases z with
  | bl k=>
   cases r3;refine⟨k,rfl,?_⟩
   cases k with
   | true=>
    rw[qX rfl];refine⟨ρ3,l,S3,hl.mono (l1.trans (l2.trans l3)),s3,Bw.seq (hm.later (l2.trans l3)) λw S4 hm ρ4 H4 wv l4 s4 r4=>?_⟩;obtain⟨d,S',e,k⟩:=hm.okR;exact⟨ρ4,S4,y,w,d,S',s4,r2.mono (l3.trans l4),r4,e,λρ' H' z l' s' r'=>k ρ' H' z (l1.trans (l2.trans (l3.trans (l4.trans l')))) s' r'⟩
   | false=>rw[qY AL];exact hm ρ3 H3 _ (l1.trans (l2.trans l3)) s3 (.bl false)
  | _=>exact hm.elim
theorem UK(ho:OpR X (Bs op) (rD X.K f))(p9:OpR X (Bs op') (rD X.K g))(ha:GE X E a ma)(hb:GE X E b mb)(hc:GE X E c mc)
  (hm:lastMarks [op,op'] [b,c]=false:=by with_unfolding_all rfl):GT X E (.Compare a [op,op'] [b,c] pos) (mB (m3 f g ma mb mc)):=(Z5 ho p9 ha hb hc hm).imp λ_ _ _ h=>Xw (ao h)
def mNeg(m:ME):ME:=λe S=>(m e S).bind λd S1=>match d with
 | .int i=>.ok (.int (-i)) S1
 | _=>.bad
end
abbrev MO:=Lo->Sto->Res (Option Int)
def gO(K:AG)(E:EW)(m:MO):TO:=λσ H Q=>∃ρ e S,E1 K ρ H e σ/\B2 K ρ S H/\Bw K (λc=>E c σ) ρ H (m e S) λo S'=>∀ρ' H',Le K ρ H ρ' H'->B2 K ρ' S' H'->Q o H'
abbrev GO(X:Cx)(E:EW)(e:Option Expr)(m:MO):Prop:=PO X e (gO X.K E m)
def Wo:MO:=λ_ S=>.ok none S
def Py(m:ME):MO:=λe S=>(m e S).bind λd S1=>match d with
 | .int i=>.ok (some i) S1
 | _=>.bad
section
variable{X:Cx}{E:EW}{e:Expr}{m:ME}
theorem PO.imp(h:PO X o t)(i:∀σ H Q,t' σ H Q->t σ H Q):PO X o t':=λζ s σ H Q I q=>h ζ s σ H Q I (i σ H Q q)
theorem fE:GO X E none Wo:=PO.imp dz λσ H Q ⟨ρ,l,S,hl,hs,hm⟩=>hm ρ H .refl hs
theorem W1(h:GE X E e m):GO X E (some e) (Py m):=PO.imp (dy h) λσ H Q ⟨ρ,l,S,hl,hs,hm⟩=>by
 refine⟨ρ,l,S,hl,hs,hm.seq λd S1 hm ρ1 H1 x l1 s1 r1=>?_⟩
 cases d <;> first | exact hm.elim | skip
 cases r1;exact⟨_,rfl,hm ρ1 H1 l1 s1⟩
end
section
variable{X:Cx}{E:EW}{e:Expr}{p pos:Pos}{m:ME}
def GF(m:ME):ME:=λe S=>(m e S).bind λd S1=>match Gm d S1 with
 | some ds=>.ok (.tup ds) S1
 | none=>.bad
theorem IU(hg:Gl X "tuple") (hm:X.mg "tuple" = none) (h:GE X E e m) (he:Aa [e] X.env=(false,B4 e X.env) :: Aa [] X.env:=by rfl):GE X E (.Call (.Name "tuple" p) [e] [] pos) (GF m):=
 (RL Qw hg hm nu (Ew h Hu he) (by decide) (by decide) he rfl).imp λσ H Q ⟨ρ,l,S,hl,hs,hm⟩=>by
 refine⟨ρ,l,S,hl,hs,hm.seq λd S1 hm ρ1 H1 x l1 s1 r1=>?_⟩
 cases hq:Gm d S1 with
 | none=>rw[hq]at hm;exact hm.elim
 | some ds=>
  rw[hq]at hm
  have u9:∀a vs,x=.ref a->SqL X.K H1 a vs->Az X.K ρ1 H1 ds vs->∃p ys,[x]=[.ref p]/\((SqL X.K H1 p ys/\∀l,H1 l=none->Q (.ref l) (upd H1 l (.tup ys)))∨(SqT X.K H1 p ys/\Q (.ref p) H1)):=λa vs e sq rr=>by
   subst e;refine⟨a,vs,rfl,.inl ⟨sq,λq hq=>?_⟩⟩;obtain⟨s2,l2⟩:=HX (ho:=.tup vs) s1 hq;exact hm _ _ _ (l1.trans l2) s2 (.tup Bb (rr.mono l2))
  cases r1 with
  | @tup _ a vs h1 h2=>cases hq;exact⟨a,vs,rfl,.inr ⟨.inl (.inl h1),hm ρ1 H1 _ l1 s1 (.tup h1 h2)⟩⟩
  | @fro _ a vs h1 h2=>cases hq;exact u9 a vs rfl h1.sq h2
  | @ref n a hn=>
   obtain⟨o,ho,ro⟩:=s1.there hn;unfold Gm at hq;simp only[ho]at hq
   cases o with
   | lst es=>cases hq;obtain⟨vs,e,rr⟩:=ro;exact u9 a vs rfl (.inl (.inl e)) rr
   | _=>cases hq
  | _=>cases hq
variable{o:Expr}
def atL(d:D)(S:Sto):Option (Nat×List D):=match d with
 | .ref n=>match S[n]? with
  | some (.lst xs)=>some (n,xs)
  | _=>none
 | _=>none
theorem So{K}{ρ}{S}{H}{d}{x}{n}{xs}(s:B2 K ρ S H)(r:Bo K ρ H d x)(h:atL d S=some (n,xs)):d=.ref n/\S[n]?=some (.lst xs)/\∃a vs,x=.ref a/\ρ[n]?=some a/\H a=some (.lst vs)/\Az K ρ H xs vs:=by
 unfold atL at h;split at h
 ·split at h
  ·rename_i ds hd
   cases h;exact⟨rfl,hd,Wj s r hd⟩
  ·cases h
 ·cases h
theorem SE{K}{ρ}{S}{H}{n}{a}{vs ws}{ys}(s:B2 K ρ S H)(hn:ρ[n]?=some a)(e:H a=some (.lst vs))(r:Az K ρ H ys ws) :
  B2 K ρ (S.set n (.lst ys)) (upd H a (.lst ws))/\Le K ρ H ρ (upd H a (.lst ws)):=by
 have le:Le K ρ H ρ (upd H a (.lst ws)):=Le.write hn (by rw[e];trivial);exact s.write (ho:=.lst ws) (o:=.lst ys) hn ⟨_,Bb,r.mono le⟩ le
def ah(mo:ME):ME:=λe S=>(mo e S).bind λd S1=>match atL d S1 with
 | some (n,xs)=>.ok .non (S1.set n (.lst xs.reverse))
 | none=>.bad
theorem Vw(ho:GE X E o mo)(oJ:Cp o "reverse" X.env (B4 o X.env)=B4 o X.env:=by rfl) (oK:(apos.endLine==cpos.line)=true:=by rfl) :
  GE X E (.Call (.Attribute o "reverse" apos) [] [] cpos) (ah mo):=(aG GK PySem.F.slot_list_reverse PySem.F.type_list_reverse Vk ho oJ oK).imp λσ H Q ⟨ρ,l,S,hl,hs,hm⟩=>by
 refine⟨ρ,l,S,hl,hs,hm.seq λd S1 hm ρ1 H1 v l1 s1 r1=>?_⟩
 cases hq:atL d S1 with
 | none=>rw[hq]at hm;exact hm.elim
 | some z=>
  obtain⟨n,xs⟩:=z;rw[hq]at hm;obtain⟨rfl,h0,a,vs,rfl,hn,e,rr⟩:=So s1 r1 hq;obtain⟨s2,l2⟩:=SE s1 hn e rr.reverse;exact⟨.inl ⟨rfl,vs,.inl (.inl e)⟩,a,vs,rfl,rfl,e,hm ρ1 _ _ (l1.trans l2) s2 .non⟩
def ai(mo:ME):ME:=λe S=>(mo e S).bind λd S1=>match atL d S1 with
 | some (n,xs)=>match xs[xs.length - 1]? with
  | some y=>.ok y (S1.set n (.lst xs.dropLast))
  | none=>.bad
 | none=>.bad
theorem Az.dropLast{K}{ρ}{H}{ds}{vs}(r:Az K ρ H ds vs):Az K ρ H ds.dropLast vs.dropLast:=by
 rw[U5,U5,r.length];exact r.take _
theorem kK(ho:GE X E o mo)(oJ:Cp o "pop" X.env (B4 o X.env)=B4 o X.env:=by rfl) (oK:(apos.endLine==cpos.line)=true:=by rfl) :
  GE X E (.Call (.Attribute o "pop" apos) [] [] cpos) (ai mo):=(aG GK PySem.F.slot_list_pop PySem.F.type_list_pop jl ho oJ oK).imp λσ H Q ⟨ρ,l,S,hl,hs,hm⟩=>by
 refine⟨ρ,l,S,hl,hs,hm.seq λd S1 hm ρ1 H1 v l1 s1 r1=>?_⟩
 cases hq:atL d S1 with
 | none=>rw[hq]at hm;exact hm.elim
 | some z=>
  obtain⟨n,xs⟩:=z;rw[hq]at hm;dsimp only at hm;obtain⟨rfl,h0,a,vs,rfl,hn,e,rr⟩:=So s1 r1 hq;split at hm
  ·rename_i y hy
   obtain⟨s2,l2⟩:=SE s1 hn e rr.dropLast;obtain⟨w,hw,pH⟩:=rr.get hy;exact⟨.inl ⟨rfl,vs,.inl (.inl e)⟩,a,vs,w,rfl,rfl,e,by rw[<-rr.length];exact hw,hm ρ1 _ _ (l1.trans l2) s2 (pH.mono l2)⟩
  ·exact hm.elim
end
section
variable{X:Cx}
theorem range_getD{α:Type}(d:α)(bs:List α):(A7 bs.length).map (λi=>bs.getD i d)=bs:=by
 apply D5
 intro i;rw[AS]
 by_cases h:i < bs.length
 ·rw[BU h]
  simp[List.getD,h]
 ·rw[Bn.mpr (by simpa using h),Bn.mpr (by simpa using h)]
  rfl
theorem dL{bs:List Bool}{i':List AH}(r:Bg (bs.map V.bl) i'){i:Nat}{v:AH}(h:i'.toArray[i]?=some v):v=.bool (bs.getD i false):=by
 have h':i'[i]?=some v:=by simpa using h
 obtain⟨hi,e⟩:=AC.mp h'
 have hb:i < bs.length:=by have:=r.length;simp at this;lia
 obtain⟨u,hu,ru⟩:=r.get (show(bs.map V.bl)[i]?=some (V.bl bs[i]) by simp[hb]);rw[h']at hu;cases hu;rw[show v=Mp bs[i]from ru];simp[List.getD,hb]
def Z1(K:AG)(f:List Bool->Bool):List V->Hp->VK->Prop:=λxs H Q=>∃p bs,xs=[.ref p]/\(SqL K H p (bs.map V.bl)∨SqT K H p (bs.map V.bl))/\Q (.bl (f bs)) H
theorem V3{ζ:List (AV×Obj)}{s:AQ}{σ:St}{H:Hp}{p:AV}{bs:List Bool}{R:AH->AQ->Prop}{E:AH->AQ->Prop}(hc:X.calm=true)(I:Inv X ζ σ H s)(hq:SqL X.K H p (bs.map V.bl)∨SqT X.K H p (bs.map V.bl))
  (h:∀itv s2,(∃I fp wr n P St tr,itv=Au I/\Walks X.prog X.w X.A.in1 I fp wr n P St/\St 0 s2.heap/\TruthOf X.prog X.w X.A.in1 P tr/\(A7 n).map tr=bs /\
   ∀(h':Cj) (tk:Nat),(∀b o,¬b∈wr->s2.heap.get? b=some o->h'.get? b=some o)->Inv X ζ σ H { s2 with heap:=h',toks:=tk })->R itv s2) :
  Aw (Ac X.prog X.w) X.A.in1 (ZA (.ref p)) R E s:=by
 have hh:X.A.in1.handled=none:=I.ok.hd hc
 have fin:∀(i':List AH),Bg (bs.map V.bl) i'->(A7 i'.toArray.size).map (λi=>bs.getD i false)=bs:=λi' r=>by
  have:i'.toArray.size=bs.length:=by have:=r.length;simp at this;simpa using this.symm
  rw[this,range_getD]
 have tru:∀(i':List AH),Bg (bs.map V.bl) i'->TruthOf X.prog X.w X.A.in1 (λi v=>i'.toArray[i]?=some v) (λi=>bs.getD i false):=λi' r i v s Q E hv q=>by
  rw[dL r hv];exact Db q
 have kp:∀(ob:Obj) (h':Cj) (tk:Nat),(∀b o,¬b∈[s.heap.objs.size]->(s.heap.push ob).get? b=some o->h'.get? b=some o)->Inv X ζ σ H { s with heap:=h',toks:=tk }:=λob h' tk k=>
  I.kept λb o e=>k b o (by simpa using A0 (Ai e)) (AK _ e)
 rcases hq with hq | hq
 ·obtain⟨i',r',pl,hz⟩:=I.list hq
  refine kj pl.isList (h _ _ ⟨s.heap.objs.size,_,_,_,_,_,_,rfl,Walks.list hh _ p (A0 (Ai pl.isList.choose_spec.1)) i'.toArray,⟨⟨_,Al _ rfl,rfl,rfl⟩,?_⟩,tru i' r',fin i' r',kp _⟩)
  exact pl.isList.at λo e=>AK _ e
 ·obtain⟨i',r',pl,hz⟩:=I.tuple hq
  have pt:s.heap.IsTuple p i'.toArray:=pl;refine HB pt (h _ _ ⟨s.heap.objs.size,_,_,_,_,_,_,rfl,Walks.tuple hh _ p (A0 pl.lt) i'.toArray,⟨⟨_,Al _ rfl,rfl,rfl⟩,?_⟩,tru i' r',fin i' r',kp _⟩);obtain⟨o,e,c⟩:=pt;exact⟨o,AK _ e,c⟩
theorem Yu(hc:X.calm=true):Ie X (.builtin "all") (Z1 X.K λbs=>bs.all id):=by
 intro ζ s σ H xs us Q I r h;obtain⟨p,bs,rfl,hq,q⟩:=h;obtain⟨u,rfl,rx⟩:=vals1 r;cases rx;refine call_all_walk (V3 hc I hq λitv s2 ⟨J,fp,wr,n,P,St,tr,e,W,st,tru,eb,kp⟩=>⟨J,fp,wr,n,P,St,tr,e,W,st,tru,λh' tk k=>⟨.bl _,H,kp h' tk k,rfl,?_⟩⟩);rw[<-eb]at q;dsimp only at q;rw[Um]at q;exact q
def V4:List D->Option (List Bool)
 | []=>some []
 | .bl b :: ds=>(V4 ds).map (b :: ·)
 | _ :: _=>none
theorem XJ{K}{ρ}{H}:∀{ds:List D} {vs:List V} {bs:List Bool},Az K ρ H ds vs->V4 ds=some bs->vs=bs.map V.bl
 | _,_,_,.nil,h=>by cases h;rfl
 | .bl b :: ds,_,bs,.cons r t,h=>by
  unfold V4 at h
  cases hq:V4 ds with
  | none=>rw[hq]at h;cases h
  | some cs=>rw[hq]at h;cases h;cases r;rw[XJ t hq];rfl
 | .non :: _,_,_,.cons r t,h=>by cases h
 | .int _ :: _,_,_,.cons r t,h=>by cases h
 | .str _ :: _,_,_,.cons r t,h=>by cases h
 | .tup _ :: _,_,_,.cons r t,h=>by cases h
 | .fro _ :: _,_,_,.cons r t,h=>by cases h
 | .ref _ :: _,_,_,.cons r t,h=>by cases h
 | .exc _ :: _,_,_,.cons r t,h=>by cases h
def ft(f:List Bool->Bool)(ds:List D)(S:Sto):Res D:=match V4 ds with
 | some bs=>.ok (.bl (f bs)) S
 | none=>.bad
theorem Zt:ke X.K (Z1 X.K f) (ft f):=λρ H S ds q xs d S' Q hs rr sq hm k=>by
 unfold ft at hm;split at hm
 ·rename_i bs hb
  cases hm;rw[XJ rr hb]at sq;exact⟨q,bs,rfl,sq,k ρ H _ .refl hs (.bl _)⟩
 ·cases hm
abbrev gH:=ft λbs=>bs.all id
def dS:List Int->Int:=λns=>iB (λi=>ns.getD i 0) ns.length
theorem M5:∀(n:Nat),(∀i,i < n->f i=g i)->iB f n=iB g n
 | 0,_=>rfl
 | n+1,h=>by
  show iB f n+f n=iB g n+g n;rw[M5 n λi hi=>h i (by lia),h n (by lia)]
theorem Qt{ns:List Int}{i':List AH}(r:Bg (ns.map V.int) i'):∃xs:Array (Int×Tok),i'.toArray=intItems xs/\xs.size=ns.length/\∀i,i < ns.length->numAt xs i=ns.getD i 0:=by
 induction ns generalizing i' with
 | nil=>
  cases r;exact⟨#[],by simp[intItems],rfl,λi hi=>zX hi (by simp)⟩
 | cons n ns ih=>
  cases r with
  | cons r1 r2=>
   obtain⟨xs,e1,e2,e3⟩:=ih r2;obtain⟨t,rfl⟩:=r1;refine⟨#[(n,t)]++xs,?_,by simp[e2];lia,λi hi=>?_⟩
   ·unfold intItems at e1 ⊢
    rw[Array.map_append,<-e1];simp
   ·cases i with
    | zero=>
     unfold numAt;rw[Array.getElem?_append_left (by simp)];simp
    | succ i=>
     have:=e3 i (by simpa using hi);unfold numAt at this ⊢;rw[Array.getElem?_append_right (by simp)];simpa using this
def lw(K:AG)(f:List Int->Int):List V->Hp->VK->Prop:=λxs H Q=>∃p ns,xs=[.ref p]/\SqL K H p (ns.map V.int)/\Q (.int (f ns)) H
theorem Yq(hc:X.calm=true):Ie X (.builtin "sum") (lw X.K dS):=by
 intro ζ s σ H xs us Q I r h;obtain⟨p,ns,rfl,hq,q⟩:=h;obtain⟨u,rfl,rx⟩:=vals1 r;cases rx;obtain⟨i',r',pl,hz⟩:=I.list hq;obtain⟨xs,e1,e2,e3⟩:=Qt r'
 refine sum_intListG (xs:=xs) (I.ok.hd hc) (by rw[<-e1];exact pl.isList) λh' tk t' kp=>⟨.int _,H,I.kept kp,⟨t',rfl⟩,?_⟩
 rw[e2,M5 _ e3];exact q
def IB:List D->Option (List Int)
 | []=>some []
 | .int b :: ds=>(IB ds).map (b :: ·)
 | _ :: _=>none
theorem NM:∀{ds:List D} {ns:List Int},IB ds=some ns->ds=ns.map D.int
 | [],_,h=>by cases h;rfl
 | .int b :: ds,ns,h=>by
  unfold IB at h
  cases hq:IB ds with
  | none=>rw[hq]at h;cases h
  | some cs=>rw[hq]at h;cases h;rw[NM hq];rfl
 | .non :: _,_,h=>by cases h
 | .bl _ :: _,_,h=>by cases h
 | .str _ :: _,_,h=>by cases h
 | .tup _ :: _,_,h=>by cases h
 | .fro _ :: _,_,h=>by cases h
 | .ref _ :: _,_,h=>by cases h
 | .exc _ :: _,_,h=>by cases h
def Vo(m:ME):ME:=λe S=>(m e S).bind λd S1=>match QB d S1 with
 | some ds=>match IB ds with
  | some ns=>.ok (.int (dS ns)) S1
  | none=>.bad
 | none=>.bad
theorem kJ(hc:X.calm=true)(hg:Gl X "sum") (hm:X.mg "sum" = none) (h:GE X E e m) (he:Aa [e] X.env=(false,B4 e X.env) :: Aa [] X.env:=by rfl):GE X E (.Call (.Name "sum" p) [e] [] pos) (Vo m):=
 (JZ (Yq hc) hg hm nv (Ew h Hu he) (by decide) (by decide) he rfl).imp λσ H Q ⟨ρ,l,S,hl,hs,hm⟩=>by
 refine⟨ρ,l,S,hl,hs,hm.seq λd S1 hm ρ1 H1 x l1 s1 r1=>?_⟩
 cases hq:QB d S1 with
 | none=>rw[hq]at hm;exact hm.elim
 | some ds=>
  rw[hq]at hm;dsimp only at hm
  cases hi:IB ds with
  | none=>rw[hi]at hm;exact hm.elim
  | some ns=>
   rw[hi]at hm;obtain⟨p,xs,rfl,rr,sq⟩:=LR s1 r1 hq;rw[NM hi]at rr;rw[rr.ints]at sq;exact⟨p,ns,rfl,sq,hm ρ1 H1 _ l1 s1 (.int _)⟩
def tyD(d:D)(S:Sto):Option String:=match d with
 | .non=>some "NoneType"
 | .bl _=>some "bool"
 | .int _=>some "int"
 | .str _=>some "str"
 | .tup _=>some "tuple"
 | .ref n=>match S[n]? with
  | some (.lst _)=>some "list"
  | some (.dK _)=>some "dict"
  | some (.dT _)=>some "dict"
  | _=>none
 | .fro _=>none
 | .exc _=>none
theorem iX{K}{ρ}{S}{H}{d}{x}{T}(s:B2 K ρ S H)(r:Bo K ρ H d x)(h:tyD d S=some T):NV K H x (.type T):=by
 cases r with
 | non=>cases h;exact .non
 | bl b=>cases h;exact .bl b
 | int i=>cases h;exact .int i
 | str i=>cases h;exact .str i
 | tup h1 _=>cases h;exact .tup h1
 | fro _ _=>cases h
 | exc _ _=>cases h
 | @ref n a hn=>
  obtain⟨o,ho,ro⟩:=s.there hn;unfold tyD at h;simp only[ho]at h
  cases o with
  | lst es=>cases h;obtain⟨vs,e,rr⟩:=ro;exact .lst e
  | dK es=>cases h;obtain⟨vs,e,rr⟩:=ro;exact .dK e
  | dT es=>cases h;obtain⟨vs,e,rr⟩:=ro;exact .dT e
  | ins _ _=>cases h
  | fK _=>cases h
  | fT _=>cases h
end
def Gp{α:Type}(r r':Res α):Res α:=match r with
 | .bad=>r'
 | r=>r
theorem YO{α:Type}(r r':Res α):Gp r r'=r∨Gp r r'=r':=by cases r <;> simp[Gp]
def op2(f g:D->D->Sto->Res D):D->D->Sto->Res D:=λx y S=>Gp (f x y S) (g x y S)
theorem Ws(f g:D->D->Sto->Res D)(ma mb:ME)(l:Lo)(S:Sto):m2 (op2 f g) ma mb l S=m2 f ma mb l S∨m2 (op2 f g) ma mb l S=m2 g ma mb l S:=by
 unfold m2
 cases ma l S with
 | ok x S1=>
  dsimp only[Res.bind]
  cases mb l S1 with
  | ok y S2=>
   dsimp only[Res.bind];unfold op2
   rcases YO (f x y S2) (g x y S2)with e | e <;> rw[e] <;> simp
  | err c S2=>exact .inl rfl
  | bad=>exact .inl rfl
 | err c S1=>exact .inl rfl
 | bad=>exact .inl rfl
section
theorem bS{m m1 m2}(h1:GE X E e m1)(h2:GE X E e m2)(h:∀l S,m l S=m1 l S∨m l S=m2 l S):GE X E e m:=λζ s σ H Q I ⟨ρ,l,S,hl,hs,a⟩=>by
 rcases h l S with q | q
 ·rw[q]at a;exact h1 ζ s σ H Q I ⟨ρ,l,S,hl,hs,a⟩
 ·rw[q]at a;exact h2 ζ s σ H Q I ⟨ρ,l,S,hl,hs,a⟩
theorem bN(h1:GT X E e t1)(h2:GT X E e t2)(h:∀l S,t l S=t1 l S∨t l S=t2 l S):GT X E e t:=λζ s σ H Q I ⟨ρ,l,S,hl,hs,a⟩=>by
 rcases h l S with q | q
 ·rw[q]at a;exact h1 ζ s σ H Q I ⟨ρ,l,S,hl,hs,a⟩
 ·rw[q]at a;exact h2 ζ s σ H Q I ⟨ρ,l,S,hl,hs,a⟩
theorem kI(h1:GI X E tg e t1)(h2:GI X E tg e t2)(h:∀l S,t l S=t1 l S∨t l S=t2 l S):GI X E tg e t:=λζ s σ H R I ⟨ρ,l,S,hl,hs,a⟩=>by
 rcases h l S with q | q
 ·rw[q]at a;exact h1 ζ s σ H R I ⟨ρ,l,S,hl,hs,a⟩
 ·rw[q]at a;exact h2 ζ s σ H R I ⟨ρ,l,S,hl,hs,a⟩
theorem gs{m m1 m2}(h:∀l S,m l S=m1 l S∨m l S=m2 l S)(l:Lo)(S:Sto):mB m l S=mB m1 l S∨mB m l S=mB m2 l S:=by
 unfold mB
 rcases h l S with q | q <;> rw[q] <;> simp
abbrev inA(neg:Bool):=op2 (inD neg) (KH neg)
theorem nI(hu:X.A.units+64 < EA)(hi:GE X E i mi)(ho:GE X E o mo)(h1:CM .In o=false:=by with_unfolding_all rfl):GE X E (.Compare i [.In] [o] pos) (m2 (inA false) mi mo):=
 bS (Sa (gk hu) hi ho h1) (kN (by lia) hi ho h1) λ_ _=>Ws _ _ _ _ _ _
theorem nF(hu:X.A.units+64 < EA)(hi:GE X E i mi)(ho:GE X E o mo)(h1:CM .In o=false:=by with_unfolding_all rfl):GT X E (.Compare i [.In] [o] pos) (mB (m2 (inA false) mi mo)):=
 bN (DT (gk hu) hi ho h1) (kB (by lia) hi ho h1) (gs λ_ _=>Ws _ _ _ _ _ _)
theorem Fm(hu:X.A.units+64 < EA)(hi:GE X E i mi)(ho:GE X E o mo)(h1:CM .NotIn o=false:=by with_unfolding_all rfl):GT X E (.Compare i [.NotIn] [o] pos) (mB (m2 (inA true) mi mo)):=
 bN (DT (aM hu) hi ho h1) (Ye (by lia) hi ho h1) (gs λ_ _=>Ws _ _ _ _ _ _)
abbrev ixA:=op2 ixD Lx
theorem Dm(hu:X.A.units+64 < EA)(ho:GE X E o mo)(hi:GE X E i mi)(hs:Sw i:=by intro _ _;rfl):GE X E (.Subscript o i pos) (m2 ixA mo mi):=
 bS (nH mT ho hi hs) (fO (by lia) ho hi hs) λ_ _=>Ws _ _ _ _ _ _
def Fj(d:D):Me:=match d with
 | .tup ds=>Dp ds
 | d=>OK d
def G4(m:ME):MI:=λe S=>(m e S).bind λd S1=>match Fj d S1 with
 | some _=>.ok (Fj d) S1
 | none=>.bad
theorem Hw(h:GE X E e m):GI X E tg e (G4 m):=kI (kH h) (kG h) λl S=>by
 unfold G4 nB gv
 cases m l S with
 | ok d S1=>
  dsimp only[Res.bind]
  cases d <;> first | exact .inl rfl | exact .inr rfl
 | err c S1=>exact .inl rfl
 | bad=>exact .inl rfl
def J9(m:ME):ME:=λe S=>(m e S).bind λd S1=>match Gm d S1 with
 | some ds=>.ok (.int ds.length) S1
 | none=>.bad
theorem QH(hg:Gl X "len") (hm:X.mg "len" = none) (h:GE X E e m) (he:Aa [e] X.env=(false,B4 e X.env) :: Aa [] X.env:=by rfl):GE X E (.Call (.Name "len" p) [e] [] pos) (J9 m):=
 (W3 Sm iw hg hm PySem.boot_len (bO h) (by decide) (by decide) he).imp λσ H Q ⟨ρ,l,S,hl,hs,a⟩=>⟨ρ,l,S,hl,hs,by
  have q:mQ my (Qq m) l S=J9 m l S:=by
   unfold mQ Qq J9
   cases m l S with
   | ok d S1=>
    dsimp only[Res.bind]
    cases Gm d S1 <;> rfl
   | err c S1=>rfl
   | bad=>rfl
  rw[q];exact a⟩
theorem SY(hc:X.calm=true)(hg:Gl X "min") (hm:X.mg "min" = none) (h:GA X E [a,b] ml) (he:Aa [a,b] X.env=(false,B4 a X.env) :: Aa [b] X.env:=by rfl) (p0:(Dw pos (Aa [b] X.env)).any (·.1)=false:=by rfl):GE X E (.Call (.Name "min" p) [a,b] [] pos) (mQ ND ml):=
 W6 (Ys hc) gK hg hm ny h (by decide) (by decide) he p0
theorem SZ(hc:X.calm=true)(hg:Gl X "max") (hm:X.mg "max" = none) (h:GA X E [a,b] ml) (he:Aa [a,b] X.env=(false,B4 a X.env) :: Aa [b] X.env:=by rfl) (p0:(Dw pos (Aa [b] X.env)).any (·.1)=false:=by rfl):GE X E (.Call (.Name "max" p) [a,b] [] pos) (mQ NF ml):=
 W6 (Yt hc) gM hg hm nz h (by decide) (by decide) he p0
theorem fL(hg:Gl X "list") (hm:X.mg "list" = none) (h:GE X E e m) (he:Aa [e] X.env=(false,B4 e X.env) :: Aa [] X.env:=by rfl):GE X E (.Call (.Name "list" p) [e] [] pos) (CL (mN Wu (Qq m))):=
 C2 (fF Sk dY hg hm Om (bO h) (by decide) (by decide) he)
theorem kO(hc:X.calm=true)(hg:Gl X "all") (hm:X.mg "all" = none) (h:GE X E e m) (he:Aa [e] X.env=(false,B4 e X.env) :: Aa [] X.env:=by rfl):GE X E (.Call (.Name "all" p) [e] [] pos) (mQ gH (Qq m)):=
 W3 (Yu hc) Zt hg hm n8 (bO h) (by decide) (by decide) he
end
abbrev MJ:=Str->Lo->Sto->Res Str
def jv:MJ:=λacc _ S=>if acc.length<=sizeLine then .ok acc S else .bad
def Ww(m:ME)(r:MJ):MJ:=λacc e S=>(m e S).bind λd S1=>match d with
 | .str y=>if (acc++y).length<=sizeLine then r (acc++y) e S1 else .bad
 | _=>.bad
def gJ(K:AG)(E:EW)(m:MJ)(acc:Str):TE:=λσ H Q=>∃ρ e S,E1 K ρ H e σ/\B2 K ρ S H/\Bw K (λc=>E c σ) ρ H (m acc e S) λy S'=>∀ρ' H',Le K ρ H ρ' H'->B2 K ρ' S' H'->Q (.str y) H'
def GJ(X:Cx)(E:EW)(es:List Expr)(m:MJ):Prop:=∀(acc:Str) (ζ:List (AV×Obj)) (s:AQ) (σ:St) (H:Hp) (Q:VK),Inv X ζ σ H s->gJ X.K E m acc σ H Q->Aw (Ac X.prog X.w) X.A (joinParts acc (evalEach es X.env)) (EP X ζ σ Q) X.xe s
def gr(m:MJ):ME:=λe S=>(m Ue e S).bind λy S1=>.ok (.str y) S1
def mn(m:ME):ME:=λe S=>(m e S).bind λd S1=>match d with
 | .int i=>if i.natAbs.log2 < 1920 then .ok (.str (toString i)) S1 else .bad
 | _=>.bad
section
theorem kF:GJ X E [] jv:=λacc ζ s σ H Q I ⟨ρ,l,S,hl,hs,hm⟩=>by
 unfold jv at hm;split at hm
 ·rename_i hz
  exact joinParts_nil ⟨.str acc,H,I.tok _,⟨_,rfl⟩,hm ρ H .refl hs⟩ hz
 ·exact hm.elim
theorem SW(h:GE X E e m)(hr:GJ X E es mj):GJ X E (e :: es) (Ww m mj):=λacc ζ s σ H Q I ⟨ρ,l,S,hl,hs,hm⟩=>by
 show Aw _ _ (joinParts acc (B4 e X.env :: evalEach es X.env)) _ _ s;refine joinParts_cons (thn (h ζ s σ H (λx H1=>∃y,x=.str y/\(acc++y).length<=sizeLine/\gJ X.K E mj (acc++y) σ H1 Q) I ⟨ρ,l,S,hl,hs,Bw.seq hm λd S1 hm ρ1 H1 x l1 s1 r1=>?_⟩) λu s1 ⟨x,H1,I1,rx,y,ex,hz,q⟩=>?_)
 ·cases d <;> first | exact hm.elim | skip
  dsimp only at hm;split at hm
  ·rename_i y hz
   cases r1;exact⟨y,rfl,hz,ρ1,l,S1,hl.mono l1,s1,hm.go l1 λ_ _ k ρ2 H2 l2 s2=>k ρ2 H2 (l1.trans l2) s2⟩
  ·exact hm.elim
 ·subst ex
  obtain⟨t,rfl⟩:=rx;exact⟨hz,hr _ ζ s1 σ H1 Q I1 q⟩
theorem fM(h:GJ X E (a :: b :: es) mj):GE X E (.JoinedStr (a :: b :: es) pos) (gr mj):=λζ s σ H Q I ⟨ρ,l,S,hl,hs,hm⟩=>by
 refine JoinedStr_many (h Ue ζ s σ H Q I ⟨ρ,l,S,hl,hs,Bw.seq hm λy S1 hm ρ1 H1 l1 s1=>hm ρ1 H1 _ l1 s1 (.str y)⟩)
theorem kM(h:GE X E e m):GE X E (.FormattedValue e (-1) none pos) (mn m):=λζ s σ H Q I ⟨ρ,l,S,hl,hs,hm⟩=>by
 refine FormattedValue_plain (thn (h ζ s σ H (λx H1=>∃i:Int,x=.int i/\i.natAbs.log2 < 1920/\Q (.str (toString i)) H1) I ⟨ρ,l,S,hl,hs,Bw.seq hm λd S1 hm ρ1 H1 x l1 s1 r1=>?_⟩) λu s1 ⟨x,H1,I1,rx,i,ex,hz,q⟩=>?_)
 ·cases d <;> first | exact hm.elim | skip
  dsimp only at hm;split at hm
  ·rename_i hz
   cases r1;exact⟨_,rfl,hz,hm ρ1 H1 _ l1 s1 (.str _)⟩
  ·exact hm.elim
 ·subst ex
  obtain⟨t,rfl⟩:=rx;exact wpAny_formatField_int hz ⟨.str (toString i),H1,I1.tok _,⟨_,rfl⟩,q⟩
end
def isN(A:String):Option Bool:=if ["NoneType", "bool", "int", "str", "tuple", "list", "dict"].contains A then some false else none
def mIs(tab:String->Option Bool)(pC:AV->Option Bool)(m:ME):ME:=λe S=>(m e S).bind λd S1=>match d with
 | .exc C=>match pC C with
  | some b=>.ok (.bl b) S1
  | none=>.bad
 | d=>match tyD d S1 with
  | some T=>match tab T with
   | some b=>.ok (.bl b) S1
   | none=>.bad
  | none=>.bad
def c7(sc:Qd)(x:Str):Bool:=decide (sc.names.lookup x=some .local)||decide (sc.names.lookup x=some .cell)||decide (sc.names.lookup x=some .free)
def bi(X:Cx)(scope:Qd)(own N':List Str):Bool:=
 decide (scope.kind=.function)&&scope.names.all (λy=>!decide (y.2=.local)||decide (scope.names.lookup y.1=some .local)) &&
 scope.names.all (λy=>!decide (y.2=.free)||decide (X.env.kindOf y.1=some .cell)||decide (X.env.kindOf y.1=some .free))&&decide (N'.length=own.length+X.N.length) &&
 ((N'.drop own.length).zip X.N).all (λp=>!c7 (JO scope X.env) p.1||(decide (p.1=p.2)&&c7 X.env.scope p.1&&(decide ((JO scope X.env).names.lookup p.1=some .cell)||decide ((JO scope X.env).names.lookup p.1=some .free))&&!decide (X.env.kindOf p.1=some .local)&&!scope.names.any (λz=>decide (z=(p.1,Ce)))&&scope.names.any (λz=>decide (z=(p.1,Fe))))) &&
 (JO scope X.env).names.all (λy=>(!decide (y.2=.cell)&&!decide (y.2=.free))||scope.names.any (λz=>decide (z=(y.1,Fe)))||scope.names.any (λz=>decide (z=(y.1,Ce))))
theorem TW:c7 sc x=true↔Vis sc x:=by
 unfold c7 Vis;simp[or_assoc]
theorem EX(h:bi X scope own N'=true):Mh X scope own N':=by
 unfold bi at h;simp only[EN]at h;obtain⟨⟨⟨⟨⟨h1,h3⟩,h4⟩,h5⟩,h6⟩,h7⟩:=h;rw[Fg]at h3 h4 h6 h7;refine⟨of_decide_eq_true h1,λy hy e=>?_,λy hy e=>?_,of_decide_eq_true h5,λi x e v=>?_,λx hx=>?_⟩
 ·have:=h3 y hy
  simpa[e]using this
 ·have:=h4 y hy
  simpa[e]using this
 ·have hlen:=of_decide_eq_true h5
  have hi:own.length+i < N'.length:=(AC.mp e).1
  have hx:i < X.N.length:=by lia
  have hm:(x,X.N[i])∈(N'.drop own.length).zip X.N:=by
   rw[List.mem_iff_getElem?];refine⟨i,?_⟩;rw[List.getElem?_zip_eq_some];exact⟨by rw[Ge];exact e,by simp[hx]⟩
  have:=h6 _ hm;rw[TW.mpr v]at this;simp only[iH,iI,EN,Bool.or_eq_true,decide_eq_true_eq,ZK,decide_eq_false_iff_not]at this;obtain⟨⟨⟨⟨⟨z1,z2⟩,z3⟩,z4⟩,z5⟩,z6⟩:=this;refine⟨⟨by rw[z1];simp[hx],TW.mp z2,z3,z4⟩,λq=>?_,?_⟩
  ·rw[ZI]at z5
   exact z5 _ q (wX rfl)
  ·obtain⟨z,hz,e⟩:=Ff.mp z6
   rw[of_decide_eq_true e]at hz;exact hz
 ·have key:∀k,(JO scope X.env).names.lookup x=some k->(k=.cell∨k=.free)->(x,Fe)∈scope.names∨(x,Ce)∈scope.names:=λk e hk=>by
   have:=h7 _ (DQ e)
   rcases hk with rfl | rfl
   ·simpa using this
   ·simpa using this
  rcases hx with e | e
  ·exact key _ e (.inl rfl)
  ·exact key _ e (.inr rfl)
structure Dfn(K:AG)(mg:Str->Option AH)(x qual:Str)(st:ER)(ps:List Str) where
 f:AV
 fd:LY
 F:Fun K x qual st f fd
 b:Binds K fd ps []
 m:mg x=some (.ref f)
theorem Dfn.kp{K}{mg}{x qual}{st}{ps}(d:Dfn K mg x qual st ps):Gf K (.ref d.f)=true:=d.F.kp
structure Mtd(K:AG)(x qual:Str)(st:ER)(ps:List Str) where
 f:AV
 fd:LY
 F:Fun K x qual st f fd
 b:Binds K fd ps []
structure Own(K:AG)(mg:Str->Option AH)(x:Str)(C f:AV):Prop where
 cl:Cls K C
 mk':Mk K C f
 m:mg x=some (.ref C)
structure Xcl(K:AG)(mg:Str->Option AH)(x:Str)(C:AV):Prop where
 xc:XCl K C
 m:mg x=some (.ref C)
abbrev wN:Nat:=1000000
structure XIs(K:AG)(C:AV):Prop where
 cl:(EZ K C).isSome=true
 ga:Cf K (.ref C) "__getattribute__" = some (some (.builtin "BaseException.__getattribute__"))
 gn:Cf K (.ref C) "__getattr__" = some none
 ca:Cf K (.ref C) "__class__" = some (some (.builtin "object.__class__"))
 sp:WF K (.builtin "object.__class__") "__get__" = some (some (.builtin "getset_descriptor.__get__"))
 tk:Y1 K (.builtin "object.__class__")=some true
 ob:Li K C (.type "object")=some true
 be:Li K C (.type "BaseException")=some true
theorem Qz.inst(g:h.get? a=some o)(x:Qz o C):ZD h a o C none:=by
 obtain⟨x1,x2,vs,x3⟩:=x;refine⟨g,x1,?_,?_⟩
 ·unfold PySem.W.notCls;rw[x3]
 ·rw[x2];trivial
section
variable{prog:Bp}{w:CF}{A:CB}{E:AH->AQ->Prop}{s:AQ}{K:AG}{a C:AV}{o:Obj}
theorem Yl(c:XIs K C)(X:K.In s.heap)(g:s.heap.get? a=some o)(x:Qz o C)(h:Q () s):Aw M A (lM "BaseException.__getattribute__" ⟨[.ref a,nameV],[]⟩) Q E s:=by
 have I:=x.inst g;obtain⟨hh,gg,d,t,os⟩:=s;have L0:=I.type (M:=M);have LI:HU M hh (isInstance (.ref a) (.type "BaseException")) true:=L0.andThen (PySem.W.looks_mroIn X c.be)
 have k1:builtinKind "BaseException.__getattribute__" = some .slot:=by decide +kernel
 have k2:splitId "BaseException.__getattribute__" = some ("BaseException", "__getattribute__"):=by decide +kernel
 have k3:=PySem.F.args_bexc_ga (.ref a) nameV;simp only[lM,k1,k2];refine AB (LI.at ?_)
 repeat(any_goals (first | assumption | wp_step))
theorem Yj(c:XIs K C)(X:K.In s.heap)(g:s.heap.get? a=some o)(x:Qz o C)(h:Q (.done (.ret (.ref C))) s) :
  Aw (Ac prog w) A (Builtin.«object.__getattribute__» ⟨[.ref a,.str "__class__" tk],[]⟩) Q E s:=by
 have I:=x.inst g;obtain⟨hh,gg,d,t,os⟩:=s;have L0:=I.type (M:=Ac prog w)
 have hf:Y3 K C none "__class__" = some (.bind (.builtin "getset_descriptor.__get__") (.builtin "object.__class__")):=by
  obtain⟨cd,qe⟩:=Fu.mp c.cl;unfold Y3;rw[qe,c.ca];simp only[Ab];rw[c.sp];simp only[Ab];rw[c.tk];rfl
 have L1:=PySem.W.looks_find (M:=Ac prog w) X I hf;unfold Builtin.«object.__getattribute__»;refine AB (AR ?_);dsimp only;refine AB (AR (AB (L0.at (AB (L1.at ?_)))));dsimp only;unfold cF;dsimp only;refine AB (Ig (Us (PySem.W.class_get X I c.ob ?_)));exact AR h
theorem Yk(c:XIs K C)(X:K.In s.heap)(g:s.heap.get? a=some o)(x:Qz o C)(h:Q (some (.ref C)) { s with toks:=s.toks+1 }):Aw (Ac prog w) A (getAttr? (.ref a) "__class__") Q E s:=by
 have I:=x.inst g;obtain⟨hh,gg,d,t,os⟩:=s;have L0:=I.type (M:=Ac prog w);have L1:=Kf (M:=Ac prog w) X c.ga;have L2:=Kf (M:=Ac prog w) X c.gn;unfold getAttr? getAttrBy? getAttrBy;refine AB (wpAny_mkText (AB (Ih (Ig (AB (L0.at (AB (L1.at ?_))))))))
 have hx:(onTheHeap (Au C)&&gX "BaseException.__getattribute__"==gX "object.__getattribute__")=false:=by show(true&&_)=false;decide +kernel
 dsimp only;rw[qY (by rw[hx];exact AL)];unfold getAttrByItsOwn hookBefore;refine AB ?_;rw[qX (show onTheHeap (Au C)=true from rfl)];refine L2.at (AB (Ih (Ig ?_)));unfold callGetattribute;rw[qY (by simp)];unfold boundAndCalled;refine AB (cH (O9.ga.bind (.ref a)) ?_);refine Us (codeAny_call_builtin O9.ga.plain PySem.F.entry_bexc_ga (Yl c X g x (Yj c X g x ?_)));exact AR (AR h)
theorem UF(c:XIs K C):PySem.W.KitX K (.ref a) (.ref C) (λh=>∃o,h.get? a=some o/\Qz o C) where
 ty:=λM h X ⟨o,g,x⟩=>(x.inst g).type
 it:=λM h X _=>by
  have z:=c.cl;unfold EZ at z;split at z
  ·rename_i hk
   intro A' Q' E' s' k q;unfold isType loadHead;exact AB (Ur (k _ _ (X _ _ hk)) (AR q))
  ·cases z
 ne:=λh tp dd i' n sl X htp=>by
  refine ZL.mpr λq=>?_
  have e:C=tp:=Au.inj (beq_iff_eq.mp q);subst e;have z:=c.cl;unfold EZ at z;split at z
  ·rename_i hk
   have y:=(X _ _ hk).symm.trans htp;cases y
  ·cases z
 ca:=λX ⟨o,g,x⟩ k=>Yk c X g x k
end
def rIs(K:AG)(c:V)(cv:AH):List V->Hp->VK->Prop:=λxs H Q=>(∃x t b,xs=[x,c]/\NV K H x t/\Bt K t cv=some b/\Q (.bl b) H) ∨
 ∃a o u C b,xs=[.ref a,c]/\H a=some (.frz o u)/\Qz o C/\XIs K C/\Bt K (.ref C) cv=some b/\Q (.bl b) H
section
variable{X:Cx}{E:EW}{e ce:Expr}{c:V}
theorem fq(hv:∀u,RelV c u->u=cv):Ie X (.builtin "isinstance") (rIs X.K c cv):=by
 intro ζ s σ H xs us Q I r h
 rcases h with⟨x,t,b,rfl,ty,e,q⟩ | ⟨a,o,u,C,b,rfl,ha,xo,xc,e,q⟩
 ·obtain⟨v,w,rfl,r1,r2⟩:=vals2 r
  rw[hv w r2]
  exact YY I r1 ty e λtk=>⟨.bl b,H,I.tok tk,rfl,q⟩
 ·obtain⟨v,w,rfl,r1,r2⟩:=vals2 r
  rw[hv w r2];cases(show v=Au a from r1);obtain⟨g,_⟩:=(show CH X.prog X.w H s.heap a (.frz o u)from I.hok a _ ha)
  exact CI (UF xc) I.kIn ⟨o,g,xo⟩ e (λz=>nomatch z) λtk=>⟨.bl b,H,I.tok tk,rfl,q⟩
theorem gw(hv:∀u,RelV c u->u=cv)(ht:∀T b,tab T=some b->Bt X.K (.type T) cv=some b)(hC:∀C b,pC C=some b->XIs X.K C/\Bt X.K (.ref C) cv=some b)
  (hg:Gl X "isinstance") (hm:X.mg "isinstance" = none) (h:GE X E e m) (wM:PE X ce (tC c))
  (he:Aa [e,ce] X.env=(false,B4 e X.env) :: Aa [ce] X.env:=by rfl) (qq:Aa [ce] X.env=(false,B4 ce X.env) :: Aa [] X.env:=by rfl) (p0:(Dw pos (Aa [ce] X.env)).any (·.1)=false:=by rfl) :
  GE X E (.Call (.Name "isinstance" p) [e,ce] [] pos) (mIs tab pC m):=
 (JZ (fq hv) hg hm Mj (Ew h (Ew wM Hu qq) he) (by decide) (by decide) he p0).imp λσ H Q ⟨ρ,l,S,hl,hs,hm⟩=>by
 refine⟨ρ,l,S,hl,hs,hm.seq λd S1 hm ρ1 H1 x l1 s1 r1=>?_⟩
 have sQ:∀(z:Bw X.K (λc=>E c σ) ρ H (match tyD d S1 with | some T=>(match tab T with | some b=>Res.ok (D.bl b) S1 | none=>.bad) | none=>.bad) λd S'=>∀ρ' H' x,Le X.K ρ H ρ' H'->B2 X.K ρ' S' H'->Bo X.K ρ' H' d x->Q x H'),rIs X.K c cv [x,c] H1 Q:=λhm=>by
  cases hq:tyD d S1 with
  | none=>rw[hq]at hm;exact hm.elim
  | some T=>
   rw[hq]at hm;dsimp only at hm
   cases hb:tab T with
   | none=>rw[hb]at hm;exact hm.elim
   | some b=>
    rw[hb]at hm;exact .inl ⟨x,_,b,rfl,iX s1 r1 hq,ht T b hb,hm ρ1 H1 _ l1 s1 (.bl _)⟩
 cases d with
 | exc C=>
  dsimp only at hm
  cases hb:pC C with
  | none=>rw[hb]at hm;exact hm.elim
  | some b=>
   rw[hb]at hm
   cases r1 with
   | exc g x=>exact .inr ⟨_,_,_,C,b,rfl,g,x,(hC C b hb).1,(hC C b hb).2,hm ρ1 H1 _ l1 s1 (.bl _)⟩
 | _=>exact sQ hm
end
end L2
namespace Srt
open PySem PyProof.Rows
structure Ord(U:BM->Prop)(lt:BM->BM->Bool):Prop where
 asym:∀x y,U x->U y->lt x y=true->lt y x=false
 ntr:∀x y z,U x->U y->U z->lt y x=false->lt z y=false->lt z x=false
theorem Ord.irr(o:Ord U lt)(h:U x):lt x x=false:=by
 cases e:lt x x with
 | false=>rfl
 | true=>exact(o.asym x x h h e).symm.trans e |>.symm▸rfl
def ix(xs:Array BM)(i:Nat):BM:=xs.getD i (.none,.none)
theorem Jb(h:xs[i]?=ys[j]?):ix xs i=ix ys j:=by
 unfold ix;rw[E6,E6,h]
theorem DR(h:i < xs.size):xs[i]?=some (ix xs i):=by
 unfold ix;rw[E6,getElem?_pos xs i h];rfl
theorem YW(hs:src < xs.size)(hd:d<=src)(k:Nat) :
  ix (iC xs src d) k=if k=src - d then ix xs src else if src - d < k/\k<=src then ix xs (k - 1)else ix xs k:=by
 have e:=getElem?_bubble hs d hd k;split
 ·rename_i h;rw[qX h]at e;exact Jb e
 ·rename_i h
  rw[qY h]at e;split
  ·rename_i h2;rw[qX h2]at e;exact Jb e
  ·rename_i h2;rw[qY h2]at e;exact Jb e
theorem EG(hj:j<=xs.size)(k:Nat) :
  ix (Jo xs i j ((j - i) / 2)) k=if i<=k/\k < j then ix xs (i+j - 1 - k)else ix xs k:=by
 have e:=getElem?_mirror_all (i:=i) hj k;split
 ·rename_i h;rw[qX h]at e;exact Jb e
 ·rename_i h;rw[qY h]at e;exact Jb e
section
def KS(prog:Bp)(w:CF)(A:CB)(s:AQ)(a₀:Array BM)(κ:Na)(lt:BM->BM->Bool):Prop:=
 ∀x y,x∈a₀->y∈a₀->∀(Q:Bool->AQ->Prop) (E:AH->AQ->Prop),Q (lt x y) s->Aw (Ac prog w) A (keyLt' κ x.1 y.1) Q E s
structure Good(a₀:Array BM)(κ:Na)(st:BR):Prop where
 perm:(AX st).Perm a₀
 kind:kindOf st=κ
 failed:Ij st=none
theorem Good.size{st:BR}(g:Good a₀ κ st):(AX st).size=a₀.size:=g.perm.size_eq
theorem Good.mem{st:BR}(g:Good a₀ κ st){i:Nat}(h:i < a₀.size):ix (AX st) i∈a₀:=by
 have h':i < (AX st).size:=by rw[g.size];exact h
 have e:=DR h';have:=Cq e;exact BZ.mp ((FM.mp g.perm).mem_iff.mp (BZ.mpr this))
theorem Good.setArr{st:BR}(g:Good a₀ κ st){xs:Array BM}(hp:xs.Perm (AX st)):Good a₀ κ (setArr st xs):=⟨hp.trans g.perm,g.kind,g.failed⟩
theorem PH{st:BR}{x y:BM}{Q:Option Bool->BR->Prop}(C:KS prog w A s a₀ κ lt)(g:Good a₀ κ st)(hx:x∈a₀)(hy:y∈a₀)(h:Q (some (lt x y)) st):wpS (Ac prog w) A E s (lt' x y) Q st:=by
 rw[lt'_eq];refine AM (Hq ?_);rw[g.kind];refine AM (wpS_lift (Ih ?_));refine C x y hx hy _ _ ⟨rfl,?_⟩;exact AO h
theorem Ng{st:BR}{i j:Nat}{Q:Option Bool->BR->Prop}(C:KS prog w A s a₀ κ lt)(g:Good a₀ κ st)(hi:i < a₀.size)(hj:j < a₀.size)(h:Q (some (lt (ix (AX st) i) (ix (AX st) j))) st) :
  wpS (Ac prog w) A E s (kt i j) Q st:=by
 rw[ltAt'_eq];refine AM (Hq ?_);show wpS _ _ _ _ (do let x <-elem' (AX st) i;let y <-elem' (AX st) j;lt' x y) Q st;rw[cL,cL,DR (by rw[g.size];exact hi),DR (by rw[g.size];exact hj)];exact AM (AO (AM (AO (PH C g (g.mem hi) (g.mem hj) h))))
def Up(lt:BM->BM->Bool)(xs:Array BM)(lo hi:Nat):Prop:=∀i j,lo<=i->i<=j->j < hi->lt (ix xs j) (ix xs i)=false
def Dn(lt:BM->BM->Bool)(xs:Array BM)(lo hi:Nat):Prop:=∀i j,lo<=i->i<=j->j < hi->lt (ix xs i) (ix xs j)=false
def Out(xs ys:Array BM)(lo hi:Nat):Prop:=∀i,(i < lo∨hi<=i)->ix ys i=ix xs i
theorem Out.refl{xs:Array BM}{lo hi:Nat}:Out xs xs lo hi:=λ_ _=>rfl
theorem Out.trans{xs ys zs:Array BM}{lo hi:Nat}(a:Out xs ys lo hi)(b:Out ys zs lo hi):Out xs zs lo hi:=λi h=>(b i h).trans (a i h)
theorem Up.out{xs ys:Array BM}{lo hi l h:Nat}(u:Up lt xs l h)(o:Out xs ys lo hi)(d:h<=lo∨hi<=l):Up lt ys l h:=λi j h1 h2 h3=>by
 rw[o i (by lia),o j (by lia)];exact u i j h1 h2 h3
theorem Up.grow{st:BR}(O:Ord (·∈a₀) lt)(g:Good a₀ κ st){lo hi:Nat}(hs:hi < a₀.size)(u:Up lt (AX st) lo hi)(h0:lo < hi)(h:lt (ix (AX st) hi) (ix (AX st) (hi - 1))=false):Up lt (AX st) lo (hi+1):=λi j h1 h2 h3=>by
 by_cases hj:j < hi
 ·exact u i j h1 h2 hj
 ·have:j=hi:=by lia
  subst this
  by_cases sS:i=j
  ·subst sS;exact O.irr (g.mem hs)
  ·exact O.ntr _ _ _ (g.mem (by lia)) (g.mem (show j - 1 < _ by omega)) (g.mem hs) (u i (j - 1) h1 (by lia) (by lia)) h
theorem wpS_binarySort{st:BR}{lo n ok:Nat}{Q:Bool->BR->Prop}(C:KS prog w A s a₀ κ lt)(O:Ord (·∈a₀) lt)(hn:lo+n<=a₀.size)(hok:ok<=n)(g:Good a₀ κ st)(u:Up lt (AX st) lo (lo+ok))
  (h:∀st',Good a₀ κ st'->Up lt (AX st') lo (lo+n)->Out (AX st) (AX st') lo (lo+n)->AZ st'=AZ st->Q true st'):wpS (Ac prog w) A E s (binarySort' lo n ok) Q st:=by
 rw[binarySort'_eq]
 refine AM (DP (B9 (I:=λk c st'=>c=(none,())/\Good a₀ κ st'/\Up lt (AX st') lo (lo+min k n)/\Out (AX st) (AX st') lo (lo+n)/\AZ st'=AZ st)
  (Q:=λc st'=>c=(none,())/\Good a₀ κ st'/\Up lt (AX st') lo (lo+n)/\Out (AX st) (AX st') lo (lo+n)/\AZ st'=AZ st) ?step ?fin ?init) ?post)
 case post=>
  rintro c st' ⟨rfl,g',u',o',p'⟩;exact AO (h st' g' u' o' p')
 case init=>
  refine⟨rfl,g,λi j h1 h2 h3=>?_,.refl,rfl⟩
  by_cases h0:ok=0
  ·have:i=j:=by lia
   subst this;exact O.irr (g.mem (by omega))
  ·exact u i j h1 h2 (by lia)
 case fin=>
  rintro c st' ⟨hc,g',u',o',p'⟩;refine⟨hc,g',?_,o',p'⟩;rwa [show min (max (max ok 1) n) n=n by lia]at u'
 case step=>
  rintro k c oR hak hkn ⟨rfl,g1,u1,o1,p1⟩;rw[show min k n=k by lia]at u1
  have hk:lo+k < a₀.size:=by lia
  refine AM (DP (B9 (I:=λx c oj=>oj=oR/\∃l r,c=(none,l,r)/\l<=r/\r<=k/\r - l<=k - x /\
    (∀i,i < l->lt (ix (AX oR) (lo+k)) (ix (AX oR) (lo+i))=false)/\(∀i,r<=i->i < k->lt (ix (AX oR) (lo+k)) (ix (AX oR) (lo+i))=true))
   (Q:=λc oj=>oj=oR/\∃l r,c=(none,l,r)/\l<=k /\
    (∀i,i < l->lt (ix (AX oR) (lo+k)) (ix (AX oR) (lo+i))=false)/\(∀i,l<=i->i < k->lt (ix (AX oR) (lo+k)) (ix (AX oR) (lo+i))=true)) ?istep ?ifin ?iinit) ?ipost)
  case iinit=>exact⟨rfl,0,k,rfl,by lia,by lia,by lia,λi hi=>by lia,λi h1 h2=>by lia⟩
  case ifin=>
   rintro c oj ⟨rfl,l,r,rfl,hlr,hrk,hm,rh,sd⟩
   have:l=r:=by lia
   subst this;exact⟨rfl,l,l,rfl,hrk,rh,sd⟩
  case istep=>
   rintro x c oj _ hxk ⟨rfl,l,r,rfl,hlr,hrk,hm,rh,sd⟩;dsimp only
   by_cases pJ:l ≥ r
   ·rw[qX pJ]
    have:l=r:=by lia
    subst this;exact AO ⟨rfl,l,l,rfl,hrk,rh,sd⟩
   ·rw[qY pJ]
    refine AM (Ng C g1 hk (by lia) ?_)
    cases hless:lt (ix (AX oj) (lo+k)) (ix (AX oj) (lo+(l+r) / 2))with
    | true=>
     refine AO ⟨rfl,l,(l+r) / 2,rfl,by lia,by lia,by omega,rh,λi h1 h2=>?_⟩
     cases e:lt (ix (AX oj) (lo+k)) (ix (AX oj) (lo+i))with
     | true=>rfl
     | false=>
      have:=O.ntr _ _ _ (g1.mem (show lo+(l+r) / 2 < _ by lia)) (g1.mem (show lo+i < _ by lia)) (g1.mem hk) (u1 (lo+(l+r) / 2) (lo+i) (by lia) (by lia) (by lia)) e;rw[hless]at this;cases this
    | false=>
     refine AO ⟨rfl,(l+r) / 2+1,r,rfl,by lia,by omega,by omega,λi h1=>?_,sd⟩;exact O.ntr _ _ _ (g1.mem (show lo+i < _ by lia)) (g1.mem (show lo+(l+r) / 2 < _ by lia)) (g1.mem hk) (u1 (lo+i) (lo+(l+r) / 2) (by lia) (by lia) (by lia)) hless
  case ipost=>
   rintro c oj ⟨rfl,l,r,rfl,hlk,rh,sd⟩;show wpS _ _ _ _ (do moveDown' (lo+k) (lo+l);pure (Hh (none,()))) _ _;rw[moveDown'_eq]
   have hks:lo+k < (AX oj).size:=by rw[g1.size];exact hk
   have e:∀i,ix (iC (AX oj) (lo+k) (lo+k - (lo+l))) i=if i=lo+l then ix (AX oj) (lo+k)else if lo+l < i/\i<=lo+k then ix (AX oj) (i - 1)else ix (AX oj) i:=λi=>by
    rw[YW hks (by lia),show lo+k - (lo+k - (lo+l))=lo+l by lia]
   refine AM (De (AO ⟨rfl,g1.setArr (bubble_perm _ _ _),?_,o1.trans λi hi=>?_,p1⟩))
   ·rw[show min (k+1) n=k+1 by lia]
    intro i j h1 h2 h3;show lt (ix (iC (AX oj) (lo+k) (lo+k - (lo+l))) j) (ix (iC (AX oj) (lo+k) (lo+k - (lo+l))) i)=false;rw[e,e]
    repeat' split
    all_goals first
     | (exfalso;lia)
     | exact O.irr (g1.mem hk)
     | (have q:=rh (i - lo) (by lia);rw[show lo+(i - lo)=i by lia]at q;exact q)
     | (have q:=sd (j - 1 - lo) (by omega) (by omega);rw[show lo+(j - 1 - lo)=j - 1 by lia]at q;exact O.asym _ _ (g1.mem hk) (g1.mem (by lia)) q)
     | exact u1 _ _ (by omega) (by omega) (by lia)
   ·show ix (iC (AX oj) (lo+k) (lo+k - (lo+l))) i=ix (AX oj) i
    rw[e,qY (by lia),qY (by lia)]
end
section
theorem JR{σ:Type}{M:Model}{r:String}{Q:PUnit->σ->Prop}{st:σ}(h:Q ⟨⟩ st):wpS M A E s (liftM (rule r):StateT σ Sem PUnit) Q st:=wpS_lift (g8 ⟨rfl,h⟩)
theorem Dn.flip{xs:Array BM}{lo hi:Nat}(hs:hi<=xs.size)(d:Dn lt xs lo hi):Up lt (Jo xs lo hi ((hi - lo) / 2)) lo hi:=λi j h1 h2 h3=>by
 rw[EG hs,EG hs,qX (by lia),qX (by lia)];exact d _ _ (by omega) (by omega) (by omega)
theorem Dn.part{xs:Array BM}{lo hi m:Nat}(hs:hi<=xs.size)(hm:lo<=m)(hmh:m<=hi)(d:Dn lt xs lo hi)(e:Up lt xs m hi):Dn lt (Jo xs m hi ((hi - m) / 2)) lo hi:=λi j h1 h2 h3=>by
 rw[EG hs,EG hs]
 by_cases sS:m<=i
 ·rw[qX (by lia),qX (by lia)]
  exact e _ _ (by omega) (by omega) (by omega)
 ·rw[qY (by lia)]
  split
  ·exact d _ _ (by omega) (by lia) (by omega)
  ·exact d _ _ (by omega) (by omega) (by omega)
theorem Jz{xs:Array BM}{i j lo hi:Nat}(hj:j<=xs.size)(h1:lo<=i)(h2:j<=hi):Out xs (Jo xs i j ((j - i) / 2)) lo hi:=λk hk=>by
 rw[EG hj,qY (by lia)]
theorem Dn.grow{st:BR}(O:Ord (·∈a₀) lt)(g:Good a₀ κ st){lo hi:Nat}(hs:hi < a₀.size)(u:Dn lt (AX st) lo hi)(h0:lo < hi)(h:lt (ix (AX st) (hi - 1)) (ix (AX st) hi)=false):Dn lt (AX st) lo (hi+1):=λi j h1 h2 h3=>by
 by_cases hj:j < hi
 ·exact u i j h1 h2 hj
 ·have:j=hi:=by lia
  subst this
  by_cases sS:i=j
  ·subst sS;exact O.irr (g.mem hs)
  ·exact O.ntr _ _ _ (g.mem hs) (g.mem (show j - 1 < _ by omega)) (g.mem (by lia)) h (u i (j - 1) h1 (by lia) (by lia))
theorem VH(O:Ord (·∈a₀) lt){st:BR}(g:Good a₀ κ st){lo:Nat}(h:lo < a₀.size):Up lt (AX st) lo (lo+1):=λi j h1 h2 h3=>by
 have e1:i=lo:=by lia
 have e2:j=lo:=by lia
 rw[e1,e2];exact O.irr (g.mem h)
theorem cV{st:BR}{lo ou n:Nat}{Q:Option Nat->BR->Prop}(C:KS prog w A s a₀ κ lt)(O:Ord (·∈a₀) lt)(h1:1<=n)(h2:n<=ou)(hn:lo+ou<=a₀.size)(g:Good a₀ κ st)(u:Up lt (AX st) lo (lo+n))
  (h:∀n,1<=n->n<=ou->Up lt (AX st) lo (lo+n)->Q (some n) st):wpS (Ac prog w) A E s (do
   let mut n:=n
   for _ in [n:ou] do
    let some oU <-kt (lo+n) (lo+n - 1) | return none
    if oU then break
    n:=n+1
   return some n) Q st:=by
 refine AM (DP (B9 (I:=λx c st'=>st'=st/\c=(none,x)/\Up lt (AX st) lo (lo+x))
  (Q:=λc st'=>st'=st/\∃n,c=(none,n)/\1<=n/\n<=ou/\Up lt (AX st) lo (lo+n)) ?step ?fin ⟨rfl,rfl,u⟩) ?post)
 case fin=>
  rintro c st' ⟨rfl,rfl,u⟩
  have e:max n ou=ou:=by lia
  rw[e]at u ⊢;exact⟨rfl,ou,rfl,by lia,AN _,u⟩
 case step=>
  rintro x c st' wO Ϛ ⟨rfl,rfl,u⟩;dsimp only;refine AM (Ng C g (by lia) (by lia) ?_)
  cases hq:lt (ix (AX st') (lo+x)) (ix (AX st') (lo+x - 1))with
  | true=>exact AO ⟨rfl,x,rfl,by lia,by lia,u⟩
  | false=>exact AO ⟨rfl,rfl,Up.grow (hi:=lo+x) O g (by lia) u (by lia) hq⟩
 case post=>
  rintro c st' ⟨rfl,n,rfl,hn1,ph,u⟩;exact AO (h n hn1 ph u)
theorem wpS_countRun{st}{lo ou}{Q}(C:KS prog w A s a₀ κ lt)(O:Ord (·∈a₀) lt)(h1:1<=ou)(hn:lo+ou<=a₀.size)(g:Good a₀ κ st)
  (h:∀st' n,Good a₀ κ st'->1<=n->n<=ou->Up lt (AX st') lo (lo+n)->Out (AX st) (AX st') lo (lo+ou)->AZ st'=AZ st->Q (some n) st'):wpS (Ac prog w) A E s (countRun' lo ou) Q st:=by
 rw[countRun'_eq]
 refine AM (DP (B9 (I:=λx c st'=>st'=st/\c=(none,x)/\Up lt (AX st) lo (lo+x))
  (Q:=λc st'=>st'=st/\∃n,c=(none,n)/\1<=n/\n<=ou/\Up lt (AX st) lo (lo+n)/\(n=ou∨lt (ix (AX st) (lo+n)) (ix (AX st) (lo+n - 1))=true)) ?step ?fin ?init) ?post)
 case init=>
  refine⟨rfl,rfl,λi j a1 a2 a3=>?_⟩
  have:i=j:=by lia
  subst this;exact O.irr (g.mem (by lia))
 case fin=>
  rintro c st' ⟨rfl,rfl,u⟩
  have e:max 1 ou=ou:=by lia
  rw[e]at u ⊢;exact⟨rfl,ou,rfl,h1,AN _,u,.inl rfl⟩
 case step=>
  rintro x c st' wO Ϛ ⟨rfl,rfl,u⟩;dsimp only;refine AM (Ng C g (by lia) (by lia) ?_)
  cases hq:lt (ix (AX st') (lo+x)) (ix (AX st') (lo+x - 1))with
  | true=>exact AO ⟨rfl,x,rfl,wO,by lia,u,.inr hq⟩
  | false=>exact AO ⟨rfl,rfl,Up.grow (hi:=lo+x) O g (by lia) u (by lia) hq⟩
 case post=>
  rintro c st' ⟨rfl,n,rfl,hn1,ph,u,hd⟩;dsimp only
  by_cases hnn:n=ou
  ·rw[qX (by simpa using hnn)]
   exact AO (h st' n g hn1 ph u .refl rfl)
  ·rw[qY (by simpa using hnn)]
   have pd:=hd.resolve_left hnn
   have desc:∀(oR:BR),Good a₀ κ oR->Dn lt (AX oR) lo (lo+(n+1))->Out (AX st') (AX oR) lo (lo+ou)->AZ oR=AZ st' ->
     wpS (Ac prog w) A E s (do
      liftM (rule "list.sort.descending-run")
      let mut n:=n+1
      let mut neq:=0
      for _ in [n:ou] do
       let some oU <-kt (lo+n) (lo+n - 1) | return none
       if oU then
        if neq > 0 then Ol (lo+n - (neq+1)) (lo+n)
        neq:=0
       else
        let some sT <-kt (lo+n - 1) (lo+n) | return none
        if sT then break
        neq:=neq+1
       n:=n+1
      if neq > 0 then Ol (lo+n - (neq+1)) (lo+n)
      Ol lo (lo+n)
      for _ in [n:ou] do
       let some oU <-kt (lo+n) (lo+n - 1) | return none
       if oU then break
       n:=n+1
      return some n) Q oR:=by
    intro oR g1 d1 o1 p1;refine AM (JR ?_)
    refine AM (DP (B9 (I:=λx c oj=>Good a₀ κ oj/\∃q,c=(none,x,q)/\q+1<=x/\Dn lt (AX oj) lo (lo+x)/\Up lt (AX oj) (lo+x - (q+1)) (lo+x)/\Out (AX st') (AX oj) lo (lo+ou)/\AZ oj=AZ st')
     (Q:=λc oj=>Good a₀ κ oj/\∃n q,c=(none,n,q)/\n<=ou/\q+1<=n/\Dn lt (AX oj) lo (lo+n)/\Up lt (AX oj) (lo+n - (q+1)) (lo+n)/\Out (AX st') (AX oj) lo (lo+ou)/\AZ oj=AZ st') ?dstep ?dfin ?dinit) ?dpost)
    case dinit=>
     refine⟨g1,0,rfl,by lia,d1,?_,o1,p1⟩;have:=VH O g1 (lo:=lo+n) (by lia);rwa [show lo+(n+1) - (0+1)=lo+n by lia,show lo+(n+1)=lo+n+1 by lia]
    case dfin=>
     rintro c oj ⟨g2,q,rfl,hq,d2,u2,o2,p2⟩
     have e:max (n+1) ou=ou:=by lia
     rw[e]at d2 u2 hq ⊢;exact⟨g2,ou,q,rfl,AN _,hq,d2,u2,o2,p2⟩
    case dstep=>
     rintro x c oj wO Ϛ ⟨g2,q,rfl,hq,d2,u2,o2,p2⟩;dsimp only;refine AM (Ng C g2 (by lia) (by lia) ?_)
     cases hs:lt (ix (AX oj) (lo+x)) (ix (AX oj) (lo+x - 1))with
     | true=>
      dsimp only;rw[qX rfl];have oM:=O.asym _ _ (g2.mem (show lo+x < _ by lia)) (g2.mem (show lo+x - 1 < _ by lia)) hs
      by_cases sU:q > 0
      ·rw[qX sU,LW]
       have hsz:lo+x<=(AX oj).size:=by rw[g2.size];lia
       have g3:Good a₀ κ (setArr oj (Jo (AX oj) (lo+x - (q+1)) (lo+x) ((lo+x - (lo+x - (q+1))) / 2))):=g2.setArr (S7 _ _ _ _);have d3:=Dn.part (lt:=lt) (lo:=lo) hsz (show lo<=lo+x - (q+1) by lia) (by omega) d2 u2;refine AM (De (AO ⟨g3,0,rfl,by lia,?_,?_,o2.trans (Jz hsz (by lia) (by lia)),p2⟩))
       ·refine Dn.grow (hi:=lo+x) O g3 (by lia) d3 (by lia) ?_
        show lt (ix (Jo (AX oj) (lo+x - (q+1)) (lo+x) ((lo+x - (lo+x - (q+1))) / 2)) (lo+x - 1)) (ix (Jo (AX oj) (lo+x - (q+1)) (lo+x) ((lo+x - (lo+x - (q+1))) / 2)) (lo+x))=false;rw[EG hsz,EG hsz,qX (by omega),qY (by lia)];exact O.ntr _ _ _ (g2.mem (by lia)) (g2.mem (show lo+x - 1 < _ by lia)) (g2.mem (by omega)) oM (d2 _ _ (by lia) (by omega) (by lia))
       ·have:=VH O g3 (lo:=lo+x) (by lia)
        rwa [show lo+(x+1) - (0+1)=lo+x by lia,show lo+(x+1)=lo+x+1 by lia]
      ·rw[qY sU]
       refine AO ⟨g2,0,rfl,by lia,Dn.grow (hi:=lo+x) O g2 (by lia) d2 (by lia) oM,?_,o2,p2⟩;have:=VH O g2 (lo:=lo+x) (by lia);rwa [show lo+(x+1) - (0+1)=lo+x by lia,show lo+(x+1)=lo+x+1 by lia]
     | false=>
      dsimp only;rw[qY AL];refine AM (Ng C g2 (by lia) (by lia) ?_)
      cases hl:lt (ix (AX oj) (lo+x - 1)) (ix (AX oj) (lo+x))with
      | true=>exact AO ⟨g2,x,q,rfl,by lia,hq,d2,u2,o2,p2⟩
      | false=>
       refine AO ⟨g2,q+1,rfl,by lia,Dn.grow (hi:=lo+x) O g2 (by lia) d2 (by lia) hl,?_,o2,p2⟩;rw[show lo+(x+1) - (q+1+1)=lo+x - (q+1) by lia];exact Up.grow (hi:=lo+x) O g2 (by lia) u2 (by omega) hs
    case dpost=>
     rintro c oj ⟨g2,m,q,rfl,hm,hq,d2,u2,o2,p2⟩;dsimp only
     have hsz:lo+m<=(AX oj).size:=by rw[g2.size];lia
     have last:∀pT,Good a₀ κ pT->Dn lt (AX pT) lo (lo+m)->Out (AX st') (AX pT) lo (lo+ou)->AZ pT=AZ st'->∀(R:StateT BR Sem (Option Nat)),R=(do
        let mut n:=m
        for _ in [n:ou] do
         let some oU <-kt (lo+n) (lo+n - 1) | return none
         if oU then break
         n:=n+1
        return some n)->wpS (Ac prog w) A E s (do Ol lo (lo+m);R) Q pT:=by
      rintro pT g3 d3 o3 p3 R rfl
      have uc:lo+m<=(AX pT).size:=by rw[g3.size];lia
      rw[LW];refine AM (De ?_);have g4:Good a₀ κ (setArr pT (Jo (AX pT) lo (lo+m) ((lo+m - lo) / 2))):=g3.setArr (S7 _ _ _ _)
      exact cV C O (by lia) hm hn g4 (Dn.flip uc d3) λk k1 k2 k3=>h _ k g4 k1 k2 k3 (o3.trans (Jz uc (by lia) (by lia))) p3
     by_cases sU:q > 0
     ·rw[qX sU,LW]
      refine AM (De ?_);exact last _ (g2.setArr (S7 _ _ _ _)) (Dn.part hsz (by lia) (by omega) d2 u2) (o2.trans (Jz hsz (by lia) (by lia))) p2 _ rfl
     ·rw[qY sU]
      exact last _ g2 d2 o2 p2 _ rfl
   have oM:=O.asym _ _ (g.mem (show lo+n < _ by lia)) (g.mem (show lo+n - 1 < _ by omega)) pd
   by_cases tE:n > 1
   ·rw[qX tE]
    refine AM (Ng C g (by lia) (by omega) ?_)
    cases hr:lt (ix (AX st') lo) (ix (AX st') (lo+n - 1))with
    | true=>exact AO (h st' n g hn1 ph u .refl rfl)
    | false=>
     dsimp only;rw[qY AL,LW]
     have hsz:lo+n<=(AX st').size:=by rw[g.size];lia
     have g1:Good a₀ κ (setArr st' (Jo (AX st') lo (lo+n) ((lo+n - lo) / 2))):=g.setArr (S7 _ _ _ _)
     have al:∀i j,lo<=i->i < lo+n->lo<=j->j < lo+n->lt (ix (AX st') i) (ix (AX st') j)=false:=λi j i1 i2 j1 j2=>by
      have q1:=u j (lo+n - 1) (by omega) (by lia) (by omega);have q2:=u lo i (by lia) (by omega) (by omega);exact O.ntr _ _ _ (g.mem (by lia)) (g.mem (show lo < _ by lia)) (g.mem (by lia)) (O.ntr _ _ _ (g.mem (by lia)) (g.mem (show lo+n - 1 < _ by lia)) (g.mem (by lia)) q1 hr) q2
     refine AM (De ?_);refine desc _ g1 ?_ (Jz hsz (by lia) (by lia)) rfl;refine Dn.grow (hi:=lo+n) O g1 (by lia) (λi j a1 a2 a3=>?_) (by lia) ?_
     ·show lt (ix (Jo (AX st') lo (lo+n) ((lo+n - lo) / 2)) i) (ix (Jo (AX st') lo (lo+n) ((lo+n - lo) / 2)) j)=false
      rw[EG hsz,EG hsz,qX (by lia),qX (by lia)];exact al _ _ (by omega) (by omega) (by omega) (by omega)
     ·show lt (ix (Jo (AX st') lo (lo+n) ((lo+n - lo) / 2)) (lo+n - 1)) (ix (Jo (AX st') lo (lo+n) ((lo+n - lo) / 2)) (lo+n))=false
      rw[EG hsz,EG hsz,qX (by omega),qY (by lia),show lo+(lo+n) - 1 - (lo+n - 1)=lo by omega];exact O.ntr _ _ _ (g.mem (by lia)) (g.mem (show lo+n - 1 < _ by lia)) (g.mem (by lia)) oM hr
   ·rw[qY tE]
    have e:n=1:=by lia
    subst e;refine desc _ g (Dn.grow (hi:=lo+1) O g (by lia) (λi j a1 a2 a3=>?_) (by lia) oM) .refl rfl
    have e1:i=lo:=by lia
    have e2:j=lo:=by lia
    rw[e1,e2];exact O.irr (g.mem (by lia))
end
def nJ:Bool->BM->Array BM->Nat->Nat->Nat->StateT BR Sem (Option Nat):=sortPriv% PySem.Builtin.gallop
section
abbrev BS:=Option (Option Nat)×Nat×Nat
theorem fu{st:BR}{p:Nat->Bool}{n lo hi:Nat}{F:Nat->BS->StateT BR Sem (ForInStep BS)}{T:BS->StateT BR Sem (Option Nat)}{Q:Option Nat->BR->Prop}(hlh:lo<=hi)(hhn:hi<=n)
  (rh:∀i,i < lo->p i=true) (sd:∀i,hi<=i->i < n->p i=false) (mono:∀i j,i<=j->j < n->p j=true->p i=true)
  (hF:∀x l h (R:ForInStep BS->BR->Prop),l<=h->h<=n->(l ≥ h->R (.done (none,l,h)) st)->(l < h->p (l+(h - l) / 2)=true->R (.yield (none,l+(h - l) / 2+1,h)) st)->(l < h->p (l+(h - l) / 2)=false->R (.yield (none,l,l+(h - l) / 2)) st) ->
   wpS (Ac prog w) A E s (F x (none,l,h)) R st)
  (hT:∀l h,h<=n->(∀i,i < h->p i=true)->(∀i,h<=i->i < n->p i=false)->wpS (Ac prog w) A E s (T (none,l,h)) Q st):wpS (Ac prog w) A E s (forIn [0:n] (none,lo,hi) F >>= T) Q st:=by
 refine AM (DP (B9 (I:=λx c st'=>st'=st/\∃l h,c=(none,l,h)/\l<=h/\h<=n/\h - l<=n - x/\(∀i,i < l->p i=true)/\(∀i,h<=i->i < n->p i=false))
  (Q:=λc st'=>st'=st/\∃l h,c=(none,l,h)/\h<=n/\(∀i,i < h->p i=true)/\(∀i,h<=i->i < n->p i=false)) ?step ?fin ⟨rfl,lo,hi,rfl,hlh,hhn,by lia,rh,sd⟩) ?post)
 case fin=>
  rintro c st' ⟨rfl,l,h,rfl,h1,h2,h3,h4,h5⟩
  have:l=h:=by lia
  subst this;exact⟨rfl,l,l,rfl,h2,h4,h5⟩
 case step=>
  rintro x c st' _ hx ⟨rfl,l,h,rfl,h1,h2,h3,h4,h5⟩
  refine hF x l h _ h1 h2 (λpJ=>?_) (λoM hp=>?_) λoM hp=>?_
  ·have:l=h:=by lia
   subst this;exact⟨rfl,l,l,rfl,h2,h4,h5⟩
  ·exact⟨rfl,_,_,rfl,by lia,h2,by omega,λi hi=>mono i (l+(h - l) / 2) (by lia) (by lia) hp,h5⟩
  ·refine⟨rfl,_,_,rfl,by lia,by lia,by omega,h4,λi qw vp=>?_⟩
   cases e:p i with
   | false=>rfl
   | true=>rw[mono _ i qw vp e]at hp;cases hp
 case post=>
  rintro c st' ⟨rfl,l,h,rfl,h2,h4,h5⟩;exact hT l h h2 h4 h5
theorem W7{st:BR}{q:Nat->Bool}{n mx:Nat}{F:Nat->BS->StateT BR Sem (ForInStep BS)}{T:BS->StateT BR Sem (Option Nat)}{Q:Option Nat->BR->Prop}(hm:mx<=n)(q0:q 0=true)
  (hF:∀x a b (R:ForInStep BS->BR->Prop),a < b->(b ≥ mx->R (.done (none,a,b)) st)->(b < mx->q b=false->R (.done (none,a,b)) st)->(b < mx->q b=true->R (.yield (none,b,2 * b+1)) st)->wpS (Ac prog w) A E s (F x (none,a,b)) R st)
  (hT:∀a b,a < b->q a=true->(a=0∨a < mx)->(b < mx->q b=false)->wpS (Ac prog w) A E s (T (none,a,b)) Q st):wpS (Ac prog w) A E s (forIn [0:n] (none,0,1) F >>= T) Q st:=by
 refine AM (DP (B9 (I:=λx c st'=>st'=st/\∃a b,c=(none,a,b)/\a < b/\x+1<=b/\q a=true/\(a=0∨a < mx))
  (Q:=λc st'=>st'=st/\∃a b,c=(none,a,b)/\a < b/\q a=true/\(a=0∨a < mx)/\(b < mx->q b=false)) ?step ?fin ⟨rfl,0,1,rfl,by lia,by lia,q0,.inl rfl⟩) ?post)
 case fin=>
  rintro c st' ⟨rfl,a,b,rfl,h1,h2,h3,h4⟩;exact⟨rfl,a,b,rfl,h1,h3,h4,λh=>by lia⟩
 case step=>
  rintro x c st' _ hx ⟨rfl,a,b,rfl,h1,h2,h3,h4⟩
  refine hF x a b _ h1 (λpJ=>?_) (λoM hp=>?_) λoM hp=>?_
  ·exact⟨rfl,a,b,rfl,h1,h3,h4,λh=>by lia⟩
  ·exact⟨rfl,a,b,rfl,h1,h3,h4,λ_=>hp⟩
  ·exact⟨rfl,b,2 * b+1,rfl,by lia,by lia,hp,.inr oM⟩
 case post=>
  rintro c st' ⟨rfl,a,b,rfl,h1,h3,h4,h5⟩;exact hT a b h1 h3 h4 h5
theorem FD{st:BR}{left:Bool}{key:BM}{arr:Array BM}{base n hint:Nat}{Q:Option Nat->BR->Prop}(C:KS prog w A s a₀ κ lt)(g:Good a₀ κ st)(p:Nat->Bool)
  (rg:key∈a₀) (wQ:∀i,i < n->base+i < arr.size/\ix arr (base+i)∈a₀) (hp:∀i,i < n->p i=if left=true then lt (ix arr (base+i)) key else !lt key (ix arr (base+i)))
  (mono:∀i j,i<=j->j < n->p j=true->p i=true) (hh:hint < n)
  (h:∀k,k<=n->(∀i,i < k->p i=true)->(∀i,k<=i->i < n->p i=false)->Q (some k) st):wpS (Ac prog w) A E s (nJ left key arr base n hint) Q st:=by
 have ud:∀i,i < n->∀R:Option Bool->BR->Prop,R (some (p i)) st->wpS (Ac prog w) A E s (do let x <-elem' arr (base+i);if left=true then lt' x key else do let y <-lt' key x;pure (y.map (!·))) R st:=by
  intro i hi R hR;obtain⟨h1,h2⟩:=wQ i hi;rw[cL,DR h1];refine AM (AO ?_);rw[hp i hi]at hR
  cases left with
  | true=>exact PH C g h2 rg hR
  | false=>exact AM (PH C g rg h2 (AO hR))
 refine(AM ?_:wpS _ _ _ _ (nJ left key arr base n hint) Q st);refine ud hint hh _ ?_
 have fin:∀(lo hi:Nat) {F:Nat->BS->StateT BR Sem (ForInStep BS)} {T:BS->StateT BR Sem (Option Nat)},lo<=hi->hi<=n->(∀i,i < lo->p i=true)->(∀i,hi<=i->i < n->p i=false) ->
   (∀x l h' (R:ForInStep BS->BR->Prop),l<=h'->h'<=n->(l ≥ h'->R (.done (none,l,h')) st)->(l < h'->p (l+(h' - l) / 2)=true->R (.yield (none,l+(h' - l) / 2+1,h')) st)->(l < h'->p (l+(h' - l) / 2)=false->R (.yield (none,l,l+(h' - l) / 2)) st) ->
    wpS (Ac prog w) A E s (F x (none,l,h')) R st)->(∀l h',T (none,l,h')=pure (some h'))->wpS (Ac prog w) A E s (forIn [0:n] (none,lo,hi) F >>= T) Q st:=λlo hi F T h1 h2 h3 h4 hF hT=>
  fu h1 h2 h3 h4 mono hF λl h' q1 q2 q3=>by rw[hT];exact AO (h h' q1 q2 q3)
 cases hq:p hint with
 | true=>
  dsimp only;rw[qX rfl]
  refine W7 (q:=λi=>decide (hint+i < n)&&p (hint+i)) (mx:=n - hint) (by lia) (by simp[hq,hh]) (λx a b R rq r1 r2 r3=>?_) λa b rq qa ha hb=>?_
  ·dsimp only
   by_cases pJ:b ≥ n - hint
   ·rw[qX pJ];exact AO (r1 pJ)
   ·rw[qY pJ]
    refine AM (ud (hint+b) (by lia) _ ?_);have hd:decide (hint+b < n)=true:=wX (by lia)
    cases e:p (hint+b)with
    | true=>exact AO (r3 (by lia) (by simp[hd,e]))
    | false=>exact AO (r2 (by lia) (by simp[hd,e]))
  ·dsimp only
   have pa:p (hint+a)=true:=by simp at qa;exact qa.2
   have ϛ:hint+a < n:=by simp at qa;exact qa.1
   refine fin (hint+a+1) (hint+min b (n - hint)) (by omega) (by omega) (λi hi=>mono i (hint+a) (by lia) ϛ pa) (λi h1 h2=>?_) (λx l h' R l1 l2 r1 r2 r3=>?_) λl h'=>rfl
   ·by_cases hbm:b < n - hint
    ·have:=hb hbm
     have hd:decide (hint+b < n)=true:=wX (by lia);rw[hd,iG]at this
     cases e:p i with
     | false=>rfl
     | true=>rw[mono (hint+b) i (by lia) h2 e]at this;cases this
    ·omega
   ·dsimp only
    by_cases pJ:l ≥ h'
    ·rw[qX pJ];exact AO (r1 pJ)
    ·rw[qY pJ]
     refine AM (ud (l+(h' - l) / 2) (by lia) _ ?_)
     cases e:p (l+(h' - l) / 2)with
     | true=>exact AO (r2 (by lia) e)
     | false=>exact AO (r3 (by lia) e)
 | false=>
  dsimp only;rw[qY AL]
  refine W7 (q:=λi=>decide (i<=hint)&&!p (hint - i)) (mx:=hint+1) (by lia) (by simp[hq]) (λx a b R rq r1 r2 r3=>?_) λa b rq qa ha hb=>?_
  ·dsimp only
   by_cases pJ:b ≥ hint+1
   ·rw[qX pJ];exact AO (r1 pJ)
   ·rw[qY pJ]
    refine AM (ud (hint - b) (by omega) _ ?_);have hd:decide (b<=hint)=true:=wX (by lia)
    cases e:p (hint - b)with
    | true=>exact AO (r2 (by lia) (by simp[hd,e]))
    | false=>exact AO (r3 (by lia) (by simp[hd,e]))
  ·dsimp only
   have pa:p (hint - a)=false:=by simp at qa;exact qa.2
   have ϛ:a<=hint:=by simp at qa;exact qa.1
   refine fin (hint+1 - min b (hint+1)) (hint - a) (by omega) (by omega) (λi hi=>?_) (λi h1 h2=>?_) (λx l h' R l1 l2 r1 r2 r3=>?_) λl h'=>rfl
   ·by_cases hbm:b < hint+1
    ·have:=hb hbm
     have hd:decide (b<=hint)=true:=wX (by lia);rw[hd,iG]at this;exact mono i (hint - b) (by omega) (by lia) (by simpa using this)
    ·omega
   ·cases e:p i with
    | false=>rfl
    | true=>rw[mono (hint - a) i h1 h2 e]at pa;cases pa
   ·dsimp only
    by_cases pJ:l ≥ h'
    ·rw[qX pJ];exact AO (r1 pJ)
    ·rw[qY pJ]
     refine AM (ud (l+(h' - l) / 2) (by lia) _ ?_)
     cases e:p (l+(h' - l) / 2)with
     | true=>exact AO (r2 (by lia) e)
     | false=>exact AO (r3 (by lia) e)
end
structure MI(R:BM->BM->Prop)(T o ra rb:List BM):Prop where
 perm:(o++(ra++rb)).Perm T
 srt:o.Pairwise R
 low:∀x∈o,∀y∈ra++rb,R x y
 sa:ra.Pairwise R
 sb:rb.Pairwise R
structure II(R:BM->BM->Prop)(T r:List BM):Prop where
 perm:r.Perm T
 srt:r.Pairwise R
section
theorem MI.takeA(m:MI R T o (xs++ra) rb)(h:∀x∈xs,∀y∈rb,R x y):MI R T (o++xs) ra rb:=by
 have sa:=Ba.mp m.sa;refine⟨by simpa[BC]using m.perm,Ba.mpr ⟨m.srt,sa.1,λx hx y hy=>m.low x hx y (by simp[hy])⟩,λx hx y hy=>?_,sa.2.1,m.sb⟩
 rcases Af.mp hx with hx | hx
 ·exact m.low x hx y (by rcases Af.mp hy with h | h <;> simp[h])
 ·rcases Af.mp hy with hy | hy
  ·exact sa.2.2 x hx y hy
  ·exact h x hx y hy
theorem MI.takeB(m:MI R T o ra (xs++rb))(h:∀x∈xs,∀y∈ra,R x y):MI R T (o++xs) ra rb:=by
 have sb:=Ba.mp m.sb;refine⟨?_,Ba.mpr ⟨m.srt,sb.1,λx hx y hy=>m.low x hx y (by simp[hy])⟩,λx hx y hy=>?_,m.sa,sb.2.1⟩
 ·refine List.Perm.trans ?_ m.perm
  rw[BC];refine Jq o ?_;rw[<-BC,<-BC];exact Qh rb U3
 ·rcases Af.mp hx with hx | hx
  ·exact m.low x hx y (by rcases Af.mp hy with h | h <;> simp[h])
  ·rcases Af.mp hy with hy | hy
   ·exact h x hx y hy
   ·exact sb.2.2 x hx y hy
theorem MI.endA(m:MI R T o ra []):II R T (o++ra):=by
 refine⟨by simpa using m.perm,Ba.mpr ⟨m.srt,m.sa,λx hx y hy=>m.low x hx y (by simp[hy])⟩⟩
theorem MI.endB(m:MI R T o [] rb):II R T (o++rb):=by
 refine⟨by simpa using m.perm,Ba.mpr ⟨m.srt,m.sb,λx hx y hy=>m.low x hx y (by simp[hy])⟩⟩
theorem MI.last(m:MI R T o ra rb)(h:∀y∈rb,∀x∈ra,R y x):II R T (o++(rb++ra)):=by
 refine⟨(Jq o U3).trans m.perm,Ba.mpr ⟨m.srt,Ba.mpr ⟨m.sb,m.sa,h⟩,λx hx y hy=>m.low x hx y (by rcases Af.mp hy with h | h <;> simp[h])⟩⟩
end
theorem O0(h:i < a.size):a.toList.drop i=ix a i :: a.toList.drop (i+1):=by
 rw[Fh (by simpa using h)]
 congr 1
 have:=DR h;rw[getElem?_pos a i h]at this;simpa using this
theorem IX{a:Array BM}{i k:Nat}(h:i+k<=a.size):a.toList.drop i=(a.extract i (i+k)).toList++a.toList.drop (i+k):=by
 have e:(a.extract i (i+k)).toList=(a.toList.drop i).take k:=by simp[OF]
 rw[e,<-Q3,E4]
theorem Ou(h:i+k<=a.size)(hx:x∈(a.extract i (i+k)).toList):∃j,j < k/\x=ix a (i+j):=by
 rw[BZ,Op]at hx;obtain⟨j,hj,rfl⟩:=hx;refine⟨j,by lia,?_⟩;have:=DR (xs:=a) (i:=i+j) (by lia);rw[getElem?_pos a _ (by lia)]at this;simpa using this
theorem KG(a:Array BM)(i:Nat):(a.extract i a.size).toList=a.toList.drop i:=by
 simp[OF];exact Ea (by simp)
theorem GV(hx:x∈a.toList.drop i):∃j,i<=j/\j < a.size/\x=ix a j:=by
 obtain⟨k,hk,rfl⟩:=WL.mp hx;simp at hk;refine⟨i+k,by lia,by omega,?_⟩;have:=DR (xs:=a) (i:=i+k) (by omega);rw[getElem?_pos a _ (by omega)]at this;simpa using this
section
variable{prog:Bp}{w:CF}{A:CB}{E:AH->AQ->Prop}{s:AQ}{a₀:Array BM}{κ:Na}{lt:BM->BM->Bool}
theorem Bm{st:BR}{a:Array BM}{i:Nat}{Q:BM->BR->Prop}(h:i < a.size)(hq:Q (ix a i) st):wpS (Ac prog w) A E s (elem' a i) Q st:=by
 rw[cL,DR h];exact AO hq
def mLo:Array BM->Array BM->StateT BR Sem (Array BM):=sortPriv% PySem.Builtin.mergeLo
def mHi:Array BM->Array BM->StateT BR Sem (Array BM):=sortPriv% PySem.Builtin.mergeHi
structure KY(a₀:Array BM)(κ:Na)(st st':BR):Prop where
 good:Good a₀ κ st'
 arr:AX st'=AX st
 pend:AZ st'=AZ st
theorem KY.gal{st st':BR}(h:KY a₀ κ st st')(n:Nat):KY a₀ κ st (HS (kindOf st') (AX st') (AZ st') n (Ij st')):=⟨⟨h.good.perm,h.good.kind,h.good.failed⟩,h.arr,h.pend⟩
abbrev Rl(lt:BM->BM->Bool)(x y:BM):Prop:=lt y x=false
theorem Tc(O:Ord (·∈a₀) lt){a:Array BM}(ma:∀i,i < a.size->ix a i∈a₀)(sa:a.toList.Pairwise (Rl lt)):∀i j,i<=j->j < a.size->Rl lt (ix a i) (ix a j):=λi j se hj=>by
 by_cases e:i=j
 ·subst e;exact O.irr (ma i hj)
 ·have hd:=O0 (a:=a) (i:=i) (by lia)
  have:=sa.sublist (List.drop_sublist i a.toList);rw[hd]at this;refine(Y4.mp this).1 _ ?_;rw[show a.toList.drop (i+1)=(a.extract (i+1) (i+1+(j - (i+1)))).toList++a.toList.drop (i+1+(j - (i+1)))from IX (by lia),show i+1+(j - (i+1))=j by lia,O0 hj];simp
theorem SR(ma:∀x∈a.toList,x∈a₀):∀i,i < a.size->ix a i∈a₀:=λi hi=>ma _ (BZ.mpr (Cq (DR hi)))
theorem Oq{st:BR}{n:Nat}{Q:Unit->BR->Prop}(h:Q () (HS (kindOf st) (AX st) (AZ st) n (Ij st))):wpS (Ac prog w) A E s ((sortPriv% PySem.Builtin.setMinGallop) n) Q st:=De h
abbrev L7:=Option (Array BM)×Array BM×Nat×Nat×Nat×Nat×Nat
theorem cT{st:BR}{a b:Array BM}{Q:Array BM->BR->Prop}(C:KS prog w A s a₀ κ lt)(O:Ord (·∈a₀) lt)(g:Good a₀ κ st)
  (ma:∀x∈a.toList,x∈a₀) (mb:∀x∈b.toList,x∈a₀) (sa:a.toList.Pairwise (Rl lt)) (sb:b.toList.Pairwise (Rl lt)) (na:0 < a.size) (nb:0 < b.size)
  (h0:∀x∈a.toList,Rl lt (ix b 0) x) (h1:∀y∈b.toList,Rl lt y (ix a (a.size - 1)))
  (h:∀r st',KY a₀ κ st st'->II (Rl lt) (a.toList++b.toList) r.toList->Q r st'):wpS (Ac prog w) A E s (mLo a b) Q st:=by
 have oP:=SR ma;have oQ:=SR mb;have ua:=Tc O oP sa;have ub:=Tc O oQ sb
 have tr:∀x y z:BM,x∈a₀->y∈a₀->z∈a₀->Rl lt x y->Rl lt y z->Rl lt x z:=λx y z hx hy hz h1 h2=>O.ntr x y z hx hy hz h1 h2
 let M (out:Array BM) (ia ib:Nat):Prop:=MI (Rl lt) (a.toList++b.toList) out.toList (a.toList.drop ia) (b.toList.drop ib)
 have tA:∀out ia ib,M out ia ib->ia < a.size->(∀j,ib<=j->j < b.size->Rl lt (ix a ia) (ix b j))->M (out.push (ix a ia)) (ia+1) ib:=λout ia ib m hia hr=>by
  have m':MI (Rl lt) (a.toList++b.toList) out.toList ([ix a ia]++a.toList.drop (ia+1)) (b.toList.drop ib):=by rw[Hg,<-O0 hia];exact m
  have:=m'.takeA λx hx y hy=>by
   obtain⟨j,j1,j2,rfl⟩:=GV hy;rw[AJ.mp hx];exact hr j j1 j2
  simpa[M]using this
 have tB:∀out ia ib,M out ia ib->ib < b.size->(∀j,ia<=j->j < a.size->Rl lt (ix b ib) (ix a j))->M (out.push (ix b ib)) ia (ib+1):=λout ia ib m hib hr=>by
  have m':MI (Rl lt) (a.toList++b.toList) out.toList (a.toList.drop ia) ([ix b ib]++b.toList.drop (ib+1)):=by rw[Hg,<-O0 hib];exact m
  have:=m'.takeB λx hx y hy=>by
   obtain⟨j,j1,j2,rfl⟩:=GV hy;rw[AJ.mp hx];exact hr j j1 j2
  simpa[M]using this
 have sA:∀out ia ib k,M out ia ib->ia+k<=a.size->(∀i j,i < k->ib<=j->j < b.size->Rl lt (ix a (ia+i)) (ix b j))->M (out++a.extract ia (ia+k)) (ia+k) ib:=λout ia ib k m hk hr=>by
  have m':MI (Rl lt) (a.toList++b.toList) out.toList ((a.extract ia (ia+k)).toList++a.toList.drop (ia+k)) (b.toList.drop ib):=by rw[<-IX hk];exact m
  have:=m'.takeA λx hx y hy=>by
   obtain⟨j,j1,j2,rfl⟩:=GV hy;obtain⟨i,i1,rfl⟩:=Ou hk hx;exact hr i j i1 j1 j2
  show MI _ _ (out++a.extract ia (ia+k)).toList _ _;rw[BI];exact this
 have sB:∀out ia ib k,M out ia ib->ib+k<=b.size->(∀i j,i < k->ia<=j->j < a.size->Rl lt (ix b (ib+i)) (ix a j))->M (out++b.extract ib (ib+k)) ia (ib+k):=λout ia ib k m hk hr=>by
  have m':MI (Rl lt) (a.toList++b.toList) out.toList (a.toList.drop ia) ((b.extract ib (ib+k)).toList++b.toList.drop (ib+k)):=by rw[<-IX hk];exact m
  have:=m'.takeB λx hx y hy=>by
   obtain⟨j,j1,j2,rfl⟩:=GV hy;obtain⟨i,i1,rfl⟩:=Ou hk hx;exact hr i j i1 j1 j2
  show MI _ _ (out++b.extract ib (ib+k)).toList _ _;rw[BI];exact this
 have eB:∀out ia ib,M out ia ib->ib=b.size->II (Rl lt) (a.toList++b.toList) (out++a.extract ia a.size++b.extract ib b.size).toList:=λout ia ib m e=>by
  subst e
  have m':MI (Rl lt) (a.toList++b.toList) out.toList (a.toList.drop ia) []:=by
   have:b.toList.drop b.size=[]:=by simp
   rw[<-this];exact m
  rw[BI,BI,KG,KG,show b.toList.drop b.size=[] by simp,BE];exact m'.endA
 have eA:∀out ia ib,M out ia ib->ia=a.size->II (Rl lt) (a.toList++b.toList) (out++a.extract ia a.size++b.extract ib b.size).toList:=λout ia ib m e=>by
  subst e
  have m':MI (Rl lt) (a.toList++b.toList) out.toList [] (b.toList.drop ib):=by
   have:a.toList.drop a.size=[]:=by simp
   rw[<-this];exact m
  rw[BI,BI,KG,KG,show a.toList.drop a.size=[] by simp,BE];exact m'.endB
 have eL:∀out ia ib,M out ia ib->ia+1=a.size->II (Rl lt) (a.toList++b.toList) (out++b.extract ib b.size++a.extract ia a.size).toList:=λout ia ib m e=>by
  have:=m.last λy hy x hx=>by
   obtain⟨j,j1,j2,rfl⟩:=GV hx;obtain⟨i,i1,i2,rfl⟩:=GV hy
   have:j=a.size - 1:=by lia
   subst this;exact h1 _ (BZ.mpr (Cq (DR i2)))
  rw[BI,BI,KG,KG,BC];exact this
 have m0:M #[] 0 0:=⟨by simp,by simp,by simp,by simpa using sa,by simpa using sb⟩
 have m1:M #[ix b 0] 0 1:=by
  have:=tB #[] 0 0 m0 nb λj _ hj=>h0 _ (BZ.mpr (Cq (DR hj)))
  simpa using this
 refine(AM (JR ?_):wpS _ _ _ _ (mLo a b) Q st);refine AM (Bm nb ?_)
 by_cases c1:1=b.size
 ·refine(show wpS (Ac prog w) A E s (if (1==b.size)=true then _ else _) Q st from ?_)
  rw[qX (by simpa using c1)];exact AO (h _ st ⟨g,rfl,rfl⟩ (eB _ _ _ m1 c1))
 refine(show wpS (Ac prog w) A E s (if (1==b.size)=true then _ else _) Q st from ?_);rw[qY (by simpa using c1)]
 by_cases c2:0+1=a.size
 ·rw[qX (by simpa using c2)]
  exact AO (h _ st ⟨g,rfl,rfl⟩ (eL _ _ _ m1 c2))
 rw[qY (by simpa using c2)];refine AM (Hq ?_)
 refine AM (DP (B9 (I:=λx c st'=>KY a₀ κ st st'/\∃out ia ib mg,c=(none,out,ia,ib,mg)/\M out ia ib/\ia+1 < a.size/\ib < b.size/\1+x<=ia+ib)
  (Q:=λc st'=>KY a₀ κ st st'/\∃r z,c=(some r,z)/\II (Rl lt) (a.toList++b.toList) r.toList) ?step ?fin ?init) ?post)
 case init=>exact⟨⟨g,rfl,rfl⟩,_,_,_,_,rfl,m1,by lia,by lia,by lia⟩
 case fin=>
  rintro c st' ⟨_,out,ia,ib,mg,_,_,k1,k2,k3⟩
  lia
 case post=>
  rintro c st' ⟨s1,r,z,rfl,f⟩;exact AO (h r st' s1 f)
 case step=>
  rintro x c oR _ _ ⟨s1,out,ia,ib,mg,rfl,m,k1,k2,k3⟩
  refine AM (DP (B9 (I:=λy c st'=>st'=oR/\∃oH pf pA ac bc,c=(none,oH,pf,pA,ac,bc)/\M oH pf pA/\pf+1 < a.size/\pA < b.size/\ia+ib+y<=pf+pA)
   (Q:=λc st'=>st'=oR/\((∃r z,c=(some r,z)/\II (Rl lt) (a.toList++b.toList) r.toList)∨∃oH pf pA ac bc,c=(none,oH,pf,pA,ac,bc)/\M oH pf pA/\pf+1 < a.size/\pA < b.size/\ia+ib+1<=pf+pA)) ?step1 ?fin1 ?init1) ?post1)
  case init1=>exact⟨rfl,out,ia,ib,0,0,rfl,m,k1,k2,by lia⟩
  case fin1=>
   rintro c st' ⟨rfl,oH,pf,pA,ac,bc,rfl,m',q1,q2,q3⟩;exact⟨rfl,.inr ⟨oH,pf,pA,ac,bc,rfl,m',q1,q2,by lia⟩⟩
  case step1=>
   rintro y c st' _ _ ⟨rfl,oH,pf,pA,ac,bc,rfl,m',q1,q2,q3⟩;refine AM (Bm (i:=pA) q2 ?_);refine AM (Bm (i:=pf) (show pf < a.size by lia) ?_);refine AM (PH C s1.good (oQ _ q2) (oP _ (by lia)) ?_)
   cases e:lt (ix b pA) (ix a pf)with
   | true=>
    refine AM (Bm q2 ?_);have r0:Rl lt (ix b pA) (ix a pf):=O.asym _ _ (oQ _ q2) (oP _ (by lia)) e
    have m2:=tB oH pf pA m' q2 λj j1 j2=>tr _ _ _ (oQ _ q2) (oP _ (by lia)) (oP _ j2) r0 (ua pf j j1 j2)
    refine(show wpS (Ac prog w) A E s (if (pA+1==b.size)=true then _ else _) _ st' from ?_)
    by_cases d:pA+1=b.size
    ·rw[qX (by simpa using d)]
     exact AO ⟨rfl,.inl ⟨_,_,rfl,eB _ _ _ m2 d⟩⟩
    ·rw[qY (by simpa using d)]
     split
     ·exact AO ⟨rfl,.inr ⟨_,pf,pA+1,_,_,rfl,m2,by omega,by lia,by lia⟩⟩
     ·exact AO ⟨rfl,_,pf,pA+1,_,_,rfl,m2,by omega,by lia,by lia⟩
   | false=>
    refine AM (Bm (show pf < a.size by lia) ?_)
    have m2:=tA oH pf pA m' (by lia) λj j1 j2=>tr _ _ _ (oP _ (by lia)) (oQ _ q2) (oQ _ j2) e (ub pA j j1 j2)
    refine(show wpS (Ac prog w) A E s (if (pf+1+1==a.size)=true then _ else _) _ st' from ?_)
    by_cases d:pf+1+1=a.size
    ·rw[qX (by simpa using d)]
     exact AO ⟨rfl,.inl ⟨_,_,rfl,eL _ _ _ m2 d⟩⟩
    ·rw[qY (by simpa using d)]
     split
     ·exact AO ⟨rfl,.inr ⟨_,pf+1,pA,_,_,rfl,m2,by lia,by omega,by lia⟩⟩
     ·exact AO ⟨rfl,_,pf+1,pA,_,_,rfl,m2,by lia,by omega,by lia⟩
  case post1=>
   rintro c st' ⟨rfl,⟨r,z,rfl,f⟩ | ⟨oH,pf,pA,ac,bc,rfl,m',q1,q2,q3⟩⟩
   ·exact AO ⟨s1,_,_,rfl,f⟩
   refine AM (JR ?_)
   refine AM (DP (B9 (I:=λy c oj=>KY a₀ κ st oj/\∃oq om oo pq ac bc,c=(none,oq,om,oo,pq,ac,bc)/\M oq om oo/\om+1 < a.size/\oo < b.size/\ia+ib+1<=om+oo)
    (Q:=λc oj=>KY a₀ κ st oj/\((∃r z,c=(some r,z)/\II (Rl lt) (a.toList++b.toList) r.toList)∨∃oq om oo pq ac bc,c=(none,oq,om,oo,pq,ac,bc)/\M oq om oo/\om+1 < a.size/\oo < b.size/\ia+ib+1<=om+oo)) ?step2 ?fin2 ?init2) ?post2)
   case init2=>exact⟨s1,oH,pf,pA,mg+1,ac,bc,rfl,m',q1,q2,q3⟩
   case fin2=>
    rintro c oj ⟨s2,oq,om,oo,pq,ac2,bc2,rfl,m2,p1,p2,p3⟩;exact⟨s2,.inr ⟨oq,om,oo,pq,ac2,bc2,rfl,m2,p1,p2,p3⟩⟩
   case post2=>
    rintro c oj ⟨s2,⟨r,z,rfl,f⟩ | ⟨oq,om,oo,pq,ac2,bc2,rfl,m2,p1,p2,p3⟩⟩
    ·exact AO ⟨s2,_,_,rfl,f⟩
    ·exact AM (Oq (AO ⟨s2.gal _,oq,om,oo,pq+1,rfl,m2,p1,p2,by lia⟩))
   case step2=>
    rintro y c oj _ _ ⟨s2,oq,om,oo,pq,ac2,bc2,rfl,m2,p1,p2,p3⟩
    let P:ForInStep L7->BR->Prop:=λr st'=>match r with
     | .done c'=>KY a₀ κ st st'/\((∃r z,c'=(some r,z)/\II (Rl lt) (a.toList++b.toList) r.toList)∨∃oq om oo pq ac bc,c'=(none,oq,om,oo,pq,ac,bc)/\M oq om oo/\om+1 < a.size/\oo < b.size/\ia+ib+1<=om+oo)
     | .yield c'=>KY a₀ κ st st'/\∃oq om oo pq ac bc,c'=(none,oq,om,oo,pq,ac,bc)/\M oq om oo/\om+1 < a.size/\oo < b.size/\ia+ib+1<=om+oo
    refine DP (Q:=P) ?_ λr st' h=>by cases r <;> exact h
    refine(show wpS (Ac prog w) A E s (if pq > 1 then _ else _) P oj from ?_);split
    all_goals
     refine AM (Oq ?_);refine AM (Bm (i:=oo) p2 ?_);refine AM (FD (base:=om) (n:=a.size - om) (hint:=0) (arr:=a) (key:=ix b oo) (left:=false) C (s2.gal _).good (λi=>!lt (ix b oo) (ix a (om+i))) (oQ _ p2) (λi hi=>⟨by lia,oP _ (by lia)⟩) (λi hi=>rfl) (λi j se hj e=>?_) (by lia) λk hk k1 k2=>?_)
     ·have e':lt (ix b oo) (ix a (om+j))=false:=by simpa using e
      have:=tr _ _ _ (oP _ (by lia)) (oP _ (by lia)) (oQ _ p2) (ua (om+i) (om+j) (by lia) (by lia)) e';simpa using this
     ·have far:∀j,om+k<=j->j < a.size->Rl lt (ix b oo) (ix a j):=λj j1 j2=>by
       have:=k2 (j - om) (by lia) (by lia);rw[show om+(j - om)=j by lia]at this;exact O.asym _ _ (oQ _ p2) (oP _ j2) (by simpa using this)
      have m5:=sA oq om oo k m2 (by lia) λi j hi j1 j2=>tr _ _ _ (oP _ (by lia)) (oQ _ p2) (oQ _ j2) (by simpa using k1 i hi) (ub oo j j1 j2)
      refine(show wpS (Ac prog w) A E s (if k > 0 then _ else _) P _ from ?_)
      by_cases hk0:k > 0
      ·rw[qX hk0]
       refine(show wpS (Ac prog w) A E s (if (om+k+1==a.size)=true then _ else _) P _ from ?_)
       by_cases d1:om+k+1=a.size
       ·rw[qX (by simpa using d1)]
        exact AO ⟨s2.gal _,.inl ⟨_,_,rfl,eL _ _ _ m5 d1⟩⟩
       rw[qY (by simpa using d1)]
       by_cases d2:om+k=a.size
       ·rw[qX (by simpa using d2)]
        exact AO ⟨s2.gal _,.inl ⟨_,_,rfl,eA _ _ _ m5 d2⟩⟩
       rw[qY (by simpa using d2)]
       have c1:om+k+1 < a.size:=by lia
       have c3:ia+ib+1<=om+k+oo:=by lia
       have m4:=tB _ _ _ m5 p2 far;refine AM (Bm (i:=oo) p2 ?_);refine(show wpS (Ac prog w) A E s (if (oo+1==b.size)=true then _ else _) P _ from ?_)
       by_cases d:oo+1=b.size
       ·rw[qX (by simpa using d)]
        exact AO ⟨s2.gal _,.inl ⟨_,_,rfl,eB _ _ _ m4 d⟩⟩
       rw[qY (by simpa using d)];refine AM (Bm (i:=om+k) (by lia) ?_);refine AM (FD (base:=oo+1) (n:=b.size - (oo+1)) (hint:=0) (arr:=b) (key:=ix a (om+k)) (left:=true) C (s2.gal _).good (λi=>lt (ix b (oo+1+i)) (ix a (om+k))) (oP _ (by lia)) (λi hi=>⟨by lia,oQ _ (by lia)⟩) (λi hi=>rfl) (λi j se hj e=>?_) (by lia) λk3 qD k4 k5=>?_)
       ·cases e2:lt (ix b (oo+1+i)) (ix a (om+k))with
        | true=>rfl
        | false=>
         have:=tr _ _ _ (oP _ (by lia)) (oQ _ (by lia)) (oQ _ (by lia)) e2 (ub (oo+1+i) (oo+1+j) (by lia) (by lia));exact nomatch (show true=false from(show lt (ix b (oo+1+j)) (ix a (om+k))=true from e).symm.trans this)
       ·have qP:∀j,oo+1+k3<=j->j < b.size->Rl lt (ix a (om+k)) (ix b j):=λj j1 j2=>by
         have:=k5 (j - (oo+1)) (by lia) (by omega);rwa [show oo+1+(j - (oo+1))=j by lia]at this
        have m6:=sB _ (om+k) (oo+1) k3 m4 (by lia) λi j hi j1 j2=>tr _ _ _ (oQ _ (by lia)) (oP _ (by lia)) (oP _ j2) (O.asym _ _ (oQ _ (by lia)) (oP _ (by lia)) (k4 i hi)) (ua (om+k) j j1 j2)
        refine(show wpS (Ac prog w) A E s (if k3 > 0 then _ else _) P _ from ?_)
        by_cases qD:k3 > 0
        ·rw[qX qD]
         refine(show wpS (Ac prog w) A E s (if (oo+1+k3==b.size)=true then _ else _) P _ from ?_)
         by_cases d2:oo+1+k3=b.size
         ·rw[qX (by simpa using d2)]
          exact AO ⟨s2.gal _,.inl ⟨_,_,rfl,eB _ _ _ m6 d2⟩⟩
         rw[qY (by simpa using d2)];have m7:=tA _ _ _ m6 (by lia) qP;refine AM (Bm (i:=om+k) (by lia) ?_);refine(show wpS (Ac prog w) A E s (if (om+k+1+1==a.size)=true then _ else _) P _ from ?_)
         by_cases d3:om+k+1+1=a.size
         ·rw[qX (by simpa using d3)]
          exact AO ⟨s2.gal _,.inl ⟨_,_,rfl,eL _ _ _ m7 d3⟩⟩
         rw[qY (by simpa using d3)];split
         ·exact AO ⟨s2.gal _,.inr ⟨_,om+k+1,oo+1+k3,_,_,_,rfl,m7,by lia,by lia,by lia⟩⟩
         ·exact AO ⟨s2.gal _,_,om+k+1,oo+1+k3,_,_,_,rfl,m7,by lia,by lia,by lia⟩
        ·rw[qY qD]
         have:k3=0:=by lia
         subst this;have m7:=tA _ _ _ m4 (by lia) qP;refine AM (Bm (i:=om+k) (by lia) ?_);refine(show wpS (Ac prog w) A E s (if (om+k+1+1==a.size)=true then _ else _) P _ from ?_)
         by_cases d3:om+k+1+1=a.size
         ·rw[qX (by simpa using d3)]
          exact AO ⟨s2.gal _,.inl ⟨_,_,rfl,eL _ _ _ m7 d3⟩⟩
         rw[qY (by simpa using d3)];split
         ·exact AO ⟨s2.gal _,.inr ⟨_,om+k+1,oo+1,_,_,_,rfl,m7,by lia,by lia,by lia⟩⟩
         ·exact AO ⟨s2.gal _,_,om+k+1,oo+1,_,_,_,rfl,m7,by lia,by lia,by lia⟩
      ·rw[qY hk0]
       have:k=0:=by lia
       subst this
       have c1:om+1 < a.size:=by omega
       have c3:ia+ib+1<=om+oo:=by omega
       have m4:=tB _ _ _ m2 p2 far;refine AM (Bm (i:=oo) p2 ?_);refine(show wpS (Ac prog w) A E s (if (oo+1==b.size)=true then _ else _) P _ from ?_)
       by_cases d:oo+1=b.size
       ·rw[qX (by simpa using d)]
        exact AO ⟨s2.gal _,.inl ⟨_,_,rfl,eB _ _ _ m4 d⟩⟩
       rw[qY (by simpa using d)];refine AM (Bm (i:=om) (by lia) ?_);refine AM (FD (base:=oo+1) (n:=b.size - (oo+1)) (hint:=0) (arr:=b) (key:=ix a om) (left:=true) C (s2.gal _).good (λi=>lt (ix b (oo+1+i)) (ix a om)) (oP _ (by lia)) (λi hi=>⟨by lia,oQ _ (by lia)⟩) (λi hi=>rfl) (λi j se hj e=>?_) (by lia) λk3 qD k4 k5=>?_)
       ·cases e2:lt (ix b (oo+1+i)) (ix a om)with
        | true=>rfl
        | false=>
         have:=tr _ _ _ (oP _ (by lia)) (oQ _ (by lia)) (oQ _ (by lia)) e2 (ub (oo+1+i) (oo+1+j) (by lia) (by lia));exact nomatch (show true=false from(show lt (ix b (oo+1+j)) (ix a om)=true from e).symm.trans this)
       ·have qP:∀j,oo+1+k3<=j->j < b.size->Rl lt (ix a om) (ix b j):=λj j1 j2=>by
         have:=k5 (j - (oo+1)) (by lia) (by omega);rwa [show oo+1+(j - (oo+1))=j by lia]at this
        have m6:=sB _ om (oo+1) k3 m4 (by lia) λi j hi j1 j2=>tr _ _ _ (oQ _ (by lia)) (oP _ (by lia)) (oP _ j2) (O.asym _ _ (oQ _ (by lia)) (oP _ (by lia)) (k4 i hi)) (ua om j j1 j2)
        refine(show wpS (Ac prog w) A E s (if k3 > 0 then _ else _) P _ from ?_)
        by_cases qD:k3 > 0
        ·rw[qX qD]
         refine(show wpS (Ac prog w) A E s (if (oo+1+k3==b.size)=true then _ else _) P _ from ?_)
         by_cases d2:oo+1+k3=b.size
         ·rw[qX (by simpa using d2)]
          exact AO ⟨s2.gal _,.inl ⟨_,_,rfl,eB _ _ _ m6 d2⟩⟩
         rw[qY (by simpa using d2)];have m7:=tA _ _ _ m6 (by lia) qP;refine AM (Bm (i:=om) (by lia) ?_);refine(show wpS (Ac prog w) A E s (if (om+1+1==a.size)=true then _ else _) P _ from ?_)
         by_cases d3:om+1+1=a.size
         ·rw[qX (by simpa using d3)]
          exact AO ⟨s2.gal _,.inl ⟨_,_,rfl,eL _ _ _ m7 d3⟩⟩
         rw[qY (by simpa using d3)];split
         ·exact AO ⟨s2.gal _,.inr ⟨_,om+1,oo+1+k3,_,_,_,rfl,m7,by lia,by lia,by lia⟩⟩
         ·exact AO ⟨s2.gal _,_,om+1,oo+1+k3,_,_,_,rfl,m7,by lia,by lia,by lia⟩
        ·rw[qY qD]
         have:k3=0:=by lia
         subst this;have m7:=tA _ _ _ m4 (by lia) qP;refine AM (Bm (i:=om) (by lia) ?_);refine(show wpS (Ac prog w) A E s (if (om+1+1==a.size)=true then _ else _) P _ from ?_)
         by_cases d3:om+1+1=a.size
         ·rw[qX (by simpa using d3)]
          exact AO ⟨s2.gal _,.inl ⟨_,_,rfl,eL _ _ _ m7 d3⟩⟩
         rw[qY (by simpa using d3)];split
         ·exact AO ⟨s2.gal _,.inr ⟨_,om+1,oo+1,_,_,_,rfl,m7,by lia,by lia,by lia⟩⟩
         ·exact AO ⟨s2.gal _,_,om+1,oo+1,_,_,_,rfl,m7,by lia,by lia,by lia⟩
end
theorem MI.last2(m:MI R T o ra rb)(h:∀x∈ra,∀y∈rb,R x y):II R T (o++(ra++rb)):=by
 refine⟨m.perm,Ba.mpr ⟨m.srt,Ba.mpr ⟨m.sa,m.sb,h⟩,λx hx y hy=>m.low x hx y hy⟩⟩
theorem II.rev(f:II (λx y=>Rl lt y x) T r):II (Rl lt) T r.reverse:=⟨r.reverse_perm.trans f.perm,LK.mpr f.srt⟩
theorem Wc(h:i < a.size):(a.toList.take (i+1)).reverse=ix a i :: (a.toList.take i).reverse:=by
 have:=DR h;rw[getElem?_pos a i h]at this;rw[OE,show a.toList[i]?=some (ix a i) by simpa using DR h];simp
theorem Td{a:Array BM}{i n:Nat}(h:i<=n)(hn:n<=a.size):(a.toList.take n).reverse=(a.extract i n).toList.reverse++(a.toList.take i).reverse:=by
 have e:(a.extract i n).toList=(a.toList.take n).drop i:=by simp[OF,List.drop_take]
 rw[e,<-List.reverse_append]
 congr 1
 have:=E4 i (a.toList.take n);rw[List.take_take,show min i n=i by lia]at this;exact this.symm
theorem GU(hx:x∈(a.toList.take n).reverse):∃j,j < n/\j < a.size/\x=ix a j:=by
 rw[cC]at hx;obtain⟨k,hk,rfl⟩:=WL.mp hx;simp at hk;refine⟨k,by lia,by lia,?_⟩;have:=DR (xs:=a) (i:=k) (by lia);rw[getElem?_pos a _ (by lia)]at this;simpa using this
theorem T9(hx:x∈(a.extract i n).toList.reverse):∃j,i<=j/\j < n/\j < a.size/\x=ix a j:=by
 rw[cC,BZ,Op]at hx;obtain⟨j,hj,rfl⟩:=hx;refine⟨i+j,by lia,by omega,by omega,?_⟩;have:=DR (xs:=a) (i:=i+j) (by omega);rw[getElem?_pos a _ (by omega)]at this;simpa using this
theorem IL(a:Array BM)(n:Nat):(a.extract 0 n).toList=a.toList.take n:=by simp[OF]
section
theorem cU{st:BR}{a b:Array BM}{Q:Array BM->BR->Prop}(C:KS prog w A s a₀ κ lt)(O:Ord (·∈a₀) lt)(g:Good a₀ κ st)
  (ma:∀x∈a.toList,x∈a₀) (mb:∀x∈b.toList,x∈a₀) (sa:a.toList.Pairwise (Rl lt)) (sb:b.toList.Pairwise (Rl lt)) (pa:0 < a.size) (pb:0 < b.size)
  (h0:∀x∈a.toList,Rl lt (ix b 0) x) (h1:∀y∈b.toList,Rl lt y (ix a (a.size - 1)))
  (h:∀r st',KY a₀ κ st st'->II (Rl lt) (a.toList++b.toList) r.toList->Q r st'):wpS (Ac prog w) A E s (mHi a b) Q st:=by
 have oP:=SR ma;have oQ:=SR mb;have ua:=Tc O oP sa;have ub:=Tc O oQ sb
 have tr:∀x y z:BM,x∈a₀->y∈a₀->z∈a₀->Rl lt x y->Rl lt y z->Rl lt x z:=λx y z hx hy hz h1 h2=>O.ntr x y z hx hy hz h1 h2
 let M (out:Array BM) (na nb:Nat):Prop:=MI (λx y=>Rl lt y x) (a.toList++b.toList) out.toList (a.toList.take na).reverse (b.toList.take nb).reverse
 have tA0:∀out na nb,M out (na+1) nb->na < a.size->nb<=b.size->(∀j,j < nb->Rl lt (ix b j) (ix a na))->M (out.push (ix a na)) na nb:=λout na nb m rA hnb hr=>by
  have m':MI (λx y=>Rl lt y x) (a.toList++b.toList) out.toList ([ix a na]++(a.toList.take na).reverse) (b.toList.take nb).reverse:=by rw[Hg,<-Wc rA];exact m
  have:=m'.takeA λx hx y hy=>by
   obtain⟨j,j1,j2,rfl⟩:=GU hy;rw[AJ.mp hx];exact hr j j1
  simpa[M]using this
 have tB0:∀out na nb,M out na (nb+1)->nb < b.size->na<=a.size->(∀j,j < na->Rl lt (ix a j) (ix b nb))->M (out.push (ix b nb)) na nb:=λout na nb m hnb rA hr=>by
  have m':MI (λx y=>Rl lt y x) (a.toList++b.toList) out.toList (a.toList.take na).reverse ([ix b nb]++(b.toList.take nb).reverse):=by rw[Hg,<-Wc hnb];exact m
  have:=m'.takeB λx hx y hy=>by
   obtain⟨j,j1,j2,rfl⟩:=GU hy;rw[AJ.mp hx];exact hr j j1
  simpa[M]using this
 have tA:∀out na nb,M out na nb->0 < na->na<=a.size->nb<=b.size->(∀j,j < nb->Rl lt (ix b j) (ix a (na - 1)))->M (out.push (ix a (na - 1))) (na - 1) nb:=λout na nb m h0 rA hnb hr=>
  tA0 out (na - 1) nb (by rw[show na - 1+1=na by lia];exact m) (by omega) hnb hr
 have tB:∀out na nb,M out na nb->0 < nb->nb<=b.size->na<=a.size->(∀j,j < na->Rl lt (ix a j) (ix b (nb - 1)))->M (out.push (ix b (nb - 1))) na (nb - 1):=λout na nb m h0 hnb rA hr=>
  tB0 out na (nb - 1) (by rw[show nb - 1+1=nb by lia];exact m) (by omega) rA hr
 have sA:∀out na nb k,M out na nb->k<=na->na<=a.size->nb<=b.size->(∀i j,k<=i->i < na->j < nb->Rl lt (ix b j) (ix a i))->M (out++(a.extract k na).reverse) k nb:=λout na nb k m hk rA hnb hr=>by
  have m':MI (λx y=>Rl lt y x) (a.toList++b.toList) out.toList ((a.extract k na).toList.reverse++(a.toList.take k).reverse) (b.toList.take nb).reverse:=by rw[<-Td hk rA];exact m
  have:=m'.takeA λx hx y hy=>by
   obtain⟨j,j1,j2,rfl⟩:=GU hy;obtain⟨i,i1,i2,i3,rfl⟩:=T9 hx;exact hr i j i1 i2 j1
  show MI _ _ (out++(a.extract k na).reverse).toList _ _;rw[BI,FL];exact this
 have sB:∀out na nb k,M out na nb->k<=nb->nb<=b.size->na<=a.size->(∀i j,k<=i->i < nb->j < na->Rl lt (ix a j) (ix b i))->M (out++(b.extract k nb).reverse) na k:=λout na nb k m hk hnb rA hr=>by
  have m':MI (λx y=>Rl lt y x) (a.toList++b.toList) out.toList (a.toList.take na).reverse ((b.extract k nb).toList.reverse++(b.toList.take k).reverse):=by rw[<-Td hk hnb];exact m
  have:=m'.takeB λx hx y hy=>by
   obtain⟨j,j1,j2,rfl⟩:=GU hy;obtain⟨i,i1,i2,i3,rfl⟩:=T9 hx;exact hr i j i1 i2 j1
  show MI _ _ (out++(b.extract k nb).reverse).toList _ _;rw[BI,FL];exact this
 have eA:∀out na nb,M out na nb->na=0->II (Rl lt) (a.toList++b.toList) (a.extract 0 na++b.extract 0 nb++out.reverse).toList:=λout na nb m e=>by
  subst e
  have m':MI (λx y=>Rl lt y x) (a.toList++b.toList) out.toList [] (b.toList.take nb).reverse:=by simpa[M]using m
  have:=m'.endB.rev;rw[BI,BI,IL,IL,FL];simpa using this
 have eB:∀out na nb,M out na nb->nb=0->II (Rl lt) (a.toList++b.toList) (a.extract 0 na++b.extract 0 nb++out.reverse).toList:=λout na nb m e=>by
  subst e
  have m':MI (λx y=>Rl lt y x) (a.toList++b.toList) out.toList (a.toList.take na).reverse []:=by simpa[M]using m
  have:=m'.endA.rev;rw[BI,BI,IL,IL,FL];simpa using this
 have eF:∀out na nb,M out na nb->nb=1->II (Rl lt) (a.toList++b.toList) (b.extract 0 nb++a.extract 0 na++out.reverse).toList:=λout na nb m e=>by
  have:=m.last2 λx hx y hy=>by
   obtain⟨j,j1,j2,rfl⟩:=GU hx;obtain⟨i,i1,i2,rfl⟩:=GU hy
   have:i=0:=by lia
   subst this;exact h0 _ (BZ.mpr (Cq (DR j2)))
  have:=this.rev;rw[BI,BI,IL,IL,FL];simpa using this
 have m0:M #[] a.size b.size:=by
  refine⟨?_,by simp,by simp,?_,?_⟩
  ·rw[Ea (by simp),Ea (by simp)]
   simpa using List.Perm.append a.toList.reverse_perm b.toList.reverse_perm
  ·rw[Ea (by simp)];exact LK.mpr sa
  ·rw[Ea (by simp)];exact LK.mpr sb
 have m1:M #[ix a (a.size - 1)] (a.size - 1) b.size:=by
  have:=tA #[] a.size b.size m0 pa (AN _) (AN _) λj hj=>h1 _ (BZ.mpr (Cq (DR hj)))
  simpa using this
 refine(AM (JR ?_):wpS _ _ _ _ (mHi a b) Q st);refine AM (Bm (i:=a.size - 1) (by omega) ?_)
 by_cases c1:a.size - 1=0
 ·refine(show wpS (Ac prog w) A E s (if (a.size - 1==0)=true then _ else _) Q st from ?_)
  rw[qX (by simpa using c1)];exact AO (h _ st ⟨g,rfl,rfl⟩ (eA _ _ _ m1 c1))
 refine(show wpS (Ac prog w) A E s (if (a.size - 1==0)=true then _ else _) Q st from ?_);rw[qY (by simpa using c1)]
 by_cases c2:b.size=1
 ·rw[qX (by simpa using c2)]
  exact AO (h _ st ⟨g,rfl,rfl⟩ (eF _ _ _ m1 c2))
 rw[qY (by simpa using c2)];refine AM (Hq ?_)
 refine AM (DP (B9 (I:=λx c st'=>KY a₀ κ st st'/\∃out na nb mg,c=(none,na,nb,out,mg)/\M out na nb/\0 < na/\1 < nb/\na<=a.size/\nb<=b.size/\na+nb+1+x<=a.size+b.size)
  (Q:=λc st'=>KY a₀ κ st st'/\∃r z,c=(some r,z)/\II (Rl lt) (a.toList++b.toList) r.toList) ?step ?fin ?init) ?post)
 case init=>exact⟨⟨g,rfl,rfl⟩,_,a.size - 1,b.size,_,rfl,m1,by lia,by lia,by omega,by lia,by lia⟩
 case fin=>
  rintro c st' ⟨_,out,na,nb,mg,_,_,k1,k2,k3,k4,k5⟩
  lia
 case post=>
  rintro c st' ⟨s1,r,z,rfl,f⟩;exact AO (h r st' s1 f)
 case step=>
  rintro x c oR _ _ ⟨s1,out,na,nb,mg,rfl,m,k1,k2,k3,k4,k5⟩
  refine AM (DP (B9 (I:=λy c st'=>st'=oR/\∃oH p7 p8 ac bc,c=(none,p7,p8,oH,ac,bc)/\M oH p7 p8/\0 < p7/\1 < p8/\p7<=a.size/\p8<=b.size/\p7+p8+y<=na+nb)
   (Q:=λc st'=>st'=oR/\((∃r z,c=(some r,z)/\II (Rl lt) (a.toList++b.toList) r.toList)∨∃oH p7 p8 ac bc,c=(none,p7,p8,oH,ac,bc)/\M oH p7 p8/\0 < p7/\1 < p8/\p7<=a.size/\p8<=b.size/\p7+p8+1<=na+nb)) ?step1 ?fin1 ?init1) ?post1)
  case init1=>exact⟨rfl,out,na,nb,0,0,rfl,m,k1,k2,k3,k4,by lia⟩
  case fin1=>
   rintro c st' ⟨rfl,oH,p7,p8,ac,bc,rfl,m',q1,q2,q3,q4,q5⟩;exact⟨rfl,.inr ⟨oH,p7,p8,ac,bc,rfl,m',q1,q2,q3,q4,by lia⟩⟩
  case step1=>
   rintro y c st' _ _ ⟨rfl,oH,p7,p8,ac,bc,rfl,m',q1,q2,q3,q4,q5⟩;refine AM (Bm (i:=p8 - 1) (by lia) ?_);refine AM (Bm (i:=p7 - 1) (by lia) ?_);refine AM (PH C s1.good (oQ _ (by lia)) (oP _ (by lia)) ?_)
   cases e:lt (ix b (p8 - 1)) (ix a (p7 - 1))with
   | true=>
    refine AM (Bm (i:=p7 - 1) (by lia) ?_);have r0:Rl lt (ix b (p8 - 1)) (ix a (p7 - 1)):=O.asym _ _ (oQ _ (by lia)) (oP _ (by lia)) e
    have m2:=tA oH p7 p8 m' q1 q3 q4 λj j1=>tr _ _ _ (oQ _ (by lia)) (oQ _ (by lia)) (oP _ (by lia)) (ub j (p8 - 1) (by lia) (by lia)) r0
    refine(show wpS (Ac prog w) A E s (if (p7 - 1==0)=true then _ else _) _ st' from ?_)
    by_cases d:p7 - 1=0
    ·rw[qX (by simpa using d)]
     exact AO ⟨rfl,.inl ⟨_,_,rfl,eA _ _ _ m2 d⟩⟩
    ·rw[qY (by simpa using d)]
     split
     ·exact AO ⟨rfl,.inr ⟨_,p7 - 1,p8,_,_,rfl,m2,by lia,by omega,by lia,by omega,by lia⟩⟩
     ·exact AO ⟨rfl,_,p7 - 1,p8,_,_,rfl,m2,by lia,by omega,by lia,by omega,by lia⟩
   | false=>
    refine AM (Bm (i:=p8 - 1) (by lia) ?_)
    have m2:=tB oH p7 p8 m' (by lia) q4 q3 λj j1=>tr _ _ _ (oP _ (by lia)) (oP _ (by lia)) (oQ _ (by lia)) (ua j (p7 - 1) (by lia) (by lia)) e
    refine(show wpS (Ac prog w) A E s (if (p8 - 1==1)=true then _ else _) _ st' from ?_)
    by_cases d:p8 - 1=1
    ·rw[qX (by simpa using d)]
     exact AO ⟨rfl,.inl ⟨_,_,rfl,eF _ _ _ m2 d⟩⟩
    ·rw[qY (by simpa using d)]
     split
     ·exact AO ⟨rfl,.inr ⟨_,p7,p8 - 1,_,_,rfl,m2,by omega,by lia,by omega,by lia,by lia⟩⟩
     ·exact AO ⟨rfl,_,p7,p8 - 1,_,_,rfl,m2,by omega,by lia,by omega,by lia,by lia⟩
  case post1=>
   rintro c st' ⟨rfl,⟨r,z,rfl,f⟩ | ⟨oH,p7,p8,ac,bc,rfl,m',q1,q2,q3,q4,q5⟩⟩
   ·exact AO ⟨s1,_,_,rfl,f⟩
   refine AM (JR ?_)
   refine AM (DP (B9 (I:=λy c oj=>KY a₀ κ st oj/\∃oq oY oy pq ac bc,c=(none,oY,oy,oq,pq,ac,bc)/\M oq oY oy/\0 < oY/\1 < oy/\oY<=a.size/\oy<=b.size/\oY+oy+1<=na+nb)
    (Q:=λc oj=>KY a₀ κ st oj/\((∃r z,c=(some r,z)/\II (Rl lt) (a.toList++b.toList) r.toList)∨∃oq oY oy pq ac bc,c=(none,oY,oy,oq,pq,ac,bc)/\M oq oY oy/\0 < oY/\1 < oy/\oY<=a.size/\oy<=b.size/\oY+oy+1<=na+nb)) ?step2 ?fin2 ?init2) ?post2)
   case init2=>exact⟨s1,oH,p7,p8,mg+1,ac,bc,rfl,m',q1,q2,q3,q4,q5⟩
   case fin2=>
    rintro c oj ⟨s2,oq,oY,oy,pq,ac2,bc2,rfl,m2,p1⟩;exact⟨s2,.inr ⟨oq,oY,oy,pq,ac2,bc2,rfl,m2,p1⟩⟩
   case post2=>
    rintro c oj ⟨s2,⟨r,z,rfl,f⟩ | ⟨oq,oY,oy,pq,ac2,bc2,rfl,m2,p1,p2,p3,p4,p5⟩⟩
    ·exact AO ⟨s2,_,_,rfl,f⟩
    ·exact AM (Oq (AO ⟨s2.gal _,oq,oY,oy,pq+1,rfl,m2,p1,p2,p3,p4,by lia⟩))
   case step2=>
    rintro y c oj _ _ ⟨s2,oq,oY,oy,pq,ac2,bc2,rfl,m2,p1,p2,p3,p4,p5⟩
    let P:ForInStep (Option (Array BM)×Nat×Nat×Array BM×Nat×Nat×Nat)->BR->Prop:=λr st'=>match r with
     | .done c'=>KY a₀ κ st st'/\((∃r z,c'=(some r,z)/\II (Rl lt) (a.toList++b.toList) r.toList)∨∃oq oY oy pq ac bc,c'=(none,oY,oy,oq,pq,ac,bc)/\M oq oY oy/\0 < oY/\1 < oy/\oY<=a.size/\oy<=b.size/\oY+oy+1<=na+nb)
     | .yield c'=>KY a₀ κ st st'/\∃oq oY oy pq ac bc,c'=(none,oY,oy,oq,pq,ac,bc)/\M oq oY oy/\0 < oY/\1 < oy/\oY<=a.size/\oy<=b.size/\oY+oy+1<=na+nb
    refine DP (Q:=P) ?_ λr st' h=>by cases r <;> exact h
    refine(show wpS (Ac prog w) A E s (if pq > 1 then _ else _) P oj from ?_);split
    all_goals
     refine AM (Oq ?_);refine AM (Bm (i:=oy - 1) (by lia) ?_);refine AM (FD (base:=0) (n:=oY) (hint:=oY - 1) (arr:=a) (key:=ix b (oy - 1)) (left:=false) C (s2.gal _).good (λi=>!lt (ix b (oy - 1)) (ix a (0+i))) (oQ _ (by lia)) (λi hi=>⟨by lia,oP _ (by lia)⟩) (λi hi=>rfl) (λi j se hj e=>?_) (by lia) λk hk k1 k2=>?_)
     ·have e':lt (ix b (oy - 1)) (ix a (0+j))=false:=by simpa using e
      have:=tr _ _ _ (oP _ (by lia)) (oP _ (by lia)) (oQ _ (by lia)) (ua (0+i) (0+j) (by lia) (by lia)) e';simpa using this
     ·have near:∀j,j < k->Rl lt (ix a j) (ix b (oy - 1)):=λj j1=>by
       have:=k1 j j1;rw[HD]at this;simpa using this
      have m5:=sA oq oY oy k m2 hk p3 p4 λi j i1 i2 j1=>by
       have:=k2 i i1 i2;rw[HD]at this;exact tr _ _ _ (oQ _ (by lia)) (oQ _ (by lia)) (oP _ (by lia)) (ub j (oy - 1) (by lia) (by lia)) (O.asym _ _ (oQ _ (by lia)) (oP _ (by lia)) (by simpa using this))
      refine(show wpS (Ac prog w) A E s (if oY - k > 0 then _ else _) P _ from ?_)
      by_cases hk0:oY - k > 0
      ·rw[qX hk0]
       refine(show wpS (Ac prog w) A E s (if (k==0)=true then _ else _) P _ from ?_)
       by_cases d1:k=0
       ·rw[qX (by simpa using d1)]
        exact AO ⟨s2.gal _,.inl ⟨_,_,rfl,eA _ _ _ m5 d1⟩⟩
       rw[qY (by simpa using d1)];have m4:=tB _ _ _ m5 (by lia) p4 (by lia) near;refine AM (Bm (i:=oy - 1) (by lia) ?_);refine(show wpS (Ac prog w) A E s (if (oy - 1==1)=true then _ else _) P _ from ?_)
       by_cases d:oy - 1=1
       ·rw[qX (by simpa using d)]
        exact AO ⟨s2.gal _,.inl ⟨_,_,rfl,eF _ _ _ m4 d⟩⟩
       rw[qY (by simpa using d)];refine AM (Bm (i:=k - 1) (by omega) ?_);refine AM (FD (base:=0) (n:=oy - 1) (hint:=oy - 1 - 1) (arr:=b) (key:=ix a (k - 1)) (left:=true) C (s2.gal _).good (λi=>lt (ix b (0+i)) (ix a (k - 1))) (oP _ (by omega)) (λi hi=>⟨by lia,oQ _ (by lia)⟩) (λi hi=>rfl) (λi j se hj e=>?_) (by lia) λk3 qD k4 k5=>?_)
       ·cases e2:lt (ix b (0+i)) (ix a (k - 1))with
        | true=>rfl
        | false=>
         have:=tr _ _ _ (oP _ (by lia)) (oQ _ (by lia)) (oQ _ (by lia)) e2 (ub (0+i) (0+j) (by lia) (by lia));exact nomatch (show true=false from(show lt (ix b (0+j)) (ix a (k - 1))=true from e).symm.trans this)
       ·have pY:∀j,j < k3->Rl lt (ix b j) (ix a (k - 1)):=λj j1=>by
         have:=k4 j j1;rw[HD]at this;exact O.asym _ _ (oQ _ (by lia)) (oP _ (by omega)) this
        have m6:=sB _ k (oy - 1) k3 m4 qD (by lia) (by lia) λi j i1 i2 j1=>by
         have:=k5 i i1 i2;rw[HD]at this;exact tr _ _ _ (oP _ (by lia)) (oP _ (by lia)) (oQ _ (by lia)) (ua j (k - 1) (by lia) (by lia)) this
        refine(show wpS (Ac prog w) A E s (if oy - 1 - k3 > 0 then _ else _) P _ from ?_)
        by_cases hk4:oy - 1 - k3 > 0
        ·rw[qX hk4]
         refine(show wpS (Ac prog w) A E s (if (k3==1)=true then _ else _) P _ from ?_)
         by_cases d2:k3=1
         ·rw[qX (by simpa using d2)]
          exact AO ⟨s2.gal _,.inl ⟨_,_,rfl,eF _ _ _ m6 d2⟩⟩
         rw[qY (by simpa using d2)]
         by_cases d4:k3=0
         ·rw[qX (by simpa using d4)]
          exact AO ⟨s2.gal _,.inl ⟨_,_,rfl,eB _ _ _ m6 d4⟩⟩
         rw[qY (by simpa using d4)];have m7:=tA _ _ _ m6 (by lia) (by lia) (by lia) pY;refine AM (Bm (i:=k - 1) (by lia) ?_);refine(show wpS (Ac prog w) A E s (if (k - 1==0)=true then _ else _) P _ from ?_)
         by_cases d3:k - 1=0
         ·rw[qX (by simpa using d3)]
          exact AO ⟨s2.gal _,.inl ⟨_,_,rfl,eA _ _ _ m7 d3⟩⟩
         rw[qY (by simpa using d3)];split
         ·exact AO ⟨s2.gal _,.inr ⟨_,k - 1,k3,_,_,_,rfl,m7,by lia,by lia,by lia,by lia,by lia⟩⟩
         ·exact AO ⟨s2.gal _,_,k - 1,k3,_,_,_,rfl,m7,by lia,by lia,by lia,by lia,by lia⟩
        ·rw[qY hk4]
         have:k3=oy - 1:=by lia
         subst this;have m7:=tA _ _ _ m4 (by lia) (by lia) (by lia) pY;refine AM (Bm (i:=k - 1) (by lia) ?_);refine(show wpS (Ac prog w) A E s (if (k - 1==0)=true then _ else _) P _ from ?_)
         by_cases d3:k - 1=0
         ·rw[qX (by simpa using d3)]
          exact AO ⟨s2.gal _,.inl ⟨_,_,rfl,eA _ _ _ m7 d3⟩⟩
         rw[qY (by simpa using d3)];split
         ·exact AO ⟨s2.gal _,.inr ⟨_,k - 1,oy - 1,_,_,_,rfl,m7,by lia,by lia,by lia,by lia,by lia⟩⟩
         ·exact AO ⟨s2.gal _,_,k - 1,oy - 1,_,_,_,rfl,m7,by lia,by lia,by lia,by lia,by lia⟩
      ·rw[qY hk0]
       have:k=oY:=by lia
       subst this;have m4:=tB _ _ _ m2 (by lia) p4 (by omega) near;refine AM (Bm (i:=oy - 1) (by lia) ?_);refine(show wpS (Ac prog w) A E s (if (oy - 1==1)=true then _ else _) P _ from ?_)
       by_cases d:oy - 1=1
       ·rw[qX (by simpa using d)]
        exact AO ⟨s2.gal _,.inl ⟨_,_,rfl,eF _ _ _ m4 d⟩⟩
       rw[qY (by simpa using d)];refine AM (Bm (i:=k - 1) (by lia) ?_);refine AM (FD (base:=0) (n:=oy - 1) (hint:=oy - 1 - 1) (arr:=b) (key:=ix a (k - 1)) (left:=true) C (s2.gal _).good (λi=>lt (ix b (0+i)) (ix a (k - 1))) (oP _ (by lia)) (λi hi=>⟨by lia,oQ _ (by lia)⟩) (λi hi=>rfl) (λi j se hj e=>?_) (by lia) λk3 qD k4 k5=>?_)
       ·cases e2:lt (ix b (0+i)) (ix a (k - 1))with
        | true=>rfl
        | false=>
         have:=tr _ _ _ (oP _ (by lia)) (oQ _ (by lia)) (oQ _ (by lia)) e2 (ub (0+i) (0+j) (by lia) (by lia));exact nomatch (show true=false from(show lt (ix b (0+j)) (ix a (k - 1))=true from e).symm.trans this)
       ·have pY:∀j,j < k3->Rl lt (ix b j) (ix a (k - 1)):=λj j1=>by
         have:=k4 j j1;rw[HD]at this;exact O.asym _ _ (oQ _ (by lia)) (oP _ (by lia)) this
        have m6:=sB _ k (oy - 1) k3 m4 qD (by lia) (by omega) λi j i1 i2 j1=>by
         have:=k5 i i1 i2;rw[HD]at this;exact tr _ _ _ (oP _ (by lia)) (oP _ (by lia)) (oQ _ (by lia)) (ua j (k - 1) (by lia) (by lia)) this
        refine(show wpS (Ac prog w) A E s (if oy - 1 - k3 > 0 then _ else _) P _ from ?_)
        by_cases hk4:oy - 1 - k3 > 0
        ·rw[qX hk4]
         refine(show wpS (Ac prog w) A E s (if (k3==1)=true then _ else _) P _ from ?_)
         by_cases d2:k3=1
         ·rw[qX (by simpa using d2)]
          exact AO ⟨s2.gal _,.inl ⟨_,_,rfl,eF _ _ _ m6 d2⟩⟩
         rw[qY (by simpa using d2)]
         by_cases d4:k3=0
         ·rw[qX (by simpa using d4)]
          exact AO ⟨s2.gal _,.inl ⟨_,_,rfl,eB _ _ _ m6 d4⟩⟩
         rw[qY (by simpa using d4)];have m7:=tA _ _ _ m6 (by omega) (by omega) (by lia) pY;refine AM (Bm (i:=k - 1) (by lia) ?_);refine(show wpS (Ac prog w) A E s (if (k - 1==0)=true then _ else _) P _ from ?_)
         by_cases d3:k - 1=0
         ·rw[qX (by simpa using d3)]
          exact AO ⟨s2.gal _,.inl ⟨_,_,rfl,eA _ _ _ m7 d3⟩⟩
         rw[qY (by simpa using d3)];split
         ·exact AO ⟨s2.gal _,.inr ⟨_,k - 1,k3,_,_,_,rfl,m7,by lia,by lia,by lia,by lia,by lia⟩⟩
         ·exact AO ⟨s2.gal _,_,k - 1,k3,_,_,_,rfl,m7,by lia,by lia,by lia,by lia,by lia⟩
        ·rw[qY hk4]
         have:k3=oy - 1:=by lia
         subst this;have m7:=tA _ _ _ m4 (by omega) (by omega) (by lia) pY;refine AM (Bm (i:=k - 1) (by lia) ?_);refine(show wpS (Ac prog w) A E s (if (k - 1==0)=true then _ else _) P _ from ?_)
         by_cases d3:k - 1=0
         ·rw[qX (by simpa using d3)]
          exact AO ⟨s2.gal _,.inl ⟨_,_,rfl,eA _ _ _ m7 d3⟩⟩
         rw[qY (by simpa using d3)];split
         ·exact AO ⟨s2.gal _,.inr ⟨_,k - 1,oy - 1,_,_,_,rfl,m7,by lia,by lia,by lia,by lia,by lia⟩⟩
         ·exact AO ⟨s2.gal _,_,k - 1,oy - 1,_,_,_,rfl,m7,by lia,by lia,by lia,by lia,by lia⟩
end
def wr(arr:Array BM)(sa:Nat)(l:List (BM×Nat)):Array BM:=l.foldl (λa (x:BM×Nat)=>match x with | (p,j)=>a.setIfInBounds (sa+j) p) arr
theorem Ry(sa:Nat):∀(l:List BM) (k:Nat) (arr:Array BM),sa+k+l.length<=arr.size->(wr arr sa (l.zipIdx k)).toList=arr.toList.take (sa+k)++l++arr.toList.drop (sa+k+l.length)
 | [],k,arr,h=>by simp[wr]
 | x :: l,k,arr,h=>by
  rw[A8]at h;have e:wr arr sa ((x :: l).zipIdx k)=wr (arr.setIfInBounds (sa+k) x) sa (l.zipIdx (k+1)):=rfl;rw[e,Ry sa l (k+1) _ (by simp;lia)]
  have hk:sa+k < arr.toList.length:=by simp;lia
  rw[Qj,A8,show sa+(k+1)=sa+k+1 by lia];rw[OE,List.take_set_of_le (AN _),Am hk,List.drop_set_of_lt (by lia)];simp[show sa+k+1+l.length=sa+k+(l.length+1) by lia]
theorem ix_list(a:Array BM)(i:Nat):ix a i=(a.toList[i]?).getD (.none,.none):=by
 unfold ix;rw[E6];simp
theorem ay(h:sa+m.size<=arr.size)(i:Nat):ix (wr arr sa m.toList.zipIdx) i=if i < sa then ix arr i else if i < sa+m.size then ix m (i - sa)else ix arr i:=by
 have e:=Ry sa m.toList 0 arr (by simpa using h);rw[ix_list,show m.toList.zipIdx=m.toList.zipIdx 0 from rfl,e,U2]
 have hl:(arr.toList.take sa).length=sa:=by simp;lia
 split
 ·rename_i h1
  rw[BC,Ag (by lia),TB h1,ix_list]
 ·rename_i h1
  split
  ·rename_i h2
   rw[BC,BB (by lia),hl,Ag (by simp;lia),ix_list]
  ·rename_i h2
   rw[BB (by simp;lia),Ge,ix_list]
   congr 2
   simp
   lia
theorem eD{arr m:Array BM}{sa:Nat}(h:sa+m.size<=arr.size)(hp:m.toList.Perm (arr.extract sa (sa+m.size)).toList):(wr arr sa m.toList.zipIdx).Perm arr:=by
 rw[FM];have e:=Ry sa m.toList 0 arr (by simpa using h);rw[show m.toList.zipIdx=m.toList.zipIdx 0 from rfl,e,U2]
 have e2:arr.toList=arr.toList.take sa++(arr.extract sa (sa+m.size)).toList++arr.toList.drop (sa+m.toList.length):=by
  rw[BC,Be,<-IX h,E4]
 conv=>rhs;rw[e2]
 exact Qh _ (Jq _ hp)
theorem Vq{a:Array BM}{lo hi i:Nat}(h:hi<=a.size)(sS:i < hi - lo):ix (a.extract lo hi) i=ix a (lo+i):=by
 apply Jb
 rw[Array.getElem?_extract];simp
 lia
section
variable{prog:Bp}{w:CF}{A:CB}{E:AH->AQ->Prop}{s:AQ}{a₀:Array BM}{κ:Na}{lt:BM->BM->Bool}
theorem Zd{a:Array BM}{lo hi:Nat}(h:hi<=a.size)(u:Up lt a lo hi):(a.extract lo hi).toList.Pairwise (Rl lt):=by
 rw[Rs];intro i j sS hj se;simp at sS hj
 have e:∀k (hk:k < (a.extract lo hi).toList.length),(a.extract lo hi).toList[k]=ix a (lo+k):=λk hk=>by
  have qb:k < (a.extract lo hi).size:=by rw[Be]at hk;exact hk
  have:=DR qb;rw[getElem?_pos (a.extract lo hi) k qb]at this
  have hs:(a.extract lo hi).size=hi - lo:=by simp;lia
  rw[<-Vq h (by lia)];simpa using this
 rw[e,e];exact u _ _ (by lia) (by lia) (by omega)
theorem cS{st oR:BR}{Q:PUnit->BR->Prop}(h:Q ⟨⟩ oR):wpS (Ac prog w) A E s (set oR:StateT BR Sem PUnit) Q st:=AO h
theorem TN{st}{i sa na pw sb nb pw2}{Q}(C:KS prog w A s a₀ κ lt)(O:Ord (·∈a₀) lt)(g:Good a₀ κ st)
  (e1:(AZ st)[i]?=some (sa,na,pw)) (e2:(AZ st)[i+1]?=some (sb,nb,pw2)) (rq:sb=sa+na) (rA:1<=na) (hnb:1<=nb) (hs:sb+nb<=a₀.size)
  (ua:Up lt (AX st) sa (sa+na)) (ub:Up lt (AX st) sb (sb+nb))
  (h:∀st',Good a₀ κ st'->AZ st'=((AZ st).setIfInBounds i (sa,na+nb,pw)).eraseIdxIfInBounds (i+1)->Up lt (AX st') sa (sa+(na+nb))->Out (AX st) (AX st') sa (sa+(na+nb))->Q true st') :
  wpS (Ac prog w) A E s (mergeAt' i) Q st:=by
 subst rq;have hsz:=g.size
 have mem:∀j,j < a₀.size->ix (AX st) j∈a₀:=λj hj=>g.mem hj
 have tr:∀x y z:BM,x∈a₀->y∈a₀->z∈a₀->Rl lt x y->Rl lt y z->Rl lt x z:=λx y z hx hy hz h1 h2=>O.ntr x y z hx hy hz h1 h2
 refine(AM (Hq ?_):wpS _ _ _ _ (mergeAt' i) Q st);rw[show(sortPriv% PySem.Builtin.SortState.pending) st=AZ st from rfl,e1,e2];refine AM (cS ?_);generalize hst1:((sortPriv% PySem.Builtin.SortState.mk) (kindOf st) (AX st) (((AZ st).setIfInBounds i (sa,na+nb,pw)).eraseIdxIfInBounds (i+1)) (gallopOf st) (Ij st))=oR
 have g1:Good a₀ κ oR:=by subst hst1;exact⟨g.perm,g.kind,g.failed⟩
 have a1:AX oR=AX st:=by subst hst1;rfl
 have p1:AZ oR=((AZ st).setIfInBounds i (sa,na+nb,pw)).eraseIdxIfInBounds (i+1):=by subst hst1;rfl
 refine AM (Bm (a:=AX st) (i:=sa+na) (by lia) ?_);refine AM (FD (base:=sa) (n:=na) (hint:=0) (arr:=AX st) (key:=ix (AX st) (sa+na)) (left:=false) C g1 (λj=>!lt (ix (AX st) (sa+na)) (ix (AX st) (sa+j))) (mem _ (by lia)) (λj hj=>⟨by lia,mem _ (by lia)⟩) (λj hj=>rfl) (λx y ue hy e=>?_) (by lia) λk hk k1 k2=>?_)
 ·have e':lt (ix (AX st) (sa+na)) (ix (AX st) (sa+y))=false:=by simpa using e
  have:=tr _ _ _ (mem _ (by lia)) (mem _ (by lia)) (mem _ (by lia)) (ua (sa+x) (sa+y) (by lia) (by lia) (by lia)) e';simpa using this
 have low:∀j,sa<=j->j < sa+k->Rl lt (ix (AX st) j) (ix (AX st) (sa+na)):=λj j1 j2=>by
  have:=k1 (j - sa) (by lia);rw[show sa+(j - sa)=j by lia]at this;simpa using this
 have uf:∀i j,sa<=i->i < sa+k->sa+na<=j->j < sa+na+nb->Rl lt (ix (AX st) i) (ix (AX st) j):=λi j i1 i2 j1 j2=>tr _ _ _ (mem _ (by lia)) (mem _ (by lia)) (mem _ (by lia)) (low i i1 i2) (ub _ _ (by lia) (by omega) (by omega))
 have whole:(∀j,sa<=j->j < sa+na->Rl lt (ix (AX st) j) (ix (AX st) (sa+na)))->Up lt (AX st) sa (sa+(na+nb)):=λhh x y h1 h2 h3=>by
  by_cases c1:y < sa+na
  ·exact ua x y h1 h2 c1
  by_cases c2:x < sa+na
  ·exact tr _ _ _ (mem _ (by lia)) (mem _ (by lia)) (mem _ (by lia)) (hh x h1 c2) (ub _ _ (by lia) (by lia) (by lia))
  ·exact ub x y (by lia) h2 (by lia)
 refine(show wpS (Ac prog w) A E s (if (na - k==0)=true then _ else _) Q oR from ?_)
 by_cases c1:na - k=0
 ·rw[qX (by simpa using c1)]
  refine AO (h oR g1 p1 ?_ (by rw[a1];exact .refl));rw[a1]
  exact whole λj j1 j2=>low j j1 (by lia)
 rw[qY (by simpa using c1)];refine AM (Bm (a:=AX st) (i:=sa+k+(na - k) - 1) (by omega) ?_);rw[show sa+k+(na - k) - 1=sa+na - 1 by lia];refine AM (FD (base:=sa+na) (n:=nb) (hint:=nb - 1) (arr:=AX st) (key:=ix (AX st) (sa+na - 1)) (left:=true) C g1 (λj=>lt (ix (AX st) (sa+na+j)) (ix (AX st) (sa+na - 1))) (mem _ (by lia)) (λj hj=>⟨by lia,mem _ (by lia)⟩) (λj hj=>rfl) (λx y ue hy e=>?_) (by omega) λk3 qD k4 k5=>?_)
 ·cases e2:lt (ix (AX st) (sa+na+x)) (ix (AX st) (sa+na - 1))with
  | true=>rfl
  | false=>
   have:=tr _ _ _ (mem _ (by lia)) (mem _ (by lia)) (mem _ (by lia)) e2 (ub (sa+na+x) (sa+na+y) (by lia) (by lia) (by lia));exact nomatch (show true=false from(show lt (ix (AX st) (sa+na+y)) (ix (AX st) (sa+na - 1))=true from e).symm.trans this)
 have high:∀j,sa+na+k3<=j->j < sa+na+nb->Rl lt (ix (AX st) (sa+na - 1)) (ix (AX st) j):=λj j1 j2=>by
  have:=k5 (j - (sa+na)) (by lia) (by lia);rwa [show sa+na+(j - (sa+na))=j by lia]at this
 refine(show wpS (Ac prog w) A E s (if (k3==0)=true then _ else _) Q oR from ?_)
 by_cases c2:k3=0
 ·rw[qX (by simpa using c2)]
  refine AO (h oR g1 p1 ?_ (by rw[a1];exact .refl));rw[a1]
  exact whole λj j1 j2=>tr _ _ _ (mem _ (by lia)) (mem _ (by lia)) (mem _ (by lia)) (ua j (sa+na - 1) (by omega) (by lia) (by lia)) (high _ (by lia) (by lia))
 rw[qY (by simpa using c2)]
 let x:=(AX st).extract (sa+k) (sa+na)
 let y:=(AX st).extract (sa+na) (sa+na+k3)
 have xs:x.size=na - k:=by simp[x];lia
 have ys:y.size=k3:=by simp[y];lia
 have ixx:∀j,j < na - k->ix x j=ix (AX st) (sa+k+j):=λj hj=>Vq (by lia) (by lia)
 have ixy:∀j,j < k3->ix y j=ix (AX st) (sa+na+j):=λj hj=>Vq (by lia) (by lia)
 have sV:∀z∈x.toList,∃j,j < na - k/\z=ix (AX st) (sa+k+j):=λz hz=>by
  have hz:z∈((AX st).extract (sa+k) (sa+k+(na - k))).toList:=by rw[show sa+k+(na - k)=sa+na by lia];exact hz
  exact Ou (by lia) hz
 have sW:∀z∈y.toList,∃j,j < k3/\z=ix (AX st) (sa+na+j):=λz hz=>Ou (by lia) hz
 have fin:∀(r:Array BM) (st':BR),KY a₀ κ oR st'->II (Rl lt) (x.toList++y.toList) r.toList->∀oj:BR,AX oj=wr (AX st') (sa+k) r.toList.zipIdx->kindOf oj=kindOf st'->Ij oj=Ij st'->AZ oj=AZ st'->Q true oj:=by
  intro r st' sm f oj q1 q2 q3 q4
  have hr:r.size=na - k+k3:=by
   have:=f.perm.length_eq;simp only[Ad,Be]at this
   lia
  have ha:AX st'=AX st:=sm.arr.trans a1;rw[ha]at q1
  have hb:sa+k+r.size<=(AX st).size:=by lia
  have mm:∀t,t < r.size->∃t',ix r t=ix (AX st) t'/\sa+k<=t'/\t' < sa+na+k3:=λt ht=>by
   have:ix r t∈r.toList:=BZ.mpr (Cq (DR ht))
   rcases Af.mp (f.perm.mem_iff.mp this)with h | h
   ·obtain⟨j,j1,e⟩:=sV _ h
    exact⟨_,e,by lia,by lia⟩
   ·obtain⟨j,j1,e⟩:=sW _ h
    exact⟨_,e,by lia,by lia⟩
  have rs:=Tc O (a:=r) (λt ht=>by
   obtain⟨t',e,_,_⟩:=mm t ht;rw[e]
   exact mem _ (by lia)) f.srt
  refine h oj ⟨?_,?_,?_⟩ (q4.trans (sm.pend.trans p1)) ?_ ?_
  ·rw[q1]
   refine(eD hb (f.perm.trans ?_)).trans g.perm
   have:(AX st).toList.drop (sa+k)=x.toList++(AX st).toList.drop (sa+na):=by
    have:=IX (a:=AX st) (i:=sa+k) (k:=na - k) (by lia);rw[show sa+k+(na - k)=sa+na by lia]at this;exact this
   have h2:(AX st).toList.drop (sa+na)=y.toList++(AX st).toList.drop (sa+na+k3):=IX (by lia);have h3:(AX st).toList.drop (sa+k)=((AX st).extract (sa+k) (sa+k+r.size)).toList++(AX st).toList.drop (sa+k+r.size):=IX hb;rw[this,h2,<-BC,show sa+k+r.size=sa+na+k3 by lia]at h3;rw[show sa+k+r.size=sa+na+k3 by lia];exact WN (List.append_cancel_right h3)
  ·rw[q2];exact sm.good.kind
  ·rw[q3];exact sm.good.failed
  ·rw[q1]
   intro i j h1 h2 h3;show Rl lt _ _;rw[ay hb,ay hb]
   by_cases i1:i < sa+k
   ·rw[qX i1]
    by_cases j1:j < sa+k
    ·rw[qX j1];exact ua i j h1 h2 (by lia)
    rw[qY j1]
    by_cases j2:j < sa+k+r.size
    ·rw[qX j2]
     obtain⟨t,e,t1,t2⟩:=mm (j - (sa+k)) (by omega);rw[e]
     by_cases t3:t < sa+na
     ·exact ua i t h1 (by lia) t3
     ·exact uf i t h1 i1 (by lia) (by lia)
    ·rw[qY j2];exact uf i j h1 i1 (by lia) (by lia)
   rw[qY i1,qY (show ¬j < sa+k by lia)]
   by_cases i2:i < sa+k+r.size
   ·rw[qX i2]
    by_cases j2:j < sa+k+r.size
    ·rw[qX j2];exact rs _ _ (by lia) (by omega)
    ·rw[qY j2]
     obtain⟨t,e,t1,t2⟩:=mm (i - (sa+k)) (by omega);rw[e]
     by_cases t3:t < sa+na
     ·exact tr _ _ _ (mem _ (by lia)) (mem _ (by lia)) (mem _ (by lia)) (ua t (sa+na - 1) (by lia) (by lia) (by lia)) (high j (by lia) (by lia))
     ·exact ub t j (by lia) (by lia) (by lia)
   ·rw[qY i2,qY (show ¬j < sa+k+r.size by lia)]
    exact ub i j (by lia) h2 (by lia)
  ·rw[q1]
   intro i hi;rw[ay hb]
   by_cases i1:i < sa+k
   ·rw[qX i1]
   ·rw[qY i1,qY (by lia)]
 have args:∀{P:Prop},((∀z∈x.toList,z∈a₀)->(∀z∈y.toList,z∈a₀)->x.toList.Pairwise (Rl lt)->y.toList.Pairwise (Rl lt)->0 < x.size->0 < y.size->(∀z∈x.toList,Rl lt (ix y 0) z)->(∀z∈y.toList,Rl lt z (ix x (x.size - 1)))->P)->P:=by
  intro P hP
  refine hP (λz hz=>?_) (λz hz=>?_) (Zd (by lia) λi j h1 h2 h3=>ua i j (by lia) h2 h3) (Zd (by lia) λi j h1 h2 h3=>ub i j h1 h2 (by lia)) (by lia) (by lia) (λz hz=>?_) λz hz=>?_
  ·obtain⟨j,j1,rfl⟩:=sV z hz
   exact mem _ (by lia)
  ·obtain⟨j,j1,rfl⟩:=sW z hz
   exact mem _ (by lia)
  ·obtain⟨j,j1,rfl⟩:=sV z hz
   rw[ixy 0 (by lia)];have:=k2 (k+j) (by lia) (by lia);rw[show sa+(k+j)=sa+k+j by lia]at this;exact O.asym _ _ (mem _ (by lia)) (mem _ (by lia)) (by simpa using this)
  ·obtain⟨j,j1,rfl⟩:=sW z hz
   rw[xs,ixx _ (by lia),show sa+k+(na - k - 1)=sa+na - 1 by lia];exact O.asym _ _ (mem _ (by lia)) (mem _ (by lia)) (k4 j j1)
 refine(show wpS (Ac prog w) A E s (if na - k<=k3 then mLo x y >>= _ else mHi x y >>= _) Q oR from ?_);split
 ·refine AM (args λb1 b2 b3 b4 b5 b6 b7 b8=>cT C O g1 b1 b2 b3 b4 b5 b6 b7 b8 λr st' sm f=>?_)
  refine AM (De (AM (Hq (AO ?_))));have q:=fin r st' sm f (setArr st' (wr (AX st') (sa+k) r.toList.zipIdx)) rfl rfl rfl rfl;rw[<-show(Ij st').isNone=true by rw[sm.good.failed];rfl]at q;exact q
 ·refine AM (args λb1 b2 b3 b4 b5 b6 b7 b8=>cU C O g1 b1 b2 b3 b4 b5 b6 b7 b8 λr st' sm f=>?_)
  refine AM (De (AM (Hq (AO ?_))));have q:=fin r st' sm f (setArr st' (wr (AX st') (sa+k) r.toList.zipIdx)) rfl rfl rfl rfl;rw[<-show(Ij st').isNone=true by rw[sm.good.failed];rfl]at q;exact q
end
theorem fB[Decidable c](h:1 < z):(if c then z - 2 - 1 else z - 2)+1 < z:=by split <;> omega
def Stk(lt:BM->BM->Bool)(arr:Array BM):List (Nat×Nat×Nat)->Nat->Nat->Prop
 | [],lo,hi=>lo=hi
 | (s,n,_) :: r,lo,hi=>s=lo/\1<=n/\Up lt arr s (s+n)/\Stk lt arr r (s+n) hi
section
theorem Stk.le:∀{l:List (Nat×Nat×Nat)} {lo hi:Nat},Stk lt arr l lo hi->lo+l.length<=hi
 | [],lo,hi,h=>by cases h;simp
 | (s,n,_) :: r,lo,hi,⟨h1,h2,_,h4⟩=>by
  have:=Stk.le h4;rw[A8]
  lia
theorem Stk.app:∀{l r:List (Nat×Nat×Nat)} {lo hi:Nat},Stk lt arr (l++r) lo hi↔∃mid,Stk lt arr l lo mid/\Stk lt arr r mid hi
 | [],r,lo,hi=>⟨λh=>⟨lo,rfl,h⟩,λ⟨_,e,h⟩=>by cases e;exact h⟩
 | (s,n,_) :: l,r,lo,hi=>by
  constructor
  ·rintro⟨h1,h2,h3,h4⟩
   obtain⟨mid,a,b⟩:=Stk.app.mp h4;exact⟨mid,⟨h1,h2,h3,a⟩,b⟩
  ·rintro⟨mid,⟨h1,h2,h3,h4⟩,b⟩
   exact⟨h1,h2,h3,Stk.app.mpr ⟨mid,h4,b⟩⟩
theorem Stk.pw(hf:∀x,(f x).1=x.1/\(f x).2.1=x.2.1):∀{l:List (Nat×Nat×Nat)} {lo hi:Nat} (i:Nat),Stk lt arr l lo hi->Stk lt arr (l.modify i f) lo hi
 | [],lo,hi,i,h=>by cases i <;> exact h
 | (s,n,p) :: r,lo,hi,0,h=>by
  obtain⟨e1,e2⟩:=hf (s,n,p);show Stk lt arr (f (s,n,p) :: r) lo hi;generalize f (s,n,p)=q at e1 e2;obtain⟨s',n',p'⟩:=q;dsimp only at e1 e2;subst e1 e2;exact h
 | (s,n,p) :: r,lo,hi,i+1,⟨h1,h2,h3,h4⟩=>⟨h1,h2,h3,Stk.pw hf i h4⟩
theorem Stk.out:∀{l:List (Nat×Nat×Nat)} {lo hi x y:Nat},Stk lt arr l lo hi->Out arr arr' x y->(hi<=x∨y<=lo)->Stk lt arr' l lo hi
 | [],lo,hi,x,y,h,o,d=>h
 | (s,n,_) :: r,lo,hi,x,y,⟨h1,h2,h3,h4⟩,o,d=>by
  have:=h4.le;exact⟨h1,h2,h3.out o (by lia),Stk.out h4 o (by lia)⟩
end
section
theorem Out.wide(o:Out xs ys l h)(h1:l'<=l)(h2:h<=h'):Out xs ys l' h':=λi hi=>o i (by lia)
theorem Js{st:BR}{i hi:Nat}{Q:Bool->BR->Prop}(C:KS prog w A s a₀ κ lt)(O:Ord (·∈a₀) lt)(g:Good a₀ κ st)(k:Stk lt (AX st) (AZ st).toList 0 hi)(hs:hi<=a₀.size)(qw:i+1 < (AZ st).size)
  (h:∀st',Good a₀ κ st'->Stk lt (AX st') (AZ st').toList 0 hi->(AZ st').size+1=(AZ st).size->Out (AX st) (AX st') 0 hi->Q true st'):wpS (Ac prog w) A E s (mergeAt' i) Q st:=by
 obtain⟨sa,na,pw,e1⟩:∃sa na pw,(AZ st)[i]?=some (sa,na,pw):=⟨_,_,_,getElem?_pos (AZ st) i (by lia)⟩
 obtain⟨sb,nb,pw2,e2⟩:∃sa na pw,(AZ st)[i+1]?=some (sa,na,pw):=⟨_,_,_,getElem?_pos (AZ st) (i+1) qw⟩
 obtain⟨l,r,el,hl⟩:∃l r,(AZ st).toList=l++(sa,na,pw) :: (sb,nb,pw2) :: r/\l.length=i:=by
  have a1:(AZ st).toList[i]?=some (sa,na,pw):=by simpa using e1
  have a2:(AZ st).toList[i+1]?=some (sb,nb,pw2):=by simpa using e2
  obtain⟨b1,c1⟩:=AC.mp a1;obtain⟨b2,c2⟩:=AC.mp a2;refine⟨(AZ st).toList.take i,(AZ st).toList.drop (i+2),?_,by rw[EM];lia⟩
  conv=>lhs;rw[<-E4 i (AZ st).toList,Fh b1,Fh b2,c1,c2]
 rw[el]at k;obtain⟨mid,k1,⟨q1,q2,q3,⟨q4,q5,q6,q7⟩⟩⟩:=Stk.app.mp k;have hle:=q7.le;have hle1:=k1.le
 refine TN C O g e1 e2 q4 q2 q5 (by lia) q3 q6 λst' g' p' u' o'=>?_
 have pl:(AZ st').toList=l++(sa,na+nb,pw) :: r:=by
  rw[p',Array.toList_eraseIdxIfInBounds,Qj,el];rw[List.set_append_right _ _ (by lia),hl,lQ,List.set_cons_zero,List.eraseIdx_append_of_length_le (by lia),show i+1 - l.length=1 by lia];rfl
 refine h st' g' ?_ ?_ (o'.wide (by lia) (by lia))
 ·rw[pl]
  refine Stk.app.mpr ⟨mid,k1.out o' (.inl (by lia)),q1,by lia,u',?_⟩
  have e:sb+nb=sa+(na+nb):=by lia
  rw[e]at q7;exact q7.out o' (.inr (by lia))
 ·have z1:=congrArg Gg pl
  have z2:=congrArg Gg el;simp at z1 z2
  lia
theorem wpS_sortRuns{st:BR}{Q:Unit->BR->Prop}(C:KS prog w A s a₀ κ lt)(O:Ord (·∈a₀) lt)(g:Good a₀ κ st)(hp:AZ st = #[])
  (h:∀st',Good a₀ κ st'->Up lt (AX st') 0 a₀.size->Q () st'):wpS (Ac prog w) A E s sortRuns' Q st:=by
 rw[sortRuns'_eq];refine AM (Hq ?_);dsimp only;rw[g.size];generalize minRun' a₀.size a₀.size 0=mr
 refine AM (DP (B9 (I:=λx c st'=>∃lo,c=(none,lo)/\Good a₀ κ st'/\Stk lt (AX st') (AZ st').toList 0 lo/\lo<=a₀.size/\min x a₀.size<=lo)
  (Q:=λc st'=>c=(none,a₀.size)/\Good a₀ κ st'/\Stk lt (AX st') (AZ st').toList 0 a₀.size) ?step ?fin ?init) ?post)
 case init=>exact⟨0,rfl,g,by rw[hp];rfl,by lia,by lia⟩
 case fin=>
  rintro c st' ⟨lo,rfl,g',k',h1,h2⟩
  have:lo=a₀.size:=by lia
  subst this;exact⟨rfl,g',k'⟩
 case step=>
  rintro x c oR _ hx ⟨lo,rfl,g1,k1,h1,h2⟩;dsimp only
  by_cases pJ:lo ≥ a₀.size
  ·rw[qX pJ]
   have:lo=a₀.size:=by lia
   subst this;exact AO ⟨rfl,g1,k1⟩
  rw[qY pJ];refine AM (wpS_countRun C O (by lia) (by lia) g1 λoj n g2 n1 n2 u2 o2 p2=>?_);dsimp only
  have k2:Stk lt (AX oj) (AZ oj).toList 0 lo:=by
   rw[p2];exact k1.out o2 (.inl (AN _))
  by_cases hm:n < mr
  ·rw[qX hm]
   refine AM (JR ?_);refine AM (wpS_binarySort C O (by lia) (by omega) g2 u2 λpT g3 u3 o3 p3=>?_)
   have k3:Stk lt (AX pT) (AZ pT).toList 0 lo:=by
    rw[p3];exact k2.out o3 (.inl (AN _))
   rw[qY (by simp)];refine AM (Hq ?_)
   cases hb:(AZ pT).back? with
   | none=>
    dsimp only;refine AM (De (AO ⟨lo+min (a₀.size - lo) mr,rfl,⟨g3.perm,g3.kind,g3.failed⟩,?_,by lia,by lia⟩));show Stk lt (AX pT) ((AZ pT).push (lo,min (a₀.size - lo) mr,0)).toList 0 (lo+min (a₀.size - lo) mr);rw[JN];exact Stk.app.mpr ⟨lo,k3,rfl,by omega,u3,rfl⟩
   | some t=>
    obtain⟨s1,n1,z⟩:=t;dsimp only;generalize power' a₀.size (2 * s1+n1) (2 * s1+n1+n1+min (a₀.size - lo) mr) a₀.size=pw
    refine AM (DP (B9 (I:=λ_ c ox=>c=(none,())/\Good a₀ κ ox/\Stk lt (AX ox) (AZ ox).toList 0 lo/\Up lt (AX ox) lo (lo+min (a₀.size - lo) mr))
     (Q:=λc ox=>c=(none,())/\Good a₀ κ ox/\Stk lt (AX ox) (AZ ox).toList 0 lo/\Up lt (AX ox) lo (lo+min (a₀.size - lo) mr)) ?_ (λc ox h=>h) ⟨rfl,g3,k3,u3⟩) ?_)
    ·rintro x' c' ox _ _ ⟨rfl,g4,k4,u4⟩
     refine AM (Hq ?_)
     by_cases hz:(AZ ox).size > 1
     ·rw[qX hz]
      obtain⟨s2,n2,pK,e2⟩:∃s2 n2 pK,(AZ ox)[(AZ ox).size - 2]?=some (s2,n2,pK):=⟨_,_,_,getElem?_pos (AZ ox) ((AZ ox).size - 2) (by lia)⟩
      rw[e2];dsimp only
      by_cases ho:pK<=pw
      ·rw[qX ho]
       exact AO ⟨rfl,g4,k4,u4⟩
      ·rw[qY ho]
       refine AM (Js C O g4 k4 (by omega) (by lia) λqU g5 k5 _ o5=>?_);exact AO ⟨rfl,g5,k5,u4.out o5 (.inr (by lia))⟩
     ·rw[qY hz]
      exact AO ⟨rfl,g4,k4,u4⟩
    ·rintro c' ox ⟨rfl,g4,k4,u4⟩
     dsimp only;refine AM (De (AM (De (AO ⟨lo+min (a₀.size - lo) mr,rfl,⟨g4.perm,g4.kind,g4.failed⟩,?_,by lia,by lia⟩))));show Stk lt (AX ox) ((((AZ ox).modify ((AZ ox).size - 1) λx=>(x.fst,x.2.fst,pw))).push (lo,min (a₀.size - lo) mr,0)).toList 0 (lo+min (a₀.size - lo) mr);rw[JN,WR];exact Stk.app.mpr ⟨lo,Stk.pw (f:=λx=>(x.fst,x.2.fst,pw)) (λx=>⟨rfl,rfl⟩) _ k4,rfl,by omega,u4,rfl⟩
  ·rw[qY hm]
   refine AM (Hq ?_)
   cases hb:(AZ oj).back? with
   | none=>
    dsimp only;refine AM (De (AO ⟨lo+n,rfl,⟨g2.perm,g2.kind,g2.failed⟩,?_,by lia,by lia⟩));show Stk lt (AX oj) ((AZ oj).push (lo,n,0)).toList 0 (lo+n);rw[JN];exact Stk.app.mpr ⟨lo,k2,rfl,by omega,u2,rfl⟩
   | some t=>
    obtain⟨s1,n1,z⟩:=t;dsimp only;generalize power' a₀.size (2 * s1+n1) (2 * s1+n1+n1+n) a₀.size=pw
    refine AM (DP (B9 (I:=λ_ c ox=>c=(none,())/\Good a₀ κ ox/\Stk lt (AX ox) (AZ ox).toList 0 lo/\Up lt (AX ox) lo (lo+n))
     (Q:=λc ox=>c=(none,())/\Good a₀ κ ox/\Stk lt (AX ox) (AZ ox).toList 0 lo/\Up lt (AX ox) lo (lo+n)) ?_ (λc ox h=>h) ⟨rfl,g2,k2,u2⟩) ?_)
    ·rintro x' c' ox _ _ ⟨rfl,g4,k4,u4⟩
     refine AM (Hq ?_)
     by_cases hz:(AZ ox).size > 1
     ·rw[qX hz]
      obtain⟨s2,n2,pK,e2⟩:∃s2 n2 pK,(AZ ox)[(AZ ox).size - 2]?=some (s2,n2,pK):=⟨_,_,_,getElem?_pos (AZ ox) ((AZ ox).size - 2) (by lia)⟩
      rw[e2];dsimp only
      by_cases ho:pK<=pw
      ·rw[qX ho]
       exact AO ⟨rfl,g4,k4,u4⟩
      ·rw[qY ho]
       refine AM (Js C O g4 k4 (by omega) (by lia) λqU g5 k5 _ o5=>?_);exact AO ⟨rfl,g5,k5,u4.out o5 (.inr (by lia))⟩
     ·rw[qY hz]
      exact AO ⟨rfl,g4,k4,u4⟩
    ·rintro c' ox ⟨rfl,g4,k4,u4⟩
     dsimp only;refine AM (De (AM (De (AO ⟨lo+n,rfl,⟨g4.perm,g4.kind,g4.failed⟩,?_,by lia,by lia⟩))));show Stk lt (AX ox) ((((AZ ox).modify ((AZ ox).size - 1) λx=>(x.fst,x.2.fst,pw))).push (lo,n,0)).toList 0 (lo+n);rw[JN,WR];exact Stk.app.mpr ⟨lo,Stk.pw (f:=λx=>(x.fst,x.2.fst,pw)) (λx=>⟨rfl,rfl⟩) _ k4,rfl,by omega,u4,rfl⟩
 case post=>
  rintro c oR ⟨rfl,g1,k1⟩;dsimp only
  refine AM (DP (B9 (I:=λx c ox=>c=(none,())/\Good a₀ κ ox/\Stk lt (AX ox) (AZ ox).toList 0 a₀.size/\((AZ ox).size<=1∨(AZ ox).size+x<=a₀.size))
   (Q:=λc ox=>c=(none,())/\Good a₀ κ ox/\Stk lt (AX ox) (AZ ox).toList 0 a₀.size/\(AZ ox).size<=1) ?_ ?_ ?_) ?_)
  ·rintro x c ox _ _ ⟨rfl,g4,k4,d⟩
   refine AM (Hq ?_)
   by_cases hz:(AZ ox).size<=1
   ·rw[qX hz]
    exact AO ⟨rfl,g4,k4,hz⟩
   ·rw[qY hz]
    refine AM (Js C O g4 k4 (AN _) (fB (by lia)) λqU g5 k5 z5 o5=>?_);exact AO ⟨rfl,g5,k5,.inr (by lia)⟩
  ·rintro c ox ⟨rfl,g4,k4,d⟩
   exact⟨rfl,g4,k4,by lia⟩
  ·refine⟨rfl,g1,k1,.inr ?_⟩
   have:=k1.le;simp at this;omega
  ·rintro c ox ⟨rfl,g4,k4,d⟩
   refine AO (h ox g4 ?_);generalize hl:(AZ ox).toList=l at k4
   have hd:l.length<=1:=by rw[<-hl];simpa using d
   match l,k4,hd with
   | [],k4,_=>exact λi j h1 h2 h3=>by have:(0:Nat)=a₀.size:=k4;lia
   | [(s,n,_)],⟨e1,_,u,e2⟩,_=>
    have e2:s+n=a₀.size:=e2;rw[e2,e1]at u;exact u
end
def ltL:List Int->List Int->Bool
 | [],[]=>false
 | [],_ :: _=>true
 | _ :: _,[]=>false
 | x :: xs,y :: ys=>if x=y then ltL xs ys else decide (x < y)
theorem P9:∀x y,ltL x y=true->ltL y x=false
 | [],[],h=>by cases h
 | [],_ :: _,_=>rfl
 | _ :: _,[],h=>by cases h
 | x :: xs,y :: ys,h=>by
  unfold ltL at h ⊢
  by_cases e:x=y
  ·rw[qX e]at h;rw[qX e.symm];exact P9 xs ys h
  ·rw[qY e]at h;rw[qY (Br e)];simp at h ⊢;lia
theorem SO:∀x y z,ltL y x=false->ltL z y=false->ltL z x=false
 | [],y,[],_,_=>rfl
 | [],[],_ :: _,_,_=>rfl
 | [],_ :: _,_ :: _,_,_=>rfl
 | x :: xs,[],z,h,_=>by cases h
 | _,y :: ys,[],_,h=>by cases h
 | x :: xs,y :: ys,z :: zs,h1,h2=>by
  unfold ltL at h1 h2 ⊢
  by_cases e1:y=x
  ·rw[qX e1]at h1
   subst e1
   by_cases e2:z=y
   ·rw[qX e2]at h2 ⊢
    exact SO xs ys zs h1 h2
   ·rw[qY e2]at h2 ⊢;exact h2
  ·rw[qY e1]at h1
   by_cases e2:z=y
   ·subst e2;rw[qY e1];exact h1
   ·rw[qY e2]at h2
    by_cases e3:z=x
    ·subst e3;simp at h1 h2;lia
    ·rw[qY e3];simp at h1 h2 ⊢;lia
theorem Wt:∀x y,ltL x y=false->ltL y x=false->x=y
 | [],[],_,_=>rfl
 | [],_ :: _,h,_=>by cases h
 | _ :: _,[],_,h=>by cases h
 | x :: xs,y :: ys,h1,h2=>by
  unfold ltL at h1 h2
  by_cases e:x=y
  ·rw[qX e]at h1;rw[qX e.symm]at h2;rw[e,Wt xs ys h1 h2]
  ·rw[qY e]at h1;rw[qY (Br e)]at h2;simp at h1 h2;lia
def ltK(f:AH->List Int)(x y:BM):Bool:=ltL (f x.1) (f y.1)
theorem eR(f:AH->List Int)(U:BM->Prop):Ord U (ltK f):=⟨λx y _ _ h=>P9 _ _ h,λx y z _ _ _ h1 h2=>SO _ _ _ h1 h2⟩
section
theorem Ve(o:Bool)(h:Q (decide (a < b)) s):Aw (Ac prog w) A (oneLt' o (.int a t) (.int b u)) Q E s:=by
 cases o with
 | true=>exact oneLt_int h
 | false=>
  rw[oneLt'_eq];simp only[Cv,if_false];exact AB (wpAny_lt_int (Db h))
def V8(s:AQ)(v:AH)(ns:List Int):Prop:=∃a i',v=.ref a/\s.heap.IsTuple a i'/\GZ i'.toList ns
def nQ(o:Bool):(AH×AH)×Nat->Option Bool×Unit->Sem (ForInStep (Option Bool×Unit)):=λe _=>match e with
 | ((p,q),i)=>eqBool p q >>= λc=>if (!c)=true then oneLt' (o&&i==0) p q >>= λb=>pure (.done (some b,()))else pure (.yield (none,()))
theorem ax(o:Bool)(x y:AH):keyLt' (km o) x y=(Il x >>= λr=>Il y >>= λq=>forIn (r.toList.zip q.toList).zipIdx ((none,()):Option Bool×Unit) (nQ o) >>= λz=>match z.1 with
  | some b=>pure b
  | none=>pure (decide (r.size < q.size))):=by kernel_rfl
theorem bn(o:Bool):∀{is js:List AH} {ns ms:List Int} (k:Nat) {Q:Bool->AQ->Prop},GZ is ns->GZ js ms->Q (ltL ns ms) s ->
  Aw (Ac prog w) A (forIn ((is.zip js).zipIdx k) ((none,()):Option Bool×Unit) (nQ o) >>= λz=>match z.1 with
   | some b=>pure b
   | none=>pure (decide (n0+is.length < n0+js.length))) Q E s:=by
 intro is
 induction is with
 | nil=>
  intro js ns ms k Q h1 h2 hq;cases h1;rw[List.zip_nil_left,cP,Ll];refine AB (AR (AR ?_))
  cases h2 with
  | nil=>simpa[ltL]using hq
  | cons m t h=>simpa[ltL]using hq
 | cons v is ih=>
  intro js ns ms k Q h1 h2 hq
  cases h1 with
  | cons n t h1=>
   cases h2 with
   | nil=>
    rw[List.zip_nil_right,cP,Ll];refine AB (AR (AR ?_));rw[wY (by rw[A8,IJ];lia)];exact hq
   | cons m u h2=>
    rw[List.zip_cons_cons,List.zipIdx_cons,Ki];rw[bind_assoc];unfold ltL at hq;refine AB ?_;refine AB (lK ?_)
    by_cases e:n=m
    ·rw[qX e]at hq
     rw[qY (by simp[e])];refine AR ?_;have:=ih (k+1) h1 h2 hq;simpa[Nat.add_lt_add_iff_left]using this
    ·rw[qY e]at hq
     rw[qX (by simp[e])];refine AB (Ve _ (AR ?_));exact AB (AR (AR hq))
end
section
theorem Nm(h:V8 s v ns):∃i':Array AH,GZ i'.toList ns/\s.TypeIs v "tuple"/\∀(E:AH->AQ->Prop) (Q:Array AH->AQ->Prop),Q i' s->Aw (Ac prog w) A (Il v) Q E s:=by
 obtain⟨a,i',rfl,⟨o,ho,hc,n,hd⟩,hi⟩:=h;exact⟨i',hi,⟨o,ho,hc⟩,λE Q q=>listItems_at ho hd q⟩
theorem fm(o:Bool)(hx:V8 s x ns)(hy:V8 s y ms)(h:Q (ltL ns ms) s):Aw (Ac prog w) A (keyLt' (km o) x y) Q E s:=by
 obtain⟨r,hr,_,wr⟩:=Nm (prog:=prog) (w:=w) (A:=A) hx;obtain⟨q,hq,_,wq⟩:=Nm (prog:=prog) (w:=w) (A:=A) hy;rw[ax];refine AB (wr E _ (AB (wq E _ ?_)));have:=bn (prog:=prog) (w:=w) (A:=A) (E:=E) (n0:=0) o 0 hr hq h;simp only[HD,Be]at this;exact this
theorem Yh(h:V8 s v (n :: ns))(hq:∀t,Q (some (.int n t)) s):Aw (Ac prog w) A (XY v) Q E s:=by
 obtain⟨r,hr,ty,wr⟩:=Nm (prog:=prog) (w:=w) (A:=A) h;refine(AB (wpAny_typeOf ty ?_):Aw _ _ (XY v) Q E s);refine(show Aw (Ac prog w) A (if (GY "tuple" != GY "tuple")=true then _ else _) Q E s from ?_);rw[qY (by simp)];refine AB (wr E _ (AR ?_));generalize hl:r.toList=l at hr
 cases hr with
 | cons _ t h2=>
  have:r[0]?=some (.int n t):=by
   rw[<-HV,hl];rfl
  rw[this];exact hq t
theorem QJ:∀{vs:List AH},(∀v∈vs,∃n ns,V8 s v (n :: ns))->∀{Q:List (Option AH)->AQ->Prop},(∀is ns,GZ is ns->is.length=vs.length->Q (is.map some) s)->Aw (Ac prog w) A (vs.mapM XY) Q E s
 | [],_,Q,h=>by
  rw[List.mapM_nil];exact AR (h [] [] .nil rfl)
 | v :: vs,hv,Q,h=>by
  obtain⟨n,ns,hn⟩:=hv v Aq;rw[List.mapM_cons];refine AB (Yh hn λt=>AB (QJ (λv tM=>hv v (AT _ tM)) λis ms h1 h2=>AR ?_));exact h (.int n t :: is) (n :: ms) (.cons n t h1) (by rw[A8,h2,A8])
theorem SG(h:GZ is ns)(h0:is≠[]):oneTypeOnly' is.toArray=pure (some (.type "int")):=by
 rw[oneTypeOnly'_eq,ZF,mapM_typeOf_ints h];simp only[map_pure,pure_bind]
 cases is with
 | nil=>exact zX rfl h0
 | cons v is=>
  have e0:(Lk (λ_=>GY "int") (v :: is)).toArray[0]?=some (GY "int"):=by simp
  have e1:((Lk (λ_=>GY "int") (v :: is)).toArray.all λx=>x==GY "int")=true:=by
   simp only[List.all_toArray,Um,Fg]
   exact λ_ _=>rfl
  rw[e0];simp only[e1,if_true]
theorem aw(hv:∀v∈vs,∃n ns,V8 s v (n :: ns))(h0:vs≠[])(h:Q (km true) s):Aw (Ac prog w) A (keyKind' vs.toArray) Q E s:=by
 rw[keyKind'_eq,ZF];refine AB ?_;rw[map_eq_pure_bind];refine AB (QJ hv λis ns h1 h2=>AR ?_)
 have hall:((is.map some).toArray.all λx=>x.isSome)=true:=by simp
 rw[qX hall];refine AB (g8 ?_)
 have hf:(is.map some).toArray.filterMap id=is.toArray:=by simp
 rw[hf,SG h1 (by intro e;subst e;cases vs with | nil=>exact h0 rfl | cons=>simp at h2)];refine AB (AR (AR ?_));exact h
end
section
theorem HJ(h:x∈Ka vs):x.1∈vs/\x.1=x.2:=by
 have:x∈(Ka vs).toList:=BZ.mpr h;rw[pairsOf_toList]at this;exact⟨(mem_zip_self this).2,(mem_zip_self this).1⟩
theorem YL(vs:List AH):(Ka vs).map (·.2)=vs.toArray:=by
 apply Array.ext'
 rw[Jr,pairsOf_toList];simp[List.map_snd_zip]
def Ss(prog:Bp)(w:CF)(A:CB)(s:AQ)(vs:List AH)(f:AH->List Int):Prop:=
 ∃κ:Na,(∀(Q:Na->AQ->Prop) (E:AH->AQ->Prop),Q κ s->Aw (Ac prog w) A (keyKind' vs.toArray) Q E s)/\KS prog w A s (Ka vs) κ (ltK f)
theorem Qs(ho:s.heap.get? a=some (Iw "list" vs.toArray n)) (hz:vs.length<=sizeLine)
  (hk:2<=vs.length->∀s':AQ,(∀b o,b≠a->s.heap.get? b=some o->s'.heap.get? b=some o)->Ss prog w A s' vs f)
  (h:∀out:Array AH,out.toList.Perm vs->out.toList.Pairwise (λx y=>ltL (f y) (f x)=false)->P (.done (.ret .none)) { s with heap:=iA s.heap a vs out }) :
  Aw (Ac prog w) A (Builtin.«list.sort» ⟨[.ref a],[]⟩) P E s:=by
 have ha:a < s.heap.objs.size:=Ai ho
 have hsz:vs.toArray.size=vs.length:=by simp
 obtain⟨e1,ho1⟩:∃e1,(s.heap.update a (Hr λ_=>#[])).get? a=some (Iw "list" #[] e1):=⟨_,get?_update_seq ho (λ_=>#[])⟩
 have vq:(((s.heap.update a (Hr λ_=>#[])).push (Iw "tuple" vs.toArray 0)).push (Iw "list" #[] 0)).get? a=some (Iw "list" #[] e1):=
  AK _ (AK _ ho1)
 have old:∀b o,b≠a->s.heap.get? b=some o->(((s.heap.update a (Hr λ_=>#[])).push (Iw "tuple" vs.toArray 0)).push (Iw "list" #[] 0)).get? b=some o:=λb o hb hg=>
  AK _ (AK _ (by rw[Xi _ _ _ _ hb];exact hg))
 have fin:∀st':BR,(AX st').Perm (Ka vs)->(AX st').toList.Pairwise (Rl (ltK f))->P (.done (.ret .none)) { s with heap:=iA s.heap a vs ((AX st').map (·.2)) }:=by
  intro st' hp hs
  have pZ:∀x∈(AX st').toList,x.1=x.2:=λx hx=>by
   have:x∈(Ka vs).toList:=(FM.mp hp).mem_iff.mp hx;exact(HJ (BZ.mp this)).2
  refine h _ ?_ ?_
  ·have:=(FM.mp hp).map (·.2)
   rw[<-Jr,<-Jr,YL]at this;simpa using this
  ·rw[Jr,CQ]
   refine hs.imp_of_mem λ{x y} hx hy r=>?_
   rw[<-pZ x hx,<-pZ y hy];exact r
 have last:∀st':BR,(AX st').Perm (Ka vs)->Ij st'=none->(AX st').toList.Pairwise (Rl (ltK f))->(((AX st').map (·.2)).size<=sizeLine+1):=λst' hp _ _=>by
  rw[Array.size_map,hp.size_eq,pairsOf_size]
  lia
 rw[list_sort_plain];refine AB (listItems_at ho rfl (AB (XX ho rfl (AB (cK ho1 rfl (AB (wpAny_newTuple (AB (wpAny_newList (Ig ?_)))))) ) (by rw[hsz];exact hz) (DK _))));show Aw (Ac prog w) A _ P E { s with heap:=((s.heap.update a (Hr λ_=>#[])).push (Iw "tuple" vs.toArray 0)).push (Iw "list" #[] 0) };dsimp only
 by_cases h2:vs.toArray.size < 2
 ·rw[qX h2,qX h2]
  refine AB (AR ?_);rw[StateT.run_pure]
  have wR:(AX (HS Uv (vs.toArray.zip vs.toArray) #[] 7 none)).toList.Pairwise (Rl (ltK f)):=by
   have:(AX (HS Uv (vs.toArray.zip vs.toArray) #[] 7 none)).toList.length < 2:=by
    rw[Be];show(Ka vs).size < 2;rw[pairsOf_size];omega
   generalize (AX (HS Uv (vs.toArray.zip vs.toArray) #[] 7 none)).toList=l at this
   match l,this with
   | [],_=>exact .nil
   | [x],_=>exact KN _ _
   | _ :: _ :: _,h=>simp at h;lia
  refine AB (AR (AB (cK vq rfl (AB (XX vq rfl ?_ (DK _) (last (HS Uv (vs.toArray.zip vs.toArray) #[] 7 none) (NX _) rfl wR))))));simp only[bne_self_eq_false,Cv,if_false];exact AR (fin (HS Uv (vs.toArray.zip vs.toArray) #[] 7 none) (NX _) wR)
 ·rw[qY h2,qY h2]
  obtain⟨κ,kk,C⟩:=hk (by lia) { s with heap:=((s.heap.update a (Hr λ_=>#[])).push (Iw "tuple" vs.toArray 0)).push (Iw "list" #[] 0) } old;refine AB (kk _ _ ?_)
  refine AB (E7 (Srt.wpS_sortRuns (a₀:=Ka vs) (st:=HS κ (vs.toArray.zip vs.toArray) #[] 7 none)
   (Q:=λ_ st'=>(AX st').Perm (Ka vs)/\Ij st'=none/\(AX st').toList.Pairwise (Rl (ltK f))) C (eR f _) ⟨NX _,rfl,rfl⟩ rfl λst' g u=>⟨g.perm,g.failed,?_⟩) ?_ λ_ _ e=>e)
  ·have:=Zd (a:=AX st') (lo:=0) (hi:=(AX st').size) (AN _) (by rw[g.size];exact u)
   rwa [KG,List.drop_zero]at this
  rintro⟨⟨⟩,st'⟩ s' ⟨rfl,hp,hf,hs⟩;refine AB (cK vq rfl (AB (XX vq rfl ?_ (DK _) (last st' hp hf hs))));rw[hf];simp only[bne_self_eq_false,Cv,if_false];exact AR (fin st' hp hs)
theorem Xx(h:∀v∈vs,V8 s v (f v)/\f v≠[])(h0:vs≠[]):Ss prog w A s vs f:=
 ⟨km true,λQ E q=>aw (λv hv=>by
  obtain⟨h1,h2⟩:=h v hv
  cases e:f v with
  | nil=>exact zX e h2
  | cons n ns=>exact⟨n,ns,by rw[<-e];exact h1⟩) h0 q,λx y hx hy Q E q=>fm true (h _ (HJ hx).1).1 (h _ (HJ hy).1).1 q⟩
def aL(v:AH):List Int:=[numOf v]
theorem Xy(h:GZ vs ns)(h2:2<=vs.length):Ss prog w A s vs aL:=by
 refine⟨oneType',λQ E q=>?_,λx y hx hy Q E q=>?_⟩
 ·match vs,h2,h with
  | v :: u :: r,_,h=>rw[keyKind_ints h];exact AR q
 ·obtain⟨n,t,e1⟩:=h.all _ (HJ hx).1
  obtain⟨m,u,e2⟩:=h.all _ (HJ hy).1;rw[keyLt'_oneType,e1,e2];refine oneLt_int ?_
  have:ltK aL x y=decide (n < m):=by
   unfold ltK aL;rw[e1,e2];show(if n=m then false else decide (n < m))=_;split
   ·rename_i e;simp[e]
   ·rfl
  rw[<-this];exact q
end
def Qx(h:Cj)(d:AV)(es:Array OH)(ep:Nat):Prop:=∃o,h.get? d=some o/\o.ExactDict/\o.data=.dict es ep
theorem Qx.at'(x:Qx h d es ep)(e:∀o,h.get? d=some o->h'.get? d=some o):Qx h' d es ep:=let ⟨o,ho,r⟩:=x;⟨o,e _ ho,r⟩
theorem Qx.ty{s:AQ}{d:AV}{es:Array OH}{ep:Nat}(x:Qx s.heap d es ep):s.TypeIs (.ref d) "dict":=let ⟨o,ho,hc,_⟩:=x;⟨o,ho,hc.1⟩
section
theorem Tv{Q:AH->AQ->Prop}(hd:(d==DJ)=false)(hm:Qx s.heap d es ep)
  (kq:Q (.ref s.heap.objs.size) { s with heap:=s.heap.push { cls:=.type "dict_keyiterator",data:=.fields #[.ref d,.int 0 0,.int es.size 0,.int ep 0] } }):Aw (Ac prog w) A (ZA (.ref d)) Q E s:=by
 have hT:=hm.ty;obtain⟨o,ho,hc,ug⟩:=hm;refine wpAny_pyIter_slot hT Rq (Em Rq hT PySem.F.entry_dict_iter ?_ (PySem.F.args_dict_iter_1 _));unfold Builtin.«dict.__iter__»;refine AB ?_;unfold oE;refine AB (wpAny_notOrdered_dict hT (show Aw _ _ (pure (Au d)) _ _ s from AR ?_));refine(show Aw _ _ (PF d >>= _) _ _ s from ?_);unfold PF;rw[qY (by simp[hd])];refine AB (AR (AB (QY ho ug (AB (TF ho ug (AB (EL (AR ⟨_,rfl, "dict_keyiterator",_,⟨_,Al _ rfl,rfl⟩,Ca.lookup,?_⟩))))))));simpa[Eo]using kq
theorem Tu(ki:s.heap.IsKeyIter it d i es.size ep)(hm:Qx s.heap d es ep)(hi:i < es.size)
  (kq:∀h',h'.IsKeyIter it d (i+1) es.size ep->Ec it s.heap h'->Q (some es[i].key) { s with heap:=h' }):Aw (Ac prog w) A (Rj (.ref it)) Q E s:=by
 obtain⟨o,ho,hc,hd⟩:=id ki;obtain⟨od,uh,qe,ui⟩:=hm;unfold Rj;refine AB (Ih (En (name:=Kd "__next__") ki.typeIs Ca (Em Ca ki.typeIs Lj (AB (AR (AB (AB ?_)))) (LX _))))
 first | refine AB (E2 ki.typeIs (AR (AB (NY ho hd ?_)))) | refine AB (G1 ki.typeIs (AR (AB (NY ho hd ?_))))
 simp only[show Kc "dict_keyiterator" = false by decide,Cv,if_false];refine(show Aw _ _ (if (Au d==BY)=true then _ else _) _ _ s from ?_);rw[qY (λz:(Au d==BY)=true=>AL z)];refine AB (AR (AB (QY uh ui ?_)));rw[qY (by simp)];refine AB (AR (AB (TF uh ui ?_)));rw[qY (by simp)];refine AR ?_;simp only[show ¬((i:Int) < 0) by lia,if_false,Bk,Q6 hi];refine AB ?_
 first | refine AB (E2 ki.typeIs (AR (AB (Mo ki.typeIs ?_)))) | refine AB (G1 ki.typeIs (AR (AB (Mo ki.typeIs ?_))))
 refine(show Aw _ _ (cJ (.ref it) 1 (Eo ((i:Int)+1)) >>= _) _ _ s from ?_);have vt:(s.heap.update it (C8 (·.setIfInBounds 1 (Eo ((i:Int)+1))))).IsKeyIter it d (i+1) es.size ep:=⟨_,E5 _ ho (FA (CJ hd _)),(Jl ..).trans hc,by rw[CJ hd];simp[Eo]⟩;refine AB (F0 ho hd (by simp) (AB (Ig (AB (Mo (s:={ s with heap:=s.heap.update it (C8 (·.setIfInBounds 1 (Eo ((i:Int)+1)))) }) vt.typeIs ?_)))));exact(show Aw _ _ (pure es[i].key) _ _ _ from AR (AR ⟨_,rfl,AR (kq _ vt (HF ..))⟩))
theorem Wm(h0:A.handled=none)(ki:s.heap.IsKeyIter it d i es.size ep)(hm:Qx s.heap d es ep)(hi:es.size<=i)
  (kq:∀h',WP it s.heap h'->Q none { s with heap:=h' }):Aw (Ac prog w) A (Rj (.ref it)) Q E s:=by
 obtain⟨o,ho,hc,hd⟩:=id ki;obtain⟨od,uh,qe,ui⟩:=hm;unfold Rj;refine AB (Ih (En (name:=Kd "__next__") ki.typeIs Ca (Em Ca ki.typeIs Lj (AB (AR (AB (AB ?_)))) (LX _))))
 first | refine AB (E2 ki.typeIs (AR (AB (NY ho hd ?_)))) | refine AB (G1 ki.typeIs (AR (AB (NY ho hd ?_))))
 simp only[show Kc "dict_keyiterator" = false by decide,Cv,if_false];refine(show Aw _ _ (if (Au d==BY)=true then _ else _) _ _ s from ?_);rw[qY (λz:(Au d==BY)=true=>AL z)];refine AB (AR (AB (QY uh ui ?_)));rw[qY (by simp)];refine AB (AR (AB (TF uh ui ?_)));rw[qY (by simp)];refine AR ?_;simp only[show ¬((i:Int) < 0) by lia,if_false,Bk,Array.getElem?_eq_none hi];refine AB ?_
 first | refine AB (E2 ki.typeIs (AR (show Aw _ _ (cJ (.ref it) 0 .none >>= _) _ _ s from ?_))) | refine AB (G1 ki.typeIs (AR (show Aw _ _ (cJ (.ref it) 0 .none >>= _) _ _ s from ?_)))
 refine AB (F0 ho hd (by simp) (show Aw _ _ (newExc (.type "StopIteration") [] >>= _) _ _ _ from AB ?_));simp only[newExc,newTuple];refine AB (EL (AB (m:=NZ _ _) (cH (a:=BY) (by first | rfl | (simp only[NZ];rfl)) (EL ?_ (by size_fits)))) (by size_fits));simp only[raiseNew];refine AB (wpAny_handled ?_);rw[show A.in1.handled=none from h0];refine AB (AR (wpAny_throw ?_));refine AB (lI (T:="StopIteration") (b:=true) ⟨_,Al _ rfl,rfl⟩ isSubtype_stop (AR ?_));exact kq _ (((HF ..).extBut.push _).push _)
theorem YC(h0:A.handled=none)(I:AV)(oO:d≠I):Walks prog w A I [I,d] [I] es.size (λi v=>∃h:i < es.size,v=es[i].key) (λi h=>h.IsKeyIter I d i es.size ep/\Qx h d es ep) where
 sub:=λx hx=>by simp at hx;simp[hx]
 frame:=λ_ _ _ st keep=>⟨st.1.at λo e=>keep I (by simp) o e,st.2.at' λo e=>keep d (by simp) o e⟩
 item:=λi s Q E hi st kq=>Tu st.1 st.2 hi λh' vt uj=>kq _ h' s.toks ⟨hi,rfl⟩ ⟨vt,st.2.at' λo e=>uj.extBut d o oO e⟩ λb o hb e=>uj.extBut b o (λh=>hb (by simp[h])) e
 done:=λs Q E st kq=>Wm h0 st.1 st.2 (AN _) λh' uk=>kq h' s.toks λb o hb e=>uk b o (λh=>hb (by simp[h])) e
 self:=λ_ _ _ _ st kq=>cG st.1 kq
theorem Wl(lo:(d==DJ)=false):PySem.W.KdlSrc prog w "dict" d d es.size (λi v=>∃h:i < es.size,v=es[i].key) (λh=>Qx h d es ep) where
 type:=λ_ hm=>hm.ty
 there:=λ_ hm=>⟨let ⟨_,ho,_⟩:=hm;Ai ho,let ⟨_,ho,_⟩:=hm;Ai ho⟩
 keep:=λ_ _ hm hk=>hm.at' λo e=>hk d (.inl rfl) o e
 notList:=by decide
 notTuple:=by decide
 hint:=λ_ _ _ _ hm hq=>PySem.W.kdl_hint_dict hm.ty hq
 iter:=λ_ _ h0 hm=>⟨_,_,(λ_ _ hq=>Tv lo hm hq),YC h0 _ (A0 (let ⟨_,ho,_⟩:=hm;Ai ho)),⟨⟨_,Al _ rfl,rfl,rfl⟩,hm.at' λo e=>AK _ e⟩⟩
end
end Srt
namespace L2
open PySem PySem.Spec PyProof.Rows
open Srt (ltL)
theorem T0{α β:Type}{R:α->β->Prop}{l2 Ϝ:List β}(p:l2.Perm Ϝ):∀{l1:List α},FZ R l1 l2->∃u6,FZ R u6 Ϝ/\u6.Perm l1:=by
 induction p with
 | nil=>intro l1 h;cases h;exact⟨[],.nil,.refl _⟩
 | cons x _ ih=>
  intro l1 h
  cases h with
  | cons r t=>
   obtain⟨l',h1,h2⟩:=ih t;exact⟨_ :: l',.cons r h1,h2.cons _⟩
 | swap x y l=>
  intro l1 h
  cases h with
  | cons r t=>
   cases t with
   | cons r2 t=>exact⟨_ :: _ :: _,.cons r2 (.cons r t),List.Perm.swap _ _ _⟩
 | trans _ _ ih1 ih2=>
  intro l1 h;obtain⟨a,h1,h2⟩:=ih1 h;obtain⟨b,h3,h4⟩:=ih2 h1;exact⟨b,h3,h4.trans h2⟩
theorem M6{α β γ:Type}{R:α->β->Prop}{f:α->γ}{g:β->γ}:∀{l1:List α} {l2:List β},FZ R l1 l2->(∀a∈l1,∀b,R a b->g b=f a)->l2.map g=l1.map f
 | _,_,.nil,_=>rfl
 | _,_,.cons r t,h=>by rw[BA,BA,h _ Aq _ r,M6 t λa ha=>h a (AT _ ha)]
theorem Ps{α β:Type}{R:α->β->Prop}:∀{l1:List α} {l2:List β} {b:β},FZ R l1 l2->b∈l2->∃a∈l1,R a b
 | _,_,_,.nil,h=>nomatch h
 | _,_,b,.cons r t,h=>by
  rcases At.mp h with h | h
  ·subst h;exact⟨_,Aq,r⟩
  ·obtain⟨a,ha,e⟩:=Ps t h
   exact⟨a,AT _ ha,e⟩
def Qp:V->Int
 | .int n=>n
 | _=>0
def X6(H:Hp):AH->List Int
 | .int n _=>[n]
 | .ref b=>match H b with
  | some (.tup xs)=>xs.map Qp
  | _=>[]
 | _=>[]
theorem Nx(r:List Int):(r.map V.int).map Qp=r:=by
 rw[A2];exact(CO λa _=>rfl).trans (lE r)
def nX(K:AG)(H:Hp)(p:AV)(G:List V->Prop):Prop:=
 (∃vs,(SqL K H p vs∨SqT K H p vs)/\G vs)∨(∃kvs,H p=some (.dK kvs)/\G (kvs.map λx=>kV x.1)) ∨
  ∃kvs,H p=some (.dT kvs)/\∀bs:List AV,FZ (λ(k:List Key×V) b=>H b=some (.tup (k.1.map kV))) kvs bs->G (bs.map V.ref)
def Rg(H:Hp)(f:V->List Int)(vs:List V):Prop:=(∀v∈vs,∃n,v=.int n/\f v=[n])∨∀v∈vs,∃b,v=.ref b/\H b=some (.tup ((f v).map V.int))/\f v≠[]
def lv(K:AG):List V->Hp->VK->Prop:=λxs H Q=>∃p,xs=[.ref p]/\nX K H p λvs=>∃f:V->List Int,Rg H f vs /\
 ∀out,out.Perm vs->out.Pairwise (λx y=>ltL (f y) (f x)=false)->∀l,H l=none->Q (.ref l) (upd H l (.lst out))
theorem Rg.rel(h:Rg H f vs):∀v∈vs,∀u,RelV v u->X6 H u=f v:=λv hv u r=>by
 rcases h with h | h
 ·obtain⟨n,rfl,e⟩:=h v hv
  obtain⟨t,rfl⟩:=r;exact e.symm
 ·obtain⟨b,rfl,e,_⟩:=h v hv
  cases r;show(match H b with | some (.tup xs)=>xs.map Qp | _=>[])=_;rw[e];exact Nx _
theorem Th(hc:X.calm=true)(I:Inv X ζ σ H s)(h:nX X.K H p G) :
  ∃vs i',G vs/\Bg vs i'/\i'.length<=sizeLine/\∀(R:List AH->AQ->Prop) (E:AH->AQ->Prop),(∀(g:Cj) (tk:Nat),(∀b o,s.heap.get? b=some o->g.get? b=some o)->R i' { s with heap:=g,toks:=tk })->Aw (Ac X.prog X.w) X.A.in1 (collect (.ref p)) R E s:=by
 have hh:X.A.handled=none:=I.ok.hd hc
 rcases h with⟨vs,sq,g⟩ | ⟨kvs,e,g⟩ | ⟨kvs,e,g⟩
 ·rcases sq with sq | sq
  ·obtain⟨i',rv,pl,hz⟩:=I.list sq
   refine⟨vs,i',g,rv,by rw[<-rv.length];exact hz,λR E k=>collect_list pl.isList (k _ s.toks λb o e=>?_) (by rw[<-rv.length];exact hz)⟩;rw[Xi _ _ _ _ (A0 (Ai e))];exact AK _ e
  ·obtain⟨i',rv,⟨o,ho,qy,n,hd⟩,hz⟩:=I.tuple sq
   have tF:i'.length<=sizeLine:=by rw[<-rv.length];exact hz
   exact⟨vs,i',g,rv,tF,λR E k=>wpAny_collect_seq p (.inr rfl) ho qy hd (λh' kp=>by simpa using k h' s.toks kp) (by simpa using tF)⟩
 ·obtain⟨hz,sm,us,kv,o,es,ep,g1,g2,g3,g5,g6,_⟩:=(show CH X.prog X.w H s.heap p (.dK kvs)from I.hok p _ e)
  have hlen:es.size=kvs.length:=by
   have a1:=g6.length;have a2:kvs.length=us.length:=D4 kv;rw[Be]at a1
   lia
  have hv:Bg (kvs.map λx=>kV x.1) (es.toList.map (·.key)):=by
   have key:∀{l:List OH} {us:List (Key×AH)} {kvs:List (Key×V)},Pairs (Ct X.prog X.w) l us->KV kvs us->Bg (kvs.map λx=>kV x.1) (l.map (·.key)):=by
    intro l us kvs hp
    induction hp generalizing kvs with
    | nil=>intro h;cases h;exact .nil
    | cons q1 q2 _ ih=>
     intro h
     cases h with
     | cons r t=>
      refine .cons ?_ (ih t);dsimp only;rw[r.1]
      rcases C1 q1 with⟨i,t,e1,e2⟩ | ⟨x,t,e1,e2⟩
      ·rw[e1,e2];exact⟨t,rfl⟩
      ·rw[e1,e2];exact⟨t,rfl⟩
   exact key g6 kv
  refine⟨_,es.toList.map (·.key),g,hv,by rw[AE,Be,hlen];exact hz,λR E k=>?_⟩
  refine Uh (Srt.Wl (es:=es) (ep:=ep) sm) hh ⟨o,g1,g2,g3⟩ (by rw[hlen];exact hz) λg' tk acc kp ac=>?_
  have:acc.toList=es.toList.map (·.key):=by
   apply D5
   intro j
   by_cases hj:j < es.size
   ·have rB:j < acc.size:=by rw[ac.1];exact hj
    obtain⟨_,e2⟩:=ac.2 j acc[j] (by simp[rB]);simp[hj,rB,e2]
   ·have rB:¬j < acc.size:=by rw[ac.1];exact hj
    simp[hj,rB]
  rw[this];exact k g' tk kp
 ·obtain⟨hz,sm,xs,rr,o,es,ep,g1,g2,g3,g4,_⟩:=(show CH X.prog X.w H s.heap p (.dT kvs)from I.hok p _ e)
  have hlen:es.size=kvs.length:=by
   have a1:=congrArg Gg g4;have a2:kvs.length=xs.length:=D4 rr;rw[Be,AE]at a1
   lia
  have hb:FZ (λ(k:List Key×V) b=>H b=some (.tup (k.1.map kV))) kvs (xs.map (·.2.1)):=by
   have key:∀{kvs:List (List Key×V)} {xs:List (List Key×AV×AH)},FZ (λ(p:List Key×V) (q:List Key×AV×AH)=>p.1=q.1/\H q.2.1=some (.tup (p.1.map kV))/\RelV p.2 q.2.2) kvs xs->FZ (λ(k:List Key×V) b=>H b=some (.tup (k.1.map kV))) kvs (xs.map (·.2.1)):=by
    intro kvs xs h
    induction h with
    | nil=>exact .nil
    | cons r _ ih=>exact .cons r.2.1 ih
   exact key rr
  have hk:es.toList.map (·.key)=(xs.map (·.2.1)).map Au:=by
   rw[g4,A2,A2];rfl
  have hv:∀l:List AV,Bg (l.map V.ref) (l.map Au):=λl=>by
   induction l with
   | nil=>exact .nil
   | cons a l ih=>exact .cons rfl ih
  refine⟨_,(xs.map (·.2.1)).map Au,g _ hb,hv _,by rw[AE,AE,<-D4 rr];exact hz,λR E k=>?_⟩
  refine Uh (Srt.Wl (es:=es) (ep:=ep) sm) hh ⟨o,g1,g2,g3⟩ (by rw[hlen];exact hz) λg' tk acc kp ac=>?_
  have:acc.toList=(xs.map (·.2.1)).map Au:=by
   rw[<-hk]
   apply D5
   intro j
   by_cases hj:j < es.size
   ·have rB:j < acc.size:=by rw[ac.1];exact hj
    obtain⟨_,e2⟩:=ac.2 j acc[j] (by simp[rB]);simp[hj,rB,e2]
   ·have rB:¬j < acc.size:=by rw[ac.1];exact hj
    simp[hj,rB]
  rw[this];exact k g' tk kp
theorem Tr{X:Cx}{s:AQ}{H:Hp}{f:V->List Int}{vs:List V}{i':List AH}(I:∀b xs,H b=some (.tup xs)->∃is:List AH,Bg xs is/\IsTup s.heap b is.toArray)(h:Rg H f vs)(rv:Bg vs i')(h2:2<=i'.length){A:CB}:Srt.Ss X.prog X.w A s i' (X6 H):=by
 rcases id h with hi | ht
 ·have:∃ns,GZ i' ns:=by
   have key:∀{vs:List V} {i':List AH},Bg vs i'->(∀v∈vs,∃n,v=.int n/\f v=[n])->∃ns,GZ i' ns:=by
    intro vs i' r
    induction r with
    | nil=>exact λ_=>⟨[],.nil⟩
    | cons r _ ih=>
     intro hv
     obtain⟨ns,ri⟩:=ih λv tM=>hv v (AT _ tM)
     obtain⟨n,rfl,_⟩:=hv _ Aq;obtain⟨t,rfl⟩:=r;exact⟨n :: ns,.cons n t ri⟩
   exact key rv hi
  obtain⟨ns,ri⟩:=this;obtain⟨κ,k1,k2⟩:=Srt.Xy (prog:=X.prog) (w:=X.w) (A:=A) (s:=s) ri h2;refine⟨κ,k1,λx y hx hy Q E q=>k2 x y hx hy Q E ?_⟩;obtain⟨n,t,e1⟩:=ri.all _ (Srt.HJ hx).1;obtain⟨m,u,e2⟩:=ri.all _ (Srt.HJ hy).1
  have e:Srt.ltK Srt.aL x y=Srt.ltK (X6 H) x y:=by
   unfold Srt.ltK Srt.aL;rw[e1,e2];rfl
  rw[e];exact q
 ·refine Srt.Xx (λu hu=>?_) (by intro e;subst e;simp at h2)
  obtain⟨v,hv,r⟩:=Ps rv hu;rw[h.rel v hv u r];obtain⟨b,rfl,e,ne⟩:=ht v hv;cases r;refine⟨⟨b,?_⟩,ne⟩;obtain⟨is,r,o,ho,qy,n,hd⟩:=I b _ e;exact⟨is.toArray,rfl,⟨o,ho,qy,n,hd⟩,by simpa using intsAre_of r⟩
theorem Yr{X}(hc:X.calm=true):Ie X (.builtin "sorted") (lv X.K):=by
 intro ζ s σ H xs us Q I r h;obtain⟨p,rfl,src⟩:=h;obtain⟨u,rfl,rx⟩:=vals1 r;cases rx;obtain⟨vs,i',⟨f,rows,q⟩,rv,hz,col⟩:=Th hc I src;refine Calls.call_function_entry kind_sorted plain_sorted entry_sorted (args_sorted1 _) ?_;unfold Builtin.«sorted»;refine AB (m:=checkCount "sorted" 1 1 _) (AR (AB (col _ _ λg tk kp=>?_)));refine AB (wpAny_newList ?_ hz);have I1:Inv X ζ σ H { s with heap:=g,toks:=tk }:=I.kept kp;have hl:(g.push (Iw "list" i'.toArray 0)).get? g.objs.size=some (Iw "list" i'.toArray 0):=Al _ rfl;refine AB (Ig (Em slot_list_sort ⟨_,hl,rfl⟩ entry_list_sort (Srt.Qs (f:=X6 H) hl hz (λh2 s' keep=>?_) λout po so=>⟨_,rfl,AR ⟨_,rfl,?_⟩⟩) (args_list_sort _)))
 ·refine Tr (λb xs e=>?_) rows rv h2
  obtain⟨_,is,r,o,ho,qy,n,hd⟩:=(show CH X.prog X.w H g b (.tup xs)from I1.hok b _ e);exact⟨is,r,o,keep b o (A0 (Ai ho)) (AK _ ho),qy,n,hd⟩
 ·obtain⟨vo,ro,pv⟩:=T0 po.symm rv
  have so':vo.Pairwise (λx y=>ltL (f y) (f x)=false):=by
   have e:out.toList.map (X6 H)=vo.map f:=M6 ro λa ha b rb=>rows.rel a (pv.mem_iff.mp ha) b rb
   have:=(CQ (f:=X6 H) (R:=λx y=>ltL y x=false)).mpr so;rw[e]at this;exact CQ.mp this
  obtain⟨k,hk⟩:=sortedHeap_at (out:=out) hl
  have hlen:vo.length<=sizeLine:=by rw[pv.length_eq,rv.length];exact hz
  have I2:=I1.laid (a:=g.objs.size) (o:=.lst vo) (t':=tk) (h':=iA (g.push (Iw "list" i'.toArray 0)) g.objs.size i' out)
   (λb u z=>by
    have lt:b < g.objs.size:=Ai z;rw[sortedHeap_old (A0 lt) (by rw[size_push'];exact OY lt)]
    exact AK _ z) (AN _) ⟨hlen,out.toList,k,ro,hk⟩
  exact⟨.ref g.objs.size,_,I2,rfl,q vo pv so' _ (I1.hok.fresh (AN _))⟩
def Et(ns:List Int):List Int:=ns.mergeSort (λa b=>decide (a<=b))
@[simp] def RH:Et []=[]:=by unfold Et;simp
theorem FE(ns:List Int):(Et ns).Perm ns:=Xb ns _
theorem Mz(ns:List Int):(Et ns).Pairwise (·<=·):=by
 have:=TL (le:=λa b:Int=>decide (a<=b)) (by intro a b c h1 h2;simp at h1 h2 ⊢;lia) (by intro a b;simp;lia) ns
 exact this.imp λh=>by simpa using h
def G8(rs:List (List Int)):List (List Int):=rs.mergeSort (λa b=>!ltL b a)
theorem GB(rs:List (List Int)):(G8 rs).Perm rs:=Xb rs _
theorem Pd(rs:List (List Int)):(G8 rs).Pairwise (λa b=>ltL b a=false):=by
 have:=TL (le:=λa b:List Int=>!ltL b a) (by intro a b c h1 h2;simp at h1 h2 ⊢;exact Srt.SO _ _ _ h1 h2) (by
  intro a b
  cases e:ltL b a with
  | false=>simp
  | true=>simp[Srt.P9 _ _ e]) rs
 exact this.imp λh=>by simpa using h
theorem RG{l l':List (List Int)}(p:l.Perm l')(h:l.Pairwise (λa b=>ltL b a=false))(h':l'.Pairwise (λa b=>ltL b a=false)):l=l':=
 p.eq_of_pairwise (λa b _ _ h1 h2=>Srt.Wt a b h2 h1) h h'
def Vp:Key->D
 | .inl i=>.int i
 | .inr x=>.str x
def IS(d:D)(S:Sto):Option (List D):=match d with
 | .fro ds=>some ds
 | .tup ds=>some ds
 | .ref n=>match S[n]? with
  | some (.lst ds)=>some ds
  | some (.dK kvs)=>some (kvs.map λx=>Vp x.1)
  | some (.dT kvs)=>some (kvs.map λx=>.tup (x.1.map Vp))
  | _=>none
 | _=>none
def E0(r:List Int):D:=.tup (r.map D.int)
def Ko:List D->Option (List (List Int))
 | []=>some []
 | .tup ds :: r=>match IB ds,Ko r with
  | some (n :: ns),some rs=>some ((n :: ns) :: rs)
  | _,_=>none
 | _ :: _=>none
def Kn(ds:List D):Option (List D):=match IB ds with
 | some ns=>some ((Et ns).map D.int)
 | none=>match Ko ds with
  | some rs=>some ((G8 rs).map E0)
  | none=>none
def Ey(m:ME):ME:=λe S=>(m e S).bind λd S1=>match IS d S1 with
 | some ds=>match Kn ds with
  | some es=>.ok (.ref S1.length) (S1++[.lst es])
  | none=>.bad
 | none=>.bad
section
theorem en(x y:Int):ltL [y] [x]=decide (y < x):=by
 show(if y=x then false else decide (y < x))=_;split
 ·rename_i e;simp[e]
 ·rfl
def Qo(H:Hp):V->List Int
 | .int n=>[n]
 | .ref b=>match H b with
  | some (.tup xs)=>xs.map Qp
  | _=>[]
 | _=>[]
theorem Ts{K}{ρ}{H}:∀{ds:List D} {rs:List (List Int)} {vs:List V},Ko ds=some rs->Az K ρ H ds vs->vs.map (Qo H)=rs/\∀v∈vs,∃b,v=.ref b/\H b=some (.tup ((Qo H v).map V.int))/\Qo H v≠[]
 | [],_,_,h,.nil=>by cases h;exact⟨rfl,λv hv=>nomatch hv⟩
 | .tup ts :: ds,rs,_,h,.cons r t=>by
  unfold Ko at h;split at h
  ·rename_i n ns rs' h1 h2
   cases h;obtain⟨i1,i2⟩:=Ts h2 t
   cases r with
   | @tup _ b ws hb rr=>
    have:=NM h1;subst this;have:=rr.ints;subst this
    have e:Qo H (.ref b)=n :: ns:=by
     show(match H b with | some (.tup xs)=>xs.map Qp | _=>[])=_;rw[hb];exact Nx _
    refine⟨by rw[BA,e,i1],λv hv=>?_⟩
    rcases At.mp hv with hv | hv
    ·subst hv
     refine⟨b,rfl,?_,?_⟩
     ·rw[e];exact hb
     ·rw[e];exact List.cons_ne_nil _ _
    ·exact i2 v hv
  ·cases h
 | .non :: _,_,_,h,_=>by cases h
 | .bl _ :: _,_,_,h,_=>by cases h
 | .int _ :: _,_,_,h,_=>by cases h
 | .str _ :: _,_,_,h,_=>by cases h
 | .fro _ :: _,_,_,h,_=>by cases h
 | .ref _ :: _,_,_,h,_=>by cases h
 | .exc _ :: _,_,_,h,_=>by cases h
theorem Tt{K}{ρ}{H}:∀{vs:List V},(∀v∈vs,∃b,v=.ref b/\H b=some (.tup ((Qo H v).map V.int))/\Qo H v≠[])->Az K ρ H ((vs.map (Qo H)).map E0) vs
 | [],_=>.nil
 | v :: vs,h=>by
  obtain⟨b,e,hb,_⟩:=h v Aq;refine .cons ?_ (Tt λu hu=>h u (AT _ hu));subst e;exact .tup hb (Az.of_ints _)
theorem Zo{K:AG}{ρ:List AV}{H:Hp}{ds es:List D}{vs:List V}(h:Kn ds=some es)(r:Az K ρ H ds vs) :
  ∃f:V->List Int,Rg H f vs/\∀out,out.Perm vs->out.Pairwise (λx y=>ltL (f y) (f x)=false)->Az K ρ H es out:=by
 unfold Kn at h;split at h
 ·rename_i ns hz
  cases h;have:=NM hz;subst this;have:=r.ints;subst this;refine⟨λv=>[Qp v],.inl λv hv=>?_,λout po so=>?_⟩
  ·obtain⟨n,_,rfl⟩:=An.mp hv
   exact⟨n,rfl,rfl⟩
  ·have e1:out=(out.map Qp).map V.int:=by
    rw[A2]
    conv=>lhs;rw[<-PD out]
    refine CO λv hv=>?_
    obtain⟨n,_,rfl⟩:=An.mp (po.mem_iff.mp hv);rfl
   have e2:out.map Qp=Et ns:=by
    have p1:(out.map Qp).Perm (Et ns):=by
     have:=po.map Qp;rw[Nx]at this;exact this.trans (FE ns).symm
    refine p1.eq_of_pairwise (λa b _ _ h1 h2=>ge h1 h2) ?_ (Mz ns);rw[CQ]
    refine so.imp λ{x y} ue=>?_
    rw[en]at ue;simp at ue;exact ue
   rw[e1,e2];exact Az.of_ints _
 ·split at h
  ·rename_i rs hr
   cases h;obtain⟨i1,i2⟩:=Ts hr r;refine⟨Qo H,.inr i2,λout po so=>?_⟩
   have e2:out.map (Qo H)=G8 rs:=by
    refine RG ?_ (CQ.mpr so) (Pd rs);have:=po.map (Qo H);rw[i1]at this;exact this.trans (GB rs).symm
   rw[<-e2]
   exact Tt λv hv=>i2 v (po.mem_iff.mp hv)
  ·cases h
theorem QE{K}{ρ}{H}:∀ks:List Key,Az K ρ H (ks.map Vp) (ks.map kV)
 | []=>.nil
 | .inl i :: ks=>.cons (.int i) (QE ks)
 | .inr x :: ks=>.cons (.str x) (QE ks)
theorem NH{K}{ρ}{H}:∀{kvs:List (Key×D)} {kvs':List (Key×V)},KVR K ρ H kvs kvs'->Az K ρ H (kvs.map λx=>Vp x.1) (kvs'.map λx=>kV x.1)
 | _,_,.nil=>.nil
 | (k,_) :: _,(k',_) :: _,.cons r t=>by
  have e:k=k':=r.1;subst e
  cases k with
  | inl i=>exact .cons (.int i) (NH t)
  | inr x=>exact .cons (.str x) (NH t)
theorem QD{K}{ρ}{H}:∀{kvs:List (List Key×D)} {kvs':List (List Key×V)} {bs:List AV},KVR K ρ H kvs kvs'->FZ (λ(k:List Key×V) b=>H b=some (.tup (k.1.map kV))) kvs' bs->Az K ρ H (kvs.map λx=>.tup (x.1.map Vp)) (bs.map V.ref)
 | _,_,_,.nil,.nil=>.nil
 | (k,_) :: _,(k',_) :: _,_,.cons r t,.cons r2 t2=>by
  have e:k=k':=r.1;subst e;exact .cons (.tup r2 (QE k)) (QD t t2)
theorem Jf(hc:X.calm=true)(hg:Gl X "sorted") (hm:X.mg "sorted" = none) (h:GE X E e m) (he:Aa [e] X.env=(false,B4 e X.env) :: Aa [] X.env:=by rfl):GE X E (.Call (.Name "sorted" p) [e] [] pos) (Ey m):=
 (JZ (Yr hc) hg hm nw (Ew h Hu he) (by decide) (by decide) he rfl).imp λσ H Q ⟨ρ,l,S,hl,hs,hm⟩=>by
 refine⟨ρ,l,S,hl,hs,hm.seq λd S1 hm ρ1 H1 x l1 s1 r1=>?_⟩
 cases hq:IS d S1 with
 | none=>rw[hq]at hm;exact hm.elim
 | some ds=>
  rw[hq]at hm;dsimp only at hm
  cases hi:Kn ds with
  | none=>rw[hi]at hm;exact hm.elim
  | some es=>
   rw[hi]at hm
   have fin:∀vs:List V,Az X.K ρ1 H1 es vs->∀q,H1 q=none->Q (.ref q) (upd H1 q (.lst vs)):=λvs rr q hq=>by
    have le:Le X.K ρ1 H1 (ρ1++[q]) (upd H1 q (.lst vs)):=Le.alloc hq;obtain⟨s4,l4,wV⟩:=s1.alloc (ho:=.lst vs) (o:=.lst es) hq ⟨_,Bb,rr.mono le⟩;exact hm _ _ _ (l1.trans l4) s4 (.ref wV)
   have out:∀vs,Az X.K ρ1 H1 ds vs->∃f:V->List Int,Rg H1 f vs/\∀out,out.Perm vs->out.Pairwise (λx y=>ltL (f y) (f x)=false)->∀l,H1 l=none->Q (.ref l) (upd H1 l (.lst out)):=λvs rr=>by
    obtain⟨f,k1,k2⟩:=Zo hi rr;exact⟨f,k1,λout po so=>fin out (k2 out po so)⟩
   cases r1 with
   | fro h1 h2=>cases hq;exact⟨_,rfl,.inl ⟨_,.inl h1.sq,out _ h2⟩⟩
   | tup h1 h2=>cases hq;exact⟨_,rfl,.inl ⟨_,.inr (.inl (.inl h1)),out _ h2⟩⟩
   | @ref n a hn=>
    obtain⟨o,ho,ro⟩:=s1.there hn;unfold IS at hq;simp only[ho]at hq
    cases o with
    | lst ys=>cases hq;obtain⟨vs,e,rr⟩:=ro;exact⟨_,rfl,.inl ⟨vs,.inl (.inl (.inl e)),out _ rr⟩⟩
    | dK kvs=>cases hq;obtain⟨vs,e,rr⟩:=ro;exact⟨_,rfl,.inr (.inl ⟨vs,e,out _ (NH rr)⟩)⟩
    | dT kvs=>cases hq;obtain⟨vs,e,rr⟩:=ro;exact⟨_,rfl,.inr (.inr ⟨vs,e,λbs hb=>out _ (QD rr hb)⟩)⟩
    | ins C fs=>cases hq
    | fK _=>cases hq
    | fT _=>cases hq
   | _=>cases hq
end
open PySem PySem.Spec PyProof.Rows
def isV(A:String):Option Bool:=if A = "NoneType" then some false else none
theorem jx{K}:∀A b,isV A=some b->Bt K (.type A) (.type "ValueError")=some b:=λA b e=>by
 unfold isV at e;split at e
 ·rename_i hA
  subst hA;cases e
  kernel_rfl
 ·cases e
theorem jz{K}{C}(h:∀A∈["NoneType", "bool", "int", "str", "tuple", "list", "dict"],Bt K (.type A) (.ref C)=some false):∀A b,isN A=some b->Bt K (.type A) (.ref C)=some b:=λA b e=>by
 unfold isN at e;split at e
 ·rename_i hA
  cases e;exact h A (by simpa using hA)
 ·cases e
theorem fC{K}{C}(h1:(EZ K C).isSome=true)(h2:Ke K (.ref C)=some (.type "type")):∀A∈["NoneType", "bool", "int", "str", "tuple", "list", "dict"],Bt K (.type A) (.ref C)=some false:=λA h=>by
 have key:∀A,Lh K (.type A) (.ref C)=some false->Bt K (.type A) (.ref C)=some false:=λA e=>by
  unfold Bt PySem.W.kitCls;rw[qY (by simp)];dsimp only;rw[qX (by rw[h1,h2];rfl)];exact e
 refine key A ?_;simp only[At,Bx,or_false]at h
 rcases h with rfl | rfl | rfl | rfl | rfl | rfl | rfl <;> kernel_rfl
def Zn(K:AG):Sp:=λvs H Q _=>∃(a:AV) (ns:List Int),vs=[.ref a]/\Qy K H a (ns.map V.int)/\ns.length<=63/\∀H',Q (.bl true) H'
theorem au{P}{w}{K}{mg}{base}{k}{fa}{fd}{f}(F:D0 P w K mg base (CXG P w) k fa fd ["script"] (spM K 1 f))
  (h:∀ns:List Int,ns.length<=63->∃S',f [.fro (ns.map D.int)] []=.ok (.bl true) S'):D0 P w K mg base (CXG P w) k fa fd ["script"] (Zn K):=F.imp λvs H Q E ⟨a,ns,e,hS,hl,q⟩=>by
 subst e;obtain⟨S',e⟩:=h ns hl;refine⟨[],[.fro (ns.map D.int)],[],rfl,.cons (.fro hS (Az.of_ints ns)) .nil,⟨rfl,λi j a hi=>by simp at hi,λn o a hn=>by simp at hn⟩,?_⟩;rw[e]
 exact λρ' H' x _ _ r=>by cases r;exact q H'
theorem kQ{K:AG}{H:Hp}{a:AV}{ns:List Int}(hO:gP H)(hS:SqL K H a (ns.map V.int)):Qy K H a (ns.map V.int):=by
 rcases hS with(h | h) | h
 ·rcases hO a with z | ⟨o,xs,z⟩ <;> rw[z]at h <;> cases h
 ·exact .inl h
 ·exact .inr h
theorem IY{K}{C}{v}{b}(h:Li K C v=some b):(EZ K C).isSome=true:=by
 obtain⟨cd,a,_⟩:=Rr.mp h;rw[a];rfl
theorem kY(h:CXG P w [] H s (λ_ _ _=>False) e s'):False:=by
 obtain⟨_,_,_,_,_,_,_,_,_,z⟩:=h;exact z
open PySem
def g7(I:Lo->Sto->Prop)(R:Fl->Sto->Prop)(f:Fl)(S:Sto):Prop:=match f with
 | .nx e=>I e S
 | .ct e=>I e S
 | .bk e=>R (.nx e) S
 | .rt d=>R (.rt d) S
 | .ex c e=>R (.ex c e) S
theorem fP(I:Nat->Lo->Sto->Prop)(R:Fl->Sto->Prop)(hv:∀i e S,I i e S->v S=some xs)
  (step:∀i d e S,xs[i]?=some d->I i e S->∃e1 S1,g d e S=.ok e1 S1/\∃f S2,b e1 S1=.ok f S2/\g7 (I (i+1)) R f S2)
  (fin:∀e S,I xs.length e S->R (.nx e) S):∀(k i:Nat) (e:Lo) (S:Sto),I i e S->i<=xs.length->xs.length<=i+k->∃f S',Ji v g b k i e S=.ok f S'/\R f S':=by
 intro k
 induction k with
 | zero=>
  intro i e S h h1 h2
  have:i=xs.length:=by lia
  subst this;refine⟨.nx e,S,?_,fin e S h⟩;unfold Ji;rw[hv _ e S h];simp
 | succ k ih=>
  intro i e S h h1 h2;unfold Ji;rw[hv _ e S h];dsimp only
  by_cases hi:i < xs.length
  ·have hd:xs[i]?=some xs[i]:=by simp[hi]
   rw[hd];dsimp only;obtain⟨e1,S1,q1,f,S2,q2,t⟩:=step i _ e S hd h;rw[q1];dsimp only[Res.bind];rw[q2];dsimp only[Res.bind]
   cases f with
   | nx e2=>exact ih (i+1) e2 S2 t (by lia) (by lia)
   | ct e2=>exact ih (i+1) e2 S2 t (by lia) (by lia)
   | bk e2=>exact⟨_,_,rfl,t⟩
   | rt d=>exact⟨_,_,rfl,t⟩
   | ex c e2=>exact⟨_,_,rfl,t⟩
  ·have:i=xs.length:=by lia
   subst this;rw[show xs[xs.length]?=none by simp];exact⟨.nx e,S,rfl,fin e S h⟩
theorem Gs(I:Nat->Lo->Sto->Prop)(R:Fl->Sto->Prop)(h0:I 0 e S)(hv:∀i e S,I i e S->v S=some xs)
  (step:∀i d e S,xs[i]?=some d->I i e S->∃e1 S1,g d e S=.ok e1 S1/\∃f S2,b e1 S1=.ok f S2/\g7 (I (i+1)) R f S2)
  (fin:∀e S,I xs.length e S->R (.nx e) S):∃f S',Ji v g b (Cr v S) 0 e S=.ok f S'/\R f S':=by
 have hl:Cr v S=xs.length:=by unfold Cr;rw[hv 0 e S h0]
 rw[hl];exact fP I R hv step fin _ _ _ _ h0 (DK _) (by lia)
theorem bh(I:Nat->Lo->Sto->List D->Prop)(hv:∀i e S acc,I i e S acc->v S=some xs)
  (step:∀i d e S acc,xs[i]?=some d->I i e S acc->acc.length < sizeLine/\∃e1 S1,g d e S=.ok e1 S1/\∃b S2,c e1 S1=.ok b S2/\((b=true/\∃y S3,m e1 S2=.ok y S3/\I (i+1) e1 S3 (acc++[y]))∨(b=false/\I (i+1) e1 S2 acc))) :
  ∀(k i:Nat) (e:Lo) (S:Sto) (acc:List D),I i e S acc->i<=xs.length->xs.length<=i+k->∃r S',Fp v g c m k i e S acc=.ok r S'/\∃e',I xs.length e' S' r:=by
 intro k
 induction k with
 | zero=>
  intro i e S acc h h1 h2
  have:i=xs.length:=by lia
  subst this;refine⟨acc,S,?_,e,h⟩;unfold Fp;rw[hv _ e S acc h];simp
 | succ k ih=>
  intro i e S acc h h1 h2;unfold Fp;rw[hv _ e S acc h];dsimp only
  by_cases hi:i < xs.length
  ·have hd:xs[i]?=some xs[i]:=by simp[hi]
   rw[hd];dsimp only;obtain⟨hz,e1,S1,q1,b,S2,q2,t⟩:=step i _ e S acc hd h;rw[qX hz,q1];dsimp only[okR,Res.bind];rw[q2];dsimp only[okR,Res.bind]
   rcases t with⟨rfl,y,S3,q3,t⟩ | ⟨rfl,t⟩
   ·rw[qX rfl,q3]
    exact ih (i+1) e1 S3 _ t (by lia) (by lia)
   ·rw[qY AL]
    exact ih (i+1) e1 S2 acc t (by lia) (by lia)
  ·have:i=xs.length:=by lia
   subst this;rw[show xs[xs.length]?=none by simp];exact⟨acc,S,rfl,e,h⟩
theorem O3(I:Nat->Lo->Sto->List D->Prop)(h0:I 0 e S [])(hv:∀i e S acc,I i e S acc->v S=some xs)
  (step:∀i d e S acc,xs[i]?=some d->I i e S acc->acc.length < sizeLine/\∃e1 S1,g d e S=.ok e1 S1/\∃b S2,c e1 S1=.ok b S2/\((b=true/\∃y S3,m e1 S2=.ok y S3/\I (i+1) e1 S3 (acc++[y]))∨(b=false/\I (i+1) e1 S2 acc))) :
  ∃r S',Fp v g c m (Cr v S) 0 e S []=.ok r S'/\∃e',I xs.length e' S' r:=by
 have hl:Cr v S=xs.length:=by unfold Cr;rw[hv 0 e S [] h0]
 rw[hl];exact bh I hv step _ _ _ _ _ h0 (DK _) (by lia)
theorem jo(h:-1000000<=j):-(2 ^ 62)<=j:=Int.le_trans (by decide) h
theorem j6{j:Int}(h:j<=1000000):j < 2 ^ 62:=Iz h (by decide)
theorem K7{ml:ML}{e:Lo}{S S1:Sto}{j:Int}(h:ml e S=.ok [.int j] S1)(h0:-1000000<=j)(h1:j<=1000000):iR1 ml e S=.ok (Dp (DE 0 j.toNat)) S1:=by
 unfold iR1;rw[h];dsimp only[Res.bind];rw[qX ⟨jo h0,j6 h1⟩]
theorem bH{ml:ML}{e:Lo}{S S1:Sto}{i j:Int}(h:ml e S=.ok [.int i,.int j] S1)(h0:-1000000<=i)(h1:i<=1000000)(h2:-1000000<=j)(h3:j<=1000000):iR2 ml e S=.ok (Dp (DE i (j - i).toNat)) S1:=by
 unfold iR2;rw[h];dsimp only[Res.bind];rw[qX ⟨jo h0,j6 h1,jo h2,j6 h3⟩]
theorem IK(lo:Int)(n:Nat):(DE lo n).length=n:=by simp[DE]
theorem JY{lo:Int}{n i:Nat}{d:D}(h:(DE lo n)[i]?=some d):i < n/\d=.int (lo+i):=by
 rw[Nq]at h;split at h
 ·rename_i hi
  cases h;exact⟨hi,rfl⟩
 ·cases h
theorem mf(h:-1000000<=j)(h1:j<=1000000):Sx i j:=.inr ⟨Nd (by decide) h,Iz h1 (by decide)⟩
theorem ei(h:-1000000<=j)(h1:j<=1000000):Kv (.int i) (.int j) S=.ok (.int (i * j)) S:=by
 show(if Sx i j then _ else _)=_;rw[qX (mf h h1)]
theorem NP(h:0 < j)(h1:j<=1000000):Jj (.int i) (.int j) S=.ok (.int (i / j)) S:=by
 show(if gV i j then _ else _)=_;rw[qX ⟨h,by lia⟩]
theorem Dh(h:0 < j):DZ (.int i) (.int j) S=.ok (.int (i % j)) S:=by
 show(if 0 < j then _ else _)=_;rw[qX h]
theorem BF(ha:ma e S=.ok x S1)(hb:mb e S1=.ok y S2)(hf:f x y S2=.ok d S3):m2 f ma mb e S=.ok d S3:=by
 unfold m2;rw[ha];dsimp only[Res.bind];rw[hb];dsimp only[Res.bind];rw[hf];rfl
theorem Cb(h:m e S=.ok d S1):Bc i m e S=.ok (.nx (e.set i (some d))) S1:=by
 unfold Bc Va;rw[h];rfl
theorem Fa(h:m e S=.ok d S1):Dj m e S=.ok (.rt d) S1:=by
 unfold Dj;rw[h];rfl
theorem Di(h:m e S=.ok d S1):B0 m e S=.ok (.nx e) S1:=by
 unfold B0;rw[h];rfl
theorem Ck(h:t e S=.ok c S1):sIf t a b e S=if c=true then a e S1 else b e S1:=by
 unfold sIf;rw[h];rfl
theorem FI(h:m e S=.ok v S1):G3 m g b e S=Ji v g b (Cr v S1) 0 e S1:=by
 unfold G3;rw[h];rfl
theorem Bz(h:m e S=.ok ds S1)(hn:ds.length=n):BG n f m e S=f ds S1:=by
 unfold BG;rw[h];dsimp only[Res.bind];rw[qX hn]
theorem A1(h:a e S=.ok (.nx e1) S1):BD a b e S=b e1 S1:=by unfold BD;rw[h];rfl
theorem MD(h:a e S=.ok (.rt d) S1):BD a b e S=.ok (.rt d) S1:=by unfold BD;rw[h];rfl
theorem MF(h:a e S=.ok (.ex c e1) S1):BD a b e S=.ok (.ex c e1) S1:=by unfold BD;rw[h];rfl
theorem Cz(h:mb (Cm n ds) S=.ok (.rt d) S1):EY n mb ds S=.ok d S1:=by unfold EY;rw[h];rfl
theorem Vb(h:mb (Cm n ds) S=.ok (.nx e) S1):EY n mb ds S=.ok .non S1:=by unfold EY;rw[h];rfl
theorem Pm(h:mb (Cm n ds) S=.ok (.ex c e) S1):EY n mb ds S=.err c S1:=by unfold EY;rw[h];rfl
def Keeps(S S':Sto):Prop:=S.length<=S'.length/\∀j,j < S.length->S'[j]?=S[j]?
theorem Keeps.refl(S:Sto):Keeps S S:=⟨AN _,λ_ _=>rfl⟩
theorem Keeps.trans(a:Keeps S S1)(b:Keeps S1 S2):Keeps S S2:=⟨Ao a.1 b.1,λj h=>(b.2 j (AU h a.1)).trans (a.2 j h)⟩
theorem Keeps.app(S:Sto)(G:Sto):Keeps S (S++G):=⟨by simp,λj h=>Ag h⟩
theorem Keeps.set(a:Keeps S S1)(h:S.length<=m)(o:Ob):Keeps S (S1.set m o):=⟨by simpa using a.1,λj hj=>by rw[AY (by lia)];exact a.2 j hj⟩
theorem Keeps.at{S S1:Sto}(a:Keeps S S1){j:Nat}{o:Ob}(h:S[j]?=some o):S1[j]?=some o:=by
 rw[a.2 j (AC.mp h).1];exact h
theorem JM(h1:mo e S=.ok (.ref n) S1)(h2:S1[n]?=some (.lst xs))(h3:ma e S1=.ok y S2)(h4:S2[n]?=some (.lst xs2))(h5:xs2.length < sizeLine) :
  GH mo ma e S=.ok .non (S2.set n (.lst (xs2++[y]))):=by
 unfold GH;rw[h1];dsimp only[Res.bind];rw[h2];dsimp only;rw[h3];dsimp only[Res.bind];rw[h4];dsimp only;rw[qX h5]
theorem FO(h:S[n]?=some (.lst xs)):Fj (.ref n) S=some xs:=by
 unfold Fj OK;dsimp only;rw[h]
theorem Jc(h:m e S=.ok (.ref n) S1)(hx:S1[n]?=some (.lst xs)):G4 m e S=.ok (Fj (.ref n)) S1:=by
 unfold G4;rw[h];dsimp only[Res.bind];rw[FO hx]
theorem NN(h:m e S=.ok (.tup xs) S1):G4 m e S=.ok (Dp xs) S1:=by
 unfold G4;rw[h];rfl
theorem HM(h:ml e S=.ok ds S1):CL ml e S=.ok (.ref S1.length) (S1++[.lst ds]):=by
 unfold CL;rw[h];rfl
theorem Bj(S:Sto)(o:Ob):(S++[o])[S.length]?=some o:=by simp
theorem Dr(h:S[n]?=some (.lst ds)):Gm (.ref n) S=some ds:=by
 unfold Gm;dsimp only;rw[h]
theorem MX(h:S[n]?=some (.lst ds)):IS (.ref n) S=some ds:=by
 unfold IS;dsimp only;rw[h]
theorem JW(h:m e S=.ok d S1)(hi:IS d S1=some ds)(hs:Kn ds=some es):Ey m e S=.ok (.ref S1.length) (S1++[.lst es]):=by
 unfold Ey;rw[h];dsimp only[Res.bind];rw[hi];dsimp only;rw[hs]
theorem JU(h:m e S=.ok d S1)(hq:Gm d S1=some ds):GF m e S=.ok (.tup ds) S1:=by
 unfold GF;rw[h];dsimp only[Res.bind];rw[hq]
theorem N0(h:m e S=.ok d S1)(hq:Gm d S1=some ds):J9 m e S=.ok (.int ds.length) S1:=by
 unfold J9;rw[h];dsimp only[Res.bind];rw[hq]
theorem R5(hv:mv e S=.ok v S1)(ho:mo e S1=.ok (.ref n) S2)(hs:S2[n]?=some (.ins C fs))(hl:fs.length < 1000) :
  RJ C f mo mv e S=.ok (.nx e) (S2.set n (.ins C (Oe f v fs))):=by
 unfold RJ;rw[hv];dsimp only[Res.lift];rw[ho];dsimp only[Res.lift];rw[hs];dsimp only;rw[qX ⟨rfl,hl⟩]
theorem QI(h:m e S=.ok (.ref n) S1)(hs:S1[n]?=some (.ins C fs))(hl:fs.lookup f=some v):Hl C f m e S=.ok v S1:=by
 unfold Hl;rw[h];dsimp only[Res.bind];rw[hs];dsimp only;rw[qX rfl,hl]
theorem em(h:ml e S=.ok ds S1)(hn:ds.length+1=n)(hf:f (.ref S1.length :: ds) (S1++[.ins C []])=.ok .non S2):P7 C n f ml e S=.ok (.ref S1.length) S2:=by
 unfold P7;rw[h];dsimp only[Res.bind];rw[qX hn,hf]
theorem BH(h:m e S=.ok d S1)(hr:r e S1=.ok ds S2):AF m r e S=.ok (d :: ds) S2:=by
 unfold AF;rw[h];dsimp only[Res.bind];rw[hr]
theorem NR(h:mi e S=.ok v S1):D6 n mi g c m e S=Fp v g c m (Cr v S1) 0 (Ak n none++e) S1 []:=by
 unfold D6;rw[h];rfl
theorem Es(h:m e S=.ok (.bl b) S1):mB m e S=.ok b S1:=by
 unfold mB;rw[h];rfl
theorem Wr(ha:ma e S=.ok x S1)(hb:mb e S1=.ok y S2)(hf:f x y S2=.ok (.bl true) S3)(hc:mc e S3=.ok w S4)(hg:g y w S4=.ok d S5):m3 f g ma mb mc e S=.ok d S5:=by
 unfold m3;rw[ha];dsimp only[Res.bind];rw[hb];dsimp only[Res.bind];rw[hf];dsimp only[Res.bind,okR];rw[hc];dsimp only[Res.bind];rw[hg]
theorem gt(ha:ma e S=.ok x S1)(hb:mb e S1=.ok y S2)(hf:f x y S2=.ok (.bl false) S3):m3 f g ma mb mc e S=.ok (.bl false) S3:=by
 unfold m3;rw[ha];dsimp only[Res.bind];rw[hb];dsimp only[Res.bind];rw[hf];rfl
theorem QC(h:decide (i<=j)=b):leD (.int i) (.int j) S=.ok (.bl b) S:=by subst h;rfl
theorem MU(h:decide (i < j)=b):ltD (.int i) (.int j) S=.ok (.bl b) S:=by subst h;rfl
theorem kP(h:decide (j<=i)=b):geD (.int i) (.int j) S=.ok (.bl b) S:=by subst h;rfl
theorem N8(h:decide (i=j)=b):eqD false (.int i) (.int j) S=.ok (.bl b) S:=by
 subst h;show Res.ok (D.bl (i==j)) S=_;rfl
theorem jk(h:decide (i≠j)=b):eqD true (.int i) (.int j) S=.ok (.bl b) S:=by
 subst h;show Res.ok (D.bl (!(i==j))) S=_
 by_cases e:i=j <;> simp[e]
theorem Pz(h:m e S=.ok b S1):UA m e S=.ok (!b) S1:=by
 unfold UA;rw[h];rfl
theorem R6(h:m e S=.err c S1):Bc i m e S=.ok (.ex c e) S1:=by
 unfold Bc Va;rw[h];rfl
theorem Pq(h:ml e S=.ok ds S1)(hl:ds.length<=30):EU C ml e S=.ok (.ex C e) S1:=by
 unfold EU;rw[h];dsimp only[Res.lift];rw[qX (Ao hl (by decide))]
theorem iZ(hb:b e S=.ok (.nx e1) S1):X3 cs i b h e S=.ok (.nx e1) S1:=by
 unfold X3;rw[hb];rfl
theorem ie(hb:b e S=.ok (.ex c e1) S1)(hc:c∈cs)(hh:h (e1.set i (some (.exc c))) S1=.ok (.nx e2) S2):X3 cs i b h e S=.ok (.nx (e2.set i none)) S2:=by
 unfold X3;rw[hb];dsimp only[Res.bind];rw[qX hc,hh]
theorem Nl(h:ml e S=.ok ds S1)(hl:ds.length<=1000):Ga ml e S=.ok (.tup ds) S1:=by
 unfold Ga;rw[h];dsimp only[Res.bind];rw[qX (Ao hl (by decide))]
theorem bB(h:m e S=.ok (.exc C) S1)(hb:pC C=some b):mIs tab pC m e S=.ok (.bl b) S1:=by
 unfold mIs;rw[h];dsimp only[Res.bind];rw[hb]
theorem jO(h:ta e S=.ok true S1):mOr ta tb e S=.ok true S1:=by
 unfold mOr;rw[h];rfl
theorem jN(h:ta e S=.ok false S1):mOr ta tb e S=tb e S1:=by
 unfold mOr;rw[h];rfl
theorem gD(h:ta e S=.ok true S1):Qr ta tb e S=tb e S1:=by
 unfold Qr;rw[h];rfl
theorem gC(h:ta e S=.ok false S1):Qr ta tb e S=.ok false S1:=by
 unfold Qr;rw[h];rfl
theorem lq(h:m e S=.ok d S1)(hq:Gm d S1=some ds):Qq m e S=.ok ds S1:=by
 unfold Qq;rw[h];dsimp only[Res.bind];rw[hq]
theorem Z2(h:ml e S=.ok ds S1)(hf:f ds S1=.ok d S2):mQ f ml e S=.ok d S2:=by
 unfold mQ;rw[h];dsimp only[Res.bind];rw[hf];rfl
theorem QA(h:S[n]?=some (.lst ds)):QB (.ref n) S=some ds:=by
 unfold QB;dsimp only;rw[h]
open PySem PySem.Spec PyProof.Rows
def tCs(cs:List V):TA:=λ_ H Q=>Q cs H
section
variable{X:Cx}{E:EW}{e:Expr}{es:List Expr}{p pos p2:Pos}{x1:Nat}{m:ME}{Cs:List AV}{pC:AV->Option Bool}
theorem mL:PA X [] (tCs []):=Hu
theorem YN(h:PE X e (tC c))(hr:PA X es (tCs cs))(hs:Aa (e :: es) X.env=(false,B4 e X.env) :: Aa es X.env:=by rfl):PA X (e :: es) (tCs (c :: cs)):=Ew h hr hs
def rIsT(K:AG)(Cs:List AV):List V->Hp->VK->Prop:=λxs H Q=>
 ∃a o u C b tp,xs=[.ref a,.ref tp]/\H a=some (.frz o u)/\Qz o C/\XIs K C/\H tp=some (.tup (Cs.map V.ref))/\Cw K (.ref C) (Cs.map Au)=some b/\Q (.bl b) H
theorem RD:∀{l:List AV} {us:List AH},Bg (l.map V.ref) us->us=l.map Au
 | [],_,.nil=>rfl
 | a :: l,_,.cons r t=>by rw[RD t,show _=Au a from r];rfl
theorem bp:Ie X (.builtin "isinstance") (rIsT X.K Cs):=by
 intro ζ s σ H xs us Q I r h;obtain⟨a,o,u,C,b,tp,rfl,ha,xo,xc,ht,e,q⟩:=h;obtain⟨v,w,rfl,r1,r2⟩:=vals2 r;cases(show v=Au a from r1);cases(show w=Au tp from r2);obtain⟨g,_⟩:=(show CH X.prog X.w H s.heap a (.frz o u)from I.hok a _ ha);obtain⟨_,is,rv,⟨cl,dd,dt,sl⟩,ho,qy,n,hd⟩:=(show CH X.prog X.w H s.heap tp (.tup (Cs.map V.ref))from I.hok tp _ ht);dsimp only at qy hd;subst qy hd;rw[<-RD rv]at e
 exact PySem.W.kia_tup (UF xc) I.kIn ⟨o,g,xo⟩ ho e (λz=>nomatch z) λtk=>⟨.bl b,H,I.tok tk,rfl,q⟩
def YR(pC:AV->Option Bool)(m:ME):ME:=λe S=>(m e S).bind λd S1=>match d with
 | .exc C=>match pC C with
  | some b=>.ok (.bl b) S1
  | none=>.bad
 | _=>.bad
theorem kL(hC:∀C b,pC C=some b->XIs X.K C/\Cw X.K (.ref C) (Cs.map Au)=some b)(hz:Cs.length<=1000)
  (hg:Gl X "isinstance") (hm:X.mg "isinstance" = none) (h:GE X E e m) (wM:PA X es (tCs (Cs.map V.ref)))
  (he:Aa [e,.Tuple es x1 p2] X.env=(false,B4 e X.env) :: Aa [.Tuple es x1 p2] X.env:=by rfl) (qq:Aa [.Tuple es x1 p2] X.env=(false,B4 (.Tuple es x1 p2) X.env) :: Aa [] X.env:=by rfl) (p0:(Dw pos (Aa [.Tuple es x1 p2] X.env)).any (·.1)=false:=by rfl) :
  GE X E (.Call (.Name "isinstance" p) [e,.Tuple es x1 p2] [] pos) (YR pC m):=
 (JZ bp hg hm Mj (Ew h (Ew (aD wM) Hu qq) he) (by decide) (by decide) he p0).imp λσ H Q ⟨ρ,l,S,hl,hs,hm⟩=>by
 refine⟨ρ,l,S,hl,hs,hm.seq λd S1 hm ρ1 H1 x l1 s1 r1=>⟨by rw[AE];exact Ao hz (by decide),λtp hp=>?_⟩⟩
 cases d with
 | exc C=>
  dsimp only at hm
  cases hb:pC C with
  | none=>rw[hb]at hm;exact hm.elim
  | some b=>
   rw[hb]at hm;obtain⟨s2,l2⟩:=HX (ho:=.tup (Cs.map V.ref)) s1 hp
   cases r1 with
   | @exc _ a o u g xo=>
    exact⟨a,o,u,C,b,tp,rfl,l2.frz _ _ _ g,xo,(hC C b hb).1,Bb,(hC C b hb).2,hm ρ1 _ _ (l1.trans l2) s2 (.bl _)⟩
 | _=>exact hm.elim
end
def pickG{α:Type}(xs:List α)(lo hi st:Option Int):List α:=(sliceRange (cI lo hi st xs.length).1 (cI lo hi st xs.length).2.1 (cI lo hi st xs.length).2.2).filterMap (xs[·]?)
theorem YG{α β:Type}(f:α->β)(xs:List α)(lo hi st:Option Int):pickG (xs.map f) lo hi st=(pickG xs lo hi st).map f:=by
 unfold pickG;rw[AE,List.map_filterMap]
 congr 1
 funext i
 rw[AS]
theorem Lq(i':List AH)(lo hi st:Option Int):slicePick i'.toArray lo hi st=(pickG i' lo hi st).toArray:=by
 unfold slicePick pickG;simp only[Ae,List.getElem?_toArray]
theorem Bg.pickIx(r:Bg xs us):∀is:List Nat,Bg (is.filterMap (xs[·]?)) (is.filterMap (us[·]?))
 | []=>.nil
 | i :: is=>by
  have ih:=Bg.pickIx r is
  cases hx:xs[i]? with
  | none=>
   have hu:us[i]?=none:=by
    rw[Bn]at hx ⊢;rw[<-r.length];exact hx
   rw[GN (by simpa using hx),GN (by simpa using hu)];exact ih
  | some x=>
   obtain⟨u,hu,ru⟩:=r.get hx;rw[GM (by simpa using hx),GM (by simpa using hu)];exact .cons ru ih
theorem Bg.pickG(r:Bg xs us)(lo hi st:Option Int):Bg (L2.pickG xs lo hi st) (L2.pickG us lo hi st):=by
 unfold L2.pickG;rw[r.length];exact r.pickIx _
theorem Az.pickIx{K}{ρ}{H}{ds}{vs}(r:Az K ρ H ds vs):∀is:List Nat,Az K ρ H (is.filterMap (ds[·]?)) (is.filterMap (vs[·]?))
 | []=>.nil
 | i :: is=>by
  have ih:=Az.pickIx r is
  cases hx:ds[i]? with
  | none=>
   have hu:vs[i]?=none:=by
    rw[Bn]at hx ⊢;rw[<-r.length];exact hx
   rw[GN (by simpa using hx),GN (by simpa using hu)];exact ih
  | some x=>
   obtain⟨u,hu,ru⟩:=r.get hx;rw[GM (by simpa using hx),GM (by simpa using hu)];exact .cons ru ih
theorem Az.pickG{K}{ρ}{H}{ds}{vs}(r:Az K ρ H ds vs)(lo hi st:Option Int):Az K ρ H (L2.pickG ds lo hi st) (L2.pickG vs lo hi st):=by
 unfold L2.pickG;rw[r.length];exact r.pickIx _
section
variable{X:Cx}{E:EW}{e st:Expr}{te:TE}{lo hi:Option Expr}{tl th ts:TO}{pos p2:Pos}{m:ME}{ml mh ms:MO}
def tSlS(K:AG)(te:TE)(tl th ts:TO):TE:=λσ H Q=>te σ H λx H1=>tl σ H1 λl H2=>th σ H2 λu H3=>ts σ H3 λc H4=>
 ∃a xs,x=.ref a/\SqL K H4 a xs/\c≠some 0/\∀p,H4 p=none->Q (.ref p) (upd H4 p (.lst (pickG xs l u c)))
theorem YJ(he:PE X e te)(hl:PO X lo tl)(hu:PO X hi th)(qC:PO X (some st) ts):PE X (.Subscript e (.Slice lo hi (some st) p2) pos) (tSlS X.K te tl th ts):=by
 intro ζ s σ H Q I h;refine iD (thn (he ζ s σ H _ I h) λv s1 ⟨x,H1,I1,r1,q1⟩=>?_);refine wpAny_Slice (thn (hl ζ s1 σ H1 _ I1 q1) λvl s2 ⟨l,H2,I2,pl,q2⟩=>thn (hu ζ s2 σ H2 _ I2 q2) λvu s3 ⟨u,H3,I3,pu,q3⟩=>?_)
 refine thn (qC ζ s3 σ H3 _ I3 q3) λvc s3 ⟨c,H3,I3,pc,q3⟩=>?_
 have I4:Inv X ζ σ H3 { s3 with heap:=s3.heap.push { cls:=.type "slice",data:=.fields #[vl,vu,vc] } }:=I3.kept (t':=s3.toks) λb ob q=>AK _ q
 obtain⟨a,xs,rfl,hx,hc,q⟩:=q3;cases r1;obtain⟨i',r,ht,hz⟩:=I4.list hx;show Aw (Ac X.prog X.w) X.A (XV e (.Slice lo hi (some st) p2) (.ref a) (.ref s3.heap.objs.size)) (EP X ζ σ Q) X.xe { s3 with heap:=s3.heap.push { cls:=.type "slice",data:=.fields #[vl,vu,vc] } };refine tail_any (ops:=[.ref a,.ref s3.heap.objs.size]) ht.isList.typeIs kr.lookup ?_ (by with_unfolding_all rfl);have hlen:=r.length;refine wpAny_getItem_list_slice ht.isList (lF ..) pl pu pc hc ?_ (by rw[Ae] <;> lia);rw[Lq]
 have hle:(pickG xs l u c).length<=xs.length:=by
  have:=slicePick_size_le i'.toArray l u c;rw[Lq,Ae,Ae,<-(r.pickG l u c).length,<-hlen]at this;exact this
 refine⟨.ref _,_,I4.laid (t':=s3.toks) (o:=.lst (pickG xs l u c)) (λb ob q=>AK _ q) (AN _) ?_,rfl,q _ (I4.hok.fresh (AN _))⟩;exact⟨Ao hle hz,_,0,r.pickG l u c,Al _ rfl⟩
def Ov(m:ME)(ml mh ms:MO):ME:=λe S=>(m e S).bind λd S1=>(ml e S1).bind λlo S2=>(mh e S2).bind λhi S3=>(ms e S3).bind λst S4=>match QB d S4 with
 | some ds=>if st=some 0 then .bad else .ok (.ref S4.length) (S4++[.lst (pickG ds lo hi st)])
 | none=>.bad
theorem Yf(he:GE X E e m)(hl:GO X E lo ml)(hu:GO X E hi mh)(qC:GO X E (some st) ms):GE X E (.Subscript e (.Slice lo hi (some st) p2) pos) (Ov m ml mh ms):=(YJ he hl hu qC).imp λσ H Q ⟨ρ,l,S,hl,hs,hm⟩=>by
 refine⟨ρ,l,S,hl,hs,hm.seq λd S1 hm ρ1 H1 x l1 s1 r1=>⟨ρ1,l,S1,hl.mono l1,s1,(hm.later l1).seq λlo S2 hm ρ2 H2 l2 s2=>⟨ρ2,l,S2,hl.mono (l1.trans l2),s2,(hm.later l2).seq λhi S3 hm ρ3 H3 l3 s3=>⟨ρ3,l,S3,hl.mono (l1.trans (l2.trans l3)),s3,(hm.later l3).seq λst S4 hm ρ4 H4 l4 s4=>?_⟩⟩⟩⟩;have r4:=r1.mono (l2.trans (l3.trans l4))
 cases hq:QB d S4 with
 | none=>rw[hq]at hm;exact hm.elim
 | some ds=>
  rw[hq]at hm;dsimp only at hm;split at hm
  ·exact hm.elim
  ·rename_i hc
   obtain⟨p,xs,rfl,rr,sq⟩:=LR s4 r4 hq;refine⟨p,xs,rfl,sq,hc,λq hq=>?_⟩;have le:Le X.K ρ4 H4 (ρ4++[q]) (upd H4 q (.lst (pickG xs lo hi st))):=Le.alloc hq;obtain⟨s5,l5,at5⟩:=s4.alloc (ho:=.lst (pickG xs lo hi st)) (o:=.lst (pickG ds lo hi st)) hq ⟨_,Bb,(rr.pickG lo hi st).mono le⟩;exact hm _ _ _ (l1.trans (l2.trans (l3.trans (l4.trans l5)))) s5 (.ref at5)
end
end L2
namespace PySem
open Sem (wp)
open AutoSeq1 (wpAny_loadPart')
theorem Kx(l:AV)(items:Array AH)(n:Nat)(sX:Option AV)(sl:Array (Option AH)) :
  Meets (Builtin.«enumerate.__new__» ⟨[.type "enumerate",.ref l],[]⟩) (λ_ R s=>s.heap.get? l=some { cls:=.type "tuple",dict:=sX,data:=.seq items n,slots:=sl } /\
   R (.ok (.ret (.ref (s.heap.push { cls:=.type "tuple_iterator",data:=.fields #[.ref l,.int 0 0] }).objs.size)))
    { s with heap:=(s.heap.push { cls:=.type "tuple_iterator",data:=.fields #[.ref l,.int 0 0] }).push { cls:=.type "enumerate",data:=.fields #[.none,.bool false,.ref s.heap.objs.size,Eo 0,.none,.none] } }):=
 .of_wp λprog w A R s h=>by
  obtain⟨hp,g,d,tk,os⟩:=s;obtain⟨hl,h⟩:=h;have sP:=sub_enumerate;have hL:Cj.IsTuple (AQ.heap ⟨hp,g,d,tk,os⟩) l items:=⟨_,hl,rfl,n,rfl⟩
  wp_walk using G5 hl
  refine wpAny_stack_any λst=>AR ?_
  split
  ·rename_i c _ _ _ _ _
   cases(c==GY "enumerate")
   ·wp_walk using G5 hl,HB hL
    exact⟨_,rfl,h⟩
   ·wp_walk using G5 hl,HB hL
    exact⟨_,rfl,h⟩
  ·wp_walk using G5 hl,HB hL
   exact⟨_,rfl,h⟩
section
variable{w:CF}{A:CB}{E:AH->AQ->Prop}{s:AQ}
theorem LG(hL:s.heap.IsTuple l items)
  (h:∀h',Ru h' (s.heap.objs.size+1) s.heap.objs.size 0 .none->h'.IsTupleIter s.heap.objs.size l 0->h'.objs.size=s.heap.objs.size+2 ->
   (∀b o,s.heap.get? b=some o->h'.get? b=some o)->Q (.ref (s.heap.objs.size+1)) { s with heap:=h' }) :
  Aw (Ac prog w) A (call (.type "enumerate") [.ref l]) Q E s:=by
 obtain⟨⟨c,sX,dt,sl⟩,hl,hc,n,hd⟩:=hL
 replace hc:c=.type "tuple":=hc
 replace hd:dt=.seq items n:=hd
 subst hc hd
 refine callType_new F.called_enumerate (by decide) (F.typeCall_enumerate_1 _) (F.newCall_enumerate_1 _) (λobj=>F.args_object_init_2 obj _) F.entry_enumerate_new
  (Kx l items n sX sl) ⟨hl,?_⟩
 have hz:(s.heap.push { cls:=.type "tuple_iterator",data:=.fields #[.ref l,.int 0 0] }).objs.size=s.heap.objs.size+1:=Dk ..;show _/\_;rw[hz]
 have he:Ru ((s.heap.push { cls:=.type "tuple_iterator",data:=.fields #[.ref l,.int 0 0] }).push
   { cls:=.type "enumerate",data:=.fields #[.none,.bool false,.ref s.heap.objs.size,Eo 0,.none,.none] }) (s.heap.objs.size+1) s.heap.objs.size 0 .none:=by
  have:=Al (s.heap.push { cls:=.type "tuple_iterator",data:=.fields #[.ref l,.int 0 0] })
   (o:={ cls:=.type "enumerate",data:=.fields #[.none,.bool false,.ref s.heap.objs.size,Eo 0,.none,.none] }) rfl
  rw[hz]at this;exact this
 refine⟨⟨_,he,rfl⟩,h _ he ⟨_,AK _ (Al _ rfl),rfl,rfl⟩ (by rw[Dk,hz]) λb o x=>AK _ (AK _ x)⟩
theorem NA{it t}{i}{items}{x}{Q}(hit:s.heap.IsTupleIter it t i)
  (ht:s.heap.IsTuple t items) (hx:items[i]?=some x)
  (hQ:∀h',h'.IsTupleIter it t (i+1)->Ec it s.heap h'->Q x { s with heap:=h' }) :
  Aw (Ac prog w) A (ES (.ref it)) Q E s:=by
 obtain⟨o,ho,hc,hd⟩:=id hit;obtain⟨ol,wW,_,nl,sY⟩:=ht;unfold ES
 refine AB (En (name:=Kd "__next__") hit.typeIs Fi
  (Em Fi hit.typeIs TC ?_ (Rw _)))
 show Aw _ _ (field (.ref it) 0 >>= _) _ _ s;refine AB (E3 ho hd (x:=.ref t) rfl ?_);show Aw _ _ (if (Au t==BY)=true then _ else _) _ _ s;rw[qY (show ¬((Au t==BY)=true)from AL)];show Aw _ _ (field (.ref it) 1 >>= _) _ _ s;refine AB (E3 ho hd (x:=.int i 0) rfl ?_);show Aw _ _ (seqItems? (.ref t) >>= _) _ _ s;refine AB (wpAny_seqItems wW sY ?_);simp only[Bk,hx];refine AB (F0 ho hd (by simp) (AR ⟨x,rfl,AR (hQ _ ?_ (HF ..))⟩))
 exact⟨_,E5 _ ho (FA (CJ hd _)),(Jl ..).trans hc,by
  rw[CJ hd];simp[Eo]⟩
theorem Ja{it t}{i}{items}{Q}(hh:A.handled=none)
  (hit:s.heap.IsTupleIter it t i) (ht:s.heap.IsTuple t items) (hx:items[i]?=none)
  (hE:∀h' e,WP it s.heap h'->(∃o,h'.get? e=some o/\o.cls=.type "StopIteration")->E (.ref e) { s with heap:=h' }) :
  Aw (Ac prog w) A (ES (.ref it)) Q E s:=by
 obtain⟨o,ho,hc,hd⟩:=id hit;obtain⟨ol,wW,_,nl,sY⟩:=ht;unfold ES
 refine AB (En (name:=Kd "__next__") hit.typeIs Fi
  (Em Fi hit.typeIs TC ?_ (Rw _)))
 show Aw _ _ (field (.ref it) 0 >>= _) _ _ s;refine AB (E3 ho hd (x:=.ref t) rfl ?_);show Aw _ _ (if (Au t==BY)=true then _ else _) _ _ s;rw[qY (show ¬((Au t==BY)=true)from AL)];show Aw _ _ (field (.ref it) 1 >>= _) _ _ s;refine AB (E3 ho hd (x:=.int i 0) rfl ?_);show Aw _ _ (seqItems? (.ref t) >>= _) _ _ s;refine AB (wpAny_seqItems wW sY ?_);simp only[Bk,hx];refine AB (g8 (AB (F0 ho hd (by simp) ?_)));show Aw _ _ (newExc (.type "StopIteration") [] >>= _) _ _ _;refine AB ?_;simp only[newExc,newTuple];refine AB (EL ?_ (by size_fits));refine AB (m:=NZ _ _) (cH (a:=BY) (by first | rfl | (simp only[NZ];rfl)) ?_);refine EL ?_ (by size_fits);simp only[raiseNew];refine AB (wpAny_handled ?_)
 first | rw[show A.in1.handled=none from hh] | rw[hh]
 refine AB (AR (wpAny_throw ?_));exact hE _ _ (((HF ..).extBut.push _).push _) ⟨_,Al _ rfl,rfl⟩
theorem Uc(hh:A.handled=none)(it l:AV)(oO:l≠it)(items:Array AH) :
  Draws prog w A it [it,l] items.size (λi v=>items[i]?=some v) (λi h=>h.IsTupleIter it l i/\h.IsTuple l items) where
 live:=λ_ _ st=>let ⟨o,ho,_⟩:=st.1;⟨o,ho⟩
 frame:=λ_ _ _ st hk=>⟨st.1.at λo e=>hk it (by simp) o e,let ⟨o,ho,r⟩:=st.2;⟨o,hk l (by simp) o ho,r⟩⟩
 item:=λi s Q E hi st hQ=>by
  refine NA st.1 st.2 (x:=items[i]) (by simp[hi]) λh' t4 uj=>?_
  exact hQ _ h' s.toks (by simp[hi]) ⟨t4,st.2.extBut uj.extBut oO⟩ uj
 done:=λs Q E st hE=>Ja hh st.1 st.2 (by simp) hE
theorem La{e it l:AV}{i:Nat}{items:Array AH}{old:AH}{Q:Option AH->AQ->Prop}(hh:A.handled=none)
  (he:Ru s.heap e it i old) (hit:s.heap.IsTupleIter it l i) (hl:s.heap.IsTuple l items) (hx:items[i]?=none)
  (hQ:∀h',WP it s.heap h'->Q none { s with heap:=h' }):Aw (Ac prog w) A (Rj (.ref e)) Q E s:=by
 have hT:s.TypeIs (.ref e) "enumerate":=⟨_,he,rfl⟩;unfold Rj
 refine AB (Ih (En (name:=Kd "__next__") hT Y8
  (Em Y8 hT F.entry_enumerate_next ?_ (F.args_enumerate_next_1 _))))
 show Aw _ _ (field (.ref e) 2 >>= _) _ _ _;refine AB (E3 he rfl (x:=.ref it) rfl ?_);refine AB (Ja hh hit hl hx λh' x uk hx'=>?_);obtain⟨o,ho,hc⟩:=hx';refine AB (lI (T:="StopIteration") (b:=true) ⟨o,ho,hc⟩ isSubtype_stop ?_);exact AR (hQ _ uk)
end
end PySem
namespace L2
open PySem PySem.Spec PyProof.Rows
theorem Inv.turned2(I:Inv X ζ σ H s)(k:∀b u,b≠e->b≠it->s.heap.get? b=some u->h'.get? b=some u)
  (fe:Mg X ζ H e) (fi:Mg X ζ H it) (ha:s.heap.objs.size<=a) (new:CH X.prog X.w (upd H a o) h' a o):Inv X ζ σ (upd H a o) { s with heap:=h',toks:=t' }:=by
 have hn:=I.hok.fresh ha
 have tL:∀b u,H b=some u->b≠e/\b≠it:=λb u q=>⟨λz=>(by rw[z,fe.1]at q;cases q),λz=>(by rw[z,fi.1]at q;cases q)⟩
 have out:∀b:AV,b∉[e,it]->b≠e/\b≠it:=λb hb=>⟨λz=>hb (by simp[z]),λz=>hb (by simp[z])⟩
 refine I.step (g':=s.gens) (d':=s.drawn) (ch:=[e,it]) (λb hb=>?_) (λb o _ _ hc q _=>k b o (out b hc).1 (out b hc).2 q) (λb o _ _ hc q _=>⟨o.slots,k b o (out b hc).1 (out b hc).2 q⟩) (λb o _ q n=>?_)
  (λb o hc q=>⟨o,k b o (out b hc).1 (out b hc).2 q⟩) (λb xs q=>by rw[BN (Bq q hn)];exact q) (λb o u q=>by rw[BN (Bq q hn)];exact q) (λb ps q=>⟨#[],by rw[BN (Bq q hn),q];simp⟩) (λm hm=>?_) (λb u q=>?_) I.bare
 ·have pe:b=e∨b=it:=by simpa using hb
  rcases pe with z | z
  ·subst z;exact⟨fe.2.2.2.1,fe.2.1,fe.2.2.2.2.1,fe.2.2.2.2.2⟩
  ·subst z;exact⟨fi.2.2.2.1,fi.2.1,fi.2.2.2.2.1,fi.2.2.2.2.2⟩
 ·rw[BN (A0 (AU (Ai q) ha))];exact n
 ·obtain⟨o,es,ep,ho,r⟩:=hm
  exact⟨o,es,ep,k _ o (Br fe.2.1) (Br fi.2.1) ho,r⟩
 ·by_cases hb:b=a
  ·subst hb;rw[Bb]at q;cases q;exact new
  ·rw[BN hb]at q
   refine(I.hok b u q).stay (λc v hc r=>?_) (λc r=>by rw[BN (Bq r hn)];exact r) λc xs r=>by rw[BN (Bq r hn)];exact r
   have:c≠e/\c≠it:=by
    rcases hc with z | z
    ·rw[z];exact tL b u q
    ·exact tL c _ z
   exact k c v this.1 this.2 r
def Ite(sq:Hp->List V->Prop):It:=
 ⟨λi H=>∃xs x,sq H xs/\xs[i]?=some x,λi H y H'=>∃p x,H p=none/\y=.ref p/\H'=upd H p (.tup [.int i,x])/\∀xs,sq H xs->xs[i]?=some x,λi H=>∃xs,sq H xs/\xs.length<=i⟩
section
variable{P:Bp}{w:CF}{K:AG}{elts:List Expr}{x1:Nat}{pos:Pos}
theorem RW{X:Cx}{ζ:List (AV×Obj)}{σ:St}{H:Hp}{s:AQ}{E:AH->AQ->Prop}{sq:Hp->List V->Prop}{e it:AV}{i:Nat}{x:V}{u:AH}{tk:Nat}{h':Cj}{tn:Nat->Cj->Prop}
  (I:Inv X ζ σ H s) (oO:e≠it) (hf:∀b∈[e,it],Mg X ζ H b) (le:e < s.heap.objs.size) (li:it < s.heap.objs.size) (ru:RelV x u) (hx:∀xs,sq H xs->xs[i]?=some x)
  (ho:IsEnumOut h' e it ((i:Int)+1) u s.heap.objs.size) (hT:h'.get? s.heap.objs.size=some { cls:=.type "tuple",data:=.seq #[.int i tk,u] }) (hk:∀b o,b≠e->b≠it->s.heap.get? b=some o->h'.get? b=some o)
  (ht:∀h2,Ec e h' h2->(∃old,Ru h2 e it ((i+1:Nat):Int) old)->tn (i+1) h2) :
  Aw (Ac X.prog X.w) X.A (Mi (.Tuple elts x1 pos) (.ref e) (.ref s.heap.objs.size)) (λ_ s2=>∃y H',Inv X ζ σ H' s2/\RelV y (.ref s.heap.objs.size)/\(Ite sq).yld i H y H'/\tn (i+1) s2.heap/\∀b∈[e,it],H' b=none) E { s with heap:=h',toks:=tk+1 }:=by
 have fe:=hf e (by simp);have fi:=hf it (by simp);have ne:e≠s.heap.objs.size:=A0 le;have ni:it≠s.heap.objs.size:=A0 li
 have new:CH X.prog X.w (upd H s.heap.objs.size (.tup [.int i,x])) h' s.heap.objs.size (.tup [.int i,x]):=
  ⟨⟨Ao (show 2<=1000 by decide) (by decide),_,hT,rfl⟩,[.int i tk,u],.cons ⟨tk,rfl⟩ (.cons ru .nil),_,hT,rfl,_,rfl⟩
 have I1:=I.turned2 (t':=tk+1) hk fe fi (AN _) new
 refine wpAny_letOwnedTupleGo_enum (s:={ s with heap:=h',toks:=tk+1 }) ho λh2 qq pz=>?_
 have um:Ec e h' h2:=pz;have I2:=I1.turned (t':=tk+1) (h':=h2) (it:=e) (λb o hb q=>(um.2 b hb).trans q) (by rw[BN ne];exact fe.1) fe.2.1 fe.2.2.2.1 fe.2.2.2.2.1 fe.2.2.2.2.2;refine⟨.ref s.heap.objs.size,_,I2,rfl,⟨s.heap.objs.size,x,I.hok.fresh (AN _),rfl,rfl,hx⟩,ht h2 um ⟨u,by rw[gb,Int.natCast_one];exact qq⟩,λb hb=>?_⟩
 have pe:b=e∨b=it:=by simpa using hb
 rcases pe with z | z
 ·rw[z,BN ne];exact fe.1
 ·rw[z,BN ni];exact fi.1
theorem VP(a e it:AV)(oO:e≠it):Sr P w K (.Tuple elts x1 pos) (Ite λH xs=>SqL K H a xs) [e,it] e (λi h=>(∃old,Ru h e it i old)/\h.IsListIter it a i) where
 mem:=by simp
 obj:=λi h st b hb=>by
  have pe:b=e∨b=it:=by simpa using hb
  rcases pe with z | z
  ·subst z
   obtain⟨⟨old,he⟩,_⟩:=st
   exact⟨_,he,λv z=>by
    have z':WQ _=cE v:=z
    cases z'⟩
  ·subst z
   obtain⟨_,o,e,c,d⟩:=st;exact⟨o,e,λv z=>by rw[d]at z;cases z⟩
 keep:=λi h h' st k=>⟨st.1.imp λold he=>k e (by simp) _ he,st.2.at λo q=>k it (by simp) o q⟩
 item:=by
  intro X hP hw hK hc i ζ s σ H E I hf st hg;subst hP hw hK;obtain⟨xs,x,hq,hx⟩:=hg;obtain⟨i',rv,p,hz⟩:=I.list hq;obtain⟨u,hu,ru⟩:=rv.get hx;obtain⟨⟨old,he⟩,hit⟩:=st
  have li:it < s.heap.objs.size:=by obtain⟨o,q,_⟩:=hit;exact Ai q
  refine wpAny_pyNext_enum_item he hit p.isList (x:=u) (by simpa using hu) oO λh' ho t4 hT hsz hk=>?_
  exact⟨_,rfl,RW (sq:=λH xs=>SqL X.K H a xs) (tn:=λi h=>(∃old,Ru h e it i old)/\h.IsListIter it a i) I oO hf (Ai he) li ru (λys hy=>by rw[I.list_inj hy hq];exact hx) ho hT hk λh2 pz qq=>⟨qq,t4.at λo q=>(pz.2 it (Br oO)).trans q⟩⟩
 done:=by
  intro X hP hw hK hc i ζ s σ H E I hf st hg;subst hP hw hK;obtain⟨xs,hq,hx⟩:=hg;obtain⟨i',rv,p,hz⟩:=I.list hq;obtain⟨⟨old,he⟩,hit⟩:=st;obtain⟨f0,f1,f2,f3,f4,f5⟩:=hf it (by simp);have hl:=rv.length
  exact wpAny_pyNext_enum_end (I.ok.hd hc) he hit p.isList (by simp;lia) λh' eb=>⟨rfl,I.turned (t':=s.toks) (λb o hb e=>eb b o hb e) f0 f1 f3 f4 f5⟩
 self:=λ_ _ _ _ _ st h=>by
  obtain⟨⟨old,he⟩,_⟩:=st;exact KZ he h
theorem VO(a e it:AV)(oO:e≠it)(hae:a≠it)(hef:e≠a):Sr P w K (.Tuple elts x1 pos) (Ite λH xs=>SqT K H a xs) [e,it] e (λi h=>(∃old,Ru h e it i old)/\h.IsTupleIter it a i) where
 mem:=by simp
 obj:=λi h st b hb=>by
  have pe:b=e∨b=it:=by simpa using hb
  rcases pe with z | z
  ·subst z
   obtain⟨⟨old,he⟩,_⟩:=st
   exact⟨_,he,λv z=>by
    have z':WQ _=cE v:=z
    cases z'⟩
  ·subst z
   obtain⟨_,o,e,c,d⟩:=st;exact⟨o,e,λv z=>by rw[d]at z;cases z⟩
 keep:=λi h h' st k=>⟨st.1.imp λold he=>k e (by simp) _ he,st.2.at λo q=>k it (by simp) o q⟩
 item:=by
  intro X hP hw hK hc i ζ s σ H E I hf st hg;subst hP hw hK;obtain⟨xs,x,hq,hx⟩:=hg;obtain⟨i',rv,p,hz⟩:=I.tuple hq;have p':s.heap.IsTuple a i'.toArray:=p;obtain⟨u,hu,ru⟩:=rv.get hx
  have oM:i < i'.toArray.size:=by
   have:=(AC.mp hu).1;simpa using this
  obtain⟨⟨old,he⟩,hit⟩:=st
  have li:it < s.heap.objs.size:=by obtain⟨o,q,_⟩:=hit;exact Ai q
  refine wpAny_pyNext_enum_itemD (Uc (A:=X.A.in1) (I.ok.hd hc) it a hae i'.toArray) he ⟨hit,p'⟩ oM oO (by simp[oO,hef]) λu' h' tk hu' ho wZ hT hsz hk=>?_
  have:u'=u:=by
   have ϝ:i'[i]?=some u':=by simpa using hu'
   rw[hu]at ϝ;cases ϝ;rfl
  subst this;exact⟨_,rfl,RW (sq:=λH xs=>SqT X.K H a xs) (tn:=λi h=>(∃old,Ru h e it i old)/\h.IsTupleIter it a i) I oO hf (Ai he) li ru (λys hy=>by rw[I.tuple_inj hy hq];exact hx) ho hT hk λh2 pz qq=>⟨qq,wZ.1.at λo q=>(pz.2 it (Br oO)).trans q⟩⟩
 done:=by
  intro X hP hw hK hc i ζ s σ H E I hf st hg;subst hP hw hK;obtain⟨xs,hq,hx⟩:=hg;obtain⟨i',rv,p,hz⟩:=I.tuple hq;obtain⟨⟨old,he⟩,hit⟩:=st;obtain⟨f0,f1,f2,f3,f4,f5⟩:=hf it (by simp);have hl:=rv.length
  exact La (I.ok.hd hc) he hit (show s.heap.IsTuple a i'.toArray from p) (by simp;lia) λh' eb=>⟨rfl,I.turned (t':=s.toks) (λb o hb e=>eb b o hb e) f0 f1 f3 f4 f5⟩
 self:=λ_ _ _ _ _ st h=>by
  obtain⟨⟨old,he⟩,_⟩:=st;exact KZ he h
end
section
variable{X:Cx}{E:EW}{e:Expr}{elts:List Expr}{x1:Nat}{p pos Ϟ:Pos}{ta:TA}
def nD(K:AG)(ta:TA):TI:=λσ H R=>ta σ H λvs H1=>∃a,vs=[.ref a]/\(((∃xs,SqL K H1 a xs)/\R (Ite λH xs=>SqL K H a xs) H1)∨((∃xs,SqT K H1 a xs)/\R (Ite λH xs=>SqT K H a xs) H1))
theorem d7(hg:Gl X "enumerate") (hm:X.mg "enumerate" = none) (ha:PA X [e] ta) (hs:Aa [e] X.env=[(false,B4 e X.env)]:=by rfl):PI X (.Tuple elts x1 Ϟ) (.Call (.Name "enumerate" p) [e] [] pos) (nD X.K ta):=by
 intro ζ s σ H R I h;refine Call_ (MW I hg hm boot_enumerate (C9 (thn (ha pos ζ s σ H _ I h) λus s1 ⟨vs,H1,I1,r1,q1⟩=>?_) hs rfl));obtain⟨a,rfl,q1⟩:=q1;obtain⟨u,rfl,ru⟩:=vals1 r1;cases ru
 have fp:∀{h':Cj} (b:AV),b∈[s1.heap.objs.size+1,s1.heap.objs.size]->Mg X ζ H1 b:=λb hb=>by
  have pe:b=s1.heap.objs.size+1∨b=s1.heap.objs.size:=by simpa using hb
  rcases pe with z | z
  ·rw[z];exact I1.fpOk (ID _) (I1.hok.fresh (ID _))
  ·rw[z];exact I1.fpOk (AN _) (I1.hok.fresh (AN _))
 rcases q1 with⟨⟨xs,sq⟩,q⟩ | ⟨⟨xs,sq⟩,q⟩
 ·obtain⟨i',rv,pl,hz⟩:=I1.list sq
  refine call_enumerate_list pl.isList λh' he hit hsz hk=>KZ he ?_
  exact⟨_,[s1.heap.objs.size+1,s1.heap.objs.size],_,_,H1,rfl,I1.kept (t':=s1.toks) hk,VP a _ _ (cN _),⟨⟨_,he⟩,hit⟩,fp (h':=h'),q⟩
 ·obtain⟨i',rv,pl,hz⟩:=I1.tuple sq
  have ϟ:s1.heap.IsTuple a i'.toArray:=pl
  have la:a < s1.heap.objs.size:=by obtain⟨o,q,_⟩:=ϟ;exact Ai q
  refine LG ϟ λh' he hit hsz hk=>KZ he ?_
  exact⟨_,[s1.heap.objs.size+1,s1.heap.objs.size],_,_,H1,rfl,I1.kept (t':=s1.toks) hk,VO a _ _ (cN _) (A0 la) (HE (OY la)),⟨⟨_,he⟩,hit⟩,fp (h':=h'),q⟩
def N9(ds:List D):List D:=ds.zipIdx.map λx=>.tup [.int x.2,x.1]
def WW(v:Me):Me:=λS=>(v S).map N9
def N3(m:ME):MI:=λe S=>(m e S).bind λd S1=>match Fj d S1 with
 | some _=>.ok (WW (Fj d)) S1
 | none=>.bad
theorem QM(ds:List D)(i:Nat):(N9 ds)[i]?=(ds[i]?).map λd=>.tup [.int i,d]:=by
 unfold N9;rw[AS,WM]
 cases ds[i]? <;> simp
theorem OJ{K}{ρ}{H}{J}{v}{sq}(hJ:Md K ρ H J v)(h1:∀i H,J.go i H->∃xs x,sq H xs/\xs[i]?=some x)(h2:∀i H,J.stop i H->∃xs,sq H xs/\xs.length<=i)
  (h3:∀i H x,(∀xs,sq H xs->xs[i]?=some x)->J.yld i H x H):Md K ρ H (Ite sq) (WW v):=by
 intro ρ2 H2 S ds i l s hv;unfold WW at hv
 cases hd:v S with
 | none=>rw[hd]at hv;cases hv
 | some ds0=>
  rw[hd]at hv;cases hv;obtain⟨a1,a2⟩:=hJ ρ2 H2 S ds0 i l s hd;refine⟨λhn=>?_,λd pd=>?_⟩
  ·rw[QM]at hn
   refine h2 i H2 (a1 ?_)
   cases hq:ds0[i]? with
   | none=>rfl
   | some d=>rw[hq]at hn;cases hn
  ·rw[QM]at pd
   cases hq:ds0[i]? with
   | none=>rw[hq]at pd;cases pd
   | some d0=>
    rw[hq]at pd;cases pd;obtain⟨b1,b2⟩:=a2 d0 hq;refine⟨h1 i H2 b1,λy H' hy=>?_⟩;obtain⟨p,x,hp,rfl,rfl,hx⟩:=hy;obtain⟨ρ3,l3,s3,r3⟩:=b2 x H2 (h3 i H2 x hx);obtain⟨s4,l4⟩:=HX (ho:=.tup [.int i,x]) s3 hp;exact⟨ρ3,l3.trans l4,s4,.tup Bb (.cons (.int _) (.cons (r3.mono l4) .nil))⟩
theorem SX(hg:Gl X "enumerate") (hm:X.mg "enumerate" = none) (h:GE X E e m) (he:Aa [e] X.env=[(false,B4 e X.env)]:=by rfl):GI X E (.Tuple elts x1 Ϟ) (.Call (.Name "enumerate" p) [e] [] pos) (N3 m):=
 (d7 hg hm (Ew h Hu he) he).imp λσ H R ⟨ρ,l,S,hl,hs,hm⟩=>by
 refine⟨ρ,l,S,hl,hs,hm.seq λd S1 hm ρ1 H1 x l1 s1 r1=>?_⟩
 cases d with
 | tup ds=>
  have tW:=hm
  cases r1 with
  | @tup _ a vs q1 q2=>
   exact⟨a,rfl,.inr ⟨⟨vs,.inl (.inl q1)⟩,tW ρ1 H1 _ l1 s1 (OJ (PK q1 q2) (λi H z=>z) (λi H z=>z) λi H x z=>⟨rfl,z⟩)⟩⟩
 | _=>
  cases hv:Fj _ S1 with
  | none=>rw[hv]at hm;exact hm.elim
  | some ds=>
   rw[hv]at hm
   have:∃a,x=.ref a:=by
    cases r1 <;> first | exact⟨_,rfl⟩ | (cases hv;done)
   obtain⟨a,rfl⟩:=this;obtain⟨xs,sq,_⟩:=PP s1 r1 hv;exact⟨a,rfl,.inl ⟨⟨xs,sq⟩,hm ρ1 H1 _ l1 s1 (OJ (PM r1) (λi H z=>z) (λi H z=>z) λi H x z=>⟨rfl,z⟩)⟩⟩
end
open PySem
theorem bu{α:Type}{xs:List α}{j:Int}{x:α}(h0:0<=j)(h:xs[j.toNat]?=some x):atI xs j=some x:=by
 have oM:=(AC.mp h).1;unfold atI ixN;rw[qX (by omega),qX (by lia)];simpa using h
theorem SS(hd:Gm d S=some ds)(h0:0<=j)(h:ds[j.toNat]?=some z):ixA d (.int j) S=.ok z S:=by
 show Gp (ixD d (.int j) S) _=_
 have:ixD d (.int j) S=.ok z S:=by
  unfold ixD;rw[hd];dsimp only;rw[bu h0 h]
 rw[this];rfl
theorem az(hn:S[n]?=some (.lst ds))(h0:0<=j)(h:ds[j.toNat]?=some z):ixA (.ref n) (.int j) S=.ok z S:=SS (Dr hn) h0 h
theorem IR(h:ml e S=.ok ds S1)(hz:ds.length<=1000):Bi ml e S=.ok ds S1:=by
 unfold Bi;rw[h];dsimp only[Res.bind];rw[qX (Ao hz (by decide))]
theorem jy(h:m e S=.ok (.exc C) S1)(hb:tab C=some b):YR tab m e S=.ok (.bl b) S1:=by
 unfold YR;rw[h];dsimp only[Res.bind];rw[hb]
theorem eq_nil(neg:Bool)(h1:S[n]?=some (.lst ds))(h2:S[k]?=some (.lst [])):eqD neg (.ref n) (.ref k) S=.ok (.bl (if neg then !ds.isEmpty else ds.isEmpty)) S:=by
 unfold eqD eqB;rw[QA h1,QA h2]
 cases ds with
 | nil=>rfl
 | cons x xs=>rfl
theorem Yi(h:m e S=.err c S1):B0 m e S=.ok (.ex c e) S1:=by
 unfold B0;rw[h];rfl
theorem KJ{P:AV->Prop}:∀C∈([]:List AV),P C:=λ_ h=>zX h Bx
theorem all_cons{P:AV->Prop}{a:AV}{l:List AV}(h:P a)(t:∀C∈l,P C):∀C∈a :: l,P C:=λC hC=>by
 rcases At.mp hC with e | hC
 ·rw[e];exact h
 ·exact t C hC
theorem VR{P:AV->Bool->Prop}{al ex:List AV}(h1:∀C∈al,P C true)(h2:∀C∈ex,C∉al->P C false)(C:AV)(b:Bool)(e:(if C∈al then some true else if C∈ex then some false else none)=some b):P C b:=by
 split at e
 ·cases e;exact h1 C ‹_›
 ·split at e
  ·cases e;exact h2 C ‹_› ‹_›
  ·cases e
theorem bv{K:AG}{v:AH}:Cw K v []=some false:=by simp only[Cw]
theorem Hx{K:AG}{v t:AH}{ts:List AH}(h:Bt K v t=some false):Cw K v (t :: ts)=Cw K v ts:=by simp only[Cw,h]
theorem Sq{K:AG}{v t:AH}{ts:List AH}(h:Bt K v t=some true):Cw K v (t :: ts)=some true:=by simp only[Cw,h]
theorem Oh{α:Type}:∀{l:List α},l.length=1->∃x1,l=[x1]
 | [a],_=>⟨a,rfl⟩
theorem N1{α:Type}:∀{l:List α},l.length=2->∃x1 x2,l=[x1,x2]
 | y :: _,q=>by
  obtain⟨x2,rfl⟩:=Oh (Jm q);exact⟨y,x2,rfl⟩
theorem aq{α:Type}:∀{l:List α},l.length=3->∃x1 x2 x3,l=[x1,x2,x3]
 | y :: _,q=>by
  obtain⟨x2,x3,rfl⟩:=N1 (Jm q);exact⟨y,x2,x3,rfl⟩
theorem len4{α:Type}:∀{l:List α},l.length=4->∃x1 x2 x3 x4,l=[x1,x2,x3,x4]
 | y :: _,q=>by
  obtain⟨x2,x3,x4,rfl⟩:=aq (Jm q);exact⟨y,x2,x3,x4,rfl⟩
theorem len5{α:Type}:∀{l:List α},l.length=5->∃x1 x2 x3 x4 x5,l=[x1,x2,x3,x4,x5]
 | y :: _,q=>by
  obtain⟨x2,x3,x4,x5,rfl⟩:=len4 (Jm q);exact⟨y,x2,x3,x4,x5,rfl⟩
open PySem PySem.Spec PyProof.Rows
theorem kS{P}{w}{K}{mg}{base}{CX}{k n}{f}{fd}{ps}:D0 P w K mg base CX k f fd ps (spM K n λ_ _=>.bad):=
 ⟨λ_ _ _ _ ⟨_,_,_,_,_,_,h⟩=>h.elim,λ_ _ _ _ _ _ _ _ _ _ _ _ _ ⟨_,_,_,_,_,_,h⟩=>h.elim⟩
def P8(mk mv:ME):ME:=λe S=>(mk e (S++[.dK []])).bind λx S1=>(mv e S1).bind λy S2=>match S2[S.length]?,YV x with
 | some (.dK []),some k=>.ok (.ref S.length) (S2.set S.length (.dK (CA [] k y)))
 | _,_=>.bad
section
theorem bQ(hk:GE X E k mk)(hv:GE X E v mv):GE X E (.Dict [some k] [v] pos) (P8 mk mv):=
 (eI (Z9 hk hv dv) rfl rfl (by simp) (by simp)).imp λσ H Q ⟨ρ,l,S,hl,hs,hm⟩ p hp=>by
 obtain⟨s0,l0,xa⟩:=hs.alloc (ho:=.dK []) (o:=.dK []) hp ⟨[],Bb,.nil⟩;refine⟨ρ++[p],l,S++[.dK []],hl.mono l0,s0,(hm.later l0).seq λx S1 hm ρ1 H1 u l1 s1 r1=>⟨ρ1,l,S1,hl.mono (l0.trans l1),s1,(hm.later l1).seq λy S2 hm ρ2 H2 w l2 s2 r2=>?_⟩⟩;have r0:Bo X.K (ρ++[p]) (upd H p (.dK [])) (.ref S.length) (.ref p):=.ref xa;have r0':=r0.mono (l1.trans l2)
 show H2 p=some (.dK [])/\∃kvs:List (Key×V),[(u,w)]=kvs.map (λkv=>(kV kv.1,kv.2))/\kvs.length<=15/\Q (.ref p) (upd H2 p (.dK (JC [] kvs)))
 split at hm
 ·rename_i ky h4 qb
  cases r0' with
  | @ref _ a hn=>
   obtain⟨kvs',e,r⟩:=s2.ob S.length _ _ h4 hn;cases r;rw[NK (r1.mono l2) qb];have le:Le X.K ρ2 H2 ρ2 (upd H2 p (.dK (Ht [] ky w))):=Le.write hn (by rw[e];trivial);obtain⟨s5,l5⟩:=s2.write (ho:=.dK (Ht [] ky w)) (o:=.dK (CA [] ky y)) hn ⟨_,Bb,(KVR.put ky r2 .nil).mono le⟩ le;exact⟨e,[(ky,w)],rfl,by simp,hm ρ2 _ _ (l0.trans (l1.trans (l2.trans l5))) s5 ((r0.mono (l1.trans l2)).mono l5)⟩
 ·exact hm.elim
end
end L2
namespace PySem
open AutoSeq1 in
theorem MV(l:AV)(items:Array AH)(n:Nat)(b:AV)(pL:Array AH)(n2:Nat)(sX:Option AV)(sl:Array (Option AH))(wR:¬(!items.isEmpty&&Dl (items.size+pL.size))=true)(qz:items.size<=sizeLine)(pz:items.size+pL.size<=sizeLine+1) :
  Meets (Builtin.«list.extend» ⟨[.ref l,.ref b],[]⟩) (λ_ R s=>s.heap.get? l=some { cls:=.type "list",dict:=none,data:=.seq items n,slots:=#[] }/\s.heap.get? b=some { cls:=.type "tuple",dict:=sX,data:=.seq pL n2,slots:=sl }/\R (.ok (.ret BY)) { s with heap:=s.heap.update l (Hr λx=>x++pL),toks:=s.toks }):=
 .of_wp λprog w A R s h=>by
  obtain⟨hp,g,d,tk,os⟩:=s;obtain⟨hl,hb,h⟩:=h;have f1:=idx_int;have f2:=sub_tuple_tuple;have f3:=sub_list_list;have f4:=sub_tuple_list;have f5:=sub_list_tuple;
  have tF:(items++pL).size<=sizeLine+1:=by rw[Array.size_append];exact pz
  wp_walk using(wpAny_updateSeq hl rfl (hz:=qz) (_hz':=tF)),G5 hl,G5 hb;exact⟨_,rfl,h⟩
end PySem
namespace L2
open PySem PySem.Spec PyProof.Rows
def lz(K:AG):V->List V->Hp->VK->Prop:=λx vs H Q=>∃l b xs zs,x=.ref l/\vs=[.ref b]/\H l=some (.lst xs)/\SqT K H b zs/\xs.length+zs.length<=sizeLine/\Q .non (upd H l (.lst (xs++zs)))
theorem ej:MtM X "list.extend" (lz X.K):=by
 intro ζ s σ H x vs v us Q I rx rv h;obtain⟨l,b,xs,zs,rfl,rfl,hH,hB,hz,q⟩:=h;cases rx;obtain⟨u,rfl,ru⟩:=rv.one;cases ru;obtain⟨z,i',n,r,hl,e⟩:=I.lstM hH;obtain⟨oG,r2,⟨⟨c,sX,dt,sl⟩,e2,hc,n2,hd⟩,z2⟩:=I.tuple hB
 replace hc:c=.type "tuple":=hc
 replace hd:dt=.seq oG.toArray n2:=hd
 subst hc hd;have qI:=r2.length
 have hsz:i'.toArray.size+oG.toArray.size<=sizeLine:=by rw[Ae,Ae];lia
 have qJ:¬(!i'.toArray.isEmpty&&Dl (i'.toArray.size+oG.toArray.size))=true:=by
  rw[T4 hsz,Bool.and_false];exact AL
 refine L9 F.slot_list_extend ⟨_,e,rfl⟩ F.entry_list_extend (F.args_list_extend_2 _ _)
  (MV l i'.toArray n b oG.toArray n2 sX sl qJ (by rw[Ae];lia) (by lia)) ⟨e,e2,?_⟩
 refine⟨.non,_,I.lset (its':=i'++oG) hH e (by simp) (r.append r2) ?_,rfl,q⟩;rw[Ad];omega
def UB(mo ma:ME):ME:=λe S=>(mo e S).bind λd S1=>match atL d S1 with
 | some (n,_)=>(ma e S1).bind λy S2=>match atL d S2,y with
  | some (_,xs),.tup ys=>if xs.length+ys.length<=sizeLine then .ok .non (S2.set n (.lst (xs++ys)))else .bad
  | _,_=>.bad
 | none=>.bad
section
theorem fN(ho:GE X E o mo)(ha:GE X E e ma)(oJ:Cp o "extend" X.env (B4 o X.env)=B4 o X.env:=by rfl)
  (qH:((Dw cpos (Aa [e] X.env)).all (λx=>!x.1)&&(cM cpos (S8 [] X.env)).all (λx=>x.1.isSome)
    &&decide ([e].length+([]:List OG).length+(if ([]:List OG).isEmpty then 0 else 1) < 30))=true:=by rfl)
  (oK:(apos.endLine==cpos.line)=true:=by rfl) (hs:Aa [e] X.env=(false,B4 e X.env) :: Aa [] X.env:=by rfl) (pI:(Dw cpos (Aa [] X.env)).any (·.1)=false:=by rfl) :
  GE X E (.Call (.Attribute o "extend" apos) [e] [] cpos) (UB mo ma):=(gj GK PySem.F.slot_list_extend PySem.F.type_list_extend ej ho (Ew ha Hu hs) oJ qH oK hs pI).imp λσ H Q ⟨ρ,l,S,hl,hs,hm⟩=>by
 refine⟨ρ,l,S,hl,hs,hm.seq λd S1 hm ρ1 H1 v l1 s1 r1=>?_⟩
 cases hq:atL d S1 with
 | none=>rw[hq]at hm;exact hm.elim
 | some z=>
  obtain⟨n,xs0⟩:=z;rw[hq]at hm;dsimp only at hm;obtain⟨rfl,h0,a,ν,rfl,hn,e0,_⟩:=So s1 r1 hq;refine⟨.inl ⟨rfl,ν,.inl (.inl e0)⟩,ρ1,l,S1,hl.mono l1,s1,(hm.later l1).seq λy S2 hm ρ2 H2 u l2 s2 r2=>?_⟩;split at hm
  ·rename_i n' xs ys h2
   split at hm
   ·rename_i hz
    obtain⟨e',h4,a',vs,ea,ph,e2,rr⟩:=So s2 (r1.mono l2) h2;cases e';cases ea
    cases r2 with
    | tup b1 b2=>
     obtain⟨s3,l3⟩:=SE s2 ph e2 (rr.append b2);exact⟨a,_,vs,_,rfl,rfl,e2,.inl (.inl b1),by rw[<-rr.length,<-b2.length];exact hz,hm ρ2 _ _ (l1.trans (l2.trans l3)) s3 .non⟩
   ·exact hm.elim
  ·exact hm.elim
end
def lg(td ty:TE):TE:=λσ H Q=>td σ H λx H1=>∃a,x=.ref a/\IsD H1 a/\ty σ H1 λy H2=>∃b kvs more,y=.ref b/\a≠b/\H2 a=some (.dK kvs)/\H2 b=some (.dK more)/\kvs.length+more.length<=sizeLine/\Q .non (upd H2 a (.dK (JC kvs more)))
section
theorem eG(ho:PE X o td)(he:PE X e ty)(m:M1 X o "update" apos e cpos):PE X (.Call (.Attribute o "update" apos) [e] [] cpos) (lg td ty):=by
 intro ζ s σ H Q I h;refine wpAny_Call_method m.base m.few m.line Q2 Qg PySem.F.type_dict_update (thn (ho ζ s σ H _ I h) λu s1 ⟨x,H1,I1,rx,a,ex,d,q1⟩=>?_);subst ex;obtain rfl:u=Au a:=rx;obtain⟨t1,t2,_⟩:=bC I1 d;refine⟨t1,t2,?_⟩;rw[m.trees];refine G2 rfl (LZ (Ms (thn (he ζ s1 σ H1 _ I1 q1) λiv s2 ⟨y,H2,I2,ry,b,kvs,more,ey,rq,ea,eb,hz,q2⟩=>Nf ?_)));subst ey;cases(show iv=Au b from ry);obtain⟨za,hda,vsa,ra,Ϡ⟩:=XF I2.hok ea;obtain⟨zb,pG,vsb,rb,ddb⟩:=XF I2.hok eb;refine call_meetsIn Qg Ϡ.typeIs PySem.F.entry_dict_update (PySem.F.args_dict_update_2 _ _) (meets_dict_update (Ct X.prog X.w) a b rq pG) ⟨vsa,vsb,Ϡ,ddb,by rw[<-ra.length,<-rb.length];exact hz,λh' d1 _ hs=>⟨.non,_,?_,rfl,q2⟩⟩
 have uk:∃q,h'.get? a=some q:=let ⟨q,_,_,hq,_⟩:=d1;⟨q,hq⟩
 exact O2 I2 (by rw[ea];exact Cu) hs uk (Vy (Ao (JD more kvs) hz) hda (rb.merge ra) d1)
end
def Nz{β:Type}(kvs more:List (Key×β)):List (Key×β):=more.foldl (λacc kv=>CA acc kv.1 kv.2) kvs
theorem KVR.merge{K}{ρ}{H}:∀{more:List (Key×D)} {pP:List (Key×V)} {kvs:List (Key×D)} {kvs':List (Key×V)},KVR K ρ H more pP->KVR K ρ H kvs kvs'->KVR K ρ H (Nz kvs more) (JC kvs' pP)
 | _,_,_,_,.nil,q=>q
 | (g,a) :: x,(g',b) :: y,kvs,kvs',.cons r t,q=>by
  have e:g=g':=r.1;subst e;exact KVR.merge (kvs:=CA kvs g a) (kvs':=Ht kvs' g b) t (KVR.put g r.2 q)
def Lv(mo ma:ME):ME:=λe S=>(mo e S).bind λx S1=>match x with
 | .ref n=>match S1[n]? with
  | some (.dK _)=>(ma e S1).bind λy S2=>match y with
   | .ref m=>match S2[n]?,S2[m]? with
    | some (.dK kvs),some (.dK more)=>if n≠m/\kvs.length+more.length<=sizeLine then .ok .non (S2.set n (.dK (Nz kvs more)))else .bad
    | _,_=>.bad
   | _=>.bad
  | _=>.bad
 | _=>.bad
section
theorem W5(ho:GE X E o mo)(ha:GE X E e ma)(m:M1 X o "update" apos e cpos:=by exact⟨rfl,rfl,rfl,rfl⟩):GE X E (.Call (.Attribute o "update" apos) [e] [] cpos) (Lv mo ma):=(eG ho ha m).imp λσ H Q ⟨ρ,l,S,hl,hs,hm⟩=>by
 refine⟨ρ,l,S,hl,hs,hm.seq λx S1 hm ρ1 H1 u l1 s1 r1=>?_⟩;split at hm
 ·rename_i n
  split at hm
  ·rename_i kv0 h1
   cases r1 with
   | @ref _ a hn=>
    obtain⟨xb,e0,_⟩:=s1.ob n _ _ h1 hn;refine⟨a,rfl,.inl ⟨xb,.inl e0⟩,ρ1,l,S1,hl.mono l1,s1,(hm.later l1).seq λy S2 hm ρ2 H2 v l2 s2 r2=>?_⟩;split at hm
    ·rename_i m
     split at hm
     ·rename_i kvs more h2 h3
      split at hm
      ·rename_i hc
       have vn:Bo X.K ρ2 H2 (.ref n) (.ref a):=(Bo.ref hn).mono l2
       cases vn with
       | @ref _ _ ph=>
        cases r2 with
        | @ref _ b ot=>
         obtain⟨kvs',ea,ra⟩:=s2.ob n _ _ h2 ph;obtain⟨pP,eb,rb⟩:=s2.ob m _ _ h3 ot;have le:Le X.K ρ2 H2 ρ2 (upd H2 a (.dK (JC kvs' pP))):=Le.write ph (by rw[ea];trivial);obtain⟨s5,l5⟩:=s2.write (ho:=.dK (JC kvs' pP)) (o:=.dK (Nz kvs more)) ph ⟨_,Bb,(KVR.merge rb ra).mono le⟩ le;exact⟨b,kvs',pP,rfl,λz=>hc.1 (s2.nd n m a ph (z▸ot)),ea,eb,by rw[<-KVR.length ra,<-KVR.length rb];exact hc.2,hm ρ2 _ _ (l1.trans (l2.trans l5)) s5 .non⟩
      ·exact hm.elim
     ·exact hm.elim
    ·exact hm.elim
  ·exact hm.elim
 ·exact hm.elim
end
open PySem PySem.Spec PyProof.Rows
section
instance(i j:Int):Decidable ((λ_ j:Int=>0<=j) i j):=inferInstanceAs (Decidable (0<=j))
abbrev iu:=intOp b0 λi j=>.int (i * 2 ^ j.toNat)
abbrev da:=intOp (λ_ j=>0<=j) λi j=>.int (i / 2 ^ j.toNat)
abbrev gF:=intOp (λ_ _=>True) λi j=>.int (Gi i j)
theorem je:OpR X (CV .LShift) (rD X.K iu):=Nv (λ_ _ _ _=>.int _) jR
theorem jd:OpR X (CV .RShift) (rD X.K da):=Nv (λ_ _ _ _=>.int _) jQ
theorem ji:OpR X (CV .BitAnd) (rD X.K gF):=M9 (λ_ _ _ _=>.int _) jX
end
open PySem PySem.Spec PyProof.Rows PySem.SeqAt
def X9:D->D->Sto->Res D
 | .ref l,.int k,S=>match S[l]? with
  | some (.lst xs)=>if 0<=k/\k<=1000/\xs.length * k.toNat<=1000000 then .ok (.ref S.length) (S++[.lst (Ak k.toNat xs).flatten])else .bad
  | _=>.bad
 | _,_,_=>.bad
section
variable{X:Cx}{K:AG}{ρ:List AV}{H:Hp}
theorem Az.rep(r:Az K ρ H ds vs):∀k:Nat,Az K ρ H (Ak k ds).flatten (Ak k vs).flatten
 | 0=>.nil
 | k+1=>by
  rw[DV,DV,FC,FC];exact r.append (Az.rep r k)
theorem jf:OpR X (CV .Mult) (rD X.K X9):=jS.imp λx y H Q ⟨ρ,S,a,b,d,S',hs,ra,rb,hm,k⟩=>by
 cases ra with
 | @ref n a1 hn=>
  cases rb with
  | int i=>
   unfold X9 at hm;dsimp only at hm;split at hm
   ·rename_i xs h1
    split at hm
    ·rename_i hz
     cases hm;obtain⟨vs,e1,r1⟩:=hs.ob _ _ _ h1 hn;refine⟨_,_,_,rfl,rfl,e1,by lia,by omega,Ao (by rw[<-r1.length];exact hz.2.2) (by decide),λp hp=>?_⟩;have le:Le X.K ρ H (ρ++[p]) (upd H p (.lst (Ak i.toNat vs).flatten)):=Le.alloc hp;obtain⟨s2,l2,at2⟩:=hs.alloc (ho:=.lst (Ak i.toNat vs).flatten) (o:=.lst (Ak i.toNat xs).flatten) hp ⟨_,Bb,(r1.rep _).mono le⟩;exact k _ _ _ l2 s2 (.ref at2)
    ·cases hm
   ·cases hm
  | _=>cases hm
 | _=>cases hm
def eqI(S:Sto)(x y:D):Option Bool:=match x,y with
 | .ref n,.ref m=>if n=m then none else match S[n]?,S[m]? with
  | some (.lst xs),some (.lst ys)=>if xs.length=ys.length then eqL (eqP 7) xs ys else some false
  | _,_=>none
 | _,_=>none
def fV(x y:D)(S:Sto):Option Bool:=match x,y with
 | .ref n,.ref m=>match S[n]?,S[m]? with
  | some (.lst xs),some (.lst ys)=>if xs.length=ys.length then eqL (eqI S) xs ys else some false
  | _,_=>none
 | _,_=>none
def Qu(neg:Bool)(x y:D)(S:Sto):Res D:=match fV x y S with
 | some b=>.ok (.bl (if neg then !b else b)) S
 | none=>.bad
variable{s:AQ}
theorem dc(ih:∀(x y:D) (b:Bool) (xv yv:V) (u v:AH),f x y=some b->Bo X.K ρ H x xv->Bo X.K ρ H y yv->RelV xv u->RelV yv v->EqAt A s u v b)
  (h:eqL f xs ys=some b) (r1:Az X.K ρ H xs vs) (r2:Az X.K ρ H ys ws) (q1:Bg vs us) (q2:Bg ws zs) :
  ∃e:Nat->Bool,(∀j (h1:j < us.toArray.size) (h2:j < zs.toArray.size),EqAt A s us.toArray[j] zs.toArray[j] (e j))/\b=((A7 (min us.toArray.size zs.toArray.size)).all e&&us.toArray.size==zs.toArray.size):=by
 obtain⟨i1,i2⟩:=Sb h;refine⟨λj=>match xs[j]?,ys[j]? with | some x,some y=>(f x y).getD false | _,_=>false,λj h1 h2=>?_,?_⟩
 ·obtain⟨v,e1,rv⟩:=Bg.at_ q1 h1
  obtain⟨w,e2,pH⟩:=Bg.at_ q2 h2;obtain⟨x,e3,rx⟩:=r1.get' e1;obtain⟨y,e4,ry⟩:=r2.get' e2;obtain⟨c,hc⟩:=i1 j x y e3 e4;have:=ih x y c v w _ _ hc rx ry rv pH;simp only[e3,e4,hc,OD];exact this
 ·rw[i2,r1.length,r2.length,q1.length,q2.length,Ae,Ae]
  try congr 1
theorem UC{S:Sto}{A:CB}{f:D->D->Option Bool}{n m:Nat}{xs ys:List D}{b:Bool}{p p':AV}(I:Inv X ζ σ H s)(hu:A.units+1 < EA)(hs:B2 X.K ρ S H)(g1:ρ[n]?=some p)(g2:ρ[m]?=some p')(h1:S[n]?=some (.lst xs))(h2:S[m]?=some (.lst ys))
  (ih:∀(x y:D) (b:Bool) (xv yv:V) (u v:AH),f x y=some b->Bo X.K ρ H x xv->Bo X.K ρ H y yv->RelV xv u->RelV yv v->EqAt A.in1 s u v b)
  (h:(if xs.length=ys.length then eqL f xs ys else some false)=some b):RcAt A s (.ref p) (.ref p') b/\RcNeAt A s (.ref p) (.ref p') (!b):=by
 obtain⟨vs,e1,rr⟩:=hs.ob _ _ _ h1 g1;obtain⟨rX,e2,sM⟩:=hs.ob _ _ _ h2 g2;obtain⟨i',rv,pl,_⟩:=I.list (.inl (.inl e1));obtain⟨oG,sO,rp,_⟩:=I.list (.inl (.inl e2));split at h
 ·rename_i hlen
  obtain⟨e,he,rfl⟩:=dc (A:=A.in1) ih h rr sM rv sO
  have hsz:i'.toArray.size=oG.toArray.size:=by
   simp only[Ae];rw[<-rv.length,<-sO.length,<-rr.length,<-sM.length];exact hlen
  have e1:((A7 (min i'.toArray.size oG.toArray.size)).all e&&i'.toArray.size==oG.toArray.size)=(A7 i'.toArray.size).all e:=by
   rw[<-hsz,lR,beq_self_eq_true,iJ]
  rw[e1];exact⟨nj pl.isList rp.isList hsz (by lia) he,gY pl.isList rp.isList hsz (by lia) he⟩
 ·rename_i hlen
  cases h
  have hsz:(i'.toArray.size != oG.toArray.size)=true:=by
   simp only[Ae];rw[<-rv.length,<-sO.length,<-rr.length,<-sM.length];simpa using hlen
  exact⟨Y0 pl.isList rp.isList hsz (by lia),Uf pl.isList rp.isList hsz (by lia)⟩
theorem XD{S:Sto}{x y:D}{b:Bool}{xv yv:V}{u v:AH}(I:Inv X ζ σ H s)(hu:X.A.units+64 < EA)(hs:B2 X.K ρ S H)(r1:Bo X.K ρ H x xv)(r2:Bo X.K ρ H y yv)(q1:RelV xv u)(q2:RelV yv v)(h:fV x y S=some b) :
  RcAt X.A s u v b/\RcNeAt X.A s u v (!b):=by
 unfold fV at h;split at h
 ·rename_i n m
  split at h
  ·rename_i xs ys h1 h2
   cases r1 with
   | @ref _ p g1=>
    cases r2 with
    | @ref _ p' g2=>
     cases q1;cases q2;refine UC I (by lia) hs g1 g2 h1 h2 (λx y b xv yv u v hf a1 a2 b1 b2=>?_) h;unfold eqI at hf;split at hf
     ·rename_i n' m'
      split at hf
      ·cases hf
      ·rename_i oO
       split at hf
       ·rename_i qg ys' h3 h4
        cases a1 with
        | @ref _ o k1=>
         cases a2 with
         | @ref _ o' k2=>
          cases b1;cases b2;exact lH (λe=>oO (hs.nd _ _ _ k1 (e▸k2))) (UC (A:=X.A.in1) I (by rw[Ek];lia) hs k1 k2 h3 h4 (λx y b xv yv u v g1 g2 g3 g4 g5=>Sd I 7 X.A.in1.in1 x y b xv yv u v (by rw[Ek,Ek];lia) g1 g2 g3 g4 g5) hf).1
       ·cases hf
     ·cases hf
  ·cases h
 ·cases h
theorem jh(hu:X.A.units+64 < EA):OpR X (Bs .Eq) (rD X.K (Qu false)):=by
 intro ζ s σ H x y v u Q I rx ry h;obtain⟨ρ,S,a,b,d,S',hs,ra,rb,hm,k⟩:=h;unfold Qu at hm;split at hm
 ·rename_i c hc
  cases hm;exact(XD I hu hs ra rb rx ry hc).1 _ _ _ _ ⟨.bl c,H,I,rfl,k ρ H _ .refl hs (.bl _)⟩
 ·cases hm
theorem jg(hu:X.A.units+64 < EA):OpR X (Bs .NotEq) (rD X.K (Qu true)):=by
 intro ζ s σ H x y v u Q I rx ry h;obtain⟨ρ,S,a,b,d,S',hs,ra,rb,hm,k⟩:=h;unfold Qu at hm;split at hm
 ·rename_i c hc
  cases hm;exact(XD I hu hs ra rb rx ry hc).2 _ _ _ _ ⟨.bl (!c),H,I,rfl,k ρ H _ .refl hs (.bl _)⟩
 ·cases hm
end
section
variable{P:Bp}{w:CF}{K:AG}{mg:Str->Option AH}{base:Cj}
theorem Hk(h1:N.Nodup:=by decide +kernel)(h2:∀x∈ps,sc.names.lookup x=some .local∨sc.names.lookup x=some .cell:=by decide +kernel)(h3:∀y∈sc.names,y.2≠.free:=by decide +kernel)(h4:sc.kind=.function:=by rfl)(h5:sc.isCoroutine=false:=by rfl)(h6:sc.isGenerator=false:=by rfl)(h7:N.take ps.length=ps:=by rfl):B3 N ps sc:=⟨h4,h5,h6,h1,h7,h2,h3⟩
theorem CN{x qual}{st}{f}{fd}{N ps}{k n}(F:Fun K x qual st f fd)(Sc:B3 N ps (As st))(hn:ps.length=n){mb}
  (pW:∀(oZ:AH) (A:CB) (outer:List Env) (s:AQ) (H:Hp) (E:XK),Hy k (A.deeper (L6 qual (As st) s.heap.objs.size f oZ))->Jk (Sg (CXG P w) P w K mg base N qual (As st) f oZ A outer s H E)->(A.deeper (L6 qual (As st) s.heap.objs.size f oZ)).units+64 < EA->N.Nodup ->
   ∀pn E',GSs ((Sg (CXG P w) P w K mg base N qual (As st) f oZ A outer s H E).w' pn E') E' (By st) mb) :
  D0 P w K mg base (CXG P w) (k+1) f fd ps (spM K n (EY N.length mb)):=kR F Sc hn λoZ A outer s H E hr=>pW oZ A outer s H E hr ⟨rfl,rfl,rfl⟩ hr.units Sc.nd
end
section
variable{X:Cx}{E:EW}{e:Expr}
theorem CZ(i:Nat)(hN:X.N.Nodup)(hi:X.N[i]?=some x:=by rfl)(hx:Loc X.env.scope x:=by first | exact LJ rfl | exact KM rfl)(hf:X.fn x=true∨X.env.scope.names.lookup x=some .local:=by first | exact .inl rfl | exact .inr rfl | assumption):GG X (.Name x pos) (tgN i):=fH (eC hN hi hx hf)
theorem B8(i:Nat)(hN:X.N.Nodup)(he:GE X E e m)(hi:X.N[i]?=some x:=by rfl)(hx:Loc X.env.scope x:=by first | exact LJ rfl | exact KM rfl)(hs:GX e (some (.Name x pos')) pos.line X.env=pure false:=by rfl)
  (hf:X.fn x=true∨X.env.scope.names.lookup x=some .local:=by first | exact .inl rfl | exact .inr rfl | assumption):GS X E (.Assign [.Name x pos'] e pos) (Bc i m):=kD hN hi hx he hs hf
end
open PySem PySem.Spec PyProof.Rows
section
variable{X:Cx}{E:EW}{tg e:Expr}{K:AG}{ζ:List (AV×Obj)}{σ:St}{H:Hp}{s:AQ}
def Itk(a:AV)(ob:Obj)(u:HO)(xs:List V):It:=
 ⟨λi H=>H a=some (.frz ob u)/\i < xs.length,λi H x H'=>H'=H/\xs[i]?=some x,λi H=>H a=some (.frz ob u)/\xs.length<=i⟩
theorem Xs(hx:ob.ExactDict)(hd:ob.data=.dict es ep)(hv:Bg xs (es.toList.map (·.key))):Sr P w K tg (Itk a ob u xs) [it] it (λi h=>h.IsKeyIter it a i es.size ep) where
 mem:=by simp
 obj:=λi h st b hb=>by
  have e:b=it:=by simpa using hb
  subst e;obtain⟨o,e,c,d⟩:=st;exact⟨o,e,λv z=>by rw[d]at z;cases z⟩
 keep:=λi h h' st k=>st.at λo e=>k it (by simp) o e
 item:=by
  intro X hP hw hK hc i ζ s σ H E I hf st hg;subst hP hw hK;obtain⟨ha,hi⟩:=hg;obtain⟨g,_⟩:=(show CH X.prog X.w H s.heap a (.frz ob u)from I.hok a _ ha)
  have hs:xs.length=es.size:=by have:=hv.length;rw[AE,Be]at this;exact this
  have vp:i < es.size:=by rw[<-hs];exact hi
  obtain⟨v,h1,h2⟩:=hv.get (BW hi);rw[AS,HV,Q6 vp]at h1;cases h1;obtain⟨f0,f1,f2,f3,f4,f5⟩:=hf it (by simp)
  refine Srt.Tu st ⟨ob,g,hx,hd⟩ vp λh' st' sb=>?_
  have I1:Inv X ζ σ H { s with heap:=h' }:=I.turned (t':=s.toks) (λb o hb e=>(sb.2 b hb).trans e) f0 f1 f3 f4 f5;obtain⟨o,e,c,d⟩:=id st';exact⟨_,rfl,W2 (s:={ s with heap:=h' }) e c d (by decide) ⟨_,H,I1,h2,⟨rfl,BW hi⟩,st',λb hb=>(hf b hb).1⟩⟩
 done:=by
  intro X hP hw hK hc i ζ s σ H E I hf st hg;subst hP hw hK;obtain⟨ha,hi⟩:=hg;obtain⟨g,_⟩:=(show CH X.prog X.w H s.heap a (.frz ob u)from I.hok a _ ha)
  have hs:xs.length=es.size:=by have:=hv.length;rw[AE,Be]at this;exact this
  obtain⟨f0,f1,f2,f3,f4,f5⟩:=hf it (by simp)
  exact Srt.Wm (I.ok.hd hc) st ⟨ob,g,hx,hd⟩ (by rw[<-hs];exact hi) λh' eb=>⟨rfl,I.turned (t':=s.toks) (λb o hb e=>eb b o hb e) f0 f1 f3 f4 f5⟩
 self:=λ_ _ _ _ _ st h=>cG st h
theorem fZ:∀{l:List OH} {us:List (Key×AH)} {kvs:List (Key×V)},Pairs (Ct P w) l us->KV kvs us->Bg (kvs.map λx=>kV x.1) (l.map (·.key)):=by
 intro l us kvs hp
 induction hp generalizing kvs with
 | nil=>intro h;cases h;exact .nil
 | cons q1 q2 _ ih=>
  intro h
  cases h with
  | cons r t=>
   refine .cons ?_ (ih t);dsimp only;rw[r.1]
   rcases C1 q1 with⟨i,t,e1,e2⟩ | ⟨x,t,e1,e2⟩
   ·rw[e1,e2];exact⟨t,rfl⟩
   ·rw[e1,e2];exact⟨t,rfl⟩
theorem bd:∀{kvs:List (List Key×V)} {xs:List (List Key×AV×AH)},FZ (λ(p:List Key×V) (q:List Key×AV×AH)=>p.1=q.1/\H q.2.1=some (.tup (p.1.map kV))/\RelV p.2 q.2.2) kvs xs->FZ (λ(k:List Key×V) b=>H b=some (.tup (k.1.map kV))) kvs (xs.map (·.2.1)):=by
 intro kvs xs h
 induction h with
 | nil=>exact .nil
 | cons r _ ih=>exact .cons r.2.1 ih
theorem YA(l:List AV):Bg (l.map V.ref) (l.map Au):=by
 induction l with
 | nil=>exact .nil
 | cons a l ih=>exact .cons rfl ih
def iDct(tl:TE):TI:=λσ H R=>tl σ H λx H1=>∃a ob,x=.ref a/\((∃kvs,H1 a=some (.frz ob (.dK kvs))/\R (Itk a ob (.dK kvs) (kvs.map λx=>kV x.1)) H1) ∨
 ∃kvs,H1 a=some (.frz ob (.dT kvs))/\∀bs,FZ (λ(k:List Key×V) b=>H1 b=some (.tup (k.1.map kV))) kvs bs->R (Itk a ob (.dT kvs) (bs.map V.ref)) H1)
theorem d8(hl:PE X l tl):PI X tg l (iDct tl):=by
 intro ζ s σ H R I h
 refine thn (hl ζ s σ H _ I h) λv s1 ⟨x,H1,I1,r1,q1⟩=>?_
 obtain⟨a,ob,e,q⟩:=q1;subst e;cases r1
 have fin:∀{u:HO} {xs:List V} {es:Array OH} {ep:Nat},(a==DJ)=false->s1.heap.get? a=some ob->ob.ExactDict->ob.data=.dict es ep->Bg xs (es.toList.map (·.key))->R (Itk a ob u xs) H1 ->
   Aw (Ac X.prog X.w) X.A (ZA (.ref a)) (PIE X ζ σ tg R) X.xe s1:=λsm g g2 g3 hv q=>by
  refine Srt.Tv sm ⟨ob,g,g2,g3⟩ ?_;refine⟨s1.heap.objs.size,[s1.heap.objs.size],_,_,H1,rfl,I1.kept (t':=s1.toks) λb o e=>AK _ e,Xs g2 g3 hv,⟨_,Al _ rfl,rfl,rfl⟩,λb hb=>?_,q⟩
  have e:b=s1.heap.objs.size:=by simpa using hb
  subst e;exact I1.fpOk (AN _) (I1.hok.fresh (AN _))
 rcases q with⟨kvs,ha,q⟩ | ⟨kvs,ha,q⟩
 ·obtain⟨g,hz,sm,us,kv,o,es,ep,g1,g2,g3,g5,g6,_⟩:=(show CH X.prog X.w H1 s1.heap a (.frz ob (.dK kvs))from I1.hok a _ ha)
  rw[g]at g1;cases g1;exact fin sm g g2 g3 (fZ g6 kv) q
 ·obtain⟨g,hz,sm,xs,rr,o,es,ep,g1,g2,g3,g4,_⟩:=(show CH X.prog X.w H1 s1.heap a (.frz ob (.dT kvs))from I1.hok a _ ha)
  rw[g]at g1;cases g1
  have hk:es.toList.map (·.key)=(xs.map (·.2.1)).map Au:=by
   rw[g4,A2,A2];rfl
  exact fin sm g g2 g3 (by rw[hk];exact YA _) (q _ (bd rr))
def UG(d:D)(S:Sto):Option (List D):=match d with
 | .ref n=>match S[n]? with
  | some (.fK kvs)=>some (kvs.map λx=>Vp x.1)
  | some (.fT kvs)=>some (kvs.map λx=>.tup (x.1.map Vp))
  | _=>none
 | _=>none
def Wz(m:ME):MI:=λe S=>(m e S).bind λd S1=>match UG d S1 with
 | some ds=>.ok (Dp ds) S1
 | none=>.bad
theorem PN(ha:H a=some (.frz ob u))(h2:Az K ρ H ds xs):Md K ρ H (Itk a ob u xs) (Dp ds):=by
 intro ρ2 H2 S pR i l s hv;cases hv;have rr:=h2.mono l;have vj:=l.frz _ _ _ ha;refine⟨λhn=>⟨vj,by rw[<-rr.length];exact Bn.mp hn⟩,λd hd=>?_⟩;obtain⟨x,hx,rx⟩:=rr.get hd;refine⟨⟨vj,(AC.mp hx).1⟩,λy H' ⟨e,hy⟩=>?_⟩;subst e;rw[hx]at hy;cases hy;exact⟨ρ2,.refl,s,rx⟩
theorem fG(h:GE X E e m):GI X E tg e (Wz m):=(d8 h).imp λσ H R ⟨ρ,l,S,hl,hs,hm⟩=>by
 refine⟨ρ,l,S,hl,hs,hm.seq λd S1 hm ρ1 H1 x l1 s1 r1=>?_⟩
 cases hq:UG d S1 with
 | none=>rw[hq]at hm;exact hm.elim
 | some ds=>
  rw[hq]at hm
  cases r1 with
  | @ref n a hn=>
   obtain⟨o,ho,ro⟩:=s1.there hn;unfold UG at hq;simp only[ho]at hq
   cases o with
   | fK kvs=>
    cases hq;obtain⟨ob,vs,e,rr⟩:=ro;exact⟨a,ob,rfl,.inl ⟨vs,e,hm ρ1 H1 _ l1 s1 (PN e (NH rr))⟩⟩
   | fT kvs=>
    cases hq;obtain⟨ob,vs,e,rr⟩:=ro;exact⟨a,ob,rfl,.inr ⟨vs,e,λbs hb=>hm ρ1 H1 _ l1 s1 (PN e (QD rr hb))⟩⟩
   | _=>cases hq
  | _=>cases hq
theorem Inv.fz(I:Inv X ζ σ H s)(hg:s.heap.get? a=some ob)(ha:H a=some u)(mu:Mut (some u)):Inv X ζ σ (upd H a (.frz ob u)) s:=by
 have nn:∀b,H b=none->b≠a:=λb h z=>by subst z;rw[ha]at h;cases h
 have nm:∀b o,H b=some o->¬Mut (some o)->b≠a:=λb o h n z=>by subst z;rw[ha]at h;cases h;exact n mu
 have st:∀b o,CH X.prog X.w H s.heap b o->CH X.prog X.w (upd H a (.frz ob u)) s.heap b o:=λb o x=>
  x.stay (λ_ _ _ q=>q) (λc r=>by rw[BN (nm c _ r λz=>z)];exact r) λc xs r=>by rw[BN (nm c _ r λz=>z)];exact r
 refine⟨I.ok,I.os,I.bare,⟨I.base.keep,I.base.slot,λb o q n hx=>?_,I.base.there,λb xs q=>?_,λb o xs q=>?_,λb ps q=>?_⟩,I.loc,I.cell,?_,λx c q=>?_,λp hp=>?_,λb o q=>?_,I.len⟩
 ·have:=I.base.free b o q n hx
  rw[BN (nn b this)];exact this
 ·have:=I.base.tups b xs q
  rw[BN (nm b _ this λz=>z)];exact this
 ·have:=I.base.frzs b o xs q
  rw[BN (nm b _ this λz=>z)];exact this
 ·obtain⟨more,this⟩:=I.base.tbls b ps q
  exact⟨more,by rw[BN (nm b _ this λz=>z)];exact this⟩
 ·rw[BN (nn _ I.free)];exact I.free
 ·rw[BN (nn _ (I.freeC x c q))];exact I.freeC x c q
 ·obtain⟨h1,h2,h3⟩:=I.pin p hp
  exact⟨h1,by rw[BN (nn _ h2)];exact h2,h3⟩
 ·by_cases hb:b=a
  ·subst hb
   rw[Bb]at q;cases q;exact⟨hg,st b u (I.hok b u ha)⟩
  ·rw[BN hb]at q
   exact st b o (I.hok b o q)
def fzO:Ob->Option Ob
 | .dK kvs=>some (.fK kvs)
 | .dT kvs=>some (.fT kvs)
 | .fK kvs=>some (.fK kvs)
 | .fT kvs=>some (.fT kvs)
 | _=>none
def sFz(i:Nat):MS:=λe S=>match e[i]? with
 | some (some (.ref n))=>match S[n]? with
  | some o=>match fzO o with
   | some o'=>.ok (.nx e) (S.set n o')
   | none=>.bad
  | none=>.bad
 | _=>.bad
theorem Tn{S:Sto}{n:Nat}{o:Ob}(h:S[n]?=some o):S.set n o=S:=by
 apply D5
 intro j;rw[FB];split
 ·rename_i c
  subst c;split
  ·exact h.symm
  ·rename_i c;rw[Bl (Iy.mp c)]at h;cases h
 ·rfl
theorem nG{i:Nat}{st:ER}{ms:MS}(h:GS X E st ms):GS X E st (BD (sFz i) ms):=λζ s σ H D I ⟨ρ,l,S,hl,hs,hm⟩=>by
 cases hx:l[i]? with
 | none=>unfold BD sFz at hm;rw[hx]at hm;exact hm.elim
 | some x=>
  cases x with
  | none=>unfold BD sFz at hm;rw[hx]at hm;exact hm.elim
  | some d=>
   cases d with
   | ref n=>
    cases ho:S[n]? with
    | none=>unfold BD sFz at hm;rw[hx]at hm;dsimp only at hm;rw[ho]at hm;exact hm.elim
    | some o=>
     cases hf:fzO o with
     | none=>unfold BD sFz at hm;rw[hx]at hm;dsimp only at hm;rw[ho]at hm;dsimp only at hm;rw[hf]at hm;exact hm.elim
     | some o'=>
      have ot:Bw X.K noH ρ H (ms l (S.set n o')) λfl S'=>Oj X.K E ρ H S' D fl:=by
       unfold BD sFz at hm;rw[hx]at hm;dsimp only at hm;rw[ho]at hm;dsimp only at hm;rw[hf]at hm;exact hm
      obtain⟨a,hn,ro⟩:=hs.at ho
      have fr:∀u,H a=some u->Mut (some u)->(∃ob,s.heap.get? a=some ob)->(∀ob,Ez X.K ρ (upd H a (.frz ob u)) a o')->Aw (Ac X.prog X.w) X.A (exec st X.env) _ _ s:=λu ha mu ⟨ob,hg⟩ ra=>by
       have le:Le X.K ρ H ρ (upd H a (.frz ob u)):=Le.write hn (by rw[ha];exact mu);obtain⟨s5,_⟩:=hs.write hn (ra ob) le;exact h ζ s σ _ D (I.fz hg ha mu) ⟨ρ,l,_,hl.mono le,s5,ot.go le λ_ _ k=>k.later le⟩
      cases o with
      | dK kvs=>
       cases hf;obtain⟨vs,e,rr⟩:=ro
       refine fr _ e trivial ?_ λob=>⟨ob,vs,Bb,KVR.mono (Le.write hn (by rw[e];trivial)) rr⟩
       obtain⟨_,_,_,_,o,_,_,e,_⟩:=(show CH X.prog X.w H s.heap a (.dK vs)from I.hok a _ e);exact⟨o,e⟩
      | dT kvs=>
       cases hf;obtain⟨vs,e,rr⟩:=ro
       refine fr _ e trivial ?_ λob=>⟨ob,vs,Bb,KVR.mono (Le.write hn (by rw[e];trivial)) rr⟩
       obtain⟨_,_,_,_,o,_,_,e,_⟩:=(show CH X.prog X.w H s.heap a (.dT vs)from I.hok a _ e);exact⟨o,e⟩
      | fK kvs=>cases hf;rw[Tn ho]at ot;exact h ζ s σ H D I ⟨ρ,l,S,hl,hs,ot⟩
      | fT kvs=>cases hf;rw[Tn ho]at ot;exact h ζ s σ H D I ⟨ρ,l,S,hl,hs,ot⟩
      | _=>cases hf
   | _=>unfold BD sFz at hm;rw[hx]at hm;exact hm.elim
end
section
def Xv(te:TE):TE:=λσ H Q=>te σ H λx H1=>∃a kvs,x=.ref a/\H1 a=some (.dK kvs)/\∀q,H1 q=none->Q (.ref q) (upd H1 q (.lst (kvs.map (·.2))))
theorem Wv:∀{kvs:List (Key×V)} {us:List (Key×AH)},KV kvs us->Bg (kvs.map (·.2)) (us.map (·.2))
 | _,_,.nil=>.nil
 | _,_,.cons r t=>.cons r.2 (Wv t)
theorem Tz(hc:X.calm=true)(hg:Gl X "list") (hm:X.mg "list" = none) (h:PE X e te)
  (oJ:Cp e "values" X.env (B4 e X.env)=B4 e X.env:=by rfl) (oK:(apos.endLine==cpos.line)=true:=by rfl)
  (qq:Aa [.Call (.Attribute e "values" apos) [] [] cpos] X.env=(false,B4 (.Call (.Attribute e "values" apos) [] [] cpos) X.env) :: Aa [] X.env:=by rfl) :
  PE X (.Call (.Name "list" p) [.Call (.Attribute e "values" apos) [] [] cpos] [] pos) (Xv te):=by
 intro ζ s σ H Q I hq;refine HC (MW I hg hm Om ?_ (by decide) (by decide));refine C9 ?_ qq rfl;rw[qq];show Aw _ _ (spliced ((false,B4 (.Call (.Attribute e "values" apos) [] [] cpos) X.env) :: Dw pos (Aa [] X.env))) _ _ s;refine Ms ?_;refine Yw oJ oK (thn (h ζ s σ H _ I hq) λv s1 ⟨x,H1,I1,r1,a,kvs,ex,ha,q⟩=>?_);subst ex;cases r1;obtain⟨t1,t2,_⟩:=bC I1 (.inl ⟨kvs,.inl ha⟩);obtain⟨hz,sm,us,kv,dd⟩:=(show CH X.prog X.w H1 s1.heap a (.dK kvs)from I1.hok a _ ha);refine⟨"dict", "dict.values",Q2,Qe,PySem.F.type_dict_values,t1,t2,G2 rfl (WE ?_)⟩;refine call_meetsIn Qe t1 PySem.F.entry_dict_values (PySem.F.args_dict_values_1 _) (meets_dict_values (Ct X.prog X.w) a sm) ⟨⟨us,dd⟩,?_⟩;refine Nf ?_;obtain⟨ep,t5⟩:=dd.dictAt;have hl:kvs.length=us.length:=D4 kv
 refine PySem.W.kdl_call (PySem.W.kdl_values (knd:=Ct X.prog X.w) (kvs:=us) (ep:=ep)) (I.ok.hd hc) ⟨⟨_,Al _ rfl,rfl,rfl⟩,t5.push _⟩ (by rw[<-hl];exact hz) λh' tk acc c hk hL rm=>?_
 have k:∀b o,s1.heap.get? b=some o->h'.get? b=some o:=λb o e=>hk b o (AK _ e)
 have ea:acc.toList=us.map (·.2):=PySem.W.kdl_vals_eq acc.toList (by rw[Be];exact rm.1) λj v e=>rm.2 j v (by rw[<-HV];exact e)
 have hle:s1.heap.objs.size<=(s1.heap.push { cls:=.type "dict_values",data:=.fields #[.ref a] }).objs.size:=by rw[Dk];exact ID _
 refine⟨.ref (s1.heap.push { cls:=.type "dict_values",data:=.fields #[.ref a] }).objs.size,upd H1 _ (.lst (kvs.map (·.2))),I1.laid (t':=tk) k hle ⟨by rw[AE];exact hz,acc.toList,c,by rw[ea];exact Wv kv,by rw[Array.toArray_toList];exact hL⟩,rfl,q _ (I1.hok.fresh hle)⟩
def LQ(m:ME):ME:=λe S=>(m e S).bind λd S1=>match d with
 | .ref n=>match S1[n]? with
  | some (.dK kvs)=>.ok (.ref S1.length) (S1++[.lst (kvs.map (·.2))])
  | _=>.bad
 | _=>.bad
theorem UE{K}{ρ}{H}:∀{kvs:List (Key×D)} {kvs':List (Key×V)},KVR K ρ H kvs kvs'->Az K ρ H (kvs.map (·.2)) (kvs'.map (·.2))
 | _,_,.nil=>.nil
 | _,_,.cons r t=>.cons r.2 (UE t)
theorem UM(hc:X.calm=true)(hg:Gl X "list") (hm:X.mg "list" = none) (h:GE X E e m)
  (oJ:Cp e "values" X.env (B4 e X.env)=B4 e X.env:=by rfl) (oK:(apos.endLine==cpos.line)=true:=by rfl)
  (qq:Aa [.Call (.Attribute e "values" apos) [] [] cpos] X.env=(false,B4 (.Call (.Attribute e "values" apos) [] [] cpos) X.env) :: Aa [] X.env:=by rfl) :
  GE X E (.Call (.Name "list" p) [.Call (.Attribute e "values" apos) [] [] cpos] [] pos) (LQ m):=(Tz hc hg hm h oJ oK qq).imp λσ H Q ⟨ρ,l,S,hl,hs,hm⟩=>by
 refine⟨ρ,l,S,hl,hs,hm.seq λd S1 hm ρ1 H1 x l1 s1 r1=>?_⟩;split at hm
 ·rename_i n
  split at hm
  ·rename_i kvs hn
   cases r1 with
   | @ref _ a ha=>
    obtain⟨vs,e,rr⟩:=s1.ob n _ _ hn ha;refine⟨a,vs,rfl,e,λq hq=>?_⟩;have le:Le X.K ρ1 H1 (ρ1++[q]) (upd H1 q (.lst (vs.map (·.2)))):=Le.alloc hq;obtain⟨s4,l4,wV⟩:=s1.alloc (ho:=.lst (vs.map (·.2))) (o:=.lst (kvs.map (·.2))) hq ⟨_,Bb,(UE rr).mono le⟩;exact hm _ _ _ (l1.trans l4) s4 (.ref wV)
  ·exact hm.elim
 ·exact hm.elim
end
end L2
namespace L4
open PySem L2
inductive Cel where
 | no | fz (o:Ob) | ow (i:Nat)
abbrev Fz:=Nat->Cel
inductive Sl where
 | u | v (d:D) | z (o:Ob) | y (o:Ob) | w (i:Nat) (o:Ob) | q (P:(Nat->Option Ob)->D->Prop)
def Sl.ok(S0:Sto)(F:Fz)(S:Sto):Sl->Option D->Prop
 | .u,_=>True
 | .v d,x=>x=some d
 | .z o,x=>∃n,x=some (.ref n)/\F n=.fz o
 | .y o,x=>∃n,x=some (.ref n)/\F n=.fz o/\S0.length<=n
 | .w i o,x=>∃n,x=some (.ref n)/\F n=.ow i/\S[n]?=some o
 | .q P,x=>∃d,x=some d/\∀L:Nat->Option Ob,(∀n o,F n=.fz o->L n=some o)->P L d
structure Vs(S0:Sto)(A:List Sl)(e:Lo)(F:Fz)(S:Sto):Prop where
 kp:Keeps S0 S
 fz:∀n o,F n=.fz o->S[n]?=some o
 ow:∀n i,F n=.ow i->S0.length<=n/\n < S.length
 hi:∀n,S.length<=n->F n=.no
 sl:∀(i:Nat) (a:Sl),A[i]?=some a->∃x,e[i]?=some x/\a.ok S0 F S x
def Fle(F F':Fz):Prop:=∀n o,F n=.fz o->F' n=.fz o
theorem Fle.refl(F:Fz):Fle F F:=λ_ _ h=>h
theorem Fle.trans(a:Fle F G)(b:Fle G H):Fle F H:=λn o h=>b n o (a n o h)
def N7(F:Fz)(S S':Sto):Fz:=λn=>if n < S.length then F n else match S'[n]? with
 | some o=>.fz o
 | none=>.no
section
variable{S0 S S':Sto}{A B:List Sl}{e:Lo}{F:Fz}{α β γ ρ σ τ:Type}
theorem Hm(h:n < S.length):N7 F S S' n=F n:=qX h
theorem bW(h:S.length<=n)(ho:S'[n]?=some o):N7 F S S' n=.fz o:=by
 unfold N7;rw[qY (Iy.mpr h),ho]
theorem B5(h:S[n]?=some o):n < S.length:=(AC.mp h).1
theorem Sl.mono{S0:Sto}{F F':Fz}{S S':Sto}{a:Sl}{x:Option D}(h:a.ok S0 F S x)(h1:∀n o,F n=.fz o->F' n=.fz o)(h2:∀n i o,F n=.ow i->S[n]?=some o->F' n=.ow i/\S'[n]?=some o):a.ok S0 F' S' x:=by
 cases a with
 | u=>trivial
 | v d=>exact h
 | z o=>obtain⟨n,h3,h4⟩:=h;exact⟨n,h3,h1 _ _ h4⟩
 | y o=>obtain⟨n,h3,h4,h5⟩:=h;exact⟨n,h3,h1 _ _ h4,h5⟩
 | w i o=>obtain⟨n,h3,h4,h5⟩:=h;exact⟨n,h3,h2 _ _ _ h4 h5⟩
 | q P=>obtain⟨d,h3,h4⟩:=h;exact⟨d,h3,λL hL=>h4 L λn o q=>hL n o (h1 n o q)⟩
theorem Vs.fle(h:Vs S0 A e F S)(S':Sto):Fle F (N7 F S S'):=λn o q=>by rw[Hm (B5 (h.fz n o q))];exact q
theorem Vs.grow(h:Vs S0 A e F S)(k:Keeps S S'):Vs S0 A e (N7 F S S') S':=by
 refine⟨h.kp.trans k,λn o q=>?_,λn i q=>?_,λn hn=>?_,λi a ha=>?_⟩
 ·unfold N7 at q
  split at q
  ·rename_i hn
   rw[k.2 n hn];exact h.fz n o q
  ·cases hs:S'[n]? with
   | none=>rw[hs]at q;cases q
   | some o'=>rw[hs]at q;cases q;rfl
 ·unfold N7 at q
  split at q
  ·exact⟨(h.ow n i q).1,AU (h.ow n i q).2 k.1⟩
  ·cases hs:S'[n]? with
   | none=>rw[hs]at q;cases q
   | some o'=>rw[hs]at q;cases q
 ·unfold N7
  rw[qY (Iy.mpr (Ao k.1 hn)),Bl hn]
 ·obtain⟨x,h1,h2⟩:=h.sl i a ha
  exact⟨x,h1,Sl.mono h2 (h.fle S') λn i o q1 q2=>⟨by rw[Hm (B5 q2)];exact q1,by rw[k.2 n (B5 q2)];exact q2⟩⟩
theorem Vs.cons(h:Vs S0 A e F S)(hx:a.ok S0 F S x):Vs S0 (a :: A) (x :: e) F S:=
 ⟨h.kp,h.fz,h.ow,h.hi,λi b hb=>by
  cases i with
  | zero=>cases hb;exact⟨x,rfl,hx⟩
  | succ i=>exact h.sl i b hb⟩
theorem Vs.set(h:Vs S0 A e F S)(i:Nat)(hx:a.ok S0 F S x):Vs S0 (A.set i a) (e.set i x) F S:=
 ⟨h.kp,h.fz,h.ow,h.hi,λj b hb=>by
  by_cases c:i=j
  ·subst c
   rw[FB]at hb;rw[qX rfl]at hb;split at hb
   ·rename_i hl
    cases hb;obtain⟨y,hy,_⟩:=h.sl i (A[i]) (BW hl);exact⟨x,by rw[FB];rw[qX rfl,qX (AC.mp hy).1],hx⟩
   ·cases hb
  ·rw[AY c]at hb ⊢
   exact h.sl j b hb⟩
inductive Wk:List Sl->List Sl->Prop where
 | nil:Wk [] []
 | same {a:Sl} {A B:List Sl}:Wk A B->Wk (a :: A) (a :: B)
 | drop {a:Sl} {A B:List Sl}:Wk A B->Wk (a :: A) (.u :: B)
 | less {o:Ob} {A B:List Sl}:Wk A B->Wk (.y o :: A) (.z o :: B)
theorem Wk.at:∀{A B:List Sl},Wk A B->∀(i:Nat) (b:Sl),B[i]?=some b->∃a,A[i]?=some a/\(b=.u∨b=a∨∃o,a=.y o/\b=.z o)
 | _,_,.nil,i,b,h=>by simp at h
 | _,_,.same w,0,b,h=>by cases h;exact⟨_,rfl,.inr (.inl rfl)⟩
 | _,_,.less w,0,b,h=>by cases h;exact⟨_,rfl,.inr (.inr ⟨_,rfl,rfl⟩)⟩
 | _,_,.less w,i+1,b,h=>Wk.at w i b h
 | _,_,.drop w,0,b,h=>by cases h;exact⟨_,rfl,.inl rfl⟩
 | _,_,.same w,i+1,b,h=>Wk.at w i b h
 | _,_,.drop w,i+1,b,h=>Wk.at w i b h
theorem Vs.weak(h:Vs S0 A e F S)(w:Wk A B):Vs S0 B e F S:=⟨h.kp,h.fz,h.ow,h.hi,λi b hb=>by
 obtain⟨a,h1,h2⟩:=w.at i b hb;obtain⟨x,h3,h4⟩:=h.sl i a h1
 rcases h2 with rfl | rfl | ⟨o,rfl,rfl⟩
 ·exact⟨x,h3,trivial⟩
 ·exact⟨x,h3,h4⟩
 ·obtain⟨n,h5,h6,_⟩:=h4
  exact⟨x,h3,n,h5,h6⟩⟩
def Sl.oth(i:Nat):Sl->Bool
 | .w k _=>!(Nat.beq k i)
 | _=>true
theorem aK(h:((A.set i .u).all (Sl.oth i))=true)(hj:j≠i)(ha:A[j]?=some (.w k o)):k≠i:=by
 have h1:(A.set i .u)[j]?=some (.w k o):=by rw[AY (Br hj)];exact ha
 have:=Fg.mp h _ (BK h1);intro e;subst e;have h2:(!(Nat.beq k k))=true:=this;rw[Nat.beq_refl]at h2;cases h2
theorem Vs.put(h:Vs S0 A e F S)(ht:((A.set i .u).all (Sl.oth i))=true)(ha:A[i]?=some (.w i o))(hx:e[i]?=some (some (.ref n)))(hn:F n=.ow i):Vs S0 (A.set i (.w i o')) e F (S.set n o'):=by
 have hl:=h.ow n i hn;refine⟨h.kp.set hl.1 o',λk q hq=>?_,λk j q=>by rw[DO];exact h.ow k j q,λk hk=>h.hi k (by rw[DO]at hk;exact hk),λj b hb=>?_⟩
 ·have:n≠k:=λc=>by subst c;rw[hn]at hq;cases hq
  rw[AY this];exact h.fz k q hq
 ·by_cases c:i=j
  ·subst c
   rw[FB]at hb;rw[qX rfl]at hb;split at hb
   ·cases hb
    exact⟨_,hx,n,rfl,hn,by rw[FB];rw[qX rfl,qX hl.2]⟩
   ·cases hb
  ·rw[AY c]at hb
   obtain⟨x,h1,h2⟩:=h.sl j b hb;refine⟨x,h1,?_⟩
   cases b with
   | u=>trivial
   | v d=>exact h2
   | z q=>exact h2
   | y q=>exact h2
   | q P=>exact h2
   | w k q=>
    obtain⟨m,h3,h4,h5⟩:=h2;refine⟨m,h3,h4,?_⟩
    have:n≠m:=λz=>by
     subst z;rw[hn]at h4;cases h4;exact aK ht (λz=>c z.symm) hb rfl
    rw[AY this];exact h5
theorem Vs.freeze(h:Vs S0 A e F S)(ht:((A.set i .u).all (Sl.oth i))=true)(ha:A[i]?=some (.w i o)):∃F',Vs S0 (A.set i (.y o)) e F' S/\Fle F F':=by
 obtain⟨x,hx,n,rfl,hn,ho⟩:=h.sl i _ ha
 have g:∀k,k≠n->(if k=n then Cel.fz o else F k)=F k:=λk hk=>qY hk
 have fl:Fle F (λk=>if k=n then Cel.fz o else F k):=λk q hq=>by
  have:k≠n:=λc=>by subst c;rw[hn]at hq;cases hq
  show(if k=n then Cel.fz o else F k)=_;rw[qY this];exact hq
 refine⟨λk=>if k=n then .fz o else F k,⟨h.kp,λk q hq=>?_,λk j q=>?_,λk hk=>?_,λj b hb=>?_⟩,fl⟩
 ·split at hq
  ·rename_i c;cases hq;subst c;exact ho
  ·exact h.fz k q hq
 ·split at q
  ·cases q
  ·exact h.ow k j q
 ·have:k≠n:=λc=>by subst c;exact zX (B5 ho) (Iy.mpr hk)
  show(if k=n then Cel.fz o else F k)=_;rw[qY this];exact h.hi k hk
 ·by_cases c:i=j
  ·subst c
   rw[FB]at hb;rw[qX rfl]at hb;split at hb
   ·cases hb
    exact⟨_,hx,n,rfl,qX rfl,(h.ow n i hn).1⟩
   ·cases hb
  ·rw[AY c]at hb
   obtain⟨x,h1,h2⟩:=h.sl j b hb;refine⟨x,h1,?_⟩
   cases b with
   | u=>trivial
   | v d=>exact h2
   | z q=>obtain⟨m,h3,h4⟩:=h2;exact⟨m,h3,fl _ _ h4⟩
   | y q=>obtain⟨m,h3,h4,h5⟩:=h2;exact⟨m,h3,fl _ _ h4,h5⟩
   | q P=>obtain⟨d,h3,h4⟩:=h2;exact⟨d,h3,λL hL=>h4 L λn o q=>hL n o (fl n o q)⟩
   | w k q=>
    obtain⟨m,h3,h4,h5⟩:=h2;refine⟨m,h3,?_,h5⟩
    have:m≠n:=λz=>by
     subst z;rw[hn]at h4;cases h4;exact aK ht (λz=>c z.symm) hb rfl
    show(if m=n then Cel.fz o else F m)=_;rw[qY this];exact h4
theorem Vs.own(h:Vs S0 A e F S)(k:Keeps S S'){i n:Nat}{o:Ob}(hn:S.length<=n)(ho:S'[n]?=some o):∃F',Vs S0 (A.set i (.w i o)) (e.set i (some (.ref n))) F' S'/\Fle F F':=by
 have g:=h.grow k;have vx:=B5 ho
 have fl:Fle F (λj=>if j=n then Cel.ow i else N7 F S S' j):=λj q hq=>by
  have:j≠n:=λc=>by subst c;exact zX (B5 (h.fz _ _ hq)) (Iy.mpr hn)
  show(if j=n then Cel.ow i else _)=_;rw[qY this];exact h.fle S' _ _ hq
 refine⟨λj=>if j=n then .ow i else N7 F S S' j,(Vs.set (a:=.w i o) (x:=some (.ref n)) ⟨g.kp,λj q hq=>?_,λj q hq=>?_,λj hj=>?_,λj b hb=>?_⟩ i ⟨n,rfl,qX rfl,ho⟩),fl⟩
 ·split at hq
  ·cases hq
  ·exact g.fz j q hq
 ·split at hq
  ·rename_i c;subst c;exact⟨Ao h.kp.1 hn,vx⟩
  ·exact g.ow j q hq
 ·have:j≠n:=λc=>by subst c;exact zX vx (Iy.mpr hj)
  show(if j=n then Cel.ow i else _)=_;rw[qY this];exact g.hi j hj
 ·obtain⟨x,h1,h2⟩:=h.sl j b hb
  refine⟨x,h1,Sl.mono h2 fl λm j q q1 q2=>?_⟩;have hm:=B5 q2
  have:m≠n:=λc=>by subst c;exact zX hm (Iy.mpr hn)
  refine⟨?_,by rw[k.2 m hm];exact q2⟩;show(if m=n then Cel.ow i else _)=_;rw[qY this,Hm hm];exact q1
abbrev Rk(α:Type):=α->Sto->D->Sto->Prop
def rV(enc:α->D):Rk α:=λv _ d _=>d=enc v
def rO(ob:α->Ob):Rk α:=λv _ d S=>∃n,d=.ref n/\S[n]?=some (ob v)
def rN(ob:α->Ob):Rk α:=λv S0 d S=>∃n,d=.ref n/\S0.length<=n/\S[n]?=some (ob v)
def VE(A:List Sl)(m:ME)(R:Rk α)(p:Option α):Prop:=∀v,p=some v->∀S0 e F S,Vs S0 A e F S->∃d S',m e S=.ok d S'/\Keeps S S'/\R v S d S'
def VB(A:List Sl)(t:MT)(p:Option Bool):Prop:=∀v,p=some v->∀S0 e F S,Vs S0 A e F S->∃S',t e S=.ok v S'/\Keeps S S'
def VL(A:List Sl)(ml:ML)(enc:α->D)(p:Option (List α)):Prop:=∀v,p=some v->∀S0 e F S,Vs S0 A e F S->∃S',ml e S=.ok (v.map enc) S'/\Keeps S S'
def VK(A:List Sl)(mi:MI)(enc:α->D)(p:Option (List α)):Prop:=∀v,p=some v->∀S0 e F S,Vs S0 A e F S->∃w S',mi e S=.ok w S'/\Keeps S S'/\∀pB,Keeps S' pB->w pB=some (v.map enc)
def VI(A:List Sl)(mi:MI)(enc:α->D)(p:Option (List α)):Prop:=∀v,p=some v->∀S0 e F S,Vs S0 A e F S->∃w S',mi e S=.ok w S'/\Keeps S S'/\∀uo pB,Fle (N7 F S S') uo->(∀n o,uo n=.fz o->pB[n]?=some o)->w pB=some (v.map enc)
theorem VI.k(h:VI A mi enc p):VK A mi enc p:=λv hv S0 e F S hs=>by
 obtain⟨w,S',h1,h2,h3⟩:=h v hv S0 e F S hs;have g:=hs.grow h2;exact⟨w,S',h1,h2,λpB k=>h3 _ pB (g.fle pB) (g.grow k).fz⟩
def eT(enc:α->D)(l:List α):D:=.tup (l.map enc)
def eP(a:α->D)(b:β->D)(x:α×β):D:=.tup [a x.1,b x.2]
def eU(_:Unit):D:=.non
def eF(l:List Int):D:=.fro (l.map D.int)
def oL(enc:α->D)(l:List α):Ob:=.lst (l.map enc)
theorem iU(h:VE A m R p)(i:∀v S d S',R v S d S'->R' v S d S'):VE A m R' p:=λv hv S0 e F S hs=>by
 obtain⟨d,S',h1,h2,h3⟩:=h v hv S0 e F S hs;exact⟨d,S',h1,h2,i _ _ _ _ h3⟩
theorem RB(h:VE A m (rN ob) p):VE A m (rO ob) p:=iU h λv S d S' ⟨n,h1,_,h2⟩=>⟨n,h1,h2⟩
theorem BL(h:A[i]?=some (.v (enc v))):VE A (AA i) (rV enc) (some v):=λ_ hv S0 e F S hs=>by
 cases hv;obtain⟨x,h1,h2⟩:=hs.sl i _ h;cases h2;exact⟨_,S,by unfold AA;rw[h1],Keeps.refl S,rfl⟩
theorem DB(h:A[i]?=some (.z (ob v))):VE A (AA i) (rO ob) (some v):=λ_ hv S0 e F S hs=>by
 cases hv;obtain⟨x,h1,n,rfl,h2⟩:=hs.sl i _ h;exact⟨_,S,by unfold AA;rw[h1],Keeps.refl S,n,rfl,hs.fz _ _ h2⟩
theorem Fv(h:A[i]?=some (.y (ob v))):VE A (AA i) (rO ob) (some v):=λ_ hv S0 e F S hs=>by
 cases hv;obtain⟨x,h1,n,rfl,h2,_⟩:=hs.sl i _ h;exact⟨_,S,by unfold AA;rw[h1],Keeps.refl S,n,rfl,hs.fz _ _ h2⟩
theorem Mu(h:A[i]?=some (.w k (ob v))):VE A (AA i) (rO ob) (some v):=λ_ hv S0 e F S hs=>by
 cases hv;obtain⟨x,h1,n,rfl,h2,h3⟩:=hs.sl i _ h;exact⟨_,S,by unfold AA;rw[h1],Keeps.refl S,n,rfl,h3⟩
theorem Kk(h:d=enc v):VE A (mC d) (rV enc) (some v):=λ_ hv S0 e F S hs=>by
 cases hv;exact⟨d,S,rfl,Keeps.refl S,h⟩
theorem BO(h:p.bind q=some v):∃x,p=some x/\q x=some v:=Rr.mp h
theorem KP{f:D->D->Sto->Res D}{a b:ME}{ea:α->D}{eb:β->D}{ec:γ->D}{pa:Option α}{pb:Option β}{g:α->β->Option γ}(ha:VE A a (rV ea) pa)(hb:VE A b (rV eb) pb)
  (hf:∀x y z S,g x y=some z->f (ea x) (eb y) S=.ok (ec z) S):VE A (m2 f a b) (rV ec) (pa.bind λx=>pb.bind λy=>g x y):=λv hv S0 e F S hs=>by
 obtain⟨x,h1,hv⟩:=BO hv;obtain⟨y,h2,h3⟩:=BO hv;obtain⟨d1,S1,q1,k1,rfl⟩:=ha x h1 S0 e F S hs;obtain⟨d2,S2,q2,k2,rfl⟩:=hb y h2 S0 e _ S1 (hs.grow k1);exact⟨_,S2,BF q1 q2 (hf x y v S2 h3),k1.trans k2,rfl⟩
theorem U9{f:D->D->Sto->Res D}{a b:ME}{ea:α->D}{ob:β->Ob}{ec:γ->D}{pa:Option α}{pb:Option β}{g:α->β->Option γ}(ha:VE A a (rV ea) pa)(hb:VE A b (rO ob) pb)
  (hf:∀x y z S (n:Nat),S[n]?=some (ob y)->g x y=some z->f (ea x) (.ref n) S=.ok (ec z) S):VE A (m2 f a b) (rV ec) (pa.bind λx=>pb.bind λy=>g x y):=λv hv S0 e F S hs=>by
 obtain⟨x,h1,hv⟩:=BO hv;obtain⟨y,h2,h3⟩:=BO hv;obtain⟨d1,S1,q1,k1,rfl⟩:=ha x h1 S0 e F S hs;obtain⟨d2,S2,q2,k2,n,rfl,hn⟩:=hb y h2 S0 e _ S1 (hs.grow k1);exact⟨_,S2,BF q1 q2 (hf x y v S2 n hn h3),k1.trans k2,rfl⟩
theorem VD{f:D->D->Sto->Res D}{a b:ME}{ob:α->Ob}{eb:β->D}{ec:γ->D}{pa:Option α}{pb:Option β}{g:α->β->Option γ}(ha:VE A a (rO ob) pa)(hb:VE A b (rV eb) pb)
  (hf:∀x y z S (n:Nat),S[n]?=some (ob x)->g x y=some z->f (.ref n) (eb y) S=.ok (ec z) S):VE A (m2 f a b) (rV ec) (pa.bind λx=>pb.bind λy=>g x y):=λv hv S0 e F S hs=>by
 obtain⟨x,h1,hv⟩:=BO hv;obtain⟨y,h2,h3⟩:=BO hv;obtain⟨d1,S1,q1,k1,n,rfl,hn⟩:=ha x h1 S0 e F S hs;obtain⟨d2,S2,q2,k2,rfl⟩:=hb y h2 S0 e _ S1 (hs.grow k1);exact⟨_,S2,BF q1 q2 (hf x y v S2 n (k2.at hn) h3),k1.trans k2,rfl⟩
theorem Ni(h:VE A m (rV D.bl) p):VB A (mB m) p:=λv hv S0 e F S hs=>by
 obtain⟨d,S',h1,h2,rfl⟩:=h v hv S0 e F S hs;exact⟨S',Es h1,h2⟩
theorem Os:VB A FY (some true):=λv hv S0 e F S hs=>by cases hv;exact⟨S,rfl,Keeps.refl S⟩
theorem iW(h:VB A t p):VB A (UA t) (p.bind λb=>some (!b)):=λv hv S0 e F S hs=>by
 obtain⟨x,h1,h2⟩:=BO hv;cases h2;obtain⟨S',h3,h4⟩:=h x h1 S0 e F S hs;exact⟨S',Pz h3,h4⟩
theorem Zb(h:VB A t p)(hu:VB A u q):VB A (Qr t u) (p.bind λb=>if b=true then q else some false):=λv hv S0 e F S hs=>by
 obtain⟨x,h1,h2⟩:=BO hv;obtain⟨S1,h3,h4⟩:=h x h1 S0 e F S hs
 cases x with
 | true=>
  obtain⟨S2,h5,h6⟩:=hu v h2 S0 e _ S1 (hs.grow h4);exact⟨S2,(gD h3).trans h5,h4.trans h6⟩
 | false=>cases h2;exact⟨S1,gC h3,h4⟩
theorem RK:∀(v:α) (S S1:Sto) (d:D) (S':Sto),S.length<=S1.length->rV enc v S1 d S'->rV enc v S d S':=λ_ _ _ _ _ _ h=>h
theorem Wn:∀(v:α) (S S1:Sto) (d:D) (S':Sto),S.length<=S1.length->rN ob v S1 d S'->rN ob v S d S':=λ_ _ _ _ _ l ⟨n,h1,h2,h3⟩=>⟨n,h1,Ao l h2,h3⟩
inductive Fw(ρ σ:Type) where
 | rt (r:ρ) | nx (s:σ) | bk (s:σ) | ct (s:σ)
def VG(S0:Sto)(F:Fz)(S':Sto)(R:Rk ρ)(B:σ->List Sl)(g:Fl):Fw ρ σ->Prop
 | .nx s=>∃e' F',g=.nx e'/\Vs S0 (B s) e' F' S'/\Fle F F'
 | .ct s=>∃e' F',g=.ct e'/\Vs S0 (B s) e' F' S'/\Fle F F'
 | .bk s=>∃e' F',g=.bk e'/\Vs S0 (B s) e' F' S'/\Fle F F'
 | .rt r=>∃d,g=.rt d/\R r S0 d S'/\Keeps S0 S'
def VS(A:List Sl)(b:MS)(R:Rk ρ)(p:Option (Fw ρ σ))(B:σ->List Sl):Prop:=∀f,p=some f->∀S0 e F S,Vs S0 A e F S->∃g S',b e S=.ok g S'/\VG S0 F S' R B g f
def C6(p:Option (Fw ρ σ))(q:σ->Option (Fw ρ τ)):Option (Fw ρ τ):=match p with
 | some (.nx s)=>q s
 | some (.rt r)=>some (.rt r)
 | _=>none
theorem VG.up{S0:Sto}{F F1:Fz}{S':Sto}{R:Rk ρ}{B:σ->List Sl}{g:Fl}{f:Fw ρ σ}(l:Fle F F1)(h:VG S0 F1 S' R B g f):VG S0 F S' R B g f:=by
 cases f with
 | rt r=>exact h
 | nx s=>obtain⟨e',F',h1,h2,h3⟩:=h;exact⟨e',F',h1,h2,l.trans h3⟩
 | bk s=>obtain⟨e',F',h1,h2,h3⟩:=h;exact⟨e',F',h1,h2,l.trans h3⟩
 | ct s=>obtain⟨e',F',h1,h2,h3⟩:=h;exact⟨e',F',h1,h2,l.trans h3⟩
theorem Ch{a b:MS}{R:Rk ρ}{p:Option (Fw ρ σ)}{q:σ->Option (Fw ρ τ)}{B:σ->List Sl}{C:τ->List Sl}(ha:VS A a R p B)(hb:∀s,VS (B s) b R (q s) C):VS A (BD a b) R (C6 p q) C:=λf hf S0 e F S hs=>by
 cases p with
 | none=>cases hf
 | some w=>
  obtain⟨g,S1,h1,h2⟩:=ha _ rfl S0 e F S hs
  cases w with
  | nx s=>
   obtain⟨e1,F1,rfl,h2,h3⟩:=h2;obtain⟨g2,S2,h4,h5⟩:=hb s f hf S0 e1 F1 S1 h2;exact⟨g2,S2,(A1 h1).trans h4,h5.up h3⟩
  | rt r=>
   cases hf;obtain⟨d,rfl,h2,h3⟩:=h2;exact⟨_,S1,MD h1,d,rfl,h2,h3⟩
  | bk s=>cases hf
  | ct s=>cases hf
theorem TU{R:Rk ρ}{B:σ->List Sl}{s:σ}(w:Wk A (B s)):VS A sNx R (some (.nx s)) B:=λf hf S0 e F S hs=>by
 cases hf;exact⟨_,S,rfl,e,F,rfl,hs.weak w,Fle.refl F⟩
def Ky(g:σ->τ)(p:Option (Fw ρ σ)):Option (Fw ρ τ):=match p with
 | some (.nx s)=>some (.nx (g s))
 | some (.rt r)=>some (.rt r)
 | some (.bk s)=>some (.bk (g s))
 | some (.ct s)=>some (.ct (g s))
 | none=>none
theorem Ju{b:MS}{R:Rk ρ}{p:Option (Fw ρ σ)}{g:σ->τ}{B:σ->List Sl}{C:τ->List Sl}(h:VS A b R p B)(w:∀s,Wk (B s) (C (g s))):VS A b R (Ky g p) C:=λf hf S0 e F S hs=>by
 cases p with
 | none=>cases hf
 | some x=>
  obtain⟨g,S1,h1,h2⟩:=h _ rfl S0 e F S hs
  cases x with
  | nx s=>cases hf;obtain⟨e1,F1,rfl,h2,h3⟩:=h2;exact⟨_,S1,h1,e1,F1,rfl,h2.weak (w s),h3⟩
  | rt r=>cases hf;exact⟨_,S1,h1,h2⟩
  | bk s=>cases hf;obtain⟨e1,F1,rfl,h2,h3⟩:=h2;exact⟨_,S1,h1,e1,F1,rfl,h2.weak (w s),h3⟩
  | ct s=>cases hf;obtain⟨e1,F1,rfl,h2,h3⟩:=h2;exact⟨_,S1,h1,e1,F1,rfl,h2.weak (w s),h3⟩
theorem MB(h:VE A m (rV enc) p):VS A (Bc i m) R (p.bind λv=>some (.nx v)) (λv=>A.set i (.v (enc v))):=λf hf S0 e F S hs=>by
 obtain⟨v,h1,h2⟩:=BO hf;cases h2;obtain⟨d,S',h3,h4,rfl⟩:=h v h1 S0 e F S hs;exact⟨_,S',Cb h3,_,_,rfl,(hs.grow h4).set i rfl,hs.fle S'⟩
theorem Jt(h:VE A m (rN ob) p):VS A (Bc i m) R (p.bind λv=>some (.nx v)) (λv=>A.set i (.y (ob v))):=λf hf S0 e F S hs=>by
 obtain⟨v,h1,h2⟩:=BO hf;cases h2;obtain⟨d,S',h3,h4,n,rfl,h5,h6⟩:=h v h1 S0 e F S hs;exact⟨_,S',Cb h3,_,_,rfl,(hs.grow h4).set (a:=.y (ob v)) i ⟨n,rfl,bW h5 h6,Ao hs.kp.1 h5⟩,hs.fle S'⟩
theorem LM(h:VE A m (rN ob) p):VS A (Bc i m) R (p.bind λv=>some (.nx v)) (λv=>A.set i (.w i (ob v))):=λf hf S0 e F S hs=>by
 obtain⟨v,h1,h2⟩:=BO hf;cases h2;obtain⟨d,S',h3,h4,n,rfl,h5,h6⟩:=h v h1 S0 e F S hs;obtain⟨F',h7,h8⟩:=hs.own h4 (i:=i) h5 h6;exact⟨_,S',Cb h3,_,F',rfl,h7,h8⟩
theorem ZR{m:ME}{enc:ρ->D}{p:Option ρ}{B:σ->List Sl}(h:VE A m (rV enc) p):VS A (Dj m) (rV enc) (p.bind λv=>some (.rt v)) B:=λf hf S0 e F S hs=>by
 obtain⟨v,h1,h2⟩:=BO hf;cases h2;obtain⟨d,S',h3,h4,rfl⟩:=h v h1 S0 e F S hs;exact⟨_,S',Fa h3,_,rfl,rfl,hs.kp.trans h4⟩
theorem cc{m:ME}{ob:ρ->Ob}{p:Option ρ}{B:σ->List Sl}(h:VE A m (rN ob) p):VS A (Dj m) (rN ob) (p.bind λv=>some (.rt v)) B:=λf hf S0 e F S hs=>by
 obtain⟨v,h1,h2⟩:=BO hf;cases h2;obtain⟨d,S',h3,h4,n,rfl,h5,h6⟩:=h v h1 S0 e F S hs;exact⟨_,S',Fa h3,_,rfl,⟨n,rfl,Ao hs.kp.1 h5,h6⟩,hs.kp.trans h4⟩
theorem WT{i:Nat}{ob:ρ->Ob}{v:ρ}{B:σ->List Sl}{k:Nat}(h:A[i]?=some (.w k (ob v))):VS A (Dj (AA i)) (rN ob) (some (.rt v)) B:=λf hf S0 e F S hs=>by
 cases hf;obtain⟨x,h1,n,rfl,h2,h3⟩:=hs.sl i _ h;exact⟨_,S,Fa (d:=.ref n) (by unfold AA;rw[h1]),_,rfl,⟨n,rfl,(hs.ow _ _ h2).1,h3⟩,hs.kp⟩
theorem Q8{t:MT}{a b:MS}{R:Rk ρ}{pt:Option Bool}{p q:Option (Fw ρ σ)}{B:σ->List Sl}(ht:VB A t pt)(ha:VS A a R p B)(hb:VS A b R q B):VS A (sIf t a b) R (pt.bind λc=>if c=true then p else q) B:=λf hf S0 e F S hs=>by
 obtain⟨c,h1,h2⟩:=BO hf;obtain⟨S1,h3,h4⟩:=ht c h1 S0 e F S hs
 cases c with
 | true=>
  obtain⟨g,S2,h5,h6⟩:=ha f h2 S0 e _ S1 (hs.grow h4);exact⟨g,S2,(Ck h3).trans h5,h6.up (hs.fle S1)⟩
 | false=>
  obtain⟨g,S2,h5,h6⟩:=hb f h2 S0 e _ S1 (hs.grow h4);exact⟨g,S2,(Ck h3).trans h5,h6.up (hs.fle S1)⟩
def V5(l:List α)(x:α):Option (List α):=if l.length < 1000000 then some (l++[x])else none
def UP(l k:List α):Option (List α):=if l.length+k.length<=1000000 then some (l++k)else none
theorem eo(h:n < 1000000):n < sizeLine:=AU h (by decide)
theorem jp(h:n<=1000000):n<=sizeLine:=Ao h (by decide)
theorem ZS(hi:A[i]?=some (.w i (oL enc l)))(h:VE A m (rV enc) p)(ht:((A.set i .u).all (Sl.oth i))=true) :
  VS A (B0 (GH (AA i) m)) R (p.bind λv=>(V5 l v).bind λl'=>some (.nx l')) (λl'=>A.set i (.w i (oL enc l'))):=λf hf S0 e F S hs=>by
 obtain⟨v,h1,h2⟩:=BO hf;obtain⟨l',h2,h0⟩:=BO h2;cases h0;unfold V5 at h2;split at h2
 ·rename_i hl
  cases h2;obtain⟨x,g1,n,rfl,g2,g3⟩:=hs.sl i _ hi;obtain⟨d,S',h3,h4,rfl⟩:=h v h1 S0 e F S hs;have hg:=hs.grow h4;have hx:=JM (mo:=AA i) (e:=e) (S:=S) (S1:=S) (n:=n) (by unfold AA;rw[g1]) g3 h3 (h4.at g3) (by rw[AE];exact eo hl);rw[show l.map enc++[enc v]=(l++[v]).map enc by simp]at hx;exact⟨_,_,Di hx,e,_,rfl,hg.put ht hi g1 (by rw[Hm (B5 g3)];exact g2),hs.fle S'⟩
 ·cases h2
theorem cp(hi:A[i]?=some (.w i (oL enc l)))(h:VE A m (rV (eT enc)) p)(ht:((A.set i .u).all (Sl.oth i))=true) :
  VS A (B0 (UB (AA i) m)) R (p.bind λv=>(UP l v).bind λl'=>some (.nx l')) (λl'=>A.set i (.w i (oL enc l'))):=λf hf S0 e F S hs=>by
 obtain⟨v,h1,h2⟩:=BO hf;obtain⟨l',h2,h0⟩:=BO h2;cases h0;unfold UP at h2;split at h2
 ·rename_i hl
  cases h2;obtain⟨x,g1,n,rfl,g2,g3⟩:=hs.sl i _ hi;obtain⟨d,S',h3,h4,rfl⟩:=h v h1 S0 e F S hs;have hg:=hs.grow h4
  have hx:UB (AA i) m e S=.ok .non (S'.set n (.lst ((l++v).map enc))):=by
   unfold UB;rw[show AA i e S=.ok (.ref n) S by unfold AA;rw[g1]];dsimp only[Res.bind];rw[show atL (.ref n) S=some (n,l.map enc) by unfold atL;dsimp only;rw[g3];rfl];dsimp only;rw[h3];dsimp only;rw[show atL (.ref n) S'=some (n,l.map enc) by unfold atL;dsimp only;rw[h4.at g3];rfl];unfold eT;dsimp only;rw[qX (by rw[AE,AE];exact jp hl),A9]
  exact⟨_,_,Di hx,e,_,rfl,hg.put ht hi g1 (by rw[Hm (B5 g3)];exact g2),hs.fle S'⟩
 ·cases h2
theorem cq(h:VE A m Rm p):VS A (B0 m) R (p.bind λ_=>some (.nx ())) (λ_:Unit=>A):=λf hf S0 e F S hs=>by
 obtain⟨v,h1,h2⟩:=BO hf;cases h2;obtain⟨d,S',h3,h4,_⟩:=h v h1 S0 e F S hs;exact⟨_,S',Di h3,e,_,rfl,hs.grow h4,hs.fle S'⟩
def VT(g:MG)(enc:α->D)(t:α->List Sl->List Sl):Prop:=∀x S0 A e F S,Vs S0 A e F S->∃e',g (enc x) e S=.ok e' S/\Vs S0 (t x A) e' F S
theorem cY:VT (tgN i) enc (λx A=>A.set i (.v (enc x))):=λx S0 A e F S hs=>⟨_,rfl,hs.set (a:=.v (enc x)) i rfl⟩
theorem WS:VT (Gj 2 (CG (tgN i) (CG (tgN j) G7))) (eP a b) (λx A=>(A.set i (.v (a x.1))).set j (.v (b x.2))):=λx S0 A e F S hs=>⟨_,rfl,(hs.set (a:=.v (a x.1)) i rfl).set (a:=.v (b x.2)) j rfl⟩
def KW:List α->σ->(σ->α->Option (Fw ρ σ))->Option (Fw ρ σ)
 | [],s,_=>some (.nx s)
 | x :: l,s,q=>match q s x with
  | some (.nx s')=>KW l s' q
  | some (.ct s')=>KW l s' q
  | some (.bk s')=>some (.nx s')
  | some (.rt r)=>some (.rt r)
  | none=>none
theorem cm{enc:α->D}{g:MG}{t:α->List Sl->List Sl}{b:MS}{R:Rk ρ}{q:σ->α->Option (Fw ρ σ)}{B:σ->List Sl}(hg:VT g enc t)(hb:∀s x,VS (t x (B s)) b R (q s x) B){w:Me}{S0:Sto}{F1:Fz}{full:List α}
  (hw:∀uo pB,Fle F1 uo->(∀n o,uo n=.fz o->pB[n]?=some o)->w pB=some (full.map enc)):∀(l:List α) (k:Nat),full.drop k=l->∀(s:σ) (f:Fw ρ σ),KW l s q=some f->∀e F S,Vs S0 (B s) e F S->Fle F1 F->∃h S',Ji w g b (l.length) k e S=.ok h S'/\VG S0 F1 S' R B h f:=by
 intro l
 induction l with
 | nil=>
  intro k hk s f hf e F S hs hF;cases hf
  have:full.length<=k:=by
   have:=congrArg Gg hk;rw[Ho,IJ]at this
   lia
  refine⟨_,S,?_,e,F,rfl,hs,hF⟩;unfold Ji;rw[hw F S hF hs.fz];dsimp only;rw[Bl (by rw[AE];exact this)]
 | cons x l ih=>
  intro k hk s f hf e F S hs hF
  have hx:full[k]?=some x:=by
   have:=congrArg (λz=>z[0]?) hk;rw[Ge]at this;simpa using this
  have qb:full.drop (k+1)=l:=by
   have e1:full.drop (k+1)=(full.drop k).drop 1:=by rw[Q3]
   exact e1.trans (congrArg (List.drop 1) hk)
  obtain⟨e1,g1,g2⟩:=hg x S0 _ e F S hs
  have run:∀h S',b e1 S=.ok h S'->Ji w g b ((x :: l).length) k e S=(match h with
    | .nx e2=>Ji w g b l.length (k+1) e2 S'
    | .ct e2=>Ji w g b l.length (k+1) e2 S'
    | .bk e2=>.ok (.nx e2) S'
    | .rt d=>.ok (.rt d) S'
    | .ex c e2=>.ok (.ex c e2) S'):=λh S' pe=>by
   show Ji w g b (l.length+1) k e S=_
   conv=>lhs;unfold Ji
   rw[hw F S hF hs.fz];dsimp only;rw[AS,hx];dsimp only[lC];rw[g1];dsimp only[Res.bind];rw[pe]
   all_goals (cases h <;> rfl)
  unfold KW at hf;split at hf
  ·rename_i s' hq
   obtain⟨h,S1,h1,e2,F2,rfl,h2,h3⟩:=hb s x _ hq S0 e1 F S g2;rw[run _ _ h1];exact ih (k+1) qb s' f hf e2 F2 S1 h2 (hF.trans h3)
  ·rename_i s' hq
   obtain⟨h,S1,h1,e2,F2,rfl,h2,h3⟩:=hb s x _ hq S0 e1 F S g2;rw[run _ _ h1];exact ih (k+1) qb s' f hf e2 F2 S1 h2 (hF.trans h3)
  ·rename_i s' hq
   cases hf;obtain⟨h,S1,h1,e2,F2,rfl,h2,h3⟩:=hb s x _ hq S0 e1 F S g2;rw[run _ _ h1];exact⟨_,S1,rfl,e2,F2,rfl,h2,hF.trans h3⟩
  ·rename_i r hq
   cases hf;obtain⟨h,S1,h1,d,rfl,h2,h3⟩:=hb s x _ hq S0 e1 F S g2;rw[run _ _ h1];exact⟨_,S1,rfl,d,rfl,h2,h3⟩
  ·cases hf
theorem U7{enc:α->D}{mi:MI}{g:MG}{t:α->List Sl->List Sl}{b:MS}{R:Rk ρ}{p:Option (List α)}{q:σ->α->Option (Fw ρ σ)}{B:σ->List Sl}{s0:σ}(hi:VI A mi enc p)(hg:VT g enc t)(w0:Wk A (B s0))(hb:∀s x,VS (t x (B s)) b R (q s x) B) :
  VS A (G3 mi g b) R (p.bind λl=>KW l s0 q) B:=λf hf S0 e F S hs=>by
 obtain⟨l,h1,h2⟩:=BO hf;obtain⟨w,S1,h3,h4,h5⟩:=hi l h1 S0 e F S hs;have ϡ:=hs.grow h4
 have hl:Cr w S1=l.length:=by unfold Cr;rw[h5 _ S1 (Fle.refl _) ϡ.fz];exact AE _
 obtain⟨h,S2,h6,h7⟩:=cm hg hb h5 l 0 rfl s0 f h2 e _ S1 (ϡ.weak w0) (Fle.refl _);refine⟨h,S2,?_,h7.up (hs.fle S1)⟩;rw[FI h3,hl];exact h6
def QO(c:α->Option Bool)(m:α->Option β):List α->Option (List β)
 | []=>some []
 | x :: l=>(c x).bind λb=>if b=true then(m x).bind λy=>(QO c m l).bind λys=>some (y :: ys)else QO c m l
def FX(l:List α)(c:α->Option Bool)(m:α->Option β):Option (List β):=if l.length<=1000000 then QO c m l else none
theorem ZT{enc:α->D}{eb:β->D}{g:MG}{P:List (Option D)->Prop}{T:α->List Sl}{c:MT}{m:ME}{pc:α->Option Bool}{pm:α->Option β}
  (hg:∀x S0 e F S pre,P pre->Vs S0 A e F S->∃pM,g (enc x) (pre++e) S=.ok (pM++e) S/\P pM/\Vs S0 (T x) (pM++e) F S)
  (hc:∀x,VB (T x) c (pc x)) (hm:∀x,VE (T x) m (rV eb) (pm x)) {w:Me} {S0:Sto} {e:Lo} {full:List α} {S1:Sto} (hf:full.length<=1000000) (hw:∀pB,Keeps S1 pB->w pB=some (full.map enc)) :
  ∀(l:List α) (k:Nat),full.drop k=l->∀(r:List β),QO pc pm l=some r->∀pre F S acc,P pre->Vs S0 A e F S->Keeps S1 S->acc.length<=k->∃S',Fp w g c m l.length k (pre++e) S acc=.ok (acc++r.map eb) S'/\Keeps S S':=by
 intro l
 induction l with
 | nil=>
  intro k hk r hr pre F S acc hp hs uq ha;cases hr
  have:full.length<=k:=by
   have:=congrArg Gg hk;rw[Ho,IJ]at this
   lia
  refine⟨S,?_,Keeps.refl S⟩;unfold Fp;rw[hw S uq];dsimp only;rw[Bl (by rw[AE];exact this),Kb,BE]
 | cons x l ih=>
  intro k hk r hr pre F S acc hp hs uq ha
  have hx:full[k]?=some x:=by
   have:=congrArg (λz=>z[0]?) hk;rw[Ge]at this;simpa using this
  have qb:full.drop (k+1)=l:=by
   have e1:full.drop (k+1)=(full.drop k).drop 1:=by rw[Q3]
   exact e1.trans (congrArg (List.drop 1) hk)
  have hkl:k < full.length:=(AC.mp hx).1;obtain⟨pM,g1,g2,g3⟩:=hg x S0 e F S pre hp hs;unfold QO at hr;obtain⟨b,h1,h2⟩:=BO hr;obtain⟨S2,h3,h4⟩:=hc x b h1 S0 _ F S g3;have pz:=hs.grow h4
  show ∃S',Fp w g c m (l.length+1) k (pre++e) S acc=_/\_
  conv=>arg 1;ext S';arg 1;lhs;unfold Fp
  rw[hw S uq];dsimp only;rw[AS,hx];dsimp only[lC];rw[qX (A4 ha (eo (AU hkl hf))),g1];dsimp only[okR,Res.bind];rw[h3];dsimp only[okR,Res.bind]
  cases b with
  | true=>
   rw[qX rfl]at h2 ⊢;obtain⟨y,h5,h6⟩:=BO h2;obtain⟨ys,h6',h7⟩:=BO h6;cases h7;obtain⟨d,S3,h8,h9,rfl⟩:=hm x y h5 S0 _ _ S2 (g3.grow h4);rw[h8];obtain⟨S4,q1,q2⟩:=ih (k+1) qb ys h6' pM _ S3 (acc++[eb y]) g2 (pz.grow h9) (uq.trans (h4.trans h9)) (by rw[Ad,Bu];lia);refine⟨S4,?_,(h4.trans h9).trans q2⟩;show Fp w g c m l.length (k+1) (pM++e) S3 (acc++[eb y])=_;rw[q1,BC];rfl
  | false=>
   rw[qY AL]at h2 ⊢;obtain⟨S4,q1,q2⟩:=ih (k+1) qb r h2 pM _ S2 acc g2 pz (uq.trans h4) (by lia);exact⟨S4,q1,h4.trans q2⟩
theorem WV{enc:α->D}{eb:β->D}{n:Nat}{mi:MI}{g:MG}{P:List (Option D)->Prop}{T:α->List Sl}{c:MT}{m:ME}{p:Option (List α)}{pc:α->Option Bool}{pm:α->Option β}(hi:VK A mi enc p)(h0:P (Ak n none))
  (hg:∀x S0 e F S pre,P pre->Vs S0 A e F S->∃pM,g (enc x) (pre++e) S=.ok (pM++e) S/\P pM/\Vs S0 (T x) (pM++e) F S)
  (hc:∀x,VB (T x) c (pc x)) (hm:∀x,VE (T x) m (rV eb) (pm x)):VL A (D6 n mi g c m) eb (p.bind λl=>FX l pc pm):=λr hr S0 e F S hs=>by
 obtain⟨l,h1,h2⟩:=BO hr;obtain⟨w,S1,h3,h4,h5⟩:=hi l h1 S0 e F S hs;unfold FX at h2;split at h2
 ·rename_i hl
  have qz:=hs.grow h4;obtain⟨S2,h6,h7⟩:=ZT hg hc hm hl h5 l 0 rfl r h2 _ _ S1 [] h0 qz (Keeps.refl _) (AN _);refine⟨S2,?_,h4.trans h7⟩;rw[NR h3,show Cr w S1=l.length by unfold Cr;rw[h5 S1 (Keeps.refl _)];exact AE _];exact h6
 ·cases h2
theorem Hi{enc:α->D}{eb:β->D}{mi:MI}{c:MT}{m:ME}{p:Option (List α)}{pc:α->Option Bool}{pm:α->Option β}(hi:VK A mi enc p)(hc:∀x,VB (.v (enc x) :: A) c (pc x))(hm:∀x,VE (.v (enc x) :: A) m (rV eb) (pm x)) :
  VL A (D6 1 mi (tgN 0) c m) eb (p.bind λl=>FX l pc pm):=
 WV (P:=λpre=>∃z,pre=[z]) hi ⟨none,rfl⟩ (λx S0 e F S pre hp hs=>by
  obtain⟨z,rfl⟩:=hp
  exact⟨[some (enc x)],rfl,⟨_,rfl⟩,hs.cons (a:=.v (enc x)) rfl⟩) hc hm
theorem TV{a:α->D}{b:γ->D}{eb:β->D}{mi:MI}{c:MT}{m:ME}{p:Option (List (α×γ))}{pc:α×γ->Option Bool}{pm:α×γ->Option β}(hi:VK A mi (eP a b) p)(hc:∀x:α×γ,VB (.v (a x.1) :: .v (b x.2) :: A) c (pc x))(hm:∀x:α×γ,VE (.v (a x.1) :: .v (b x.2) :: A) m (rV eb) (pm x)) :
  VL A (D6 2 mi (Gj 2 (CG (tgN 0) (CG (tgN 1) G7))) c m) eb (p.bind λl=>FX l pc pm):=
 WV (P:=λpre=>∃z y,pre=[z,y]) hi ⟨none,none,rfl⟩ (λx S0 e F S pre hp hs=>by
  obtain⟨z,y,rfl⟩:=hp
  exact⟨[some (a x.1),some (b x.2)],rfl,⟨_,_,rfl⟩,(hs.cons (a:=.v (b x.2)) rfl).cons (a:=.v (a x.1)) rfl⟩) hc hm
theorem IN(h:VL A ml enc p):VE A (CL ml) (rN (oL enc)) p:=λv hv S0 e F S hs=>by
 obtain⟨S',h1,h2⟩:=h v hv S0 e F S hs;exact⟨_,_,HM h1,h2.trans (Keeps.app _ _),_,rfl,h2.1,Bj _ _⟩
inductive Ar where
 | v (d:D) | z (o:Ob) | q (P:(Nat->Option Ob)->D->Prop)
def Ar.ok(S:Sto):Ar->D->Prop
 | .v d,x=>x=d
 | .z o,x=>∃n,x=.ref n/\S[n]?=some o
 | .q P,x=>∀L:Nat->Option Ob,(∀n o,S[n]?=some o->L n=some o)->P L x
def Ar.sl:Ar->Sl
 | .v d=>.v d
 | .z o=>.z o
 | .q P=>.q P
def Lz(S:Sto):List Ar->List D->Prop
 | [],[]=>True
 | a :: as,d :: ds=>a.ok S d/\Lz S as ds
 | _,_=>False
theorem Lz.len:∀{as:List Ar} {ds:List D},Lz S as ds->ds.length=as.length
 | [],[],_=>rfl
 | _ :: as,_ :: ds,h=>by rw[A8,A8,Lz.len h.2]
 | [],_ :: _,h=>h.elim
 | _ :: _,[],h=>h.elim
theorem Lz.at:∀{as:List Ar} {ds:List D},Lz S as ds->∀(i:Nat) (a:Ar),as[i]?=some a->∃d,ds[i]?=some d/\a.ok S d
 | [],[],_,i,a,h=>by simp at h
 | b :: as,d :: ds,h,0,a,q=>by cases q;exact⟨d,rfl,h.1⟩
 | b :: as,d :: ds,h,i+1,a,q=>Lz.at h.2 i a q
 | [],_ :: _,h,_,_,_=>h.elim
 | _ :: _,[],h,_,_,_=>h.elim
def VF(f:List D->Sto->Res D)(as:List Ar)(R:Rk α)(p:Option α):Prop:=∀v,p=some v->∀S ds,Lz S as ds->∃d S',f ds S=.ok d S'/\Keeps S S'/\R v S d S'
def VA(A:List Sl)(ml:ML)(p:Option γ)(ar:γ->List Ar):Prop:=∀v,p=some v->∀S0 e F S,Vs S0 A e F S->∃ds S',ml e S=.ok ds S'/\Keeps S S'/\Lz S' (ar v) ds
theorem JA:VA A Aj (some ()) (λ_=>[]):=λv hv S0 e F S hs=>⟨[],S,rfl,Keeps.refl S,trivial⟩
theorem Xo(h:VE A m (rV enc) p)(hl:VA A ml q ar):VA A (AF m ml) (p.bind λx=>q.bind λy=>some (x,y)) (λz=>.v (enc z.1) :: ar z.2):=λv hv S0 e F S hs=>by
 obtain⟨x,h1,h2⟩:=BO hv;obtain⟨y,t6,h3⟩:=BO h2;cases h3;obtain⟨d,S1,h4,h5,rfl⟩:=h x h1 S0 e F S hs;obtain⟨ds,S2,h6,h7,h8⟩:=hl y t6 S0 e _ S1 (hs.grow h5);exact⟨_,S2,BH h4 h6,h5.trans h7,rfl,h8⟩
theorem PZ(h:VE A m (rO ob) p)(hl:VA A ml q ar):VA A (AF m ml) (p.bind λx=>q.bind λy=>some (x,y)) (λz=>.z (ob z.1) :: ar z.2):=λv hv S0 e F S hs=>by
 obtain⟨x,h1,h2⟩:=BO hv;obtain⟨y,t6,h3⟩:=BO h2;cases h3;obtain⟨d,S1,h4,h5,n,rfl,h0⟩:=h x h1 S0 e F S hs;obtain⟨ds,S2,h6,h7,h8⟩:=hl y t6 S0 e _ S1 (hs.grow h5);exact⟨_,S2,BH h4 h6,h5.trans h7,⟨n,rfl,h7.at h0⟩,h8⟩
theorem HW(ha:VA A ml p ar)(hf:∀z,VF f (ar z) R (q z))(hn:∀z,(ar z).length=n)(hR:∀v S S1 d S',S.length<=S1.length->R v S1 d S'->R v S d S'):VE A (BG n f ml) R (p.bind q):=λv hv S0 e F S hs=>by
 obtain⟨z,h1,h2⟩:=BO hv;obtain⟨ds,S1,h3,h4,h5⟩:=ha z h1 S0 e F S hs;obtain⟨d,S2,h6,h7,h8⟩:=hf z v h2 S1 ds h5;exact⟨d,S2,(Bz h3 (h5.len.trans (hn z))).trans h6,h4.trans h7,hR _ _ _ _ _ h4.1 h8⟩
def Rf(S:Sto):Fz:=λn=>match S[n]? with
 | some o=>.fz o
 | none=>.no
theorem Vs.start(h:Lz S as ds):Vs S (as.map Ar.sl++Ak (n - as.length) .u) (Cm n ds) (Rf S) S:=by
 refine⟨Keeps.refl S,λn o q=>?_,λn i q=>?_,λn hn=>by unfold Rf;rw[Bl hn],λi a ha=>?_⟩
 ·unfold Rf at q
  split at q
  ·rename_i o' ho;cases q;exact ho
  ·cases q
 ·unfold Rf at q
  split at q <;> cases q
 ·unfold Cm
  by_cases c:i < as.length
  ·rw[Ag (by rw[AE];exact c),AS]at ha
   rw[Ag (by rw[AE,h.len];exact c),AS]
   cases hq:as[i]? with
   | none=>rw[hq]at ha;cases ha
   | some b=>
    rw[hq]at ha;cases ha;obtain⟨d,h1,h2⟩:=h.at i b hq;refine⟨some d,by rw[h1];rfl,?_⟩
    cases b with
    | v x=>exact congrArg some h2
    | z o=>obtain⟨m,h3,h4⟩:=h2;exact⟨m,congrArg some h3,by unfold Rf;rw[h4]⟩
    | q P=>exact⟨d,rfl,λL hL=>h2 L λn o q=>hL n o (by unfold Rf;rw[q])⟩
  ·rw[BB (by rw[AE];lia)]at ha
   rw[AE,DN]at ha;split at ha
   ·rename_i oM
    cases ha;refine⟨none,?_,trivial⟩;rw[BB (by rw[AE,h.len];lia),AE,h.len,DN,qX oM]
   ·cases ha
def SF(p:Option (Fw ρ σ)):Option ρ:=match p with
 | some (.rt r)=>some r
 | _=>none
def mM(p:Option (Fw Unit σ)):Option Unit:=match p with
 | some (.rt r)=>some ()
 | some (.nx _)=>some ()
 | _=>none
end
section
variable{S0 S S':Sto}{A:List Sl}{α β:Type}
section
variable{a b c:ME}{pa pb pc:Option Int}
theorem Za(ha:VE A a (rV D.int) pa)(hb:VE A b (rV D.int) pb):VE A (m2 FJ a b) (rV D.int) (pa.bind λx=>pb.bind λy=>some (x+y)):=KP ha hb λx y z S h=>by cases h;rfl
theorem U8(ha:VE A a (rV D.int) pa)(hb:VE A b (rV D.int) pb):VE A (m2 Zl a b) (rV D.int) (pa.bind λx=>pb.bind λy=>some (x - y)):=KP ha hb λx y z S h=>by cases h;rfl
def Vj(x y:Int):Option Int:=if Sx x y then some (x * y)else none
def T6(x y:Int):Option Int:=if 0 < y then some (x % y)else none
theorem ZW(ha:VE A a (rV D.int) pa)(hb:VE A b (rV D.int) pb):VE A (m2 Kv a b) (rV D.int) (pa.bind λx=>pb.bind λy=>Vj x y):=KP ha hb λx y z S h=>by
 unfold Vj at h;split at h
 ·rename_i hc;cases h;exact qX hc
 ·cases h
theorem VC(ha:VE A a (rV D.int) pa)(hb:VE A b (rV D.int) pb):VE A (m2 DZ a b) (rV D.int) (pa.bind λx=>pb.bind λy=>T6 x y):=KP ha hb λx y z S h=>by
 unfold T6 at h;split at h
 ·rename_i hc;cases h;exact Dh hc
 ·cases h
theorem TY(hk:(decide (0 < k)&&decide (k<=1000000))=true)(ha:VE A a (rV D.int) pa):VE A (m2 Jj a (mC (.int k))) (rV D.int) (pa.bind λx=>some (x / k)):=λv hv S0 e F S hs=>by
 obtain⟨x,h1,h2⟩:=BO hv;cases h2;obtain⟨d,S',h3,h4,rfl⟩:=ha x h1 S0 e F S hs;have qb:=EN _ _▸hk;exact⟨_,S',BF h3 rfl (NP (of_decide_eq_true qb.1) (of_decide_eq_true qb.2)),h4,rfl⟩
theorem dC(hk:decide (0 < k)=true)(ha:VE A a (rV D.int) pa):VE A (m2 DZ a (mC (.int k))) (rV D.int) (pa.bind λx=>some (x % k)):=λv hv S0 e F S hs=>by
 obtain⟨x,h1,h2⟩:=BO hv;cases h2;obtain⟨d,S',h3,h4,rfl⟩:=ha x h1 S0 e F S hs;exact⟨_,S',BF h3 rfl (Dh (of_decide_eq_true hk)),h4,rfl⟩
theorem dB(hk:(decide (-1000000<=k)&&decide (k<=1000000))=true)(ha:VE A a (rV D.int) pa):VE A (m2 Kv a (mC (.int k))) (rV D.int) (pa.bind λx=>some (x * k)):=λv hv S0 e F S hs=>by
 obtain⟨x,h1,h2⟩:=BO hv;cases h2;obtain⟨d,S',h3,h4,rfl⟩:=ha x h1 S0 e F S hs;have qb:=EN _ _▸hk;exact⟨_,S',BF h3 rfl (ei (of_decide_eq_true qb.1) (of_decide_eq_true qb.2)),h4,rfl⟩
theorem lX(ha:VE A a (rV D.int) pa)(hb:VE A b (rV D.int) pb):VE A (m2 ltD a b) (rV D.bl) (pa.bind λx=>pb.bind λy=>some (decide (x < y))):=KP ha hb λx y z S h=>by cases h;rfl
theorem ZZ{f g:D->D->Sto->Res D}{P Q:Int->Int->Bool}(hf:∀x y S,f (.int x) (.int y) S=.ok (.bl (P x y)) S)(hg:∀x y S,g (.int x) (.int y) S=.ok (.bl (Q x y)) S)(ha:VE A a (rV D.int) pa)(hb:VE A b (rV D.int) pb)(hc:VE A c (rV D.int) pc) :
  VE A (m3 f g a b c) (rV D.bl) (pa.bind λx=>pb.bind λy=>if P x y=true then pc.bind λz=>some (Q y z)else some false):=λv hv S0 e F S hs=>by
 obtain⟨x,h1,hv⟩:=BO hv;obtain⟨y,h2,h3⟩:=BO hv;obtain⟨d1,S1,q1,k1,rfl⟩:=ha x h1 S0 e F S hs;obtain⟨d2,S2,q2,k2,rfl⟩:=hb y h2 S0 e _ S1 (hs.grow k1);have e1:=hf x y S2
 cases hp:P x y with
 | false=>
  rw[hp]at h3 e1;cases h3;exact⟨_,S2,gt q1 q2 e1,k1.trans k2,rfl⟩
 | true=>
  rw[hp]at h3 e1;rw[qX rfl]at h3;obtain⟨w,h4,h5⟩:=BO h3;cases h5;obtain⟨d3,S3,q3,k3,rfl⟩:=hc w h4 S0 e _ S2 ((hs.grow k1).grow k2);exact⟨_,S3,Wr q1 q2 e1 q3 (hg y w S3),(k1.trans k2).trans k3,rfl⟩
theorem nR(x y:Int)(S:Sto):ltD (.int x) (.int y) S=.ok (.bl (decide (x < y))) S:=rfl
theorem nS(x y:Int)(S:Sto):leD (.int x) (.int y) S=.ok (.bl (decide (x<=y))) S:=rfl
theorem WZ(ha:VE A a (rV D.int) pa)(hb:VE A b (rV D.int) pb):VE A (mQ ND (AF a (AF b Aj))) (rV D.int) (pa.bind λx=>pb.bind λy=>some (if y < x then y else x)):=λv hv S0 e F S hs=>by
 obtain⟨x,h1,hv⟩:=BO hv;obtain⟨y,h2,h3⟩:=BO hv;cases h3;obtain⟨d1,S1,q1,k1,rfl⟩:=ha x h1 S0 e F S hs;obtain⟨d2,S2,q2,k2,rfl⟩:=hb y h2 S0 e _ S1 (hs.grow k1);exact⟨_,S2,Z2 (BH q1 (BH q2 rfl)) rfl,k1.trans k2,rfl⟩
theorem Wa(ha:VE A a (rV D.int) pa)(hb:VE A b (rV D.int) pb):VE A (mQ NF (AF a (AF b Aj))) (rV D.int) (pa.bind λx=>pb.bind λy=>some (if y > x then y else x)):=λv hv S0 e F S hs=>by
 obtain⟨x,h1,hv⟩:=BO hv;obtain⟨y,h2,h3⟩:=BO hv;cases h3;obtain⟨d1,S1,q1,k1,rfl⟩:=ha x h1 S0 e F S hs;obtain⟨d2,S2,q2,k2,rfl⟩:=hb y h2 S0 e _ S1 (hs.grow k1);exact⟨_,S2,Z2 (BH q1 (BH q2 rfl)) rfl,k1.trans k2,rfl⟩
end
def EqN(n:Nat)(enc:α->D)[DecidableEq α]:Prop:=∀x y,eqP n (enc x) (enc y)=some (decide (x=y))
def NL(enc:α->D):Prop:=∀x S,QB (enc x) S=none
theorem IH:EqN n D.int:=λx y=>by
 have:LB (.int x) (.int y)=some (decide (x=y)):=rfl
 cases n <;> exact this
theorem kU:EqN n D.bl:=λx y=>by
 have:LB (.bl x) (.bl y)=some (decide (x=y)):=by cases x <;> cases y <;> rfl
 cases n <;> exact this
theorem bY{n:Nat}{a:α->D}{b:β->D}[DecidableEq α][DecidableEq β](ha:EqN n a)(hb:EqN n b):EqN (n+1) (eP a b):=λx y=>by
 show eqL (eqP n) [a x.1,b x.2] [a y.1,b y.2]=_;unfold eqL eqL eqL;rw[ha,hb];obtain⟨x1,x2⟩:=x;obtain⟨y1,y2⟩:=y
 by_cases c:x1=y1 <;> by_cases d:x2=y2 <;> simp[c,d]
theorem P2:NL D.int:=λ_ _=>rfl
theorem mV:NL D.bl:=λ_ _=>rfl
section
variable{a b:ME}{enc:α->D}[DecidableEq α]
theorem bZ(h:EqN 8 enc)(n:NL enc)(neg:Bool)(x y:α)(S:Sto):eqD neg (enc x) (enc y) S=.ok (.bl (if neg then !decide (x=y)else decide (x=y))) S:=by
 unfold eqD eqB;rw[n x S,n y S];dsimp only;rw[h x y]
theorem TZ(h:EqN 8 enc)(n:NL enc)(ha:VE A a (rV enc) pa)(hb:VE A b (rV enc) pb):VE A (m2 (eqD false) a b) (rV D.bl) (pa.bind λx=>pb.bind λy=>some (decide (x=y))):=KP ha hb λx y z S q=>by cases q;exact bZ h n false x y S
theorem lW(h:EqN 8 enc)(n:NL enc)(ha:VE A a (rV enc) pa)(hb:VE A b (rV enc) pb):VE A (m2 (eqD true) a b) (rV D.bl) (pa.bind λx=>pb.bind λy=>some (!decide (x=y))):=KP ha hb λx y z S q=>by cases q;exact bZ h n true x y S
theorem Ub(h:EqN 8 enc)(x:α):∀l:List α,Ly (enc x) (l.map enc)=some (decide (x∈l))
 | []=>by simp[Ly]
 | y :: l=>by
  rw[BA];unfold Ly;rw[h y x,Ub h x l]
  by_cases c:y=x
  ·subst c;simp
  ·have:¬x=y:=λz=>c z.symm
   simp[c,this]
theorem bG(h:EqN 8 enc)(neg:Bool)(x:α){l:List α}{d:D}{S:Sto}(hs:Gm d S=some (l.map enc)):inA neg (enc x) d S=.ok (.bl (if neg then !decide (x∈l)else decide (x∈l))) S:=by
 show Gp (inD neg (enc x) d S) _=_
 have e:inD neg (enc x) d S=.ok (.bl (if neg then !decide (x∈l)else decide (x∈l))) S:=by
  unfold inD;rw[hs];dsimp only;rw[Ub h]
 rw[e];rfl
theorem dA{pl:Option (List α)}(h:EqN 8 enc)(ha:VE A a (rV enc) pa)(hb:VE A b (rV (eT enc)) pl):VE A (m2 (inA true) a b) (rV D.bl) (pa.bind λx=>pl.bind λl=>some (!decide (x∈l))):=KP ha hb λx l z S q=>by cases q;exact bG h true x rfl
theorem WY{pl:Option (List α)}(h:EqN 8 enc)(ha:VE A a (rV enc) pa)(hb:VE A b (rO (oL enc)) pl):VE A (m2 (inA true) a b) (rV D.bl) (pa.bind λx=>pl.bind λl=>some (!decide (x∈l))):=U9 ha hb λx l z S n hn q=>by cases q;exact bG h true x (Dr hn)
end
section
variable{a b m:ME}
theorem fy(l:List α)(i:Int)(f:α->β):atI (l.map f) i=(atI l i).map f:=by
 unfold atI;rw[AE]
 cases ixN l.length i with
 | none=>rfl
 | some j=>show(l.map f)[j]?=(l[j]?).map f;rw[AS]
theorem bA(hs:Gm d S=some (l.map enc))(h:atI l i=some x):ixA d (.int i) S=.ok (enc x) S:=by
 show Gp (ixD d (.int i) S) _=_
 have:ixD d (.int i) S=.ok (enc x) S:=by
  unfold ixD;rw[hs];dsimp only;rw[fy,h];rfl
 rw[this];rfl
theorem ZX(ha:VE A a (rV (eT enc)) pl)(hb:VE A b (rV D.int) pi):VE A (m2 ixA a b) (rV enc) (pl.bind λl=>pi.bind λi=>atI l i):=KP ha hb λl i z S q=>bA rfl q
theorem Nh(ha:VE A a (rO (oL enc)) pl)(hb:VE A b (rV D.int) pi):VE A (m2 ixA a b) (rV enc) (pl.bind λl=>pi.bind λi=>atI l i):=VD ha hb λl i z S n hn q=>bA (Dr hn) q
theorem dD(ha:VE A a (rO (oL enc)) pl):VE A (J9 a) (rV D.int) (pl.bind λl=>some (l.length:Int)):=λv hv S0 e F S hs=>by
 obtain⟨l,h1,h2⟩:=BO hv;cases h2;obtain⟨d,S',h3,h4,n,rfl,hn⟩:=ha l h1 S0 e F S hs;exact⟨_,S',(N0 (ds:=l.map enc) h3 (Dr hn)).trans (by rw[AE]),h4,rfl⟩
theorem UJ:∀ns:List Int,IB (ns.map D.int)=some ns
 | []=>rfl
 | x :: ns=>by rw[BA];unfold IB;rw[UJ ns];rfl
theorem RA(ha:VE A a (rO (oL enc)) pl):VE A (GF a) (rV (eT enc)) pl:=λl hv S0 e F S hs=>by
 obtain⟨d,S',h3,h4,n,rfl,hn⟩:=ha l hv S0 e F S hs;exact⟨_,S',JU h3 (Dr hn),h4,rfl⟩
theorem WU(ha:VE A a (rO (oL enc)) pl):VL A (Qq a) enc pl:=λl hv S0 e F S hs=>by
 obtain⟨d,S',h3,h4,n,rfl,hn⟩:=ha l hv S0 e F S hs;exact⟨S',lq h3 (Dr hn),h4⟩
theorem cx(h:VL A ml enc pl):VL A (mN Wu ml) enc pl:=λl hv S0 e F S hs=>by
 obtain⟨S',h3,h4⟩:=h l hv S0 e F S hs;exact⟨S',by unfold mN;rw[h3];rfl,h4⟩
theorem XM:∀l:List Bool,V4 (l.map D.bl)=some l
 | []=>rfl
 | x :: l=>by rw[BA];unfold V4;rw[XM l];rfl
theorem iV{pl}(h:VL A ml D.bl pl):VE A (mQ gH ml) (rV D.bl) (pl.bind λl=>some (l.all id)):=λv hv S0 e F S hs=>by
 obtain⟨l,h1,h2⟩:=BO hv;cases h2;obtain⟨S',h3,h4⟩:=h l h1 S0 e F S hs;refine⟨_,S',Z2 h3 ?_,h4,rfl⟩;unfold gH ft;rw[XM]
theorem iN:VL A Aj enc (some []):=λv hv S0 e F S hs=>by cases hv;exact⟨S,rfl,Keeps.refl S⟩
theorem cz(h:VE A m (rV enc) p)(hl:VL A ml enc pl):VL A (AF m ml) enc (p.bind λx=>pl.bind λl=>some (x :: l)):=λv hv S0 e F S hs=>by
 obtain⟨x,h1,h2⟩:=BO hv;obtain⟨l,t6,h3⟩:=BO h2;cases h3;obtain⟨d,S1,h4,h5,rfl⟩:=h x h1 S0 e F S hs;obtain⟨S2,h6,h7⟩:=hl l t6 S0 e _ S1 (hs.grow h5);exact⟨S2,BH h4 h6,h5.trans h7⟩
def fS(l:List α):Option (List α):=if l.length<=1000000 then some l else none
theorem iR(h:VL A ml enc pl):VE A (Ga ml) (rV (eT enc)) (pl.bind fS):=λv hv S0 e F S hs=>by
 obtain⟨l,h1,h2⟩:=BO hv;unfold fS at h2;split at h2
 ·rename_i hl
  cases h2;obtain⟨S',h3,h4⟩:=h _ h1 S0 e F S hs;refine⟨_,S',?_,h4,rfl⟩;unfold Ga;rw[h3];dsimp only[Res.bind];rw[qX (by rw[AE];exact jp hl)];rfl
 ·cases h2
theorem WX(ha:VE A a (rV a') pa)(hb:VE A b (rV b') pb):VE A (Ga (AF a (AF b Aj))) (rV (eP a' b')) (pa.bind λx=>pb.bind λy=>some (x,y)):=λv hv S0 e F S hs=>by
 obtain⟨x,h1,hv⟩:=BO hv;obtain⟨y,h2,h3⟩:=BO hv;cases h3;obtain⟨d1,S1,q1,k1,rfl⟩:=ha x h1 S0 e F S hs;obtain⟨d2,S2,q2,k2,rfl⟩:=hb y h2 S0 e _ S1 (hs.grow k1);exact⟨_,S2,Nl (ds:=[a' x,b' y]) (BH q1 (BH q2 rfl)) (by simp),k1.trans k2,rfl⟩
theorem dF(ha:VE A a (rO (oL enc)) pl)(hb:VE A b (rO (oL enc)) pk):VE A (m2 FJ a b) (rN (oL enc)) (pl.bind λl=>pk.bind λk=>UP l k):=λv hv S0 e F S hs=>by
 obtain⟨x,h1,hv⟩:=BO hv;obtain⟨y,h2,h3⟩:=BO hv;obtain⟨d1,S1,q1,k1,n,rfl,hn⟩:=ha x h1 S0 e F S hs;obtain⟨d2,S2,q2,k2,m,rfl,hm⟩:=hb y h2 S0 e _ S1 (hs.grow k1);unfold UP at h3;split at h3
 ·rename_i hl
  cases h3;refine⟨_,_,BF q1 q2 (d:=.ref S2.length) (S3:=S2++[oL enc (x++y)]) ?_,(k1.trans k2).trans (Keeps.app _ _),_,rfl,(k1.trans k2).1,Bj _ _⟩;unfold FJ;dsimp only;rw[k2.at hn,hm];unfold oL;dsimp only;rw[qX (by rw[AE,AE];exact jp hl),A9]
 ·cases h3
def R4(l:List (List Int)):Option (List (List Int)):=if l.all (λr=>!r.isEmpty)=true then some (G8 l)else none
theorem Po:∀rs:List (List Int),rs.all (λr=>!r.isEmpty)=true->Ko (rs.map E0)=some rs
 | [],_=>rfl
 | [] :: rs,h=>by simp at h
 | (x :: r) :: rs,h=>by
  rw[iF,EN]at h;show Ko (.tup ((x :: r).map D.int) :: rs.map E0)=_;unfold Ko;rw[UJ,Po rs h.2]
theorem ZU{pl}(ha:VE A a (rO (oL (eT D.int))) pl):VE A (Ey a) (rN (oL (eT D.int))) (pl.bind R4):=λv hv S0 e F S hs=>by
 obtain⟨l,h1,h2⟩:=BO hv;obtain⟨d,S',h3,h4,n,rfl,hn⟩:=ha l h1 S0 e F S hs;unfold R4 at h2;split at h2
 ·rename_i hl
  cases h2;refine⟨_,_,JW h3 (MX hn) (es:=(G8 l).map E0) ?_,h4.trans (Keeps.app _ _),_,rfl,h4.1,Bj _ _⟩
  cases l with
  | nil=>show some ((Et []).map D.int)=some ((G8 []).map E0);rw[RH];unfold G8;rw[Y5];rfl
  | cons x l=>
   unfold Kn;rw[show IB (Lk (eT D.int) (x :: l))=none from rfl,show Ko (Lk (eT D.int) (x :: l))=some (x :: l)from Po _ hl]
 ·cases h2
theorem iO(ha:VE A a (rV (eT enc)) pl):VI A (G4 a) enc pl:=λl hv S0 e F S hs=>by
 obtain⟨d,S',h3,h4,rfl⟩:=ha l hv S0 e F S hs;exact⟨_,S',NN (xs:=l.map enc) h3,h4,λ_ _ _ _=>rfl⟩
theorem c8(h:A[i]?=some (.y (oL enc l))):VI A (G4 (AA i)) enc (some l):=λ_ hv S0 e F S hs=>by
 cases hv;obtain⟨x,h1,n,rfl,h2,_⟩:=hs.sl i _ h;have hn:=hs.fz _ _ h2;exact⟨_,S,Jc (n:=n) (by unfold AA;rw[h1]) hn,Keeps.refl S,λF2 S2 hF h=>FO (h n _ (hF _ _ (by rw[Hm (B5 hn)];exact h2)))⟩
def JB(lo:Int)(n:Nat):List Int:=(A7 n).map λi:Nat=>lo+i
def SC(j:Int):Option (List Int):=if -1000000<=j/\j<=1000000 then some (JB 0 j.toNat)else none
def X8(i j:Int):Option (List Int):=if -1000000<=i/\i<=1000000/\-1000000<=j/\j<=1000000 then some (JB i (j - i).toNat)else none
theorem Zy(lo:Int)(n:Nat):DE lo n=(JB lo n).map D.int:=by
 unfold DE JB;rw[A2];rfl
theorem JS(ha:VE A a (rV D.int) pi):VI A (iR1 (AF a Aj)) D.int (pi.bind SC):=λl hv S0 e F S hs=>by
 obtain⟨j,h1,h2⟩:=BO hv;obtain⟨d,S',h3,h4,rfl⟩:=ha j h1 S0 e F S hs;unfold SC at h2;split at h2
 ·rename_i hj
  cases h2;exact⟨_,S',K7 (j:=j) (BH h3 rfl) hj.1 hj.2,h4,λ_ _ _ _=>congrArg some (Zy _ _)⟩
 ·cases h2
theorem Q9(ha:VE A a (rV D.int) pi)(hb:VE A b (rV D.int) pj):VI A (iR2 (AF a (AF b Aj))) D.int (pi.bind λi=>pj.bind λj=>X8 i j):=λl hv S0 e F S hs=>by
 obtain⟨i,h1,hv⟩:=BO hv;obtain⟨j,h0,h2⟩:=BO hv;obtain⟨d,S1,h3,h4,rfl⟩:=ha i h1 S0 e F S hs;obtain⟨d,S2,h5,h6,rfl⟩:=hb j h0 S0 e _ S1 (hs.grow h4);unfold X8 at h2;split at h2
 ·rename_i hj
  cases h2;exact⟨_,S2,bH (i:=i) (j:=j) (BH h3 (BH h5 rfl)) hj.1 hj.2.1 hj.2.2.1 hj.2.2.2,h4.trans h6,λ_ _ _ _=>congrArg some (Zy _ _)⟩
 ·cases h2
def OQ(l:List α):List (Int×α):=l.zipIdx.map λx=>((x.2:Int),x.1)
theorem Ym(l:List α):N9 (l.map enc)=(OQ l).map (eP D.int enc):=by
 unfold N9 OQ;rw[List.zipIdx_map,A2,A2];rfl
theorem PQ(ha:VE A a (rV (eT enc)) pl):VI A (N3 a) (eP D.int enc) (pl.bind λl=>some (OQ l)):=λv hv S0 e F S hs=>by
 obtain⟨l,h1,h2⟩:=BO hv;cases h2;obtain⟨d,S',h3,h4,rfl⟩:=ha l h1 S0 e F S hs;refine⟨WW (Fj (eT enc l)),S',?_,h4,λF2 S2 hF h=>?_⟩
 ·unfold N3
  rw[h3];rfl
 ·show some (N9 (l.map enc))=_
  rw[Ym]
end
end
section
variable{α β ρ σ κ κ':Type}
def oDK(enc:α->D)(l:List (Int×α)):Ob:=.dK (l.map λx=>(CD x.1,enc x.2))
theorem Tb[DecidableEq κ][DecidableEq κ']{kk:κ->κ'}(hk:∀x y,kk x=kk y->x=y)(f:α->β)(l:List (κ×α))(k:κ):A5 (l.map λx=>(kk x.1,f x.2)) (kk k)=(A5 l k).map f:=by
 unfold A5
 induction l with
 | nil=>rfl
 | cons x l ih=>
  rw[BA,BV,BV]
  by_cases c:x.1=k
  ·rw[wX c,wX (show kk x.1=kk k by rw[c])]
   rfl
  ·rw[wY c,wY λz=>c (hk _ _ z)]
   exact ih
theorem Tx[DecidableEq κ][DecidableEq κ']{kk:κ->κ'}(hk:∀x y,kk x=kk y->x=y)(f:α->β)(l:List (κ×α))(k:κ)(v:α):CA (l.map λx=>(kk x.1,f x.2)) (kk k) (f v)=(CA l k v).map λx=>(kk x.1,f x.2):=by
 have any:((l.map λx=>(kk x.1,f x.2)).any λkv=>decide (kv.1=kk k))=l.any λkv=>decide (kv.1=k):=by
  rw[List.any_map]
  congr 1
  funext x
  exact decide_eq_decide.mpr ⟨hk _ _,λz=>congrArg kk z⟩
 unfold CA;rw[any];split
 ·rw[A2,A2]
  refine CO λx _=>?_
  show(if kk x.1=kk k then(kk x.1,f v)else(kk x.1,f x.2))=_
  by_cases c:x.1=k
  ·show _=(λx:κ×α=>(kk x.1,f x.2)) (if x.1=k then(x.1,v)else x)
   rw[qX c,qX (show kk x.1=kk k by rw[c])]
  ·show _=(λx:κ×α=>(kk x.1,f x.2)) (if x.1=k then(x.1,v)else x)
   rw[qY c,qY λz=>c (hk _ _ z)]
 ·rw[A9]
  rfl
theorem Ox(x y:Int)(h:(CD x:Key)=CD y):x=y:=by cases h;rfl
theorem UU{enc:α->D}{l:List (Int×α)}{n:Nat}{S:Sto}(h:S[n]?=some (oDK enc l))(k:Int):Lf (.ref n) (.int k) S=some ((A5 l k).map enc):=by
 unfold Lf;dsimp only;rw[h];show some (A5 _ (CD k))=_;rw[Tb Ox]
theorem V0(hq:Gm (.ref n) S=none)(h:Lf (.ref n) y S=some o)(neg:Bool):inA neg y (.ref n) S=.ok (.bl (if neg then !o.isSome else o.isSome)) S:=by
 show Gp (inD neg y (.ref n) S) (KH neg y (.ref n) S)=_;rw[show inD neg y (.ref n) S=.bad by unfold inD;rw[hq]];show KH neg y (.ref n) S=_;unfold KH;rw[h]
theorem Vz(hq:Gm (.ref n) S=none)(h:Lf (.ref n) y S=some (some d)):ixA (.ref n) y S=.ok d S:=by
 show Gp (ixD (.ref n) y S) (Lx (.ref n) y S)=_;rw[show ixD (.ref n) y S=.bad by unfold ixD;rw[hq]];show Lx (.ref n) y S=_;unfold Lx;rw[h]
theorem Zu(h:S[n]?=some (oDK enc l)):Gm (.ref n) S=none:=by unfold Gm;dsimp only;rw[h];rfl
section
theorem PV:VE A Hv (rN (oDK enc)) (some []):=λv hv S0 e F S hs=>by cases hv;exact⟨_,_,rfl,Keeps.app _ _,_,rfl,AN _,Bj _ _⟩
theorem dE{pk}{pl}(ha:VE A a (rV D.int) pk)(hb:VE A b (rO (oDK enc)) pl):VE A (m2 (inA false) a b) (rV D.bl) (pk.bind λx=>pl.bind λl=>some (A5 l x).isSome):=U9 ha hb λx l z S n hn q=>by cases q;rw[V0 (Zu hn) (UU hn x)];simp
theorem PU{pk}{pl}(ha:VE A a (rV D.int) pk)(hb:VE A b (rO (oDK enc)) pl):VE A (m2 (inA true) a b) (rV D.bl) (pk.bind λx=>pl.bind λl=>some (!(A5 l x).isSome)):=U9 ha hb λx l z S n hn q=>by cases q;rw[V0 (Zu hn) (UU hn x)];simp
theorem ZY(ha:VE A a (rO (oDK enc)) pl)(hb:VE A b (rV D.int) pk):VE A (m2 ixA a b) (rV enc) (pl.bind λl=>pk.bind λx=>A5 l x):=VD ha hb λl x z S n hn q=>Vz (Zu hn) (by rw[UU hn x,q];rfl)
def M4[DecidableEq κ](l:List (κ×α))(k:κ)(v:α):Option (List (κ×α)):=if l.length < 1000000 then some (CA l k v)else none
theorem cr{ek:κ->D}[DecidableEq κ]{ob:List (κ×α)->Ob}{R:Rk ρ}{p:Option α}{pk:Option κ}{i:Nat}{l:List (κ×α)}
  (rC:∀(l:List (κ×α)) (k:κ) (v:α) (S:Sto) (n:Nat),S[n]?=some (ob l)->l.length < 1000000->Qv (.ref n) (ek k) (enc v) S=some (S.set n (ob (CA l k v))))
  (hi:A[i]?=some (.w i (ob l))) (hk:VE A b (rV ek) pk) (h:VE A m (rV enc) p) (ht:((A.set i .u).all (Sl.oth i))=true) :
  VS A (DL (AA i) b m) R (p.bind λv=>pk.bind λk=>(M4 l k v).bind λl'=>some (.nx l')) (λl'=>A.set i (.w i (ob l'))):=λf hf S0 e F S hs=>by
 obtain⟨v,h1,h2⟩:=BO hf;obtain⟨k,t6,h3⟩:=BO h2;obtain⟨l',h4,h0⟩:=BO h3;cases h0;unfold M4 at h4;split at h4
 ·rename_i hl
  cases h4;obtain⟨x,g1,n,rfl,g2,g3⟩:=hs.sl i _ hi;obtain⟨d,S1,h5,h6,rfl⟩:=h v h1 S0 e F S hs;obtain⟨d,S2,h7,h8,rfl⟩:=hk k t6 S0 e _ S1 (hs.grow h6);have hg:=(hs.grow h6).grow h8;have hn:=(h6.trans h8).at g3
  have hx:DL (AA i) b m e S=.ok (.nx e) (S2.set n (ob (CA l k v))):=by
   unfold DL;rw[h5];dsimp only[Res.lift];rw[show AA i e S1=.ok (.ref n) S1 by unfold AA;rw[g1]];dsimp only;rw[h7];dsimp only;rw[rC l k v S2 n hn hl]
  have hF:N7 (N7 F S S1) S1 S2 n=.ow i:=by rw[Hm (B5 (h6.at g3)),Hm (B5 g3)];exact g2
  exact⟨_,_,hx,e,_,rfl,hg.put ht hi g1 hF,(hs.fle S1).trans ((hs.grow h6).fle S2)⟩
 ·cases h4
theorem PJ{R:Rk ρ}{p:Option α}{pk:Option Int}{i:Nat}{l:List (Int×α)}(hi:A[i]?=some (.w i (oDK enc l)))(hk:VE A b (rV D.int) pk)(h:VE A m (rV enc) p)(ht:((A.set i .u).all (Sl.oth i))=true) :
  VS A (DL (AA i) b m) R (p.bind λv=>pk.bind λk=>(M4 l k v).bind λl'=>some (.nx l')) (λl'=>A.set i (.w i (oDK enc l'))):=
 cr (λl k v S n hn hl=>by
  unfold Qv;dsimp only;rw[hn];show(if (l.map _).length < sizeLine then some (S.set n (.dK (CA (l.map λx=>(CD x.1,enc x.2)) (CD k) (enc v))))else none)=_;rw[qX (by rw[AE];exact eo hl),Tx Ox]
  rfl) hi hk h ht
theorem dH(h:VE A m (rO (oL enc)) pl):VB A (Lc m) (pl.bind λl=>some (!l.isEmpty)):=λv hv S0 e F S hs=>by
 obtain⟨l,h1,h2⟩:=BO hv;cases h2;obtain⟨d,S',h3,h4,n,rfl,hn⟩:=h l h1 S0 e F S hs;refine⟨S',?_,h4⟩;unfold Lc;rw[h3];dsimp only[Res.bind]
 have:P6 (.ref n) S'=some (!l.isEmpty):=by
  unfold P6;dsimp only;rw[hn]
  cases l <;> rfl
 rw[this]
theorem iM{b:MS}{R:Rk ρ}{B:σ->List Sl}:VS A b R none B:=λf hf=>by cases hf
def ii(r:List Int):Int×Int:=(r.getD 0 0,r.getD 1 0)
def Km(l:List (Int×Int)):List (Int×Int):=(G8 (l.map λx=>[x.1,x.2])).map ii
theorem dX(l:List (Int×Int)):(G8 (l.map λx=>[x.1,x.2])).map E0=(Km l).map (eP D.int D.int):=by
 unfold Km;rw[A2]
 refine CO λr hr=>?_
 obtain⟨x,_,rfl⟩:=An.mp ((GB _).mem_iff.mp hr);rfl
theorem ZV(ha:VE A a (rO (oL (eP D.int D.int))) pl):VE A (Ey a) (rN (oL (eP D.int D.int))) (pl.bind λl=>some (Km l)):=λv hv S0 e F S hs=>by
 obtain⟨l,h1,h2⟩:=BO hv;cases h2;obtain⟨d,S',h3,h4,n,rfl,hn⟩:=ha l h1 S0 e F S hs;refine⟨_,_,JW h3 (MX hn) (es:=(Km l).map (eP D.int D.int)) ?_,h4.trans (Keeps.app _ _),_,rfl,h4.1,Bj _ _⟩;rw[<-dX]
 cases l with
 | nil=>show some ((Et []).map D.int)=some ((G8 []).map E0);rw[RH];unfold G8;rw[Y5];rfl
 | cons x l=>
  have hr:Ko (Lk (eP D.int D.int) (x :: l))=some ((x :: l).map λx=>[x.1,x.2]):=by
   have:=Po ((x :: l).map λx=>[x.1,x.2]) (Fg.mpr λr hr=>by obtain⟨y,_,rfl⟩:=An.mp hr;rfl);rw[A2]at this;exact this
  unfold Kn;rw[show IB (Lk (eP D.int D.int) (x :: l))=none from rfl,hr]
end
end
section
variable{α ρ σ:Type}
theorem Ci:C6 (some (.nx s)) q=q s:=rfl
theorem bT(I:List α->σ->Prop)(R:ρ->Prop)(h0:I [] s0)(h:∀pre x s,x∈l->pre++[x] <+: l->I pre s->(∃s',q s x=some (.nx s')/\I (pre++[x]) s')∨∃r,q s x=some (.rt r)/\R r):(∃s,KW l s0 q=some (.nx s)/\I l s)∨∃r,KW l s0 q=some (.rt r)/\R r:=by
 have key:∀(r pre:List α) (s:σ),l=pre++r->I pre s->(∃s',KW r s q=some (.nx s')/\I l s')∨∃y,KW r s q=some (.rt y)/\R y:=by
  intro r
  induction r with
  | nil=>intro pre s e hI;rw[BE]at e;subst e;exact .inl ⟨s,rfl,hI⟩
  | cons x r ih=>
   intro pre s e hI
   rcases h pre x s (by rw[e];simp) ⟨r,by rw[e];simp⟩ hI with⟨s',h1,h2⟩ | ⟨y,h1,h2⟩
   ·have e':KW (x :: r) s q=KW r s' q:=by
     conv=>lhs;unfold KW
     rw[h1]
    rw[e'];exact ih (pre++[x]) s' (by rw[e];simp) h2
   ·refine .inr ⟨y,?_,h2⟩
    unfold KW;rw[h1]
 exact key l [] s0 rfl h0
theorem bj(hc:∀x∈l,c x=some (P x))(hm:∀x∈l,P x=true->m x=some (f x)):QO c m l=some ((l.filter P).map f):=by
 induction l with
 | nil=>rfl
 | cons x l ih=>
  have ih:=ih (λy hy=>hc y (AT _ hy)) λy hy=>hm y (AT _ hy)
  unfold QO;rw[hc x Aq];show(if P x=true then _ else _)=_
  cases hp:P x with
  | true=>
   rw[qX rfl,hm x Aq hp,ih,List.filter_cons_of_pos hp];rfl
  | false=>
   rw[qY AL,ih,List.filter_cons_of_neg (by rw[hp];exact AL)]
theorem LF(hl:l.length<=1000000)(hc:∀x∈l,c x=some (P x))(hm:∀x∈l,P x=true->m x=some (f x)):FX l c m=some ((l.filter P).map f):=by
 unfold FX;rw[qX hl,bj hc hm]
theorem LV(hl:l.length<=1000000)(hm:∀x∈l,m x=some (f x)):FX l (λ_=>some true) m=some (l.map f):=by
 rw[LF (P:=λ_=>true) hl (λ_ _=>rfl) λx hx _=>hm x hx,Xh.mpr λ_ _=>rfl]
theorem Ma(hl:l.length<=1000000)(hc:∀x∈l,c x=some (P x)):FX l c (λx=>some x)=some (l.filter P):=by
 rw[LF (f:=λx=>x) hl hc λx hx _=>rfl,lE]
theorem XS(h:l.length < 1000000):V5 l x=some (l++[x]):=qX h
theorem W9(h:l.length+k.length<=1000000):UP l k=some (l++k):=qX h
theorem few1(a:α):fS [a]=some [a]:=qX (by simp)
theorem SB(h0:-1000000<=j)(h1:j<=1000000):SC j=some (JB 0 j.toNat):=qX ⟨h0,h1⟩
theorem Wi(h0:-1000000<=i)(h1:i<=1000000)(h2:-1000000<=j)(h3:j<=1000000):X8 i j=some (JB i (j - i).toNat):=qX ⟨h0,h1,h2,h3⟩
theorem Kw{lo:Int}{n:Nat}{x:Int}:x∈JB lo n↔lo<=x/\x < lo+n:=by
 unfold JB;rw[An]
 constructor
 ·rintro⟨k,hk,rfl⟩
  have:=DA.mp hk
  lia
 ·rintro⟨h1,h2⟩
  exact⟨(x - lo).toNat,DA.mpr (by lia),by lia⟩
theorem Kq(lo:Int)(n:Nat):(JB lo n).length=n:=by unfold JB;rw[AE,List.length_range]
theorem OA(h0:0<=i)(h1:i < l.length):∃x,atI l i=some x/\l[i.toNat]?=some x:=by
 have oM:i.toNat < l.length:=by lia
 exact⟨l[i.toNat],bu h0 (BW oM),BW oM⟩
theorem XQ(h:atI l i=some x):x∈l:=by
 unfold atI at h;obtain⟨j,_,h2⟩:=BO h;exact BK h2
theorem fx(k:Int)(h:l≠[]):∃x,atI l (k % (l.length:Int))=some x/\x∈l:=by
 have hl:0 < (l.length:Int):=by have:=Xe.mpr h;lia
 obtain⟨x,h1,_⟩:=OA (l:=l) (i:=k % (l.length:Int)) (IM _ (by lia)) (Gh _ hl);exact⟨x,h1,XQ h1⟩
theorem SN(h:0 < y):T6 x y=some (x % y):=qX h
theorem Zx{lo:Int}{n:Nat}{pre:List Int}{x:Int}(h:pre++[x] <+: JB lo n):x=lo+pre.length/\pre.length < n:=by
 have hl:=h.length_le;rw[Ad,Bu,Kq]at hl;obtain⟨r,hr⟩:=h;have:=congrArg (λz=>z[pre.length]?) hr;simp only[BC,BB (AN _),lQ]at this;rw[show([x]++r)[0]?=some x from rfl]at this;unfold JB at this;rw[AS,BU (by lia)]at this;simp only[Option.map_some,Option.some.injEq]at this;exact⟨this,by lia⟩
theorem P5[DecidableEq α]:∀{l k:List α},l.Nodup->(∀x∈l,x∈k)->l.length<=k.length
 | [],_,_,_=>DK _
 | x :: l,k,nd,h=>by
  have hx:=h x Aq;obtain⟨n1,n2⟩:=CK.mp nd
  have:=P5 (l:=l) (k:=k.erase x) n2 λy hy=>(List.mem_erase_of_ne (λz:y=x=>n1 (by rw[<-z];exact hy))).mpr (h y (AT _ hy))
  rw[S9 hx]at this;have:=Uk hx;rw[A8]
  lia
def Ok(p:Option α)(P:α->Prop):Prop:=∃v,p=some v/\P v
theorem Ok.pure(h:P v):Ok (some v) P:=⟨v,rfl,h⟩
theorem Ok.is(h:Ok p λr=>r=v):p=some v:=by
 obtain⟨_,h1,rfl⟩:=h;exact h1
theorem Ok.imp(h:Ok p P)(i:∀v,P v->Q v):Ok p Q:=by
 obtain⟨v,rfl,h⟩:=h;exact⟨v,rfl,i v h⟩
def OkF(p:Option (Fw ρ σ))(N:σ->Prop)(R:ρ->Prop):Prop:=(∃s,p=some (.nx s)/\N s)∨∃r,p=some (.rt r)/\R r
theorem OkF.nx(h:N s):OkF (some (.nx s)) N R:=.inl ⟨s,rfl,h⟩
theorem OkF.rt(h:R r):OkF (some (.rt r)) N R:=.inr ⟨r,rfl,h⟩
theorem OkF.seq(h:OkF p N R)(hq:∀s,N s->OkF (q s) N' R):OkF (C6 p q) N' R:=by
 rcases h with⟨s,rfl,h⟩ | ⟨r,rfl,h⟩
 ·exact hq s h
 ·exact .inr ⟨r,rfl,h⟩
theorem OkF.map(h:OkF p N R)(hg:∀s,N s->N' (g s)):OkF (Ky g p) N' R:=by
 rcases h with⟨s,rfl,h⟩ | ⟨r,rfl,h⟩
 ·exact .inl ⟨_,rfl,hg s h⟩
 ·exact .inr ⟨r,rfl,h⟩
theorem OkF.of(h:Ok p P)(hq:∀v,P v->OkF (q v) N R):OkF (p.bind q) N R:=by
 obtain⟨v,rfl,h⟩:=h;exact hq v h
theorem OkF.ite(ha:c=true->OkF a N R)(hb:c=false->OkF b N R):OkF (if c=true then a else b) N R:=by
 cases c with
 | true=>exact ha rfl
 | false=>exact hb rfl
theorem OkF.for(I:List α->σ->Prop)(h0:I [] s0)(h:∀pre x s,x∈l->pre++[x] <+: l->I pre s->OkF (q s x) (I (pre++[x])) R):OkF (KW l s0 q) (I l) R:=bT I R h0 h
theorem OkF.out(h:OkF p (λ_=>False) R):Ok (SF p) R:=by
 rcases h with⟨s,rfl,h⟩ | ⟨r,rfl,h⟩
 ·exact h.elim
 ·exact⟨r,rfl,h⟩
theorem OkF.imp(h:OkF p N R)(hn:∀s,N s->N' s)(hr:∀r,R r->R' r):OkF p N' R':=by
 rcases h with⟨s,rfl,h⟩ | ⟨r,rfl,h⟩
 ·exact .inl ⟨s,rfl,hn s h⟩
 ·exact .inr ⟨r,rfl,hr r h⟩
end
section
def Zs(x y:Int):Option Int:=if b0 x y then some (x * 2 ^ y.toNat)else none
def dZ(x y:Int):Option Int:=if 0<=y then some (x / 2 ^ y.toNat)else none
theorem iT(ha:VE A a (rV D.int) pa)(hb:VE A b (rV D.int) pb):VE A (m2 iu a b) (rV D.int) (pa.bind λx=>pb.bind λy=>Zs x y):=KP ha hb λx y z S h=>by
 unfold Zs at h;split at h
 ·rename_i hc;cases h;exact qX hc
 ·cases h
theorem iS(ha:VE A a (rV D.int) pa)(hb:VE A b (rV D.int) pb):VE A (m2 da a b) (rV D.int) (pa.bind λx=>pb.bind λy=>dZ x y):=KP ha hb λx y z S h=>by
 unfold dZ at h;split at h
 ·rename_i hc;cases h;exact qX hc
 ·cases h
theorem dG(ha:VE A a (rV D.int) pa)(hb:VE A b (rV D.int) pb):VE A (m2 gF a b) (rV D.int) (pa.bind λx=>pb.bind λy=>some (Gi x y)):=KP ha hb λx y z S h=>by cases h;rfl
theorem dJ(h:VE A m (rV D.int) pa):VB A (Lc m) (pa.bind λx=>some (x != 0)):=λv hv S0 e F S hs=>by
 obtain⟨l,h1,h2⟩:=BO hv;cases h2;obtain⟨d,S',h3,h4,rfl⟩:=h l h1 S0 e F S hs;refine⟨S',?_,h4⟩;unfold Lc;rw[h3];rfl
end
section
variable{ρ σ:Type}
theorem PR{n:Nat}{b:MS}{as:List Ar}{R:Rk ρ}{p:Option (Fw ρ σ)}{B:σ->List Sl}(h:VS (as.map Ar.sl++Ak (n - as.length) .u) b R p B):VF (EY n b) as R (SF p):=λv hv S ds ha=>by
 cases p with
 | none=>cases hv
 | some x=>
  obtain⟨g,S',h1,h2⟩:=h _ rfl S _ _ S (Vs.start ha)
  cases x with
  | rt r=>cases hv;obtain⟨d,rfl,h2,h3⟩:=h2;exact⟨d,S',L2.Cz h1,h3,h2⟩
  | nx s=>cases hv
  | bk s=>cases hv
  | ct s=>cases hv
theorem iQ{n:Nat}{b:MS}{as:List Ar}{p:Option (Fw Unit σ)}{B:σ->List Sl}(h:VS (as.map Ar.sl++Ak (n - as.length) .u) b (rV eU) p B):VF (EY n b) as (rV eU) (mM p):=λv hv S ds ha=>by
 cases p with
 | none=>cases hv
 | some x=>
  obtain⟨g,S',h1,h2⟩:=h _ rfl S _ _ S (Vs.start ha)
  cases x with
  | rt r=>obtain⟨d,rfl,h2,h3⟩:=h2;exact⟨d,S',L2.Cz h1,h3,h2⟩
  | nx s=>obtain⟨e',F',rfl,h2,h3⟩:=h2;exact⟨.non,S',L2.Vb h1,h2.kp,rfl⟩
  | bk s=>cases hv
  | ct s=>cases hv
end
section
variable{κ α:Type}[DecidableEq κ]
theorem Dq(l:List (κ×α))(k:κ)(v:α)(k':κ):A5 (CA l k v) k'=if k'=k then some v else A5 l k':=by
 have key:∀l:List (κ×α),A5 (l.map λkv=>if kv.1=k then(kv.1,v)else kv) k'=if k'=k then(A5 l k').map (λ_=>v)else A5 l k':=by
  intro l
  induction l with
  | nil=>unfold A5;simp
  | cons x l ih=>
   unfold A5 at ih ⊢;rw[BA,BV,BV]
   by_cases c:x.1=k
   ·rw[qX c]
    by_cases d:x.1=k'
    ·rw[wX d,qX (show k'=k from d▸c)]
     rfl
    ·rw[wY d]
     exact ih
   ·rw[qY c]
    by_cases d:x.1=k'
    ·rw[wX d,qY (λz:k'=k=>c (d.trans z))]
    ·rw[wY d]
     exact ih
 unfold CA;split
 ·rename_i h
  rw[key]
  by_cases c:k'=k
  ·rw[qX c,qX c]
   subst c
   have:(A5 l k').isSome=true:=by
    unfold A5;rw[G0,ZH];obtain⟨x,hx,hk⟩:=Ff.mp h;exact⟨x,hx,hk⟩
   obtain⟨b,hb⟩:=Fu.mp this;rw[hb];rfl
  ·rw[qY c,qY c]
 ·rename_i h
  unfold A5;rw[List.find?_append]
  by_cases c:k'=k
  ·subst c
   rw[qX rfl]
   have:l.find? (λkv=>decide (kv.1=k'))=none:=by
    rw[Ik];intro x hx hk;exact h (Ff.mpr ⟨x,hx,hk⟩)
   rw[this];simp
  ·rw[qY c]
   have:[(k,v)].find? (λkv=>decide (kv.1=k'))=none:=by
    rw[Ik];intro x hx;rw[AJ.mp hx];simp
    exact λz=>c z.symm
   rw[this];simp
theorem K6(l:List (κ×α))(k:κ)(v:α):(CA l k v).map (·.1)=if k∈l.map (·.1)then l.map (·.1)else l.map (·.1)++[k]:=by
 have h1:(l.any λkv=>decide (kv.1=k))=true↔k∈l.map (·.1):=by
  rw[Ff,An];exact⟨λ⟨x,hx,e⟩=>⟨x,hx,of_decide_eq_true e⟩,λ⟨x,hx,e⟩=>⟨x,hx,wX e⟩⟩
 unfold CA
 by_cases c:k∈l.map (·.1)
 ·rw[qX c,qX (h1.mpr c),A2]
  refine CO λx _=>?_
  show(if x.1=k then(x.1,v)else x).1=x.1
  split <;> rfl
 ·rw[qY c,qY λz=>c (h1.mp z),A9]
  rfl
theorem IP(l:List (κ×α))(k:κ):(A5 l k).isSome=true↔k∈l.map (·.1):=by
 unfold A5;rw[G0,ZH,An];exact⟨λ⟨x,hx,e⟩=>⟨x,hx,of_decide_eq_true e⟩,λ⟨x,hx,e⟩=>⟨x,hx,wX e⟩⟩
end
def hb(bits x:Int):Bool:=Gi (bits / 2 ^ x.toNat) 1 != 0
abbrev HL:=List (Int×Int)
abbrev QL:=List (Int×Bool)
def Lw(st:HL->Int->QL->Option (Bool×HL×QL))(g:Int):List Int->HL->QL->Option (Bool×HL×QL)
 | [],H,Q=>some (false,H,Q)
 | x :: r,H,Q=>if (A5 Q x).isSome=true then Lw st g r H Q else(M4 Q x true).bind λQ1=>(A5 H x).bind λg2=>(st H g2 Q1).bind λz=>if z.1=true then(M4 z.2.1 x g).bind λH'=>some (true,H',z.2.2)else Lw st g r z.2.1 z.2.2
def Fx(T:Int->List Int)(bits:Int):Nat->HL->Int->QL->Option (Bool×HL×QL)
 | 0,_,_,_=>none
 | n+1,H,g,Q=>match((T g).filter λx=>hb bits x&&!(A5 Q x).isSome).find? (λx=>!(A5 H x).isSome)with
  | some x=>(M4 H x g).bind λH'=>some (true,H',Q)
  | none=>Lw (Fx T bits n) g ((T g).filter λx=>hb bits x&&!(A5 Q x).isSome) H Q
section
abbrev w0(T:Int->List Int)(bits g:Int):List Int:=(T g).filter (hb bits)
structure KOk{α:Type}(U:List Int)(l:List (Int×α)):Prop where
 nd:(l.map (·.1)).Nodup
 sub:∀x∈l.map (·.1),x∈U
theorem KOk.len{α:Type}{l:List (Int×α)}(h:KOk U l):l.length<=U.length:=by
 have:=P5 h.nd h.sub;rwa [AE]at this
theorem KOk.put{α:Type}{l:List (Int×α)}(h:KOk U l){x:Int}(hx:x∈U)(v:α):KOk U (CA l x v):=by
 by_cases c:x∈l.map (·.1)
 ·exact⟨by rw[K6,qX c];exact h.nd,by rw[K6,qX c];exact h.sub⟩
 ·refine⟨?_,?_⟩
  ·rw[K6,qY c]
   unfold Q5;rw[Ba];exact⟨h.nd,by simp,λa ha b pe z=>c (by rw[AJ.mp pe]at z;rw[<-z];exact ha)⟩
  ·rw[K6,qY c]
   intro y hy
   rcases Af.mp hy with hy | hy
   ·exact h.sub y hy
   ·rw[AJ.mp hy];exact hx
theorem KOk.more{α:Type}{l:List (Int×α)}{x:Int}(c:(A5 l x).isSome=false)(v:α):(CA l x v).length=l.length+1:=by
 have h1:x∉l.map (·.1):=λz=>by rw[(IP l x).mpr z]at c;cases c
 have:=congrArg Gg (K6 l x v);rw[qY h1,AE,Ad,AE]at this;exact this
def MOn(T:Int->List Int)(bits:Int)(P:Int->Prop)(H:HL):Prop:=(∀x,P x->∀a,A5 H x=some a->x∈w0 T bits a)/\∀x y a,P x->P y->A5 H x=some a->A5 H y=some a->x=y
abbrev sn(Q:QL)(x:Int):Prop:=(A5 Q x).isSome=true
def Good(T:Int->List Int)(bits:Int)(H:HL)(g:Int)(Q:QL)(H':HL):Prop:=
 (∀x,sn Q x->A5 H' x=A5 H x)/\(MOn T bits (λx=>¬sn Q x) H->(∀x,¬sn Q x->A5 H x≠some g)->MOn T bits (λx=>¬sn Q x) H'/\∀a,(∃x,¬sn Q x/\A5 H' x=some a)↔a=g∨∃x,¬sn Q x/\A5 H x=some a)
def Clo(T:Int->List Int)(bits:Int)(H:HL)(Q Q':QL):Prop:=∀x,sn Q' x->sn Q x∨∃a,A5 H x=some a/\∀y∈w0 T bits a,sn Q' y
structure nZ(T:Int->List Int)(bits:Int)(U:List Int)(Gd:Int->Prop)(H:HL)(g:Int)(Q:QL)(z:Bool×HL×QL):Prop where
 h1:KOk U z.2.1
 h2:KOk U z.2.2
 h3:∀x a,A5 z.2.1 x=some a->Gd a
 h4:∀x,sn Q x->sn z.2.2 x
 h5:z.1=false->z.2.1=H/\(∀x∈w0 T bits g,sn z.2.2 x)/\Clo T bits H Q z.2.2
 h6:z.1=true->Good T bits H g Q z.2.1
theorem Nr{α:Type}{l:List (Int×α)}(h:KOk U l)(hU:U.length < 1000000)(x:Int)(v:α):M4 l x v=some (CA l x v):=qX (A4 h.len hU)
theorem Er:sn (CA Q x true) y↔y=x∨sn Q y:=by
 unfold sn;rw[Dq]
 by_cases c:y=x
 ·rw[qX c];simp[c]
 ·rw[qY c];simp[c]
theorem Tj(hT:∀g,Gd g->∀x∈T g,x∈U)(hU:U.length < 1000000):∀(n:Nat) (H:HL) (g:Int) (Q:QL),KOk U H->KOk U Q->(∀x a,A5 H x=some a->Gd a)->Gd g->U.length < n+Q.length->Ok (Fx T bits n H g Q) (nZ T bits U Gd H g Q):=by
 intro n
 induction n with
 | zero=>intro H g Q hH hQ hG hg hn;exact zX hQ.len (by lia)
 | succ n ih=>
  intro H g Q hH hQ hG hg hn;unfold Fx
  have wm:∀x,x∈(T g).filter (λx=>hb bits x&&!(A5 Q x).isSome)↔x∈w0 T bits g/\¬sn Q x:=by
   intro x;unfold w0 sn;rw[Dx,Dx]
   cases A5 Q x <;> simp
  generalize (T g).filter (λx=>hb bits x&&!(A5 Q x).isSome)=w at wm
  have wU:∀x∈w,x∈U:=λx hx=>hT g hg x (Dx.mp ((wm x).mp hx).1).1
  cases hf:w.find? (λx=>!(A5 H x).isSome)with
  | some x=>
   have hx:=Rt hf
   have qm:A5 H x=none:=by
    have:=List.find?_some hf
    cases q:A5 H x with
    | none=>rfl
    | some a=>rw[q]at this;cases this
   obtain⟨x1,x2⟩:=(wm x).mp hx;show Ok ((M4 H x g).bind _) _;rw[Nr hH hU];refine .pure ⟨hH.put (wU x hx) g,hQ,λy a hy=>?_,λ_ h=>h,λz=>(by cases z),λ_=>⟨λy hy=>?_,λm ng=>⟨⟨λy hy a e=>?_,λy z a hy hz e1 e2=>?_⟩,λa=>⟨?_,?_⟩⟩⟩⟩
   ·rw[show A5 (true,CA H x g,Q).2.1 y=if y=x then some g else A5 H y from Dq _ _ _ _]at hy
    split at hy
    ·cases hy;exact hg
    ·exact hG y a hy
   ·show A5 (CA H x g) y=_
    rw[Dq,qY λc:y=x=>x2 (by rw[<-c];exact hy)]
   ·rw[show A5 (true,CA H x g,Q).2.1 y=if y=x then some g else A5 H y from Dq _ _ _ _]at e
    split at e
    ·rename_i c;cases e;rw[c];exact x1
    ·exact m.1 y hy a e
   ·rw[show A5 (true,CA H x g,Q).2.1 y=if y=x then some g else A5 H y from Dq _ _ _ _]at e1
    rw[show A5 (true,CA H x g,Q).2.1 z=if z=x then some g else A5 H z from Dq _ _ _ _]at e2;split at e1
    ·rename_i c
     cases e1;split at e2
     ·rename_i d;rw[c,d]
     ·exact zX e2 (ng z hz)
    ·split at e2
     ·cases e2;exact zX e1 (ng y hy)
     ·exact m.2 y z a hy hz e1 e2
   ·rintro⟨y,hy,e⟩
    rw[show A5 (true,CA H x g,Q).2.1 y=if y=x then some g else A5 H y from Dq _ _ _ _]at e;split at e
    ·cases e;exact .inl rfl
    ·exact .inr ⟨y,hy,e⟩
   ·rintro(rfl | ⟨y,hy,e⟩)
    ·exact⟨x,x2,by show A5 (CA H x a) x=_;rw[Dq,qX rfl]⟩
    ·refine⟨y,hy,?_⟩
     show A5 (CA H x g) y=_;rw[Dq,qY λc=>by rw[c,qm]at e;cases e];exact e
  | none=>
   have held:∀x∈w,∃a,A5 H x=some a:=by
    intro x hx;have:=Ik.mp hf x hx
    cases q:A5 H x with
    | none=>rw[q]at this;exact zX rfl this
    | some a=>exact⟨a,rfl⟩
   have key:∀(r:List Int) (Qc:QL),(∀x∈r,x∈w)->KOk U Qc->(∀x,sn Q x->sn Qc x)->Q.length<=Qc.length->Clo T bits H Q Qc->(∀x∈w,x∈r∨sn Qc x)->Ok (Lw (Fx T bits n) g r H Qc) (nZ T bits U Gd H g Q):=by
    intro r
    induction r with
    | nil=>
     intro Qc _ tG hs hl hc hw;refine .pure ⟨hH,tG,hG,hs,λ_=>⟨rfl,λx hx=>?_,hc⟩,λz=>(by cases z)⟩
     by_cases c:sn Q x
     ·exact hs x c
     ·rcases hw x ((wm x).mpr ⟨hx,c⟩)with h | h
      ·cases h
      ·exact h
    | cons x r ih2=>
     intro Qc hr tG hs hl hc hw;unfold Lw
     by_cases c:(A5 Qc x).isSome=true
     ·rw[qX c]
      refine ih2 Qc (λy hy=>hr y (AT _ hy)) tG hs hl hc λy hy=>?_
      rcases hw y hy with h | h
      ·rcases At.mp h with rfl | h
       ·exact .inr c
       ·exact .inl h
      ·exact .inr h
     ·rw[qY c,Nr tG hU]
      have vy:=hr x Aq;obtain⟨x1,x2⟩:=(wm x).mp vy;obtain⟨a,ha⟩:=held x vy;have xf:=tG.put (wU x vy) true;have Oh:=KOk.more (l:=Qc) (x:=x) (by cases q:(A5 Qc x).isSome;rfl;exact zX q c) true;obtain⟨z,ez,hz⟩:=ih H a (CA Qc x true) hH xf hG (hG x a ha) (by lia);show Ok ((A5 H x).bind _) _;rw[ha];show Ok ((Fx T bits n H a (CA Qc x true)).bind _) _;rw[ez];show Ok (if z.1=true then _ else _) _
      cases pe:z.1 with
      | true=>
       rw[qX rfl,Nr hz.h1 hU];obtain⟨g1,g2⟩:=hz.h6 pe;refine .pure ⟨hz.h1.put (wU x vy) g,hz.h2,λy b hy=>?_,λy hy=>hz.h4 y (Er.mpr (.inr (hs y hy))),λq=>(by cases q),λ_=>⟨λy hy=>?_,λm ng=>?_⟩⟩
       ·rw[show A5 (true,CA z.2.1 x g,z.2.2).2.1 y=if y=x then some g else A5 z.2.1 y from Dq _ _ _ _]at hy
        split at hy
        ·cases hy;exact hg
        ·exact hz.h3 y b hy
       ·show A5 (CA z.2.1 x g) y=_
        rw[Dq,qY λq:y=x=>x2 (by rw[<-q];exact hy)];exact g1 y (Er.mpr (.inr (hs y hy)))
       ·have R1:∀y,¬sn (CA Qc x true) y->¬sn Q y/\y≠x/\¬sn Qc y:=λy hy=>⟨λq=>hy (Er.mpr (.inr (hs y q))),λq=>hy (Er.mpr (.inl q)),λq=>hy (Er.mpr (.inr q))⟩
        obtain⟨m1,m2⟩:=g2 ⟨λy hy b e=>m.1 y (R1 y hy).1 b e,λy y' b hy qv e e'=>m.2 y y' b (R1 y hy).1 (R1 y' qv).1 e e'⟩ λy hy e=>(R1 y hy).2.1 (m.2 y x a (R1 y hy).1 x2 e ha)
        have Lp:∀y,y=x∨(y≠x/\A5 z.2.1 y=A5 H y/\sn Qc y)∨¬sn (CA Qc x true) y:=λy=>by
         by_cases q:y=x
         ·exact .inl q
         ·by_cases q2:sn Qc y
          ·exact .inr (.inl ⟨q,g1 y (Er.mpr (.inr q2)),q2⟩)
          ·exact .inr (.inr λq3=>(Er.mp q3).elim q q2)
        have hv:∀y,y≠x->A5 (CA z.2.1 x g) y=A5 z.2.1 y:=λy q=>by rw[Dq,qY q]
        have tH:A5 (CA z.2.1 x g) x=some g:=by rw[Dq,qX rfl]
        show MOn T bits _ (CA z.2.1 x g)/\∀b,(∃y,_/\A5 (CA z.2.1 x g) y=some b)↔_
        refine⟨⟨λy hy b e=>?_,λy y' b hy qv e e'=>?_⟩,λb=>⟨?_,?_⟩⟩
        ·rcases Lp y with rfl | ⟨q,q1,q2⟩ | q
         ·rw[tH]at e;cases e;exact x1
         ·rw[hv y q,q1]at e;exact m.1 y hy b e
         ·rw[hv y (R1 y q).2.1]at e;exact m1.1 y q b e
        ·rcases Lp y with rfl | ⟨q,q1,q2⟩ | q
         ·rw[tH]at e
          cases e
          rcases Lp y' with rfl | ⟨p,p1,p2⟩ | p
          ·rfl
          ·rw[hv y' p,p1]at e';exact zX e' (ng y' qv)
          ·rw[hv y' (R1 y' p).2.1]at e'
           rcases(m2 g).mp ⟨y',p,e'⟩with rfl | ⟨y2,p2,e2⟩
           ·exact zX ha (ng y hy)
           ·exact zX e2 (ng y2 (R1 y2 p2).1)
         ·rw[hv y q,q1]at e
          rcases Lp y' with rfl | ⟨p,p1,p2⟩ | p
          ·rw[tH]at e';cases e';exact zX e (ng y hy)
          ·rw[hv y' p,p1]at e';exact m.2 y y' b hy qv e e'
          ·rw[hv y' (R1 y' p).2.1]at e'
           rcases(m2 b).mp ⟨y',p,e'⟩with rfl | ⟨y2,p2,e2⟩
           ·exact zX (m.2 y x b hy x2 e ha) q
           ·have:=m.2 y y2 b hy (R1 y2 p2).1 e e2
            rw[<-this]at p2;exact zX q2 (R1 y p2).2.2
         ·rw[hv y (R1 y q).2.1]at e
          rcases Lp y' with rfl | ⟨p,p1,p2⟩ | p
          ·rw[tH]at e'
           cases e'
           rcases(m2 g).mp ⟨y,q,e⟩with rfl | ⟨y2,p2,e2⟩
           ·exact zX ha (ng y' qv)
           ·exact zX e2 (ng y2 (R1 y2 p2).1)
          ·rw[hv y' p,p1]at e'
           rcases(m2 b).mp ⟨y,q,e⟩with rfl | ⟨y2,p3,e2⟩
           ·exact zX (m.2 y' x b qv x2 e' ha) p
           ·have:=m.2 y' y2 b qv (R1 y2 p3).1 e' e2
            rw[<-this]at p3;exact zX p2 (R1 y' p3).2.2
          ·rw[hv y' (R1 y' p).2.1]at e'
           exact m1.2 y y' b q p e e'
        ·rintro⟨y,hy,e⟩
         rcases Lp y with rfl | ⟨q,q1,q2⟩ | q
         ·rw[tH]at e;cases e;exact .inl rfl
         ·rw[hv y q,q1]at e;exact .inr ⟨y,hy,e⟩
         ·rw[hv y (R1 y q).2.1]at e
          rcases(m2 b).mp ⟨y,q,e⟩with rfl | ⟨y2,p2,e2⟩
          ·exact .inr ⟨x,x2,ha⟩
          ·exact .inr ⟨y2,(R1 y2 p2).1,e2⟩
        ·rintro(rfl | ⟨y,hy,e⟩)
         ·exact⟨x,x2,tH⟩
         ·rcases Lp y with rfl | ⟨q,q1,q2⟩ | q
          ·rw[ha]at e
           cases e;obtain⟨y',p,e'⟩:=(m2 a).mpr (.inl rfl);exact⟨y',(R1 y' p).1,by rw[hv y' (R1 y' p).2.1];exact e'⟩
          ·exact⟨y,hy,by rw[hv y q,q1];exact e⟩
          ·obtain⟨y',p,e'⟩:=(m2 b).mpr (.inr ⟨y,q,e⟩)
           exact⟨y',(R1 y' p).1,by rw[hv y' (R1 y' p).2.1];exact e'⟩
      | false=>
       rw[qY AL];obtain⟨f1,f2,f3⟩:=hz.h5 pe;rw[f1]
       have up:∀y,sn Qc y->sn z.2.2 y:=λy hy=>hz.h4 y (Er.mpr (.inr hy))
       refine ih2 z.2.2 (λy hy=>hr y (AT _ hy)) hz.h2 (λy hy=>up y (hs y hy)) ?_ (λy hy=>?_) λy hy=>?_
       ·have h1:∀k∈Qc.map (·.1),k∈z.2.2.map (·.1):=λk hk=>(IP _ _).mp (up k ((IP _ _).mpr hk))
        have:=P5 tG.nd h1;rw[AE,AE]at this
        lia
       ·rcases f3 y hy with h | h
        ·rcases Er.mp h with rfl | h
         ·exact .inr ⟨a,ha,f2⟩
         ·rcases hc y h with h | ⟨b,e,k⟩
          ·exact .inl h
          ·exact .inr ⟨b,e,λy' qv=>up y' (k y' qv)⟩
        ·exact .inr h
       ·rcases hw y hy with h | h
        ·rcases At.mp h with rfl | h
         ·exact .inr (hz.h4 _ (Er.mpr (.inl rfl)))
         ·exact .inl h
        ·exact .inr (up y h)
   exact key w Q (λ_ h=>h) hQ (λ_ h=>h) (AN _) (λx hx=>.inl hx) λx hx=>.inl hx
end
section
variable{U:List Int}
theorem SL{α:Type}:KOk U ([]:List (Int×α)):=⟨G6,λ_ h=>(nomatch h)⟩
end
section
theorem Nj(h:e[i]?=some (some d)):AA i e S=.ok d S:=by unfold AA;rw[h]
end
abbrev inG{α:Type}[DecidableEq α](x:α)(l:List α):Bool:=decide (x∈l)
theorem Wy{α:Type}[DecidableEq α]{x:α}{l:List α}:inG x l=true↔x∈l:=decide_eq_true_iff
def rP{α β:Type}(enc:α->D)(ob:β->Ob):Rk (α×β):=λv S0 d S=>∃n,d=.tup [enc v.1,.ref n]/\S0.length<=n/\S[n]?=some (ob v.2)
section
theorem cb(ha:VE A ma (rV enc) p)(hb:VE A mb (rN ob) q):VS A (Dj (Ga (AF ma (AF mb Aj)))) (rP enc ob) (p.bind λx=>q.bind λy=>some (.rt (x,y))) B:=λf hf S0 e F S hs=>by
 obtain⟨x,h1,h2⟩:=BO hf;obtain⟨y,h3,h4⟩:=BO h2;cases h4;obtain⟨d1,S1,c1,k1,rfl⟩:=ha x h1 S0 e F S hs;obtain⟨d2,S2,c2,k2,n,rfl,h5,h6⟩:=hb y h3 S0 e _ S1 (hs.grow k1);exact⟨_,S2,Fa (Nl (BH c1 (BH c2 rfl)) (by simp)),_,rfl,⟨n,rfl,Ao (Ao hs.kp.1 k1.1) h5,h6⟩,(hs.kp.trans k1).trans k2⟩
end
section
variable{S0 S:Sto}{A:List Sl}{ρ σ:Type}
def whF(c:σ->Option Bool)(q:σ->Option (Fw ρ σ)):Nat->σ->Option (Fw ρ σ)
 | 0,_=>none
 | n+1,s=>(c s).bind λt=>if t=true then match q s with
   | some (.nx s')=>whF c q n s'
   | some (.ct s')=>whF c q n s'
   | some (.bk s')=>some (.nx s')
   | some (.rt r)=>some (.rt r)
   | none=>none
  else some (.nx s)
theorem Xl(hc:∀s,VB (B s) t (c s))(hb:∀s,VS (B s) b R (q s) B):∀(n:Nat) (s:σ),VS (B s) (GC t b n) R (whF c q n s) B:=by
 intro n
 induction n with
 | zero=>intro s f hf;cases hf
 | succ n ih=>
  intro s f hf S0 e F S hs;unfold whF at hf;obtain⟨v,h1,h2⟩:=BO hf;obtain⟨S1,h3,h4⟩:=hc s v h1 S0 e F S hs;have qz:=hs.grow h4
  have run:GC t b (n+1) e S=if v=true then(b e S1).bind λf S2=>match f with
   | .nx e2=>GC t b n e2 S2
   | .ct e2=>GC t b n e2 S2
   | .bk e2=>.ok (.nx e2) S2
   | .rt d=>.ok (.rt d) S2
   | .ex c e2=>.ok (.ex c e2) S2
  else .ok (.nx e) S1:=by
   show(t e S).lift e _=_;rw[h3];rfl
  cases v with
  | false=>
   rw[qY AL]at h2;cases h2;exact⟨_,S1,run.trans (qY AL),e,_,rfl,qz,hs.fle S1⟩
  | true=>
   rw[qX rfl]at h2;rw[run,qX rfl];split at h2
   ·rename_i s' hq
    obtain⟨h,S2,g1,e2,F2,rfl,g2,g3⟩:=hb s _ hq S0 e _ S1 qz;rw[g1];obtain⟨h',S3,g4,g5⟩:=ih s' f h2 S0 e2 F2 S2 g2;exact⟨h',S3,g4,g5.up ((hs.fle S1).trans g3)⟩
   ·rename_i s' hq
    obtain⟨h,S2,g1,e2,F2,rfl,g2,g3⟩:=hb s _ hq S0 e _ S1 qz;rw[g1];obtain⟨h',S3,g4,g5⟩:=ih s' f h2 S0 e2 F2 S2 g2;exact⟨h',S3,g4,g5.up ((hs.fle S1).trans g3)⟩
   ·rename_i s' hq
    cases h2;obtain⟨h,S2,g1,e2,F2,rfl,g2,g3⟩:=hb s _ hq S0 e _ S1 qz;rw[g1];exact⟨_,S2,rfl,e2,F2,rfl,g2,(hs.fle S1).trans g3⟩
   ·rename_i r hq
    cases h2;obtain⟨h,S2,g1,d,rfl,g2,g3⟩:=hb s _ hq S0 e _ S1 qz;rw[g1];exact⟨_,S2,rfl,d,rfl,g2,g3⟩
   ·cases h2
theorem ZO(w0:Wk A (B s0))(hc:∀s,VB (B s) t (c s))(hb:∀s,VS (B s) b R (q s) B):VS A (GC t b n) R (whF c q n s0) B:=λf hf S0 e F S hs=>
 Xl hc hb n s0 f hf S0 e F S (hs.weak w0)
end
section
variable{β:Type}
def rOL(ob:β->Ob):Rk (Option β):=λv S0 d S=>match v with
 | none=>d=.non
 | some b=>∃n,d=.ref n/\S0.length<=n/\S[n]?=some (ob b)
theorem ZP:VS A (Dj (mC .non)) (rOL ob) (some (.rt none)) B:=λf hf S0 e F S hs=>by
 cases hf;exact⟨.rt .non,S,rfl,_,rfl,rfl,hs.kp⟩
end
section
variable{S0 S S':Sto}{A B:List Sl}{e:Lo}{F:Fz}{α ρ σ:Type}{a b:ME}{enc:α->D}
def oFK(enc:α->D)(l:List (Int×α)):Ob:=.fK (l.map λx=>(CD x.1,enc x.2))
theorem kX(h:S[n]?=some (oFK enc l))(k:Int):Lf (.ref n) (.int k) S=some ((A5 l k).map enc):=by
 unfold Lf;dsimp only;rw[h];show some (A5 _ (CD k))=_;rw[Tb Ox]
theorem lr(h:S[n]?=some (oFK enc l)):Gm (.ref n) S=none:=by unfold Gm;dsimp only;rw[h];rfl
theorem RC(ha:VE A a (rO (oFK enc)) pl)(hb:VE A b (rV D.int) pk):VE A (m2 ixA a b) (rV enc) (pl.bind λl=>pk.bind λx=>A5 l x):=VD ha hb λl x z S n hn q=>Vz (lr hn) (by rw[kX hn x,q];rfl)
theorem eu(h:S[n]?=some (oFK enc l)):UG (.ref n) S=some ((l.map (·.1)).map D.int):=by
 unfold UG;dsimp only;rw[h];show some _=_;rw[A2,A2];rfl
theorem iP(h:A[i]?=some (.y (oFK enc l))):VI A (Wz (AA i)) D.int (some (l.map (·.1))):=λ_ hv S0 e F S hs=>by
 cases hv;obtain⟨x,h1,n,rfl,h2,_⟩:=hs.sl i _ h;refine⟨Dp ((l.map (·.1)).map D.int),S,?_,Keeps.refl S,λ_ _ _ _=>rfl⟩;unfold Wz;rw[Nj h1];dsimp only[Res.bind];rw[eu (hs.fz _ _ h2)]
theorem lV{b:MS}{R:Rk ρ}{p:Option (Fw ρ σ)}{B:σ->List Sl}{l:List (Int×α)}(i:Nat)(ha:A[i]?=some (.w i (oDK enc l)))(ht:((A.set i .u).all (Sl.oth i))=true)(h:VS (A.set i (.y (oFK enc l))) b R p B):VS A (BD (sFz i) b) R p B:=λf hf S0 e F S hs=>by
 obtain⟨x,h1,n,rfl,h2,h3⟩:=hs.sl i _ ha;have hp:=hs.put (o':=oFK enc l) ht ha h1 h2;have vz:(A.set i (.w i (oFK enc l)))[i]?=some (.w i (oFK enc l)):=Am (AC.mp ha).1;obtain⟨F',h4,h5⟩:=hp.freeze (by rw[lD];exact ht) vz;rw[lD]at h4;obtain⟨g,S',h6,h7⟩:=h f hf S0 e F' _ h4;refine⟨g,S',?_,h7.up h5⟩
 have:sFz i e S=.ok (.nx e) (S.set n (oFK enc l)):=by
  unfold sFz;rw[h1];dsimp only;rw[h3];rfl
 exact(A1 this).trans h6
theorem TX(ha:VE A a (rO (oDK enc)) pl):VE A (LQ a) (rN (oL enc)) (pl.bind λl=>some (l.map (·.2))):=λv hv S0 e F S hs=>by
 obtain⟨l,h1,h2⟩:=BO hv;cases h2;obtain⟨d,S',h3,h4,n,rfl,hn⟩:=ha l h1 S0 e F S hs;refine⟨.ref S'.length,S'++[oL enc (l.map (·.2))],?_,h4.trans (Keeps.app _ _),S'.length,rfl,h4.1,Bj _ _⟩;unfold LQ;rw[h3];dsimp only[Res.bind];rw[hn];show Res.ok _ (S'++[Ob.lst _])=.ok _ (S'++[oL enc _]);unfold oL;rw[A2,A2];rfl
def YE(l:List α):Option (α×List α):=match l.getLast? with
 | some x=>some (x,l.dropLast)
 | none=>none
theorem cj(hi:A[i]?=some (.w i (oL enc l)))(se:i≠j)(ht:((A.set i .u).all (Sl.oth i))=true) :
  VS A (Bc j (ai (AA i))) R ((YE l).bind λz=>some (.nx z)) (λz=>(A.set i (.w i (oL enc z.2))).set j (.v (enc z.1))):=λf hf S0 e F S hs=>by
 obtain⟨z,h1,h2⟩:=BO hf;cases h2;unfold YE at h1;split at h1
 ·rename_i x hx
  cases h1;obtain⟨y,g1,n,rfl,g2,g3⟩:=hs.sl i _ hi;have hp:=hs.put (o':=oL enc l.dropLast) ht hi g1 g2
  have hm:ai (AA i) e S=.ok (enc x) (S.set n (oL enc l.dropLast)):=by
   unfold ai;rw[Nj g1];dsimp only[Res.bind];rw[show atL (.ref n) S=some (n,l.map enc) by unfold atL;dsimp only;rw[g3];rfl];dsimp only;rw[<-List.getLast?_eq_getElem?,List.getLast?_map,hx];show Res.ok _ (S.set n (.lst (l.map enc).dropLast))=_;rw[<-List.map_dropLast];rfl
  exact⟨_,_,Cb hm,_,F,rfl,hp.set j rfl,Fle.refl F⟩
 ·cases h1
end
section
def Kp(x:Int×Int):List Int:=[x.1,x.2]
theorem Xn(ha:VE A a (rO (oL (eP D.int D.int))) p):VE A a (rO (oL (eT D.int))) (p.bind λl=>some (l.map Kp)):=λv hv S0 e F S hs=>by
 obtain⟨l,h1,h2⟩:=BO hv;cases h2;obtain⟨d,S',h3,h4,n,rfl,hn⟩:=ha l h1 S0 e F S hs;refine⟨_,S',h3,h4,n,rfl,hn.trans ?_⟩;unfold oL;rw[A2];rfl
theorem ZQ{β σ:Type}{B:σ->List Sl}{ob:β->Ob}{i k:Nat}{v:β}(h:A[i]?=some (.w k (ob v))):VS A (Dj (AA i)) (rOL ob) (some (.rt (some v))) B:=λf hf S0 e F S hs=>by
 cases hf;obtain⟨x,h1,n,rfl,h2,h3⟩:=hs.sl i _ h;exact⟨_,S,Fa (d:=.ref n) (by unfold AA;rw[h1]),_,rfl,⟨n,rfl,(hs.ow _ _ h2).1,h3⟩,hs.kp⟩
end
end L4
namespace M
open PySem PySem.Spec PyProof.Rows L2
abbrev oN(e:L2.Lo)(S:L2.Sto):L2.Res L2.Fl:=.ok (.nx e) S
abbrev sZ:Option L2.D:=some .non
abbrev sR(n:Nat):Option L2.D:=some (.ref n)
abbrev sI(i:Int):Option L2.D:=some (.int i)
abbrev sF(l:List Int):Option L2.D:=some (.fro (l.map L2.D.int))
def top(i:Nat):ER:=iE.main.body.getD i (.Pass ⟨0,0,0,0⟩)
structure Wd where
 GuardError:AV
 BadPlaces:AV
 BadTie:AV
 NoPlace:AV
 TooLarge:AV
 BadGuards:AV
 NotTwo:AV
 NotWood:AV
 Web:AV
def Wd.excs(W:Wd):List AV:=[W.BadPlaces,W.BadTie,W.NoPlace,W.NotTwo]
def A6(W:Wd)(C:AV):Option Bool:=if C∈([W.BadPlaces,W.BadTie,W.NoPlace]:List AV)then some true else if C∈W.excs then some false else none
def JV(W:Wd)(C:AV):Option Bool:=if C∈[W.NotTwo]then some true else if C∈W.excs then some false else none
def Fk(W:Wd)(C:AV):Option Bool:=if C∈[W.BadPlaces,W.BadTie,W.NoPlace,W.NotTwo]then some true else if C∈W.excs then some false else none
abbrev EC:ER:=top 12
abbrev EB:ER:=top 13
abbrev HI:ER:=fD (top 11) 0
abbrev DC:ER:=top 14
abbrev Np:ER:=top 15
abbrev FP:ER:=top 16
abbrev HG:ER:=top 17
abbrev DX:ER:=top 19
abbrev Ef:ER:=top 20
abbrev Ed:ER:=top 21
abbrev JX:ER:=top 23
abbrev Cc:ER:=top 25
abbrev HH:ER:=top 26
abbrev FQ:ER:=top 27
abbrev DY:ER:=top 28
abbrev Ee:ER:=top 29
abbrev DD:ER:=top 30
abbrev ED:ER:=top 32
abbrev FR:ER:=top 33
abbrev GR:ER:=top 34
abbrev GP:ER:=top 35
abbrev Eg:ER:=top 36
abbrev Ei:ER:=top 37
abbrev FS:ER:=top 38
abbrev Eh:ER:=top 39
abbrev RI:ER:=top 40
def QS(W:Wd):MS:=
  (BD (Bc 2 am)
  (BD (G3 (G4 (AA 1)) (Gj 2 (CG (tgN 3) (CG (tgN 4) G7)))
  (BD (Bc 5 (Ga (AF (mQ ND (AF (AA 3) (AF (AA 4) Aj))) (AF (mQ NF (AF (AA 3) (AF (AA 4) Aj))) Aj))))
  (BD (sIf (mB (m2 (eqD false) (m2 ixA (AA 5) (mC (.int 0))) (m2 ixA (AA 5) (mC (.int 1))))) (EU W.BadTie (AF (mC (.str "a tie has one place twice")) Aj)) sNx)
  (BD (sIf (mOr (mB (m2 ltD (m2 ixA (AA 5) (mC (.int 0))) (mC (.int 0)))) (mB (m2 geD (m2 ixA (AA 5) (mC (.int 1))) (AA 0)))) (EU W.BadTie (AF (mC (.str "a tie has a place that is not there")) Aj)) sNx)
  (BD (sIf (mB (m2 (inA false) (AA 5) (AA 2))) (EU W.BadTie (AF (mC (.str "a tie is there twice")) Aj)) sNx)
  (DL (AA 2) (AA 5) (mC (.bl true))))))))
  (Dj (GF (Ey (AA 2))))))
def Gu(W:Wd):List D->Sto->Res D:=EY 6 (QS W)
def LH(W:Wd):MS:=
  (BD (Bc 2 (CL (D6 1 (iR1 (AF (AA 0) Aj)) (tgN 0) FY (CL (Bi Aj)))))
  (BD (G3 (G4 (AA 1)) (Gj 2 (CG (tgN 3) (CG (tgN 4) G7)))
  (BD (B0 (GH (m2 ixA (AA 2) (AA 3)) (AA 4)))
  (B0 (GH (m2 ixA (AA 2) (AA 4)) (AA 3)))))
  (Dj (GF (CL (D6 1 (G4 (AA 2)) (tgN 0) FY (GF (Ey (AA 0)))))))))
def Gt(W:Wd):List D->Sto->Res D:=EY 5 (LH W)
def QT(W:Wd):MS:=
  (BD (sIf (UA (mB (m3 leD leD (mC (.int 1)) (AA 1) (mC (.int 60))))) (EU W.BadPlaces (AF (gr (Ww (mC (.str "a web has 1 to ")) (Ww (mn (mC (.int 60))) (Ww (mC (.str " places")) jv)))) Aj)) sNx)
  (BD (RJ W.Web "places" (AA 0) (AA 1))
  (BD (RJ W.Web "ties" (AA 0) (BG 2 (Gu W) (AF (AA 1) (AF (AA 2) Aj))))
  (RJ W.Web "near_sets" (AA 0) (BG 2 (Gt W) (AF (AA 1) (AF (Hl W.Web "ties" (AA 0)) Aj)))))))
def IW(W:Wd):List D->Sto->Res D:=EY 3 (QT W)
def Gv(W:Wd):MS:=
  (sIf (UA (mB (m3 leD ltD (mC (.int 0)) (AA 1) (Hl W.Web "places" (AA 0))))) (EU W.NoPlace (AF (mC (.str "the web has no such place")) Aj)) sNx)
def Du(W:Wd):List D->Sto->Res D:=EY 2 (Gv W)
def Sn(W:Wd):MS:=
  (BD (B0 (BG 2 (Du W) (AF (AA 0) (AF (AA 1) Aj))))
  (Dj (m2 ixA (Hl W.Web "near_sets" (AA 0)) (AA 1))))
def K8(W:Wd):List D->Sto->Res D:=EY 2 (Sn W)
def KI(W:Wd):MS:=
  (BD (Bc 2 (P8 (AA 1) (mC (.int 0))))
  (BD (Bc 3 (CL (Bi (AF (AA 1) Aj))))
  (BD (GC (Lc (AA 3)) (BD (Bc 4 (CL (Bi Aj)))
  (BD (G3 (G4 (AA 3)) (tgN 5)
  (G3 (G4 (BG 2 (K8 W) (AF (AA 0) (AF (AA 5) Aj)))) (tgN 6)
  (sIf (mB (m2 (inA true) (AA 6) (AA 2))) (BD (DL (AA 2) (AA 6) (m2 FJ (m2 ixA (AA 2) (AA 5)) (mC (.int 1))))
  (B0 (GH (AA 4) (AA 6)))) sNx)))
  (Bc 3 (AA 4)))) wN)
  (Dj (AA 2)))))
def DU(W:Wd):List D->Sto->Res D:=EY 7 (KI W)
def Mb(W:Wd):MS:=
  (BD (Bc 1 (CL (Bi Aj)))
  (BD (Bc 2 Hv)
  (BD (G3 (iR1 (AF (Hl W.Web "places" (AA 0)) Aj)) (tgN 3)
  (sIf (mB (m2 (inA true) (AA 3) (AA 2))) (BD (Bc 4 (BG 2 (DU W) (AF (AA 0) (AF (AA 3) Aj))))
  (BD (B0 (Lv (AA 2) (AA 4)))
  (B0 (GH (AA 1) (GF (Ey (AA 4))))))) sNx))
  (Dj (AA 1)))))
def IV(W:Wd):List D->Sto->Res D:=EY 5 (Mb W)
def HP(W:Wd):MS:=
  (BD (Bc 1 Hv)
  (BD (G3 (G4 (BG 1 (IV W) (AF (AA 0) Aj))) (tgN 2)
  (B0 (Lv (AA 1) (BG 2 (DU W) (AF (AA 0) (AF (m2 ixA (AA 2) (mC (.int 0))) Aj))))))
  (Dj (AA 1))))
def FW(W:Wd):List D->Sto->Res D:=EY 3 (HP W)
def Ft(W:Wd):MS:=
  (BD (G3 (G4 (Hl W.Web "ties" (AA 0))) (Gj 2 (CG (tgN 2) (CG (tgN 3) G7)))
  (sIf (mB (m2 (eqD false) (m2 DZ (m2 ixA (AA 1) (AA 2)) (mC (.int 2))) (m2 DZ (m2 ixA (AA 1) (AA 3)) (mC (.int 2))))) (Dj (Ga (AF (AA 2) (AF (AA 3) Aj)))) sNx))
  (Dj (mC .non)))
def El(W:Wd):List D->Sto->Res D:=EY 4 (Ft W)
def Fq(W:Wd):MS:=
  (BD (Bc 1 (BG 1 (FW W) (AF (AA 0) Aj)))
  (BD (sIf (mB (m2 (Vr true) (BG 2 (El W) (AF (AA 0) (AF (AA 1) Aj))) (mC .non))) (Dj (mC .non)) sNx)
  (Dj (GF (CL (D6 1 (iR1 (AF (Hl W.Web "places" (AA 0)) Aj)) (tgN 0) FY (m2 DZ (m2 ixA (AA 2) (AA 0)) (mC (.int 2)))))))))
def He(W:Wd):List D->Sto->Res D:=EY 2 (Fq W)
def UY(W:Wd)(fr:List D->Sto->Res D):MS:=
  (BD (Bc 5 (CL (D6 1 (G4 (m2 ixA (AA 0) (AA 3))) (tgN 0) (Qr (Lc (m2 gF (m2 da (AA 2) (AA 0)) (mC (.int 1)))) (mB (m2 (inA true) (AA 0) (AA 5)))) (AA 0))))
  (BD (G3 (G4 (AA 5)) (tgN 6)
  (sIf (mB (m2 (inA true) (AA 6) (AA 2))) (BD (DL (AA 2) (AA 6) (AA 3))
  (Dj (mC (.bl true)))) sNx))
  (BD (G3 (G4 (AA 5)) (tgN 6)
  (sIf (mB (m2 (inA true) (AA 6) (AA 4))) (BD (DL (AA 4) (AA 6) (mC (.bl true)))
  (sIf (Lc (BG 5 fr (AF (AA 0) (AF (AA 1) (AF (AA 2) (AF (m2 ixA (AA 2) (AA 6)) (AF (AA 4) Aj))))))) (BD (DL (AA 2) (AA 6) (AA 3))
  (Dj (mC (.bl true)))) sNx)) sNx))
  (Dj (mC (.bl false))))))
def Fn(W:Wd):Nat->List D->Sto->Res D
 | 0=>λ_ _=>.bad
 | n+1=>EY 7 (UY W (Fn W n))
def C7(W:Wd):MS:=
  (BD (Bc 1 (BG 1 (He W) (AF (AA 0) Aj)))
  (BD (sIf (mB (m2 (Vr false) (AA 1) (mC .non))) (EU W.NotTwo (AF (mC (.str "the web has no two colours")) Aj)) sNx)
  (Dj (AA 1))))
def C5(W:Wd):List D->Sto->Res D:=EY 2 (C7 W)
def Mc(W:Wd):MS:=
  (BD (Bc 2 (CL (D6 1 (iR1 (AF (Hl W.Web "places" (AA 0)) Aj)) (tgN 0) FY (BG 2 (K8 W) (AF (AA 1) (AF (AA 0) Aj))))))
  (BD (Bc 3 (m2 Zl (m2 iu (mC (.int 1)) (Hl W.Web "places" (AA 0))) (mC (.int 1))))
  (BD (Bc 4 Hv)
  (BD (G3 (N3 (AA 1)) (Gj 2 (CG (tgN 5) (CG (tgN 6) G7)))
  (sIf (mB (m2 (eqD false) (AA 6) (mC (.int 0)))) (B0 (BG 5 (Fn W 62) (AF (AA 2) (AF (AA 3) (AF (AA 4) (AF (AA 5) (AF Hv Aj))))))) sNx))
  (Dj (AA 4))))))
def KD(W:Wd):List D->Sto->Res D:=EY 7 (Mc W)
def Gw(W:Wd):MS:=
  (BD (Bc 1 (BG 2 (KD W) (AF (AA 0) (AF (BG 1 (C5 W) (AF (AA 0) Aj)) Aj))))
  (BD (sFz 1) (Dj (Ey (CL (D6 1 (Wz (AA 1)) (tgN 0) FY (Ga (AF (mQ ND (AF (AA 0) (AF (m2 ixA (AA 2) (AA 0)) Aj))) (AF (mQ NF (AF (AA 0) (AF (m2 ixA (AA 2) (AA 0)) Aj))) Aj)))))))))
def EV(W:Wd):List D->Sto->Res D:=EY 2 (Gw W)
def HQ(W:Wd):MS:=
  (BD (Bc 3 (LQ (AA 2)))
  (BD (Bc 4 (CL (D6 2 (N3 (AA 1)) (Gj 2 (CG (tgN 0) (CG (tgN 1) G7))) (Qr (mB (m2 (eqD false) (AA 1) (mC (.int 0)))) (mB (m2 (inA true) (AA 0) (AA 5)))) (AA 0))))
  (BD (Bc 5 Hv)
  (BD (GC (Lc (AA 4)) (BD (Bc 6 (ai (AA 4)))
  (sIf (mB (m2 (inA true) (AA 6) (AA 5))) (BD (DL (AA 5) (AA 6) (mC (.bl true)))
  (sIf (mB (m2 (eqD false) (m2 ixA (AA 1) (AA 6)) (mC (.int 0)))) (B0 (UB (AA 4) (BG 2 (K8 W) (AF (AA 0) (AF (AA 6) Aj))))) (B0 (GH (AA 4) (m2 ixA (AA 2) (AA 6)))))) sNx)) wN)
  (Dj (AA 5))))))
def HN(W:Wd):List D->Sto->Res D:=EY 7 (HQ W)
def Fs(W:Wd):MS:=
  (BD (Bc 1 (BG 1 (C5 W) (AF (AA 0) Aj)))
  (BD (Bc 2 (BG 3 (HN W) (AF (AA 0) (AF (AA 1) (AF (BG 2 (KD W) (AF (AA 0) (AF (AA 1) Aj))) Aj)))))
  (Dj (GF (CL (D6 2 (N3 (AA 1)) (Gj 2 (CG (tgN 0) (CG (tgN 1) G7))) (mB (m2 (eqD false) (m2 (inA false) (AA 0) (AA 4)) (m2 (eqD false) (AA 1) (mC (.int 1))))) (AA 0)))))))
def DW(W:Wd):List D->Sto->Res D:=EY 3 (Fs W)
def Dv(W:Wd):MS:=
  (BD (Bc 1 (BG 1 (DW W) (AF (AA 0) Aj)))
  (BD (Bc 2 (GF (CL (D6 1 (iR1 (AF (Hl W.Web "places" (AA 0)) Aj)) (tgN 0) (mB (m2 (inA true) (AA 0) (AA 2))) (AA 0)))))
  (BD (Bc 3 (BG 1 (EV W) (AF (AA 0) Aj)))
  (BD (Bc 4 Hv)
  (BD (G3 (G4 (AA 3)) (Gj 2 (CG (tgN 5) (CG (tgN 6) G7)))
  (BD (DL (AA 4) (AA 5) (mC (.bl true)))
  (DL (AA 4) (AA 6) (mC (.bl true)))))
  (BD (Bc 7 (CL (D6 1 (iR1 (AF (Hl W.Web "places" (AA 0)) Aj)) (tgN 0) (mB (m2 (inA true) (AA 0) (AA 5))) (Ga (AF (AA 0) Aj)))))
  (Dj (Ga (AF (AA 2) (AF (Ey (m2 FJ (AA 3) (AA 7))) Aj))))))))))
def DH(W:Wd):List D->Sto->Res D:=EY 8 (Dv W)
def IZ(W:Wd):MS:=
  (BD (sIf (mB (m2 ltD (AA 1) (J9 (AA 0)))) (Dj (m2 ixA (AA 0) (AA 1))) sNx)
  (Dj (mC (.int 0))))
def EJ(W:Wd):List D->Sto->Res D:=EY 2 (IZ W)
def NS(W:Wd):MS:=
  (BD (Bc 2 (m2 DZ (m2 Kv (m2 FJ (m2 DZ (AA 0) (mC (.int 2147483647))) (AA 1)) (mC (.int 48271))) (mC (.int 2147483647))))
  (Dj (m2 DZ (m2 Kv (AA 2) (AA 2)) (mC (.int 2147483629)))))
def B1(W:Wd):List D->Sto->Res D:=EY 3 (NS W)
def OS(W:Wd):MS:=
  (BD (Bc 2 (CL (Bi (AF (J9 (AA 0)) Aj))))
  (BD (G3 (iR1 (AF (mC (.int 24)) Aj)) (tgN 3)
  (BD (Bc 4 (Ov (AA 0) (Py (m2 FJ (AA 1) (AA 3))) Wo (Py (mC (.int 24)))))
  (sIf (mB (m2 (eqD true) (AA 4) (CL (Bi Aj)))) (B0 (GH (AA 2) (Vo (AA 4)))) sNx)))
  (Dj (AA 2))))
def Ir(W:Wd):List D->Sto->Res D:=EY 5 (OS W)
def OR(W:Wd):MS:=
  (BD (Bc 3 (CL (Bi Aj)))
  (BD (Bc 4 (mC (.int 0)))
  (BD (G3 (iR2 (AF (mC (.int 1)) (AF (AA 1) Aj))) (tgN 5)
  (G3 (iR1 (AF (AA 5) Aj)) (tgN 6)
  (BD (Bc 7 (m2 ixA (AA 0) (m2 DZ (AA 4) (J9 (AA 0)))))
  (BD (Bc 4 (m2 FJ (AA 4) (mC (.int 1))))
  (sIf (mB (m2 ltD (m2 DZ (BG 2 (B1 W) (AF (AA 7) (AF (m2 FJ (m2 Kv (mC (.int 7)) (AA 6)) (m2 Kv (mC (.int 61)) (AA 5))) Aj))) (mC (.int 6))) (AA 2))) (B0 (GH (AA 3) (Ga (AF (AA 6) (AF (AA 5) Aj))))) sNx)))))
  (Dj (AA 3)))))
def K9(W:Wd):List D->Sto->Res D:=EY 8 (OR W)
def Hf(W:Wd):MS:=
  (BD (Bc 2 (CL (Bi Aj)))
  (BD (G3 (iR1 (AF (J9 (AA 0)) Aj)) (tgN 3)
  (sIf (mB (m2 (eqD false) (m2 DZ (BG 2 (B1 W) (AF (AA 1) (AF (AA 3) Aj))) (mC (.int 2))) (mC (.int 0)))) (B0 (GH (AA 2) (m2 ixA (AA 0) (AA 3)))) (B0 (GH (AA 2) (Ga (AF (m2 ixA (m2 ixA (AA 0) (AA 3)) (mC (.int 1))) (AF (m2 ixA (m2 ixA (AA 0) (AA 3)) (mC (.int 0))) Aj)))))))
  (BD (sIf (mB (m2 (eqD false) (m2 DZ (AA 1) (mC (.int 2))) (mC (.int 1)))) (B0 (ah (AA 2))) sNx)
  (Dj (AA 2)))))
def Dy(W:Wd):List D->Sto->Res D:=EY 4 (Hf W)
def JL(W:Wd):MS:=
  (BD (Bc 1 (BG 2 (EJ W) (AF (AA 0) (AF (mC (.int 0)) Aj))))
  (BD (Bc 2 (m2 FJ (mC (.int 1)) (m2 DZ (AA 1) (mC (.int 14)))))
  (BD (Bc 3 (BG 2 (Ir W) (AF (AA 0) (AF (mC (.int 1)) Aj))))
  (BD (Bc 4 (m2 FJ (mC (.int 1)) (m2 DZ (m2 Jj (AA 1) (mC (.int 5))) (mC (.int 6)))))
  (BD (sIf (mB (m2 (eqD false) (m2 DZ (m2 Jj (AA 1) (mC (.int 14))) (mC (.int 8))) (mC (.int 3)))) (BD (Bc 2 (m2 FJ (mC (.int 15)) (m2 DZ (m2 Jj (AA 1) (mC (.int 112))) (mC (.int 46)))))
  (Bc 4 (mC (.int 1)))) sNx)
  (BD (Bc 5 (CL (Bi Aj)))
  (BD (G3 (G4 (BG 3 (K9 W) (AF (AA 3) (AF (AA 2) (AF (AA 4) Aj))))) (Gj 2 (CG (tgN 6) (CG (tgN 7) G7)))
  (sIf (mB (m2 (eqD true) (m2 DZ (BG 2 (B1 W) (AF (AA 1) (AF (m2 FJ (mC (.int 501)) (AA 6)) Aj))) (mC (.int 2))) (m2 DZ (BG 2 (B1 W) (AF (AA 1) (AF (m2 FJ (mC (.int 501)) (AA 7)) Aj))) (mC (.int 2))))) (B0 (GH (AA 5) (Ga (AF (AA 6) (AF (AA 7) Aj))))) sNx))
  (Dj (Ga (AF (AA 2) (AF (AA 5) Aj)))))))))))
def Fo(W:Wd):List D->Sto->Res D:=EY 8 (JL W)
def Gy(W:Wd):MS:=
  (BD (Bc 2 (CL (Bi Aj)))
  (BD (X3 W.excs 3 (sIf (mB (m2 (eqD false) (AA 0) (mC (.int 0)))) (B0 (BG 1 (EV W) (AF (AA 1) Aj))) (sIf (mB (m2 (eqD false) (AA 0) (mC (.int 1)))) (B0 (BG 1 (DW W) (AF (AA 1) Aj))) (B0 (BG 1 (DH W) (AF (AA 1) Aj))))) (BD (Bc 4 (YR (A6 W) (AA 3)))
  (Bc 2 (CL (Bi (AF (mIs isN (JV W) (AA 3)) (AF (mIs isV (Fk W) (AA 3)) (AF (AA 4) Aj))))))))
  (Dj (AA 2))))
def CY(W:Wd):List D->Sto->Res D:=EY 5 (Gy W)
def JK(W:Wd):MS:=
  (BD (Bc 3 (m2 FJ (mC (.int 3)) (m2 Kv (m2 DZ (AA 2) (mC (.int 3))) (mC (.int 2)))))
  (BD (sIf (mB (m2 ltD (AA 0) (AA 3))) (Dj (mC .non)) sNx)
  (BD (Bc 4 (CL (D6 1 (iR2 (AF (mC (.int 1)) (AF (AA 0) Aj))) (tgN 0) (mB (mQ gH (Qq (CL (D6 1 (iR2 (AF (mC (.int 1)) (AF (AA 4) Aj))) (tgN 0) FY (m2 (eqD true) (m2 DZ (m2 Kv (AA 1) (AA 0)) (AA 2)) (mC (.int 0)))))))) (AA 0))))
  (BD (Bc 5 (m2 ixA (AA 4) (m2 DZ (m2 Jj (AA 2) (mC (.int 3))) (J9 (AA 4)))))
  (BD (Bc 6 (CL (D6 1 (iR1 (AF (AA 3) Aj)) (tgN 0) FY (m2 DZ (m2 FJ (m2 Jj (AA 3) (mC (.int 40))) (m2 Kv (AA 6) (AA 0))) (AA 1)))))
  (BD (Bc 7 (CL (mN Wu (Qq (AA 1)))))
  (BD (G3 (iR1 (AF (AA 3) Aj)) (tgN 8)
  (BD (Bc 9 (Ga (AF (mQ ND (AF (m2 ixA (AA 6) (m2 Zl (AA 8) (mC (.int 1)))) (AF (m2 ixA (AA 6) (AA 8)) Aj))) (AF (mQ NF (AF (m2 ixA (AA 6) (m2 Zl (AA 8) (mC (.int 1)))) (AF (m2 ixA (AA 6) (AA 8)) Aj))) Aj))))
  (sIf (mB (m2 (inA true) (AA 9) (AA 7))) (B0 (GH (AA 7) (AA 9))) sNx)))
  (Dj (AA 7)))))))))
def JH(W:Wd):List D->Sto->Res D:=EY 10 (JK W)
def UZ(W:Wd):MS:=
  (BD (Bc 1 (BG 2 (EJ W) (AF (AA 0) (AF (mC (.int 0)) Aj))))
  (BD (Va (BG 1 (Fo W) (AF (AA 0) Aj)) (Gj 2 (CG (tgN 2) (CG (tgN 3) G7))))
  (BD (Bc 4 (P7 W.Web 3 (IW W) (AF (AA 2) (AF (BG 2 (Dy W) (AF (AA 3) (AF (AA 1) Aj))) Aj))))
  (BD (sIf (mB (m2 (Qu true) (CL (D6 1 (iR1 (AF (mC (.int 3)) Aj)) (tgN 0) FY (BG 2 (CY W) (AF (AA 0) (AF (AA 5) Aj))))) (CL (Bi (AF (CL (Bi Aj)) (AF (CL (Bi Aj)) (AF (CL (Bi Aj)) Aj))))))) (Dj (mC (.bl false))) sNx)
  (BD (Bc 5 (BG 3 (JH W) (AF (AA 2) (AF (AA 3) (AF (m2 Jj (AA 1) (mC (.int 11))) Aj)))))
  (BD (sIf (mB (m2 (Vr false) (AA 5) (mC .non))) (Dj (mC (.bl true))) sNx)
  (BD (Bc 6 (P7 W.Web 3 (IW W) (AF (AA 2) (AF (BG 2 (Dy W) (AF (AA 5) (AF (AA 1) Aj))) Aj))))
  (Dj (m2 (Qu false) (CL (D6 1 (iR1 (AF (mC (.int 3)) Aj)) (tgN 0) FY (BG 2 (CY W) (AF (AA 0) (AF (AA 7) Aj))))) (m2 X9 (CL (Bi (AF (CL (Bi (AF (mC (.bl true)) (AF (mC (.bl true)) (AF (mC (.bl false)) Aj))))) Aj))) (mC (.int 3))))))))))))
def bV(W:Wd):List D->Sto->Res D:=EY 7 (UZ W)
structure Txt(K:AG)(mg:Str->Option AH)(W:Wd) where
 d_checked_ties:Dfn K mg "checked_ties" "checked_ties" EC ["places", "ties"]
 d_near_sets_of:Dfn K mg "near_sets_of" "near_sets_of" EB ["places", "ties"]
 d_Web_init:Mtd K "__init__" "Web.__init__" HI ["self", "places", "ties"]
 d_refuse_no_place:Dfn K mg "refuse_no_place" "refuse_no_place" DC ["web", "place"]
 d_near:Dfn K mg "near" "near" Np ["web", "place"]
 d_steps_from:Dfn K mg "steps_from" "steps_from" FP ["web", "start"]
 d_parts_of:Dfn K mg "parts_of" "parts_of" HG ["web"]
 d_steps_in_parts:Dfn K mg "steps_in_parts" "steps_in_parts" DX ["web"]
 d_first_clash:Dfn K mg "first_clash" "first_clash" Ef ["web", "steps"]
 d_two_colours:Dfn K mg "two_colours" "two_colours" Ed ["web"]
 d_settle:Dfn K mg "settle" "settle" JX ["takes", "bits", "holders", "guard", "seen"]
 d_colours_or_refused:Dfn K mg "colours_or_refused" "colours_or_refused" Cc ["web"]
 d_partners:Dfn K mg "partners" "partners" HH ["web", "colours"]
 d_most_pairs:Dfn K mg "most_pairs" "most_pairs" FQ ["web"]
 d_places_reached:Dfn K mg "places_reached" "places_reached" DY ["web", "colours", "found"]
 d_least_cover:Dfn K mg "least_cover" "least_cover" Ee ["web"]
 d_apart_and_clubs:Dfn K mg "apart_and_clubs" "apart_and_clubs" DD ["web"]
 d__law_cell_at:Dfn K mg "_law_cell_at" "_law_cell_at" ED ["script", "k"]
 d__law_mixed:Dfn K mg "_law_mixed" "_law_mixed" FR ["cell", "salt"]
 d__law_pool:Dfn K mg "_law_pool" "_law_pool" GR ["script", "start"]
 d__law_ties:Dfn K mg "_law_ties" "_law_ties" GP ["pool", "many", "thick"]
 d__law_turned:Dfn K mg "_law_turned" "_law_turned" Eg ["ties", "cell"]
 d__law_halves:Dfn K mg "_law_halves" "_law_halves" Ei ["script"]
 d__law_marks:Dfn K mg "_law_marks" "_law_marks" FS ["way", "web"]
 d__law_ringed:Dfn K mg "_law_ringed" "_law_ringed" Eh ["many", "ties", "cell"]
 d_law:Dfn K mg "law" "law" RI ["script"]
 c_Web:Own K mg "Web" W.Web d_Web_init.f
 n_Web_places:Ic K W.Web "places"
 n_Web_ties:Ic K W.Web "ties"
 n_Web_near_sets:Ic K W.Web "near_sets"
 xm_GuardError:mg "GuardError" = some (.ref W.GuardError)
 x_BadPlaces:Xcl K mg "BadPlaces" W.BadPlaces
 x_BadTie:Xcl K mg "BadTie" W.BadTie
 x_NoPlace:Xcl K mg "NoPlace" W.NoPlace
 xm_TooLarge:mg "TooLarge" = some (.ref W.TooLarge)
 xm_BadGuards:mg "BadGuards" = some (.ref W.BadGuards)
 x_NotTwo:Xcl K mg "NotTwo" W.NotTwo
 xm_NotWood:mg "NotWood" = some (.ref W.NotWood)
 nd:W.excs.Nodup
 caught_GuardError:∀c∈W.excs,WD K c W.GuardError
 is_NotTwo:∀C b,JV W C=some b->XIs K C/\Bt K (.ref C) (.ref W.NotTwo)=some b
 i_NotTwo:(EZ K W.NotTwo).isSome=true/\Ke K (.ref W.NotTwo)=some (.type "type")
 is_ValueError:∀C b,Fk W C=some b->XIs K C/\Bt K (.ref C) (.type "ValueError")=some b
 isT_BadGuards_BadPlaces_BadTie_NoPlace_NotWood_TooLarge:∀C b,A6 W C=some b->XIs K C/\Cw K (.ref C) (([W.BadGuards,W.BadPlaces,W.BadTie,W.NoPlace,W.NotWood,W.TooLarge]:List AV).map Au)=some b
 b_ValueError:mg "ValueError" = none
 b_all:mg "all" = none
 b_enumerate:mg "enumerate" = none
 b_isinstance:mg "isinstance" = none
 b_len:mg "len" = none
 b_list:mg "list" = none
 b_max:mg "max" = none
 b_min:mg "min" = none
 b_range:mg "range" = none
 b_sorted:mg "sorted" = none
 b_sum:mg "sum" = none
 b_tuple:mg "tuple" = none
 g_MOST_PLACES:∃tk,mg "MOST_PLACES" = some (.int 60 tk)
section
variable{P:Bp}{w:CF}{K:AG}{mg:Str->Option AH}{base:Cj}{W:Wd}
theorem Oc:B3 ["places", "ties", "found", "one", "other", "tie"] ["places", "ties"] (As EC):=Hk
theorem Og(T:Txt K mg W):D0 P w K mg base (CXG P w) 1 T.d_checked_ties.f T.d_checked_ties.fd ["places", "ties"] (spM K 2 (Gu W)):=by
 refine CN (k:=0) T.d_checked_ties.F Oc rfl λ_ _ _ _ _ _ hr O hu nd pn E'=>?_
 exact(AW (B8 2 nd bP)
  (AW (FG (BJ O).own rfl (Hw (AD (pv 1))) (KC rfl (Co (CZ 3 nd) (Co (CZ 4 nd) IG)))
  (AW (B8 5 nd (JE (AI (SY rfl rfl T.b_min (AI (AD (pv 3)) (AI (AD (pv 4)) Av))) (AI (SZ rfl rfl T.b_max (AI (AD (pv 3)) (AI (AD (pv 4)) Av))) Av))))
  (AW (Dt (DT (KR hu) (Dm hu (AD (pv 5)) ge_int) (Dm hu (AD (pv 5)) ge_int) (DM _)) (Ap (Jd (BJ O) rfl T.x_BadTie.xc rfl T.x_BadTie.m (AI MY Av))) CW)
  (AW (Dt (j9 (nE (DT T3 (Dm hu (AD (pv 5)) ge_int) ge_int (DM _)) (j8 (DT mU (Dm hu (AD (pv 5)) ge_int) (AD (pv 0)) (DM _))))) (Ap (Jd (BJ O) rfl T.x_BadTie.xc rfl T.x_BadTie.m (AI MY Av))) CW)
  (AW (Dt (nF hu (AD (pv 5)) (AD (pv 2))) (Ap (Jd (BJ O) rfl T.x_BadTie.xc rfl T.x_BadTie.m (AI MY Av))) CW)
  (Ap (Ip (A4 (Cn (by decide:1<=64) _) hu) (AD (pv 2)) (AD (pv 5)) Jh rfl)))))))
  (Ap (CU (IU rfl T.b_tuple (Jf rfl rfl T.b_sorted (AD (pv 2))))))))
theorem Oa:B3 ["places", "ties", "rows", "one", "other"] ["places", "ties"] (As EB):=Hk
theorem Of(T:Txt K mg W):D0 P w K mg base (CXG P w) 1 T.d_near_sets_of.f T.d_near_sets_of.fd ["places", "ties"] (spM K 2 (Gt W)):=by
 refine CN (k:=0) T.d_near_sets_of.F Oa rfl λ_ _ _ _ _ _ hr O hu nd pn E'=>?_
 exact(AW (KB (i:=2) (own:=["place"]) (N':=["place", "·1", "·2", "·3", "·4", "·5"]) rfl rfl nd rfl (by first | exact LJ rfl | exact KM rfl) (EX (by kernel_rfl)) (Da rfl T.b_range (AI (AD (pv 0)) Av)) (λ_ _ _ _ _ _=>(CZ 0 (by decide +kernel:(["place", "·1", "·2", "·3", "·4", "·5"]:List Str).Nodup))) (λ_ _ _ _ _ _=>Gr) (λ_ _ _ _ _ _=>(C2 (FH Av))))
  (AW (FG (BJ O).own rfl (Hw (AD (pv 1))) (KC rfl (Co (CZ 3 nd) (Co (CZ 4 nd) IG)))
  (AW (DG (EI (Dm hu (AD (pv 2)) (AD (pv 3))) (AD (pv 4))))
  (Ap (DG (EI (Dm hu (AD (pv 2)) (AD (pv 4))) (AD (pv 3)))))))
  (Ap (CU (IU rfl T.b_tuple (C2 (Iq (own:=["row"]) (N':=["row", "·1", "·2", "·3", "·4", "·5"]) rfl (EX (by kernel_rfl)) (Hw (AD (pv 2))) (λ_ _ _ _ _ _=>(CZ 0 (by decide +kernel:(["row", "·1", "·2", "·3", "·4", "·5"]:List Str).Nodup))) (λ_ _ _ _ _ _=>Gr) (λ_ _ _ _ _ _=>(IU rfl T.b_tuple (Jf rfl rfl T.b_sorted (AD (pv 0))))))))))))
theorem Tq:B3 ["self", "places", "ties"] ["self", "places", "ties"] (As HI):=Hk
theorem OM(T:Txt K mg W):D0 P w K mg base (CXG P w) 2 T.d_Web_init.f T.d_Web_init.fd ["self", "places", "ties"] (spM K 3 (IW W)):=by
 refine CN (k:=1) T.d_Web_init.F Tq rfl λ_ _ _ _ _ _ hr O hu nd pn E'=>?_
 exact(AW (Dt (bM (UK aO aO ge_int (AD (pv 1)) (UN rfl T.g_MOST_PLACES.choose_spec))) (Ap (Jd (BJ O) rfl T.x_BadPlaces.xc rfl T.x_BadPlaces.m (AI (fM (SW MY (SW (kM (UN rfl T.g_MOST_PLACES.choose_spec)) (SW MY kF)))) Av))) CW)
  (AW (Vu T.c_Web.cl T.n_Web_places (AD (pv 0)) (AD (pv 1)) rfl)
  (AW (Vu T.c_Web.cl T.n_Web_ties (AD (pv 0)) (Bh (Og T) (BJ O).pass (hr.mono (by decide)) rfl T.d_checked_ties.m T.d_checked_ties.kp T.d_checked_ties.b (AI (AD (pv 1)) (AI (AD (pv 2)) Av))) rfl)
  (Ap (Vu T.c_Web.cl T.n_Web_near_sets (AD (pv 0)) (Bh (Of T) (BJ O).pass (hr.mono (by decide)) rfl T.d_near_sets_of.m T.d_near_sets_of.kp T.d_near_sets_of.b (AI (AD (pv 1)) (AI (JF T.c_Web.cl T.n_Web_ties (AD (pv 0)) rfl) Av))) rfl)))))
theorem MH:B3 ["web", "place"] ["web", "place"] (As DC):=Hk
theorem MN(T:Txt K mg W):D0 P w K mg base (CXG P w) 1 T.d_refuse_no_place.f T.d_refuse_no_place.fd ["web", "place"] (spM K 2 (Du W)):=by
 refine CN (k:=0) T.d_refuse_no_place.F MH rfl λ_ _ _ _ _ _ hr O hu nd pn E'=>?_
 exact(Ap (Dt (bM (UK aO T3 ge_int (AD (pv 1)) (JF T.c_Web.cl T.n_Web_places (AD (pv 0)) rfl))) (Ap (Jd (BJ O) rfl T.x_NoPlace.xc rfl T.x_NoPlace.m (AI MY Av))) CW))
theorem de:B3 ["web", "place"] ["web", "place"] (As Np):=Hk
theorem SH(T:Txt K mg W):D0 P w K mg base (CXG P w) 2 T.d_near.f T.d_near.fd ["web", "place"] (spM K 2 (K8 W)):=by
 refine CN (k:=1) T.d_near.F de rfl λ_ _ _ _ _ _ hr O hu nd pn E'=>?_
 exact(AW (DG (Bh (MN T) (BJ O).pass (hr.mono (by decide)) rfl T.d_refuse_no_place.m T.d_refuse_no_place.kp T.d_refuse_no_place.b (AI (AD (pv 0)) (AI (AD (pv 1)) Av))))
  (Ap (CU (Dm hu (JF T.c_Web.cl T.n_Web_near_sets (AD (pv 0)) rfl) (AD (pv 1))))))
theorem Qk:B3 ["web", "start", "steps", "layer", "further", "place", "beside"] ["web", "start"] (As FP):=Hk
theorem Lr(T:Txt K mg W):D0 P w K mg base (CXG P w) 3 T.d_steps_from.f T.d_steps_from.fd ["web", "start"] (spM K 2 (DU W)):=by
 refine CN (k:=2) T.d_steps_from.F Qk rfl λ_ _ _ _ _ _ hr O hu nd pn E'=>?_
 exact(AW (B8 2 nd (bQ (AD (pv 1)) ge_int))
  (AW (B8 3 nd (C2 (FH (AI (AD (pv 1)) Av))))
  (AW (UL wN (BJ O).own (NO (AD (pv 3))) (AW (B8 4 nd (C2 (FH Av)))
  (AW (FG (BJ O).own rfl (Hw (AD (pv 3))) (CZ 5 nd)
  (Ap (FG (BJ O).own rfl (Hw (Bh (SH T) (BJ O).pass (hr.mono (by decide)) rfl T.d_near.m T.d_near.kp T.d_near.b (AI (AD (pv 0)) (AI (AD (pv 5)) Av)))) (CZ 6 nd)
  (Ap (Dt (Fm hu (AD (pv 6)) (AD (pv 2))) (AW (Ip (A4 (Cn (by decide:1<=64) _) hu) (AD (pv 2)) (AD (pv 6)) (BX HK (Dm hu (AD (pv 2)) (AD (pv 5))) ge_int) rfl)
  (Ap (DG (EI (AD (pv 4)) (AD (pv 6)))))) CW)))))
  (Ap (B8 3 nd (AD (pv 4)))))))
  (Ap (CU (AD (pv 2)))))))
theorem To:B3 ["web", "parts", "seen", "place", "steps"] ["web"] (As HG):=Hk
theorem T1(T:Txt K mg W):D0 P w K mg base (CXG P w) 4 T.d_parts_of.f T.d_parts_of.fd ["web"] (spM K 1 (IV W)):=by
 refine CN (k:=3) T.d_parts_of.F To rfl λ_ _ _ _ _ _ hr O hu nd pn E'=>?_
 exact(AW (B8 1 nd (C2 (FH Av)))
  (AW (B8 2 nd Jg)
  (AW (FG (BJ O).own rfl (Da rfl T.b_range (AI (JF T.c_Web.cl T.n_Web_places (AD (pv 0)) rfl) Av)) (CZ 3 nd)
  (Ap (Dt (Fm hu (AD (pv 3)) (AD (pv 2))) (AW (B8 4 nd (Bh (Lr T) (BJ O).pass (hr.mono (by decide)) rfl T.d_steps_from.m T.d_steps_from.kp T.d_steps_from.b (AI (AD (pv 0)) (AI (AD (pv 3)) Av))))
  (AW (DG (W5 (AD (pv 2)) (AD (pv 4))))
  (Ap (DG (EI (AD (pv 1)) (IU rfl T.b_tuple (Jf rfl rfl T.b_sorted (AD (pv 4))))))))) CW)))
  (Ap (CU (AD (pv 1)))))))
theorem M0:B3 ["web", "steps", "part"] ["web"] (As DX):=Hk
theorem M7(T:Txt K mg W):D0 P w K mg base (CXG P w) 5 T.d_steps_in_parts.f T.d_steps_in_parts.fd ["web"] (spM K 1 (FW W)):=by
 refine CN (k:=4) T.d_steps_in_parts.F M0 rfl λ_ _ _ _ _ _ hr O hu nd pn E'=>?_
 exact(AW (B8 1 nd Jg)
  (AW (FG (BJ O).own rfl (Hw (Bh (T1 T) (BJ O).pass (hr.mono (by decide)) rfl T.d_parts_of.m T.d_parts_of.kp T.d_parts_of.b (AI (AD (pv 0)) Av))) (CZ 2 nd)
  (Ap (DG (W5 (AD (pv 1)) (Bh (Lr T) (BJ O).pass (hr.mono (by decide)) rfl T.d_steps_from.m T.d_steps_from.kp T.d_steps_from.b (AI (AD (pv 0)) (AI (Dm hu (AD (pv 2)) ge_int) Av)))))))
  (Ap (CU (AD (pv 1))))))
theorem Pi:B3 ["web", "steps", "one", "other"] ["web", "steps"] (As Ef):=Hk
theorem Pu(T:Txt K mg W):D0 P w K mg base (CXG P w) 1 T.d_first_clash.f T.d_first_clash.fd ["web", "steps"] (spM K 2 (El W)):=by
 refine CN (k:=0) T.d_first_clash.F Pi rfl λ_ _ _ _ _ _ hr O hu nd pn E'=>?_
 exact(AW (FG (BJ O).own rfl (Hw (JF T.c_Web.cl T.n_Web_ties (AD (pv 0)) rfl)) (KC rfl (Co (CZ 2 nd) (Co (CZ 3 nd) IG)))
  (Ap (Dt (DT (KR hu) (BX EF (Dm hu (AD (pv 1)) (AD (pv 2))) ge_int) (BX EF (Dm hu (AD (pv 1)) (AD (pv 3))) ge_int) (DM _)) (Ap (CU (JE (AI (AD (pv 2)) (AI (AD (pv 3)) Av))))) CW)))
  (Ap (CU N5)))
theorem Pg:B3 ["web", "steps"] ["web"] (As Ed):=Hk
theorem Pt(T:Txt K mg W):D0 P w K mg base (CXG P w) 6 T.d_two_colours.f T.d_two_colours.fd ["web"] (spM K 1 (He W)):=by
 refine CN (k:=5) T.d_two_colours.F Pg rfl λ_ _ _ _ _ _ hr O hu nd pn E'=>?_
 exact(AW (B8 1 nd (Bh (M7 T) (BJ O).pass (hr.mono (by decide)) rfl T.d_steps_in_parts.m T.d_steps_in_parts.kp T.d_steps_in_parts.b (AI (AD (pv 0)) Av)))
  (AW (Dt (DT eZ (Bh (Pu T) (BJ O).pass (hr.mono (by decide)) rfl T.d_first_clash.m T.d_first_clash.kp T.d_first_clash.b (AI (AD (pv 0)) (AI (AD (pv 1)) Av))) N5 (DM _)) (Ap (CU N5)) CW)
  (Ap (CU (IU rfl T.b_tuple (C2 (Iq (own:=["place"]) (N':=["place", "·1", "steps"]) rfl (EX (by kernel_rfl)) (Da rfl T.b_range (AI (JF T.c_Web.cl T.n_Web_places (AD (pv 0)) rfl) Av)) (λ_ _ _ _ _ _=>(CZ 0 (by decide +kernel:(["place", "·1", "steps"]:List Str).Nodup))) (λ_ _ _ _ _ _=>Gr) (λ_ _ _ _ _ _=>(BX EF (Dm hu (AD (pv 2)) (AD (pv 0))) ge_int)))))))))
theorem X1:B3 ["takes", "bits", "holders", "guard", "seen", "wanted", "place"] ["takes", "bits", "holders", "guard", "seen"] (As JX):=Hk
theorem RM(T:Txt K mg W):∀n:Nat,D0 P w K mg base (CXG P w) (0+n) T.d_settle.f T.d_settle.fd ["takes", "bits", "holders", "guard", "seen"] (spM K 5 (Fn W n))
 | 0=>kS
 | n+1=>by
  refine CN (k:=0+n) T.d_settle.F X1 rfl λ_ _ _ _ _ _ hr O hu nd pn E'=>?_
  exact(AW (KB (i:=5) (own:=["place"]) (N':=["place", "·1", "bits", "·3", "·4", "seen", "·6", "·7"]) rfl rfl nd rfl (by first | exact LJ rfl | exact KM rfl) (EX (by kernel_rfl)) (Hw (Dm hu (AD (pv 0)) (AD (pv 3)))) (λ_ _ _ _ _ _=>(CZ 0 (by decide +kernel:(["place", "·1", "bits", "·3", "·4", "seen", "·6", "·7"]:List Str).Nodup))) (λ_ _ _ _ _ _=>(Je (j9 (bL (NO (BX ji (BX jd (AD (pv 2)) (AD (pv 0))) ge_int)) (W0 (Fm hu (AD (pv 0)) (AD (pv 5)))))))) (λ_ _ _ _ _ _=>(AD (pv 0))))
  (AW (FG (BJ O).own rfl (Hw (AD (pv 5))) (CZ 6 nd)
  (Ap (Dt (Fm hu (AD (pv 6)) (AD (pv 2))) (AW (Ip (A4 (Cn (by decide:1<=64) _) hu) (AD (pv 2)) (AD (pv 6)) (AD (pv 3)) rfl)
  (Ap (CU Jh))) CW)))
  (AW (FG (BJ O).own rfl (Hw (AD (pv 5))) (CZ 6 nd)
  (Ap (Dt (Fm hu (AD (pv 6)) (AD (pv 4))) (AW (Ip (A4 (Cn (by decide:1<=64) _) hu) (AD (pv 4)) (AD (pv 6)) Jh rfl)
  (Ap (Dt (NO (Bh (RM T n) (BJ O).pass (hr.mono (AN _)) rfl T.d_settle.m T.d_settle.kp T.d_settle.b (AI (AD (pv 0)) (AI (AD (pv 1)) (AI (AD (pv 2)) (AI (Dm hu (AD (pv 2)) (AD (pv 6))) (AI (AD (pv 4)) Av))))))) (AW (Ip (A4 (Cn (by decide:1<=64) _) hu) (AD (pv 2)) (AD (pv 6)) (AD (pv 3)) rfl)
  (Ap (CU Jh))) CW))) CW)))
  (Ap (CU Jh)))))
theorem KU:B3 ["web", "colours"] ["web"] (As Cc):=Hk
theorem G9(T:Txt K mg W):D0 P w K mg base (CXG P w) 7 T.d_colours_or_refused.f T.d_colours_or_refused.fd ["web"] (spM K 1 (C5 W)):=by
 refine CN (k:=6) T.d_colours_or_refused.F KU rfl λ_ _ _ _ _ _ hr O hu nd pn E'=>?_
 exact(AW (B8 1 nd (Bh (Pt T) (BJ O).pass (hr.mono (by decide)) rfl T.d_two_colours.m T.d_two_colours.kp T.d_two_colours.b (AI (AD (pv 0)) Av)))
  (AW (Dt (DT aP (AD (pv 1)) N5 (DM _)) (Ap (Jd (BJ O) rfl T.x_NotTwo.xc rfl T.x_NotTwo.m (AI MY Av))) CW)
  (Ap (CU (AD (pv 1))))))
theorem Tp:B3 ["web", "colours", "takes", "everywhere", "found", "place", "colour"] ["web", "colours"] (As HH):=Hk
theorem OL(T:Txt K mg W):D0 P w K mg base (CXG P w) 64 T.d_partners.f T.d_partners.fd ["web", "colours"] (spM K 2 (KD W)):=by
 refine CN (k:=63) T.d_partners.F Tp rfl λ_ _ _ _ _ _ hr O hu nd pn E'=>?_
 exact(AW (KB (i:=2) (own:=["place"]) (N':=["place", "web", "·2", "·3", "·4", "·5", "·6", "·7"]) rfl rfl nd rfl (by first | exact LJ rfl | exact KM rfl) (EX (by kernel_rfl)) (Da rfl T.b_range (AI (JF T.c_Web.cl T.n_Web_places (AD (pv 0)) rfl) Av)) (λ_ _ _ _ _ _=>(CZ 0 (by decide +kernel:(["place", "web", "·2", "·3", "·4", "·5", "·6", "·7"]:List Str).Nodup))) (λ_ _ _ _ _ _=>Gr) (λ_ _ _ _ _ _=>(Bh (SH T) (good_none rfl).pass (hr.mono (by decide)) rfl T.d_near.m T.d_near.kp T.d_near.b (AI (AD (pv 1)) (AI (AD (pv 0)) Av)))))
  (AW (B8 3 nd (BX Vf (BX je ge_int (JF T.c_Web.cl T.n_Web_places (AD (pv 0)) rfl)) ge_int))
  (AW (B8 4 nd Jg)
  (AW (FG (BJ O).own rfl (SX rfl T.b_enumerate (AD (pv 1))) (KC rfl (Co (CZ 5 nd) (Co (CZ 6 nd) IG)))
  (Ap (Dt (DT (KR hu) (AD (pv 6)) ge_int (DM _)) (Ap (DG (Bh (RM T 62) (BJ O).pass (hr.mono (by decide)) rfl T.d_settle.m T.d_settle.kp T.d_settle.b (AI (AD (pv 2)) (AI (AD (pv 3)) (AI (AD (pv 4)) (AI (AD (pv 5)) (AI Jg Av)))))))) CW)))
  (Ap (CU (AD (pv 4))))))))
theorem Ql:B3 ["web", "found"] ["web"] (As FQ):=Hk
theorem Ls(T:Txt K mg W):D0 P w K mg base (CXG P w) 65 T.d_most_pairs.f T.d_most_pairs.fd ["web"] (spM K 1 (EV W)):=by
 refine CN (k:=64) T.d_most_pairs.F Ql rfl λ_ _ _ _ _ _ hr O hu nd pn E'=>?_
 exact(AW (B8 1 nd (Bh (OL T) (BJ O).pass (hr.mono (by decide)) rfl T.d_partners.m T.d_partners.kp T.d_partners.b (AI (AD (pv 0)) (AI (Bh (G9 T) (BJ O).pass (hr.mono (by decide)) rfl T.d_colours_or_refused.m T.d_colours_or_refused.kp T.d_colours_or_refused.b (AI (AD (pv 0)) Av)) Av))))
  (Ap (nG (i:=1) (CU (Jf rfl rfl T.b_sorted (C2 (Iq (own:=["one"]) (N':=["one", "·1", "found"]) rfl (EX (by kernel_rfl)) (fG (AD (pv 1))) (λ_ _ _ _ _ _=>(CZ 0 (by decide +kernel:(["one", "·1", "found"]:List Str).Nodup))) (λ_ _ _ _ _ _=>Gr) (λ_ _ _ _ _ _=>(JE (AI (SY rfl rfl T.b_min (AI (AD (pv 0)) (AI (Dm hu (AD (pv 2)) (AD (pv 0))) Av))) (AI (SZ rfl rfl T.b_max (AI (AD (pv 0)) (AI (Dm hu (AD (pv 2)) (AD (pv 0))) Av))) Av)))))))))))
theorem M2:B3 ["web", "colours", "found", "paired", "ahead", "reached", "place"] ["web", "colours", "found"] (As DY):=Hk
theorem M8(T:Txt K mg W):D0 P w K mg base (CXG P w) 3 T.d_places_reached.f T.d_places_reached.fd ["web", "colours", "found"] (spM K 3 (HN W)):=by
 refine CN (k:=2) T.d_places_reached.F M2 rfl λ_ _ _ _ _ _ hr O hu nd pn E'=>?_
 exact(AW (B8 3 nd (UM rfl rfl T.b_list (AD (pv 2))))
  (AW (KB (i:=4) (own:=["place", "colour"]) (N':=["place", "colour", "·2", "·3", "·4", "paired", "·6", "·7", "·8"]) rfl rfl nd rfl (by first | exact LJ rfl | exact KM rfl) (EX (by kernel_rfl)) (SX rfl T.b_enumerate (AD (pv 1))) (λ_ _ _ _ _ _=>(KC rfl (Co (CZ 0 (by decide +kernel:(["place", "colour", "·2", "·3", "·4", "paired", "·6", "·7", "·8"]:List Str).Nodup)) (Co (CZ 1 (by decide +kernel:(["place", "colour", "·2", "·3", "·4", "paired", "·6", "·7", "·8"]:List Str).Nodup)) IG)))) (λ_ _ _ _ _ _=>(Je (j9 (bL (DT (KR hu) (AD (pv 1)) ge_int (DM _)) (W0 (Fm hu (AD (pv 0)) (AD (pv 5)))))))) (λ_ _ _ _ _ _=>(AD (pv 0))))
  (AW (B8 5 nd Jg)
  (AW (UL wN (BJ O).own (NO (AD (pv 4))) (AW (B8 6 nd (kK (AD (pv 4))))
  (Ap (Dt (Fm hu (AD (pv 6)) (AD (pv 5))) (AW (Ip (A4 (Cn (by decide:1<=64) _) hu) (AD (pv 5)) (AD (pv 6)) Jh rfl)
  (Ap (Dt (DT (KR hu) (Dm hu (AD (pv 1)) (AD (pv 6))) ge_int (DM _)) (Ap (DG (fN (AD (pv 4)) (Bh (SH T) (BJ O).pass (hr.mono (by decide)) rfl T.d_near.m T.d_near.kp T.d_near.b (AI (AD (pv 0)) (AI (AD (pv 6)) Av)))))) (Ap (DG (EI (AD (pv 4)) (Dm hu (AD (pv 2)) (AD (pv 6))))))))) CW))))
  (Ap (CU (AD (pv 5))))))))
theorem Ph:B3 ["web", "colours", "reached"] ["web"] (As Ee):=Hk
theorem Kr(T:Txt K mg W):D0 P w K mg base (CXG P w) 65 T.d_least_cover.f T.d_least_cover.fd ["web"] (spM K 1 (DW W)):=by
 refine CN (k:=64) T.d_least_cover.F Ph rfl λ_ _ _ _ _ _ hr O hu nd pn E'=>?_
 exact(AW (B8 1 nd (Bh (G9 T) (BJ O).pass (hr.mono (by decide)) rfl T.d_colours_or_refused.m T.d_colours_or_refused.kp T.d_colours_or_refused.b (AI (AD (pv 0)) Av)))
  (AW (B8 2 nd (Bh (M8 T) (BJ O).pass (hr.mono (by decide)) rfl T.d_places_reached.m T.d_places_reached.kp T.d_places_reached.b (AI (AD (pv 0)) (AI (AD (pv 1)) (AI (Bh (OL T) (BJ O).pass (hr.mono (by decide)) rfl T.d_partners.m T.d_partners.kp T.d_partners.b (AI (AD (pv 0)) (AI (AD (pv 1)) Av))) Av)))))
  (Ap (CU (IU rfl T.b_tuple (C2 (Iq (own:=["place", "colour"]) (N':=["place", "colour", "·2", "·3", "reached"]) rfl (EX (by kernel_rfl)) (SX rfl T.b_enumerate (AD (pv 1))) (λ_ _ _ _ _ _=>(KC rfl (Co (CZ 0 (by decide +kernel:(["place", "colour", "·2", "·3", "reached"]:List Str).Nodup)) (Co (CZ 1 (by decide +kernel:(["place", "colour", "·2", "·3", "reached"]:List Str).Nodup)) IG)))) (λ_ _ _ _ _ _=>(Je (DT (KR hu) (nI hu (AD (pv 0)) (AD (pv 4))) (Sa (KR hu) (AD (pv 1)) ge_int (DM _)) (DM _)))) (λ_ _ _ _ _ _=>(AD (pv 0))))))))))
theorem MK:B3 ["web", "cover", "apart", "clubs", "paired", "one", "other", "singles"] ["web"] (As DD):=Hk
theorem MP(T:Txt K mg W):D0 P w K mg base (CXG P w) 66 T.d_apart_and_clubs.f T.d_apart_and_clubs.fd ["web"] (spM K 1 (DH W)):=by
 refine CN (k:=65) T.d_apart_and_clubs.F MK rfl λ_ _ _ _ _ _ hr O hu nd pn E'=>?_
 exact(AW (B8 1 nd (Bh (Kr T) (BJ O).pass (hr.mono (by decide)) rfl T.d_least_cover.m T.d_least_cover.kp T.d_least_cover.b (AI (AD (pv 0)) Av)))
  (AW (B8 2 nd (IU rfl T.b_tuple (C2 (Iq (own:=["place"]) (N':=["place", "·1", "cover", "·3", "·4", "·5", "·6", "·7", "·8"]) rfl (EX (by kernel_rfl)) (Da rfl T.b_range (AI (JF T.c_Web.cl T.n_Web_places (AD (pv 0)) rfl) Av)) (λ_ _ _ _ _ _=>(CZ 0 (by decide +kernel:(["place", "·1", "cover", "·3", "·4", "·5", "·6", "·7", "·8"]:List Str).Nodup))) (λ_ _ _ _ _ _=>(Je (Fm hu (AD (pv 0)) (AD (pv 2))))) (λ_ _ _ _ _ _=>(AD (pv 0)))))))
  (AW (B8 3 nd (Bh (Ls T) (BJ O).pass (hr.mono (by decide)) rfl T.d_most_pairs.m T.d_most_pairs.kp T.d_most_pairs.b (AI (AD (pv 0)) Av)))
  (AW (B8 4 nd Jg)
  (AW (FG (BJ O).own rfl (Hw (AD (pv 3))) (KC rfl (Co (CZ 5 nd) (Co (CZ 6 nd) IG)))
  (AW (Ip (A4 (Cn (by decide:1<=64) _) hu) (AD (pv 4)) (AD (pv 5)) Jh rfl)
  (Ap (Ip (A4 (Cn (by decide:1<=64) _) hu) (AD (pv 4)) (AD (pv 6)) Jh rfl))))
  (AW (KB (i:=7) (own:=["place"]) (N':=["place", "·1", "·2", "·3", "·4", "paired", "·6", "·7", "·8"]) rfl rfl nd rfl (by first | exact LJ rfl | exact KM rfl) (EX (by kernel_rfl)) (Da rfl T.b_range (AI (JF T.c_Web.cl T.n_Web_places (AD (pv 0)) rfl) Av)) (λ_ _ _ _ _ _=>(CZ 0 (by decide +kernel:(["place", "·1", "·2", "·3", "·4", "paired", "·6", "·7", "·8"]:List Str).Nodup))) (λ_ _ _ _ _ _=>(Je (Fm hu (AD (pv 0)) (AD (pv 5))))) (λ_ _ _ _ _ _=>(JE (AI (AD (pv 0)) Av))))
  (Ap (CU (JE (AI (AD (pv 2)) (AI (Jf rfl rfl T.b_sorted (BX HK (AD (pv 3)) (AD (pv 7)))) Av)))))))))))
theorem Od:B3 ["script", "k"] ["script", "k"] (As ED):=Hk
theorem KQ(T:Txt K mg W):D0 P w K mg base (CXG P w) 1 T.d__law_cell_at.f T.d__law_cell_at.fd ["script", "k"] (spM K 2 (EJ W)):=by
 refine CN (k:=0) T.d__law_cell_at.F Od rfl λ_ _ _ _ _ _ hr O hu nd pn E'=>?_
 exact(AW (Dt (DT T3 (AD (pv 1)) (QH rfl T.b_len (AD (pv 0))) (DM _)) (Ap (CU (Dm hu (AD (pv 0)) (AD (pv 1))))) CW)
  (Ap (CU ge_int)))
theorem Qm:B3 ["cell", "salt", "mixed"] ["cell", "salt"] (As FR):=Hk
theorem Hd(T:Txt K mg W):D0 P w K mg base (CXG P w) 1 T.d__law_mixed.f T.d__law_mixed.fd ["cell", "salt"] (spM K 2 (B1 W)):=by
 refine CN (k:=0) T.d__law_mixed.F Qm rfl λ_ _ _ _ _ _ hr O hu nd pn E'=>?_
 exact(AW (B8 2 nd (BX EF (BX MQ (BX HK (BX EF (AD (pv 0)) ge_int) (AD (pv 1))) ge_int) ge_int))
  (Ap (CU (BX EF (BX MQ (AD (pv 2)) (AD (pv 2))) ge_int))))
theorem R9:B3 ["script", "start", "pool", "k", "more"] ["script", "start"] (As GR):=Hk
theorem SJ(T:Txt K mg W):D0 P w K mg base (CXG P w) 1 T.d__law_pool.f T.d__law_pool.fd ["script", "start"] (spM K 2 (Ir W)):=by
 refine CN (k:=0) T.d__law_pool.F R9 rfl λ_ _ _ _ _ _ hr O hu nd pn E'=>?_
 exact(AW (B8 2 nd (C2 (FH (AI (QH rfl T.b_len (AD (pv 0))) Av))))
  (AW (FG (BJ O).own rfl (Da rfl T.b_range (AI ge_int Av)) (CZ 3 nd)
  (AW (B8 4 nd (Yf (AD (pv 0)) (W1 (BX HK (AD (pv 1)) (AD (pv 3)))) fE (W1 ge_int)))
  (Ap (Dt (DT (aN hu) (AD (pv 4)) (C2 (FH Av)) (DM _)) (Ap (DG (EI (AD (pv 2)) (kJ rfl rfl T.b_sum (AD (pv 4)))))) CW))))
  (Ap (CU (AD (pv 2))))))
theorem R8:B3 ["pool", "many", "thick", "ties", "at", "other", "one", "cell"] ["pool", "many", "thick"] (As GP):=Hk
theorem SI(T:Txt K mg W):D0 P w K mg base (CXG P w) 2 T.d__law_ties.f T.d__law_ties.fd ["pool", "many", "thick"] (spM K 3 (K9 W)):=by
 refine CN (k:=1) T.d__law_ties.F R8 rfl λ_ _ _ _ _ _ hr O hu nd pn E'=>?_
 exact(AW (B8 3 nd (C2 (FH Av)))
  (AW (B8 4 nd ge_int)
  (AW (FG (BJ O).own rfl (N4 rfl T.b_range (AI ge_int (AI (AD (pv 1)) Av))) (CZ 5 nd)
  (Ap (FG (BJ O).own rfl (Da rfl T.b_range (AI (AD (pv 5)) Av)) (CZ 6 nd)
  (AW (B8 7 nd (Dm hu (AD (pv 0)) (BX EF (AD (pv 4)) (QH rfl T.b_len (AD (pv 0))))))
  (AW (B8 4 nd (BX HK (AD (pv 4)) ge_int))
  (Ap (Dt (DT T3 (BX EF (Bh (Hd T) (BJ O).pass (hr.mono (by decide)) rfl T.d__law_mixed.m T.d__law_mixed.kp T.d__law_mixed.b (AI (AD (pv 7)) (AI (BX HK (BX MQ ge_int (AD (pv 6))) (BX MQ ge_int (AD (pv 5)))) Av))) ge_int) (AD (pv 2)) (DM _)) (Ap (DG (EI (AD (pv 3)) (JE (AI (AD (pv 6)) (AI (AD (pv 5)) Av)))))) CW)))))))
  (Ap (CU (AD (pv 3)))))))
theorem Pj:B3 ["ties", "cell", "told", "k"] ["ties", "cell"] (As Eg):=Hk
theorem Ks(T:Txt K mg W):D0 P w K mg base (CXG P w) 2 T.d__law_turned.f T.d__law_turned.fd ["ties", "cell"] (spM K 2 (Dy W)):=by
 refine CN (k:=1) T.d__law_turned.F Pj rfl λ_ _ _ _ _ _ hr O hu nd pn E'=>?_
 exact(AW (B8 2 nd (C2 (FH Av)))
  (AW (FG (BJ O).own rfl (Da rfl T.b_range (AI (QH rfl T.b_len (AD (pv 0))) Av)) (CZ 3 nd)
  (Ap (Dt (DT (KR hu) (BX EF (Bh (Hd T) (BJ O).pass (hr.mono (by decide)) rfl T.d__law_mixed.m T.d__law_mixed.kp T.d__law_mixed.b (AI (AD (pv 1)) (AI (AD (pv 3)) Av))) ge_int) ge_int (DM _)) (Ap (DG (EI (AD (pv 2)) (Dm hu (AD (pv 0)) (AD (pv 3)))))) (Ap (DG (EI (AD (pv 2)) (JE (AI (Dm hu (Dm hu (AD (pv 0)) (AD (pv 3))) ge_int) (AI (Dm hu (Dm hu (AD (pv 0)) (AD (pv 3))) ge_int) Av)))))))))
  (AW (Dt (DT (KR hu) (BX EF (AD (pv 1)) ge_int) ge_int (DM _)) (Ap (DG (Vw (AD (pv 2))))) CW)
  (Ap (CU (AD (pv 2)))))))
theorem Pl:B3 ["script", "first", "many", "pool", "thick", "ties", "one", "other"] ["script"] (As Ei):=Hk
theorem Pw(T:Txt K mg W):D0 P w K mg base (CXG P w) 3 T.d__law_halves.f T.d__law_halves.fd ["script"] (spM K 1 (Fo W)):=by
 refine CN (k:=2) T.d__law_halves.F Pl rfl λ_ _ _ _ _ _ hr O hu nd pn E'=>?_
 exact(AW (B8 1 nd (Bh (KQ T) (BJ O).pass (hr.mono (by decide)) rfl T.d__law_cell_at.m T.d__law_cell_at.kp T.d__law_cell_at.b (AI (AD (pv 0)) (AI ge_int Av))))
  (AW (B8 2 nd (BX HK ge_int (BX EF (AD (pv 1)) ge_int)))
  (AW (B8 3 nd (Bh (SJ T) (BJ O).pass (hr.mono (by decide)) rfl T.d__law_pool.m T.d__law_pool.kp T.d__law_pool.b (AI (AD (pv 0)) (AI ge_int Av))))
  (AW (B8 4 nd (BX HK ge_int (BX EF (BX LO (AD (pv 1)) ge_int) ge_int)))
  (AW (Dt (DT (KR hu) (BX EF (BX LO (AD (pv 1)) ge_int) ge_int) ge_int (DM _)) (AW (B8 2 nd (BX HK ge_int (BX EF (BX LO (AD (pv 1)) ge_int) ge_int)))
  (Ap (B8 4 nd ge_int))) CW)
  (AW (B8 5 nd (C2 (FH Av)))
  (AW (FG (BJ O).own rfl (Hw (Bh (SI T) (BJ O).pass (hr.mono (by decide)) rfl T.d__law_ties.m T.d__law_ties.kp T.d__law_ties.b (AI (AD (pv 3)) (AI (AD (pv 2)) (AI (AD (pv 4)) Av))))) (KC rfl (Co (CZ 6 nd) (Co (CZ 7 nd) IG)))
  (Ap (Dt (DT (aN hu) (BX EF (Bh (Hd T) (BJ O).pass (hr.mono (by decide)) rfl T.d__law_mixed.m T.d__law_mixed.kp T.d__law_mixed.b (AI (AD (pv 1)) (AI (BX HK ge_int (AD (pv 6))) Av))) ge_int) (BX EF (Bh (Hd T) (BJ O).pass (hr.mono (by decide)) rfl T.d__law_mixed.m T.d__law_mixed.kp T.d__law_mixed.b (AI (AD (pv 1)) (AI (BX HK ge_int (AD (pv 7))) Av))) ge_int) (DM _)) (Ap (DG (EI (AD (pv 5)) (JE (AI (AD (pv 6)) (AI (AD (pv 7)) Av)))))) CW)))
  (Ap (CU (JE (AI (AD (pv 2)) (AI (AD (pv 5)) Av))))))))))))
theorem Qn:B3 ["way", "web", "marks", "e", "other"] ["way", "web"] (As FS):=Hk
theorem Lu(T:Txt K mg W):D0 P w K mg base (CXG P w) 67 T.d__law_marks.f T.d__law_marks.fd ["way", "web"] (spM K 2 (CY W)):=by
 refine CN (k:=66) T.d__law_marks.F Qn rfl λ_ _ _ _ _ _ hr O hu nd pn E'=>?_
 exact(AW (B8 2 nd (C2 (FH Av)))
  (AW (kC (i:=3) O nd rfl rfl rfl T.xm_GuardError T.caught_GuardError (λtX E'=>(Ap (Dt (DT (KR hu) (AD (pv 0)) ge_int (DM _)) (Ap (DG (Bh (Ls T) (BJ O).pass (hr.mono (by decide)) rfl T.d_most_pairs.m T.d_most_pairs.kp T.d_most_pairs.b (AI (AD (pv 1)) Av)))) (Ap (Dt (DT (KR hu) (AD (pv 0)) ge_int (DM _)) (Ap (DG (Bh (Kr T) (BJ O).pass (hr.mono (by decide)) rfl T.d_least_cover.m T.d_least_cover.kp T.d_least_cover.b (AI (AD (pv 1)) Av)))) (Ap (DG (Bh (MP T) (BJ O).pass (hr.mono (by decide)) rfl T.d_apart_and_clubs.m T.d_apart_and_clubs.kp T.d_apart_and_clubs.b (AI (AD (pv 1)) Av))))))))) (λtX ea=>(AW (B8 4 nd (kL (Cs:=[W.BadGuards,W.BadPlaces,W.BadTie,W.NoPlace,W.NotWood,W.TooLarge]) T.isT_BadGuards_BadPlaces_BadTie_NoPlace_NotWood_TooLarge (Nat.le_of_ble_eq_true rfl) rfl T.b_isinstance (AD (pv 3)) (YN (c:=.ref W.BadGuards) (Im rfl T.xm_BadGuards rfl) (YN (c:=.ref W.BadPlaces) (Im rfl T.x_BadPlaces.m rfl) (YN (c:=.ref W.BadTie) (Im rfl T.x_BadTie.m rfl) (YN (c:=.ref W.NoPlace) (Im rfl T.x_NoPlace.m rfl) (YN (c:=.ref W.NotWood) (Im rfl T.xm_NotWood rfl) (YN (c:=.ref W.TooLarge) (Im rfl T.xm_TooLarge rfl) mL))))))))
  (Ap (B8 2 nd (C2 (FH (AI (gw (c:=.ref W.NotTwo) (cv:=.ref W.NotTwo) (λ_ r=>r) (jz (fC T.i_NotTwo.1 T.i_NotTwo.2)) T.is_NotTwo rfl T.b_isinstance (AD (pv 3)) (Im rfl T.x_NotTwo.m rfl)) (AI (gw (c:=.ty "ValueError") (cv:=.type "ValueError") (λ_ r=>r) jx T.is_ValueError rfl T.b_isinstance (AD (pv 3)) (eO rfl T.b_ValueError PyProof.Rows.Boot.«ValueError» rfl)) (AI (AD (pv 4)) Av))))))))))
  (Ap (CU (AD (pv 2))))))
theorem Pk:B3 ["many", "ties", "cell", "far", "steps", "step", "ring", "told", "k", "tie"] ["many", "ties", "cell"] (As Eh):=Hk
theorem Pv(T:Txt K mg W):D0 P w K mg base (CXG P w) 1 T.d__law_ringed.f T.d__law_ringed.fd ["many", "ties", "cell"] (spM K 3 (JH W)):=by
 refine CN (k:=0) T.d__law_ringed.F Pk rfl λ_ _ _ _ _ _ hr O hu nd pn E'=>?_
 exact(AW (B8 3 nd (BX HK ge_int (BX MQ (BX EF (AD (pv 2)) ge_int) ge_int)))
  (AW (Dt (DT T3 (AD (pv 0)) (AD (pv 3)) (DM _)) (Ap (CU N5)) CW)
  (AW (KB (i:=4) (own:=["one"]) (N':=["one", "many", "·2", "·3", "far", "·5", "·6", "·7", "·8", "k", "·10"]) rfl rfl nd rfl (by first | exact LJ rfl | exact KM rfl) (EX (by kernel_rfl)) (N4 rfl T.b_range (AI ge_int (AI (AD (pv 0)) Av))) (λ_ _ _ _ _ _=>(CZ 0 (by decide +kernel:(["one", "many", "·2", "·3", "far", "·5", "·6", "·7", "·8", "k", "·10"]:List Str).Nodup))) (λ_ _ _ _ _ _=>(Je (kA (kO rfl rfl T.b_all (C2 (Iq (own:=["k"]) (N':=["k", "one", "many", "·3", "·4", "·5", "·6", "·7", "·8", "·9", "·10", "·11"]) rfl (EX (by kernel_rfl)) (N4 rfl T.b_range (AI ge_int (AI (AD (pv 4)) Av))) (λ_ _ _ _ _ _=>(CZ 0 (by decide +kernel:(["k", "one", "many", "·3", "·4", "·5", "·6", "·7", "·8", "·9", "·10", "·11"]:List Str).Nodup))) (λ_ _ _ _ _ _=>Gr) (λ_ _ _ _ _ _=>(Sa (aN hu) (BX EF (BX MQ (AD (pv 1)) (AD (pv 0))) (AD (pv 2))) ge_int (DM _))))))))) (λ_ _ _ _ _ _=>(AD (pv 0))))
  (AW (B8 5 nd (Dm hu (AD (pv 4)) (BX EF (BX LO (AD (pv 2)) ge_int) (QH rfl T.b_len (AD (pv 4))))))
  (AW (KB (i:=6) (own:=["k"]) (N':=["k", "many", "·2", "cell", "·4", "·5", "step", "·7", "·8", "·9", "·10"]) rfl rfl nd rfl (by first | exact LJ rfl | exact KM rfl) (EX (by kernel_rfl)) (Da rfl T.b_range (AI (AD (pv 3)) Av)) (λ_ _ _ _ _ _=>(CZ 0 (by decide +kernel:(["k", "many", "·2", "cell", "·4", "·5", "step", "·7", "·8", "·9", "·10"]:List Str).Nodup))) (λ_ _ _ _ _ _=>Gr) (λ_ _ _ _ _ _=>(BX EF (BX HK (BX LO (AD (pv 3)) ge_int) (BX MQ (AD (pv 6)) (AD (pv 0)))) (AD (pv 1)))))
  (AW (B8 7 nd (fL rfl T.b_list (AD (pv 1))))
  (AW (FG (BJ O).own rfl (Da rfl T.b_range (AI (AD (pv 3)) Av)) (CZ 8 nd)
  (AW (B8 9 nd (JE (AI (SY rfl rfl T.b_min (AI (Dm hu (AD (pv 6)) (BX Vf (AD (pv 8)) ge_int)) (AI (Dm hu (AD (pv 6)) (AD (pv 8))) Av))) (AI (SZ rfl rfl T.b_max (AI (Dm hu (AD (pv 6)) (BX Vf (AD (pv 8)) ge_int)) (AI (Dm hu (AD (pv 6)) (AD (pv 8))) Av))) Av))))
  (Ap (Dt (Fm hu (AD (pv 9)) (AD (pv 7))) (Ap (DG (EI (AD (pv 7)) (AD (pv 9))))) CW))))
  (Ap (CU (AD (pv 7)))))))))))
theorem iy:B3 ["script", "first", "many", "ties", "web", "ringed", "other"] ["script"] (As RI):=Hk
theorem jc(T:Txt K mg W):D0 P w K mg base (CXG P w) 68 T.d_law.f T.d_law.fd ["script"] (spM K 1 (bV W)):=by
 refine CN (k:=67) T.d_law.F iy rfl λ_ _ _ _ _ _ hr O hu nd pn E'=>?_
 exact(AW (B8 1 nd (Bh (KQ T) (BJ O).pass (hr.mono (by decide)) rfl T.d__law_cell_at.m T.d__law_cell_at.kp T.d__law_cell_at.b (AI (AD (pv 0)) (AI ge_int Av))))
  (AW (kE (Bh (Pw T) (BJ O).pass (hr.mono (by decide)) rfl T.d__law_halves.m T.d__law_halves.kp T.d__law_halves.b (AI (AD (pv 0)) Av)) (KC rfl (Co (CZ 2 nd) (Co (CZ 3 nd) IG))))
  (AW (B8 4 nd (W4 T.c_Web.mk' (OM T) (BJ O).pass (hr.mono (by decide)) rfl T.c_Web.m T.d_Web_init.b (AI (AD (pv 2)) (AI (Bh (Ks T) (BJ O).pass (hr.mono (by decide)) rfl T.d__law_turned.m T.d__law_turned.kp T.d__law_turned.b (AI (AD (pv 3)) (AI (AD (pv 1)) Av))) Av))))
  (AW (Dt (DT (jg hu) (C2 (Iq (own:=["way"]) (N':=["way", "·1", "·2", "·3", "·4", "web", "·6", "·7"]) rfl (EX (by kernel_rfl)) (Da rfl T.b_range (AI ge_int Av)) (λ_ _ _ _ _ _=>(CZ 0 (by decide +kernel:(["way", "·1", "·2", "·3", "·4", "web", "·6", "·7"]:List Str).Nodup))) (λ_ _ _ _ _ _=>Gr) (λ_ _ _ _ _ _=>(Bh (Lu T) (good_none rfl).pass (hr.mono (by decide)) rfl T.d__law_marks.m T.d__law_marks.kp T.d__law_marks.b (AI (AD (pv 0)) (AI (AD (pv 5)) Av)))))) (C2 (FH (AI (C2 (FH Av)) (AI (C2 (FH Av)) (AI (C2 (FH Av)) Av))))) (DM _)) (Ap (CU Jh)) CW)
  (AW (B8 5 nd (Bh (Pv T) (BJ O).pass (hr.mono (by decide)) rfl T.d__law_ringed.m T.d__law_ringed.kp T.d__law_ringed.b (AI (AD (pv 2)) (AI (AD (pv 3)) (AI (BX LO (AD (pv 1)) ge_int) Av)))))
  (AW (Dt (DT aP (AD (pv 5)) N5 (DM _)) (Ap (CU Jh)) CW)
  (AW (B8 6 nd (W4 T.c_Web.mk' (OM T) (BJ O).pass (hr.mono (by decide)) rfl T.c_Web.m T.d_Web_init.b (AI (AD (pv 2)) (AI (Bh (Ks T) (BJ O).pass (hr.mono (by decide)) rfl T.d__law_turned.m T.d__law_turned.kp T.d__law_turned.b (AI (AD (pv 5)) (AI (AD (pv 1)) Av))) Av))))
  (Ap (CU (Sa (jh hu) (C2 (Iq (own:=["way"]) (N':=["way", "·1", "·2", "·3", "·4", "·5", "·6", "other"]) rfl (EX (by kernel_rfl)) (Da rfl T.b_range (AI ge_int Av)) (λ_ _ _ _ _ _=>(CZ 0 (by decide +kernel:(["way", "·1", "·2", "·3", "·4", "·5", "·6", "other"]:List Str).Nodup))) (λ_ _ _ _ _ _=>Gr) (λ_ _ _ _ _ _=>(Bh (Lu T) (good_none rfl).pass (hr.mono (by decide)) rfl T.d__law_marks.m T.d__law_marks.kp T.d__law_marks.b (AI (AD (pv 0)) (AI (AD (pv 7)) Av)))))) (BX jf (C2 (FH (AI (C2 (FH (AI Jh (AI Jh (AI Jh Av))))) Av))) ge_int) (DM _)))))))))))
end
open PySem L2
open Srt (ltL)
def pairD(x:Int×Int):D:=.tup [.int x.1,.int x.2]
def nrm(x:Int×Int):Int×Int:=(if x.2 < x.1 then x.2 else x.1,if x.2 > x.1 then x.2 else x.1)
def SA(x:Int×Int):List Int:=[x.1,x.2]
def NJ(x:Int×Int):List Key:=[.inl x.1,.inl x.2]
theorem UH(h:NJ x=NJ y):x=y:=by
 unfold NJ at h;simp at h;exact gZ h.1 h.2
theorem KA:∀ns:List Int,IB (ns.map D.int)=some ns
 | []=>rfl
 | n :: ns=>by
  rw[BA];unfold IB;rw[KA ns];rfl
theorem Pn:∀rs:List (List Int),(∀r∈rs,r≠[])->Ko (rs.map E0)=some rs
 | [],_=>rfl
 | [] :: rs,h=>zX rfl (h [] Aq)
 | (n :: ns) :: rs,h=>by
  rw[BA];unfold E0 Ko;rw[KA,show Lk (λr:List Int=>D.tup (r.map D.int)) rs=rs.map E0 from rfl,Pn rs λr hr=>h r (AT _ hr)]
theorem VY(rs:List (List Int))(h:∀r∈rs,r≠[]):Kn (rs.map E0)=some ((G8 rs).map E0):=by
 unfold Kn
 cases rs with
 | nil=>simp[IB,G8]
 | cons r rs=>
  have:IB ((r :: rs).map E0)=none:=rfl;rw[this,Pn _ h]
theorem Pf(ns:List Int):Kn (ns.map D.int)=some ((Et ns).map D.int):=by
 unfold Kn;rw[KA]
def Lb(ps:List (Int×Int)):List (List Key×D):=ps.map λx=>(NJ (nrm x),.bl true)
theorem aX(ps:List (Int×Int))(x:Int×Int):(A5 (Lb ps) (NJ (nrm x))).isSome=decide (nrm x∈ps.map nrm):=by
 unfold A5 Lb
 induction ps with
 | nil=>rfl
 | cons y ps ih=>
  rw[BA,BV]
  by_cases e:NJ (nrm y)=NJ (nrm x)
  ·rw[wX e]
   simp[UH e]
  ·rw[wY e]
   have e':nrm x≠nrm y:=λz=>e (by rw[z])
   simp only[BA,At,e',false_or];exact ih
theorem aW(ps:List (Int×Int))(x:Int×Int)(h:nrm x∉ps.map nrm):CA (Lb ps) (NJ (nrm x)) (.bl true)=Lb (ps++[x]):=by
 unfold CA;rw[qY]
 ·simp[Lb]
 ·intro z
  obtain⟨y,hy,e⟩:=Ff.mp z;obtain⟨a,ha,rfl⟩:=An.mp hy;exact h (by rw[<-UH (of_decide_eq_true e)];exact Xc ha)
theorem m8(h:S[n]?=some (.dT kvs))(neg:Bool):inA neg (pairD x) (.ref n) S=.ok (.bl (if neg then !(A5 kvs (NJ x)).isSome else(A5 kvs (NJ x)).isSome)) S:=by
 show Gp (inD neg (pairD x) (.ref n) S) (KH neg (pairD x) (.ref n) S)=_
 have e:inD neg (pairD x) (.ref n) S=.bad:=by
  unfold inD Gm;dsimp only;rw[h]
 have e2:Lf (.ref n) (pairD x) S=some (A5 kvs (NJ x)):=by
  unfold Lf pairD;dsimp only;rw[h];rfl
 rw[e];show KH neg (pairD x) (.ref n) S=_;unfold KH;rw[e2]
theorem bg(hv:mv e S=.ok v S)(ho:mo e S=.ok (.ref d) S)(hi:mi e S=.ok (pairD x) S)(h:S[d]?=some (.dT kvs))(hl:kvs.length < sizeLine) :
  DL mo mi mv e S=.ok (.nx e) (S.set d (.dT (CA kvs (NJ x) v))):=by
 unfold DL;rw[hv];dsimp only[Res.lift];rw[ho];dsimp only[Res.lift];rw[hi];dsimp only[Res.lift]
 have:Qv (.ref d) (pairD x) v S=some (S.set d (.dT (CA kvs (NJ x) v))):=by
  unfold Qv pairD;dsimp only;rw[h];show(if kvs.length < sizeLine then some (S.set d (.dT (CA kvs (NJ x) v)))else none)=_;rw[qX hl]
 rw[this]
theorem ix0(x:Int×Int)(S:Sto):ixA (pairD x) (.int 0) S=.ok (.int x.1) S:=rfl
theorem ix1(x:Int×Int)(S:Sto):ixA (pairD x) (.int 1) S=.ok (.int x.2) S:=rfl
def Fit(p:Int)(x:Int×Int):Prop:=(nrm x).1≠(nrm x).2/\0<=(nrm x).1/\(nrm x).2 < p
abbrev br(W:Wd):MS:=BD (Bc 5 (Ga (AF (mQ ND (AF (AA 3) (AF (AA 4) Aj))) (AF (mQ NF (AF (AA 3) (AF (AA 4) Aj))) Aj))))
  (BD (sIf (mB (m2 (eqD false) (m2 ixA (AA 5) (mC (.int 0))) (m2 ixA (AA 5) (mC (.int 1))))) (EU W.BadTie (AF (mC (.str "a tie has one place twice")) Aj)) sNx)
  (BD (sIf (mOr (mB (m2 ltD (m2 ixA (AA 5) (mC (.int 0))) (mC (.int 0)))) (mB (m2 geD (m2 ixA (AA 5) (mC (.int 1))) (AA 0)))) (EU W.BadTie (AF (mC (.str "a tie has a place that is not there")) Aj)) sNx)
  (BD (sIf (mB (m2 (inA false) (AA 5) (AA 2))) (EU W.BadTie (AF (mC (.str "a tie is there twice")) Aj)) sNx)
  (DL (AA 2) (AA 5) (mC (.bl true))))))
theorem Zi(hn:S[n]?=some (.dT (Lb ps)))(hl:ps.length<=100000) :
  (Fit p x/\nrm x∉ps.map nrm->br W [sI p,some t,sR n,sI x.1,sI x.2,z5] S=oN [sI p,some t,sR n,sI x.1,sI x.2,some (pairD (nrm x))] (S.set n (.dT (Lb (ps++[x]))))) /\
  (¬(Fit p x/\nrm x∉ps.map nrm)->br W [sI p,some t,sR n,sI x.1,sI x.2,z5] S=.ok (.ex W.BadTie [sI p,some t,sR n,sI x.1,sI x.2,some (pairD (nrm x))]) S):=by
 have e0:Bc 5 (Ga (AF (mQ ND (AF (AA 3) (AF (AA 4) Aj))) (AF (mQ NF (AF (AA 3) (AF (AA 4) Aj))) Aj))) [sI p,some t,sR n,sI x.1,sI x.2,z5] S =
   oN [sI p,some t,sR n,sI x.1,sI x.2,some (pairD (nrm x))] S:=
  Cb (i:=5) (Nl (ds:=[.int (nrm x).1,.int (nrm x).2]) (BH (Z2 (ds:=[.int x.1,.int x.2]) (S1:=S) rfl rfl) (BH (Z2 (ds:=[.int x.1,.int x.2]) (S1:=S) rfl rfl) rfl)) (by simp))
 have t1:=Ck (t:=mB (m2 (eqD false) (m2 ixA (AA 5) (mC (.int 0))) (m2 ixA (AA 5) (mC (.int 1))))) (a:=EU W.BadTie (AF (mC (.str "a tie has one place twice")) Aj)) (b:=sNx) (e:=[sI p,some t,sR n,sI x.1,sI x.2,some (pairD (nrm x))]) (S:=S) (S1:=S)
  (Es (BF (BF rfl rfl (ix0 _ _)) (BF rfl rfl (ix1 _ _)) (N8 (b:=decide ((nrm x).1=(nrm x).2)) rfl)))
 have t2:mOr (mB (m2 ltD (m2 ixA (AA 5) (mC (.int 0))) (mC (.int 0)))) (mB (m2 geD (m2 ixA (AA 5) (mC (.int 1))) (AA 0))) [sI p,some t,sR n,sI x.1,sI x.2,some (pairD (nrm x))] S=.ok (decide ((nrm x).1 < 0∨p<=(nrm x).2)) S:=by
  by_cases c:(nrm x).1 < 0
  ·rw[jO (Es (BF (BF rfl rfl (ix0 _ _)) rfl (MU (wX c))))]
   simp[c]
  ·rw[jN (Es (BF (BF rfl rfl (ix0 _ _)) rfl (MU (wY c)))),Es (BF (BF rfl rfl (ix1 _ _)) rfl (kP (b:=decide (p<=(nrm x).2)) rfl))]
   simp[c]
 have t3:mB (m2 (inA false) (AA 5) (AA 2)) [sI p,some t,sR n,sI x.1,sI x.2,some (pairD (nrm x))] S=.ok (decide (nrm x∈ps.map nrm)) S:=by
  refine Es (BF rfl rfl ?_);rw[m8 hn,<-aX];rfl
 have rz:∀s:Str,EU W.BadTie (AF (mC (.str s)) Aj) [sI p,some t,sR n,sI x.1,sI x.2,some (pairD (nrm x))] S=.ok (.ex W.BadTie [sI p,some t,sR n,sI x.1,sI x.2,some (pairD (nrm x))]) S:=λs=>Pq rfl (by simp)
 constructor
 ·rintro⟨⟨f1,f2,f3⟩,f4⟩
  rw[wY f1,qY AL]at t1;have t7:=Ck (a:=EU W.BadTie (AF (mC (.str "a tie has a place that is not there")) Aj)) (b:=sNx) t2;rw[wY (by lia),qY AL]at t7;have ur:=Ck (a:=EU W.BadTie (AF (mC (.str "a tie is there twice")) Aj)) (b:=sNx) t3;rw[wY f4,qY AL]at ur;unfold br;rw[A1 e0,A1 (t1.trans rfl),A1 (t7.trans rfl),A1 (ur.trans rfl),bg (x:=nrm x) rfl rfl rfl hn (by unfold Lb;rw[AE];exact A4 hl (by decide)),aW _ _ f4]
 ·intro nf
  unfold br;rw[A1 e0]
  by_cases f1:(nrm x).1=(nrm x).2
  ·rw[wX f1,qX rfl]at t1
   exact MF (t1.trans (rz _))
  rw[wY f1,qY AL]at t1;rw[A1 (t1.trans rfl)];have t7:=Ck (a:=EU W.BadTie (AF (mC (.str "a tie has a place that is not there")) Aj)) (b:=sNx) t2
  by_cases f2:(nrm x).1 < 0∨p<=(nrm x).2
  ·rw[wX f2,qX rfl]at t7
   exact MF (t7.trans (rz _))
  rw[wY f2,qY AL]at t7;rw[A1 (t7.trans rfl)];have ur:=Ck (a:=EU W.BadTie (AF (mC (.str "a tie is there twice")) Aj)) (b:=sNx) t3
  by_cases f3:nrm x∈ps.map nrm
  ·rw[wX f3,qX rfl]at ur
   exact MF (ur.trans (rz _))
  ·exact zX ⟨⟨f1,by lia,by lia⟩,f3⟩ nf
theorem Ya(h:m e S=.ok d S1)(hx:Fj d S1=some xs):G4 m e S=.ok (Fj d) S1:=by
 unfold G4;rw[h];dsimp only[Res.bind];rw[hx]
def EK(p:Int)(ps:List (Int×Int)):Prop:=(∀x∈ps,Fit p x)/\(ps.map nrm).Nodup
theorem EK.snoc:EK p (ps++[x])↔EK p ps/\Fit p x/\nrm x∉ps.map nrm:=by
 unfold EK;rw[A9,CS]
 constructor
 ·rintro⟨h1,h2,h3,h4⟩
  exact⟨⟨λy hy=>h1 y (by simp[hy]),h2⟩,h1 x (by simp),λz=>h4 _ z _ (by simp) rfl⟩
 ·rintro⟨⟨h1,h2⟩,h3,h4⟩
  refine⟨λy hy=>?_,h2,by simp,λa ha b hb e=>?_⟩
  ·rcases Af.mp hy with hy | hy
   ·exact h1 y hy
   ·rw[AJ.mp hy];exact h3
  ·simp at hb
   subst hb;subst e;exact h4 ha
theorem EK.take(h:EK p ps)(i:Nat):EK p (ps.take i):=by
 refine⟨λx hx=>h.1 x (WK hx),?_⟩;rw[List.map_take];exact h.2.sublist (ZE _ _)
theorem take_snoc{α:Type}{l:List α}{i:Nat}{x:α}(h:l[i]?=some x):l.take (i+1)=l.take i++[x]:=by
 rw[OE,h];rfl
theorem Si(W:Wd){p:Int}{d:D}{S:Sto}{ps:List (Int×Int)}(hv:∀S',Keeps S S'->Fj d S'=some (ps.map pairD))(hl:ps.length<=100000) :
  ∃f S',G3 (G4 (AA 1)) (Gj 2 (CG (tgN 3) (CG (tgN 4) G7))) (br W) [sI p,some d,sR S.length,none,none,none] (S++[.dT []])=.ok f S' /\
   ((EK p ps/\(∃z3 z4 z5,f=.nx [sI p,some d,sR S.length,z3,z4,z5])/\S'=S++[.dT (Lb ps)])∨(¬EK p ps/\∃e',f=.ex W.BadTie e'/\Keeps S S')):=by
 rw[FI (Ya (m:=AA 1) (d:=d) (S1:=S++[.dT []]) rfl (hv _ (Keeps.app _ _)))];refine Gs (xs:=ps.map pairD) (λi e S'=>(∃z3 z4 z5,e=[sI p,some d,sR S.length,z3,z4,z5])/\S'=S++[.dT (Lb (ps.take i))]/\EK p (ps.take i)) _ ⟨⟨none,none,none,rfl⟩,by simp[Lb],by simp[EK]⟩ ?_ ?_ ?_
 ·rintro i e S' ⟨_,rfl,_⟩
  exact hv _ (Keeps.app _ _)
 ·rintro i y e S' hy ⟨⟨z3,z4,z5,rfl⟩,rfl,af⟩
  rw[AS]at hy
  cases hx:ps[i]? with
  | none=>rw[hx]at hy;cases hy
  | some x=>
   rw[hx]at hy;cases hy;have oM:=(AC.mp hx).1;refine⟨[sI p,some d,sR S.length,sI x.1,sI x.2,z5],_,rfl,?_⟩;obtain⟨s1,s2⟩:=Zi (W:=W) (p:=p) (t:=d) (z5:=z5) (x:=x) (Bj S (.dT (Lb (ps.take i)))) (by rw[EM];lia)
   by_cases c:Fit p x/\nrm x∉(ps.take i).map nrm
   ·refine⟨_,_,s1 c,⟨⟨_,_,_,rfl⟩,?_,?_⟩⟩
    ·rw[take_snoc hx];simp
    ·rw[take_snoc hx];exact EK.snoc.mpr ⟨af,c⟩
   ·refine⟨_,_,s2 c,.inr ⟨λa=>c ?_,_,rfl,Keeps.app _ _⟩⟩
    have:=a.take (i+1);rw[take_snoc hx]at this;exact(EK.snoc.mp this).2
 ·rintro e S' ⟨z,rfl,af⟩
  rw[AE,Dg]at *
  obtain⟨z3,z4,z5,rfl⟩:=z;exact .inl ⟨af,⟨_,_,_,rfl⟩,rfl⟩
def Jw(ps:List (Int×Int)):List (List Int):=G8 (ps.map λx=>SA (nrm x))
theorem Sj(W:Wd){p:Int}{d:D}{S:Sto}{ps:List (Int×Int)}(hv:∀S',Keeps S S'->Fj d S'=some (ps.map pairD))(hl:ps.length<=100000)(hf:EK p ps) :
  ∃S',Gu W [.int p,d] S=.ok (.tup ((Jw ps).map E0)) S'/\Keeps S S':=by
 obtain⟨f,S1,h1,⟨_,⟨z3,z4,z5,rfl⟩,rfl⟩ | ⟨h,_⟩⟩:=Si W hv hl (p:=p)
 ·have hi:IS (.ref S.length) (S++[.dT (Lb ps)])=some ((ps.map λx=>SA (nrm x)).map E0):=by
   unfold IS;dsimp only;rw[Bj];dsimp only;unfold Lb;rw[A2,A2];rfl
  have hs:=JW (m:=AA 2) (e:=[sI p,some d,sR S.length,z3,z4,z5]) (S:=S++[.dT (Lb ps)]) rfl hi (VY _ (by intro r hr;obtain⟨x,_,rfl⟩:=An.mp hr;simp[SA]));refine⟨S++[.dT (Lb ps)]++[.lst ((Jw ps).map E0)],Cz ?_,(Keeps.app S _).trans (Keeps.app _ _)⟩;refine Dd (A1 (e:=[sI p,some d,none,none,none,none]) (e1:=[sI p,some d,sR S.length,none,none,none]) (S:=S) (S1:=S++[.dT []]) rfl) ?_;refine Dd (A1 h1) ?_;exact Fa (JU hs (Dr (Bj _ _)))
 ·exact zX hf h
open PySem L2
def CT(ts:List (Int×Int))(x:Nat):List Int:=ts.flatMap λt=>(if t.1=(x:Int)then[t.2]else[])++(if t.2=(x:Int)then[t.1]else[])
theorem T5(ts:List (Int×Int))(t:Int×Int)(x:Nat):CT (ts++[t]) x=CT ts x++((if t.1=(x:Int)then[t.2]else[])++(if t.2=(x:Int)then[t.1]else[])):=by
 unfold CT;rw[Xg];simp
def Gn(p:Nat)(F:Nat->List Int):Sto:=(A7 p).map λx=>Ob.lst ((F x).map D.int)
def FF(k p:Nat):List D:=(A7 p).map λx=>D.ref (k+x)
def stN(S:Sto)(p:Nat)(F:Nat->List Int):Sto:=S++Gn p F++[.lst (FF S.length p)]
theorem IQ(p:Nat)(F:Nat->List Int):(Gn p F).length=p:=by simp[Gn]
theorem R3(S:Sto)(p:Nat)(F:Nat->List Int):(stN S p F).length=S.length+p+1:=by simp[stN,IQ];lia
theorem No(S:Sto)(p:Nat)(F:Nat->List Int):Keeps S (stN S p F):=(Keeps.app S _).trans (Keeps.app _ _)
theorem Kl(S:Sto)(p:Nat)(F:Nat->List Int):(stN S p F)[S.length+p]?=some (.lst (FF S.length p)):=by
 have:S.length+p=(S++Gn p F).length:=by simp[IQ]
 unfold stN;rw[this];exact Bj _ _
theorem Jx(S:Sto)(F:Nat->List Int)(h:a < p):(stN S p F)[S.length+a]?=some (.lst ((F a).map D.int)):=by
 unfold stN;rw[BC,BB (by lia),Ag (by rw[IQ];lia),show S.length+a - S.length=a by lia];unfold Gn;rw[AS,BU h];rfl
theorem Wg(S:Sto)(F:Nat->List Int)(ys:List Int)(h:a < p):(stN S p F).set (S.length+a) (.lst (ys.map D.int))=stN S p (λx=>if x=a then ys else F x):=by
 apply D5
 intro j
 by_cases e:S.length+a=j
 ·subst e
  rw[Am (by rw[R3];lia),Jx _ _ h,qX rfl]
 ·rw[AY e]
  by_cases h1:j < S.length
  ·rw[(No S p F).2 j h1,(No S p _).2 j h1]
  by_cases h2:j - S.length < p
  ·have e2:j=S.length+(j - S.length):=by lia
   rw[e2,Jx S F h2,Jx S _ h2,qY (by lia)]
  by_cases h3:j=S.length+p
  ·subst h3
   rw[Kl,Kl]
  ·rw[Bl (by rw[R3];lia),Bl (by rw[R3];lia)]
theorem Wx(F:Nat->List Int)(h:a < p):ixA (.ref (S.length+p)) (.int a) (stN S p F)=.ok (.ref (S.length+a)) (stN S p F):=by
 show Gp (ixD _ _ _) _=_;have e1:Gm (.ref (S.length+p)) (stN S p F)=some (FF S.length p):=Dr (Kl S p F)
 have e2:atI (FF S.length p) (a:Int)=some (.ref (S.length+a)):=by
  unfold atI ixN;rw[show(FF S.length p).length=p by simp[FF],qX (by lia),qX (by lia)];simp only[Ab,Bk];unfold FF;rw[AS,BU h];rfl
 have:ixD (.ref (S.length+p)) (.int a) (stN S p F)=.ok (.ref (S.length+a)) (stN S p F):=by
  unfold ixD;rw[e1];dsimp only;rw[e2]
 rw[this];rfl
theorem Zm(S:Sto):∀p:Nat,S++Gn (p+1) (λ_=>[])=S++Gn p (λ_=>[])++[.lst []]:=λp=>by
 unfold Gn;rw[QU,A9,BC];rfl
theorem X5(hp:p<=60)(h0:mp e S=.ok (.int p) S) :
  D6 1 (iR1 (AF mp Aj)) (tgN 0) FY (CL (Bi Aj)) e S=.ok (FF S.length p) (S++Gn p λ_=>[]):=by
 have hi:iR1 (AF mp Aj) e S=.ok (Dp (DE 0 p)) S:=by
  have:=K7 (ml:=AF mp Aj) (e:=e) (S:=S) (S1:=S) (j:=p) (BH h0 rfl) (by lia) (by lia);simpa using this
 obtain⟨r,S1,q1,e',⟨z,_⟩,rfl,rfl⟩:=O3 (v:=Dp (DE 0 p)) (g:=tgN 0) (c:=FY) (m:=CL (Bi Aj)) (xs:=DE 0 p) (e:=none :: e) (S:=S)
  (λi e' S' acc=>(∃z,e'=z :: e)/\S'=S++Gn i (λ_=>[])/\acc=FF S.length i)
  ⟨⟨none,rfl⟩,by simp[Gn],rfl⟩ (λ_ _ _ _ _=>rfl)
  (by
   rintro i d e' S' acc hd ⟨⟨z,rfl⟩,rfl,rfl⟩;obtain⟨hi,rfl⟩:=JY hd;refine⟨by simp[FF];exact A4 (m:=60) (by lia) (by decide),some (.int (0+i)) :: e,_,rfl,true,_,rfl,.inl ⟨rfl,.ref (S++Gn i λ_=>[]).length,_,rfl,⟨_,rfl⟩,(Zm S i).symm,?_⟩⟩;unfold FF;rw[QU,A9,Ad,IQ]
   rfl)
 rw[IK]at q1;exact(NR hi).trans q1
abbrev XO:MS:=BD (B0 (GH (m2 ixA (AA 2) (AA 3)) (AA 4))) (B0 (GH (m2 ixA (AA 2) (AA 4)) (AA 3)))
def In(p:Nat)(t:Int×Int):Prop:=0<=t.1/\t.1 < p/\0<=t.2/\t.2 < p/\t.1≠t.2
theorem X4(ht:In p t)(hF:∀x,(F x).length < 200000) :
  XO [some d0,some d1,sR (S.length+p),sI t.1,sI t.2] (stN S p F)=.ok (.nx [some d0,some d1,sR (S.length+p),sI t.1,sI t.2])
   (stN S p λx=>F x++((if t.1=(x:Int)then[t.2]else[])++(if t.2=(x:Int)then[t.1]else[]))):=by
 obtain⟨a,ha⟩:∃a:Nat,t.1=a:=⟨t.1.toNat,by have:=ht.1;lia⟩
 obtain⟨b,hb⟩:∃b:Nat,t.2=b:=⟨t.2.toNat,by have:=ht.2.2.1;lia⟩
 obtain⟨_,h2,_,h4,h5⟩:=ht
 have rq:a≠b:=λe=>h5 (by rw[ha,hb,e])
 rw[ha,hb]
 have hz:∀x,((F x).map D.int).length < sizeLine:=λx=>by rw[AE];exact lS (hF x) (by decide)
 have s1:=JM (mo:=m2 ixA (AA 2) (AA 3)) (ma:=AA 4) (e:=[some d0,some d1,sR (S.length+p),sI a,sI b]) (S:=stN S p F) (S1:=stN S p F) (S2:=stN S p F) (n:=S.length+a) (y:=.int b) (BF rfl rfl (Wx F (by lia))) (Jx S F (by lia)) rfl (Jx S F (by lia)) (hz a);rw[show(F a).map D.int++[D.int b]=(F a++[(b:Int)]).map D.int by simp,Wg S F _ (by lia)]at s1
 have uu:(stN S p λx=>if x=a then F a++[(b:Int)]else F x)[S.length+b]?=some (.lst ((F b).map D.int)):=by
  rw[Jx S _ (by lia),qY (Br rq)]
 have s2:=JM (mo:=m2 ixA (AA 2) (AA 4)) (ma:=AA 3) (e:=[some d0,some d1,sR (S.length+p),sI a,sI b]) (S:=stN S p λx=>if x=a then F a++[(b:Int)]else F x) (S1:=stN S p λx=>if x=a then F a++[(b:Int)]else F x) (S2:=stN S p λx=>if x=a then F a++[(b:Int)]else F x) (n:=S.length+b) (y:=.int a) (BF rfl rfl (Wx _ (by lia))) uu rfl uu (hz b);rw[show(F b).map D.int++[D.int a]=(F b++[(a:Int)]).map D.int by simp,Wg S _ _ (by lia)]at s2;unfold XO;rw[A1 (Di s1),Di s2]
 congr 2
 funext x
 by_cases e1:x=b
 ·subst e1
  have:¬((a:Int)=(x:Int)):=by lia
  simp[this]
 ·by_cases e2:x=a
  ·subst e2
   have:¬((b:Int)=(x:Int)):=by lia
   simp[e1,this]
  ·have h1:¬((a:Int)=(x:Int)):=by lia
   have h2:¬((b:Int)=(x:Int)):=by lia
   simp[e1,e2,h1,h2]
theorem Vi(ts:List (Int×Int))(x:Nat):(CT ts x).length<=2 * ts.length:=by
 unfold CT
 induction ts with
 | nil=>simp
 | cons t ts ih=>
  rw[ZG,Ad,A8]
  have:((if t.1=(x:Int)then[t.2]else[])++(if t.2=(x:Int)then[t.1]else[])).length<=2:=by split <;> split <;> simp
  lia
def Gk(p:Nat)(ts:List (Int×Int)):List D:=(A7 p).map λx=>.tup ((Et (CT ts x)).map D.int)
theorem eg(W:Wd)(hp:p<=60)(ht:∀t∈ts,In p t)(hl:ts.length<=90000)(S:Sto) :
  ∃S',Gt W [.int p,.tup (ts.map pairD)] S=.ok (.tup (Gk p ts)) S'/\Keeps S S':=by
 have a1:=Cb (i:=2) (HM (X5 hp (mp:=AA 0) (e:=[sI p,some (.tup (ts.map pairD)),none,none,none]) (S:=S) rfl));have e1:(S++Gn p λ_=>[])++[.lst (FF S.length p)]=stN S p (CT []):=rfl
 have e2:(S++Gn p λ_=>[]).length=S.length+p:=by simp[IQ]
 rw[e1,e2]at a1
 obtain⟨f,S1,h1,⟨z3,z4,rfl⟩,rfl⟩:=Gs (v:=Dp (ts.map pairD)) (g:=Gj 2 (CG (tgN 3) (CG (tgN 4) G7))) (b:=XO) (xs:=ts.map pairD) (e:=[sI p,some (.tup (ts.map pairD)),sR (S.length+p),none,none]) (S:=stN S p (CT []))
  (λi e S'=>(∃z3 z4,e=[sI p,some (.tup (ts.map pairD)),sR (S.length+p),z3,z4])/\S'=stN S p (CT (ts.take i)))
  (λf S'=>(∃z3 z4,f=.nx [sI p,some (.tup (ts.map pairD)),sR (S.length+p),z3,z4])/\S'=stN S p (CT ts))
  ⟨⟨none,none,rfl⟩,rfl⟩ (λ_ _ _ _=>rfl)
  (by
   rintro i y e S' hy ⟨⟨z3,z4,rfl⟩,rfl⟩;rw[AS]at hy
   cases hx:ts[i]? with
   | none=>rw[hx]at hy;cases hy
   | some t=>
    rw[hx]at hy;cases hy;refine⟨[sI p,some (.tup (ts.map pairD)),sR (S.length+p),sI t.1,sI t.2],_,rfl,_,_,X4 (ht t (BK hx)) (λx=>?_),⟨_,_,rfl⟩,?_⟩
    ·have:=Vi (ts.take i) x
     rw[EM]at this;exact A4 (Ao this (Nat.mul_le_mul_left 2 (Ao (cO _ _) hl))) (by decide)
    ·rw[take_snoc hx,show CT (ts.take i++[t])=_ from funext λx=>T5 _ _ x])
  (by
   rintro e S' ⟨⟨z3,z4,rfl⟩,rfl⟩;rw[AE,Dg]
   exact⟨⟨_,_,rfl⟩,rfl⟩)
 have a2:=(FI (g:=Gj 2 (CG (tgN 3) (CG (tgN 4) G7))) (b:=XO) (NN (m:=AA 1) (e:=[sI p,some (.tup (ts.map pairD)),sR (S.length+p),none,none]) (S:=stN S p (CT [])) (S1:=stN S p (CT [])) (xs:=ts.map pairD) rfl)).trans h1
 obtain⟨r,S2,q1,e',⟨z,_⟩,K,rfl⟩:=O3 (v:=Fj (.ref (S.length+p))) (g:=tgN 0) (c:=FY) (m:=GF (Ey (AA 0))) (xs:=FF S.length p) (e:=[none,sI p,some (.tup (ts.map pairD)),sR (S.length+p),z3,z4]) (S:=stN S p (CT ts))
  (λi e' S' acc=>(∃z,e'=[z,sI p,some (.tup (ts.map pairD)),sR (S.length+p),z3,z4])/\Keeps (stN S p (CT ts)) S'/\acc=(A7 i).map λx=>.tup ((Et (CT ts x)).map D.int))
  ⟨⟨none,rfl⟩,.refl _,rfl⟩ (λi e' S' acc h=>FO (h.2.1.at (Kl S p _)))
  (by
   rintro i d e' S' acc hd ⟨⟨z,rfl⟩,K,rfl⟩
   have hi:i < p:=by
    have:=(AC.mp hd).1;simpa[FF]using this
   unfold FF at hd;rw[AS,BU hi]at hd;cases hd;have hit:IS (.ref (S.length+i)) S'=some ((CT ts i).map D.int):=MX (K.at (Jx S _ hi));have hs:=JW (m:=AA 0) (e:=[sR (S.length+i),sI p,some (.tup (ts.map pairD)),sR (S.length+p),z3,z4]) (S:=S') (S1:=S') rfl hit (Pf _);refine⟨by simp;exact A4 (m:=60) (by lia) (by decide),[sR (S.length+i),sI p,some (.tup (ts.map pairD)),sR (S.length+p),z3,z4],_,rfl,true,_,rfl,.inl ⟨rfl,_,_,JU hs (Dr (Bj _ _)),⟨_,rfl⟩,K.trans (Keeps.app _ _),?_⟩⟩;rw[QU,A9]
   rfl)
 have a3:=(NR (n:=1) (g:=tgN 0) (c:=FY) (m:=GF (Ey (AA 0))) (Jc (m:=AA 2) (e:=[sI p,some (.tup (ts.map pairD)),sR (S.length+p),z3,z4]) (S:=stN S p (CT ts)) (S1:=stN S p (CT ts)) rfl (Kl S p _))).trans q1;rw[show(FF S.length p).length=p by simp[FF]]at a3;refine⟨S2++[.lst (Gk p ts)],Cz ?_,((No S p _).trans K).trans (Keeps.app _ _)⟩;unfold LH;refine Dd (A1 a1) ?_;refine Dd (A1 a2) ?_;exact Fa (JU (HM a3) (Dr (Bj _ _)))
open PySem L2
open Srt (ltL)
def toP(r:List Int):Int×Int:=(r.getD 0 0,r.getD 1 0)
def D8(ps:List (Int×Int)):List (Int×Int):=(Jw ps).map toP
theorem Pb(h:r∈Jw ps):∃x∈ps,r=SA (nrm x):=by
 have:=(GB _).mem_iff.mp h;obtain⟨x,hx,rfl⟩:=An.mp this;exact⟨x,hx,rfl⟩
theorem Xt(ps:List (Int×Int)):(D8 ps).map SA=Jw ps:=by
 unfold D8;rw[A2]
 conv=>rhs;rw[<-PD (Jw ps)]
 refine CO λr hr=>?_
 obtain⟨x,_,rfl⟩:=Pb hr;rfl
theorem VQ(ps:List (Int×Int)):(Jw ps).map E0=(D8 ps).map pairD:=by
 rw[<-Xt,A2];rfl
theorem Zg(h:t∈D8 ps):∃x∈ps,t=nrm x:=by
 obtain⟨r,hr,rfl⟩:=An.mp h;obtain⟨x,hx,rfl⟩:=Pb hr;exact⟨x,hx,rfl⟩
theorem Nn(ps:List (Int×Int)):(D8 ps).Perm (ps.map nrm):=by
 unfold D8 Jw;have:=(GB (ps.map λx=>SA (nrm x))).map toP;refine this.trans ?_;rw[A2];exact WN rfl
theorem jj(x:Int×Int):(nrm x).1<=(nrm x).2:=by
 unfold nrm;dsimp only
 split <;> split <;> lia
theorem Fit.in{p:Nat}{x:Int×Int}(h:Fit p x):In p (nrm x):=by
 obtain⟨h1,h2,h3⟩:=h;have:=jj x;exact⟨h2,by lia,by lia,h3,h1⟩
structure HA(W:Wd)(S:Sto)(q p:Nat)(ts:List (Int×Int)):Prop where
 at_:∃fs:List (Str×D),S[q]?=some (.ins W.Web fs)/\fs.lookup ("places" : Str)=some (.int p)/\fs.lookup ("ties" : Str)=some (.tup (ts.map pairD))/\fs.lookup ("near_sets" : Str)=some (.tup (Gk p ts))
theorem HA.keeps(h:HA W S q p ts)(k:Keeps S S'):HA W S' q p ts:=by
 obtain⟨fs,h1,h2⟩:=h.at_;exact⟨fs,k.at h1,h2⟩
theorem HA.places(h:HA W S q p ts)(hm:m e S0=.ok (.ref q) S):Hl W.Web "places" m e S0=.ok (.int p) S:=by
 obtain⟨fs,h1,h2,_⟩:=h.at_;exact QI hm h1 h2
theorem HA.ties(h:HA W S q p ts)(hm:m e S0=.ok (.ref q) S):Hl W.Web "ties" m e S0=.ok (.tup (ts.map pairD)) S:=by
 obtain⟨fs,h1,_,h2,_⟩:=h.at_;exact QI hm h1 h2
theorem HA.sets(h:HA W S q p ts)(hm:m e S0=.ok (.ref q) S):Hl W.Web "near_sets" m e S0=.ok (.tup (Gk p ts)) S:=by
 obtain⟨fs,h1,_,_,h2⟩:=h.at_;exact QI hm h1 h2
theorem mX:¬(("places" : Str) = "ties"):=by decide +kernel
theorem mY:¬(("places" : Str) = "near_sets"):=by decide +kernel
theorem mW:¬(("ties" : Str) = "near_sets"):=by decide +kernel
theorem put2(a b:D):Oe "ties" b [(("places" : Str),a)]=([("places",a),("ties",b)]:List (Str×D)):=by
 show(if ("places" : Str) = "ties" then _ else _)=_;rw[qY mX];rfl
theorem put3(a b c:D):Oe "near_sets" c [(("places" : Str),a),("ties",b)]=([("places",a),("ties",b),("near_sets",c)]:List (Str×D)):=by
 show(if ("places" : Str) = "near_sets" then _ else _)=_;rw[qY mY]
 have:Oe "near_sets" c [(("ties" : Str),b)]=([("ties",b),("near_sets",c)]:List (Str×D)):=by
  show(if ("ties" : Str) = "near_sets" then _ else _)=_;rw[qY mW];rfl
 rw[this]
theorem mw(a b c:D):([("places",a),("ties",b),("near_sets",c)]:List (Str×D)).lookup ("places" : Str)=some a:=by
 rw[Bd,show(("places" : Str)=="places")=true by decide +kernel]
theorem mq(a b c:D):([("places",a),("ties",b),("near_sets",c)]:List (Str×D)).lookup ("near_sets" : Str)=some c:=by
 rw[Bd,show(("near_sets" : Str)=="places")=false by decide +kernel];dsimp only;rw[Bd,show(("near_sets" : Str)=="ties")=false by decide +kernel];dsimp only;rw[Bd,show(("near_sets" : Str)=="near_sets")=true by decide +kernel]
theorem jn(a b:D):([("places",a),("ties",b)]:List (Str×D)).lookup ("ties" : Str)=some b:=by
 rw[Bd,show(("ties" : Str)=="places")=false by decide +kernel];dsimp only;rw[Bd,show(("ties" : Str)=="ties")=true by decide +kernel]
open PySem L2
theorem aS(hw:HA W S q p ts)(x:Int):Du W [.ref q,.int x] S=if 0<=x/\x < p then .ok .non S else .err W.NoPlace S:=by
 have t:UA (mB (m3 leD ltD (mC (.int 0)) (AA 1) (Hl W.Web "places" (AA 0)))) [sR q,sI x] S=.ok (decide ¬(0<=x/\x < p)) S:=by
  by_cases h1:0<=x
  ·by_cases h2:x < p
   ·rw[Pz (b:=true) (Es (Wr rfl rfl (QC (wX h1)) (hw.places rfl) (MU (wX h2))))]
    simp[h1,h2]
   ·rw[Pz (b:=false) (Es (Wr rfl rfl (QC (wX h1)) (hw.places rfl) (MU (wY h2))))]
    simp[h2]
  ·rw[Pz (b:=false) (Es (gt rfl rfl (QC (wY h1))))]
   simp[h1]
 have t':=Ck (a:=EU W.NoPlace (AF (mC (.str "the web has no such place")) Aj)) (b:=sNx) t
 by_cases c:0<=x/\x < p
 ·rw[qX c]
  rw[wY (λz=>z c),qY AL]at t';exact Vb (t'.trans rfl)
 ·rw[qY c]
  rw[wX c,qX rfl]at t';exact Pm (t'.trans (Pq rfl (by simp)))
theorem eh(hw:HA W S q p ts)(hx:x < p):K8 W [.ref q,.int x] S=.ok (.tup ((Et (CT ts x)).map D.int)) S:=by
 refine Cz ?_;unfold Sn
 have c:BG 2 (Du W) (AF (AA 0) (AF (AA 1) Aj)) [sR q,sI x] S=.ok .non S:=by
  refine(Bz (ds:=[.ref q,.int x]) (S1:=S) rfl rfl).trans ?_;rw[aS hw,qX ⟨by omega,by omega⟩]
 refine Dd (A1 (e:=[sR q,sI x]) (Di c)) ?_;refine Fa (BF (hw.sets rfl) rfl ?_);show Gp (ixD _ _ _) _=_
 have e2:atI (Gk p ts) (x:Int)=some (.tup ((Et (CT ts x)).map D.int)):=by
  unfold atI ixN;rw[show(Gk p ts).length=p by simp[Gk],qX (by omega),qX (by omega)];simp only[Ab,Bk];unfold Gk;rw[AS,BU hx];rfl
 have:ixD (.tup (Gk p ts)) (.int x) S=.ok (.tup ((Et (CT ts x)).map D.int)) S:=by
  show(match atI (Gk p ts) (x:Int)with | some d=>Res.ok d S | none=>.bad)=_;rw[e2]
 rw[this];rfl
open PySem L2
open Srt (ltL)
theorem XH(W:Wd)(ns:List Int)(k:Nat)(S:Sto):∃h:Int,EJ W [.fro (ns.map D.int),.int k] S=.ok (.int h) S:=by
 by_cases hk:k < ns.length
 ·refine⟨ns[k],Cz ?_⟩
  unfold IZ;have t:mB (m2 ltD (AA 1) (J9 (AA 0))) (Cm 2 [.fro (ns.map D.int),.int k]) S=.ok true S:=Es (BF rfl (N0 (d:=.fro (ns.map D.int)) rfl rfl) (MU (wX (by simp;omega))));refine MD (Dd (Ck t) ?_);rw[qX rfl];refine Fa (BF rfl rfl (SS (ds:=ns.map D.int) rfl (by lia) ?_));simp[hk]
 ·refine⟨0,Cz ?_⟩
  unfold IZ;have t:mB (m2 ltD (AA 1) (J9 (AA 0))) (Cm 2 [.fro (ns.map D.int),.int k]) S=.ok false S:=Es (BF rfl (N0 (d:=.fro (ns.map D.int)) rfl rfl) (MU (wY (by simp;lia))));refine Dd (A1 (Dd (Ck t) rfl)) ?_;rfl
theorem SM(h:-1000000000000<=j)(h1:j<=1000000000000):Kv (.int i) (.int j) S=.ok (.int (i * j)) S:=by
 show(if Sx i j then _ else _)=_;rw[qX (.inr ⟨Nd (by decide) h,Iz h1 (by decide)⟩)]
theorem NC(W:Wd)(c s:Int):∃v:Int,0<=v/\v < 2147483629/\∀S,B1 W [.int c,.int s] S=.ok (.int v) S:=by
 have h0:=IM ((c % 2147483647+s) * 48271) (show(2147483647:Int)≠0 by decide);have h1:=Gh ((c % 2147483647+s) * 48271) (show(0:Int) < 2147483647 by decide);refine⟨(c % 2147483647+s) * 48271 % 2147483647 * ((c % 2147483647+s) * 48271 % 2147483647) % 2147483629,IM _ (by decide),Gh _ (by decide),λS=>Cz ?_⟩;unfold NS
 have s1:Bc 2 (m2 DZ (m2 Kv (m2 FJ (m2 DZ (AA 0) (mC (.int 2147483647))) (AA 1)) (mC (.int 48271))) (mC (.int 2147483647))) (Cm 3 [.int c,.int s]) S=oN [sI c,sI s,sI ((c % 2147483647+s) * 48271 % 2147483647)] S:=
  Cb (i:=2) (BF (BF (BF (BF rfl rfl (Dh (by decide))) rfl rfl) rfl (SM (by decide) (by decide))) rfl (Dh (by decide)))
 rw[A1 s1]
 generalize (c % 2147483647+s) * 48271 % 2147483647=m at *
 exact Fa (BF (BF rfl rfl (SM (by lia) (by lia))) rfl (Dh (by decide)))
abbrev gy:MS:=BD (Bc 4 (Ov (AA 0) (Py (m2 FJ (AA 1) (AA 3))) Wo (Py (mC (.int 24)))))
  (sIf (mB (m2 (eqD true) (AA 4) (CL (Bi Aj)))) (B0 (GH (AA 2) (Vo (AA 4)))) sNx)
theorem iq(h:m e S=.ok (.ref n) S1)(hn:S1[n]?=some (.lst (ns.map D.int))):Vo m e S=.ok (.int (dS ns)) S1:=by
 unfold Vo;rw[h];dsimp only[Res.bind];rw[QA hn];dsimp only;rw[KA]
theorem YF{S:Sto}{ns ps:List Int}{n:Nat}{s k:Int}{z4:Option D}(hn:S[n]?=some (.lst (ps.map D.int)))(hl:ps.length<=1000) :
  ∃(S':Sto) (z:Option D) (qs:List Int),gy [sF ns,sI s,sR n,sI k,z4] S=oN [sF ns,sI s,sR n,sI k,z] S'/\S'[n]?=some (.lst (qs.map D.int))/\ps.length<=qs.length/\qs.length<=ps.length+1/\S.length<=S'.length/\∀j,j < S.length->j≠n->S'[j]?=S[j]?:=by
 have oM:n < S.length:=(AC.mp hn).1
 have s1:Bc 4 (Ov (AA 0) (Py (m2 FJ (AA 1) (AA 3))) Wo (Py (mC (.int 24)))) [sF ns,sI s,sR n,sI k,z4] S=oN [sF ns,sI s,sR n,sI k,sR S.length] (S++[.lst ((pickG ns (some (s+k)) none (some 24)).map D.int)]):=by
  refine Cb (i:=4) ?_;rw[<-YG];rfl
 generalize pickG ns (some (s+k)) none (some 24)=cs at s1;have hc:=Bj S (.lst (cs.map D.int));have K1:Keeps S (S++[.lst (cs.map D.int)]):=Keeps.app _ _
 have e1:(S++[Ob.lst (cs.map D.int)]).length=S.length+1:=by simp
 generalize S++[Ob.lst (cs.map D.int)]=S1 at s1 hc K1 e1
 have t:mB (m2 (eqD true) (AA 4) (CL (Bi Aj))) [sF ns,sI s,sR n,sI k,sR S.length] S1=.ok (!cs.isEmpty) (S1++[.lst []]):=by
  refine Es (BF (S2:=S1++[.lst []]) rfl rfl ?_);rw[eq_nil true ((Keeps.app S1 _).at hc) (Bj _ _)];simp
 have K2:Keeps S (S1++[.lst []]):=K1.trans (Keeps.app _ _);have rT:=(Keeps.app S1 [.lst []]).at hc;generalize S1++[Ob.lst []]=S2 at t K2 rT;have ph:=K2.at hn;have i1:=Ck (a:=B0 (GH (AA 2) (Vo (AA 4)))) (b:=sNx) t
 cases hq:cs.isEmpty with
 | true=>
  rw[hq]at i1;refine⟨S2,_,ps,(A1 s1).trans (i1.trans rfl),ph,AN _,ID _,K2.1,λj h1 _=>K2.2 j h1⟩
 | false=>
  rw[hq]at i1;have a1:=JM (mo:=AA 2) (ma:=Vo (AA 4)) (e:=[sF ns,sI s,sR n,sI k,sR S.length]) (S:=S2) (n:=n) (S1:=S2) (S2:=S2) rfl ph (iq rfl rT) ph (by rw[AE];exact A4 hl (by decide));refine⟨_,_,ps++[dS cs],(A1 s1).trans (i1.trans (Di a1)),?_,by simp,by simp,by simpa using K2.1,λj h1 h2=>?_⟩
  ·rw[Am (AU oM K2.1),A9]
   rfl
  ·rw[AY (Br h2)]
   exact K2.2 j h1
theorem dw(W:Wd)(ns:List Int)(S:Sto):∃(S':Sto) (ps:List Int),Ir W [.fro (ns.map D.int),.int 1] S=.ok (.ref S.length) S'/\Keeps S S'/\S'[S.length]?=some (.lst (ps.map D.int))/\1<=ps.length/\ps.length<=25:=by
 have s1:Bc 2 (CL (Bi (AF (J9 (AA 0)) Aj))) (Cm 5 [.fro (ns.map D.int),.int 1]) S=oN [sF ns,sI 1,sR S.length,none,none] (S++[.lst ([(ns.length:Int)].map D.int)]):=by
  refine Cb (i:=2) (HM ?_);unfold Bi;rw[BH (r:=Aj) (N0 (d:=.fro (ns.map D.int)) (S1:=S) rfl rfl) rfl,AE];rfl
 obtain⟨f,S1,h1,⟨z3,z4,rfl⟩,K,ps,hn,hl1,qI⟩:=Gs (v:=Dp (DE 0 24)) (g:=tgN 3) (b:=gy) (xs:=DE 0 24) (e:=[sF ns,sI 1,sR S.length,none,none]) (S:=S++[.lst ([(ns.length:Int)].map D.int)])
  (λi e S'=>(∃z3 z4,e=[sF ns,sI 1,sR S.length,z3,z4])/\Keeps S S'/\∃ps:List Int,S'[S.length]?=some (.lst (ps.map D.int))/\1<=ps.length/\ps.length<=i+1)
  (λf S'=>(∃z3 z4,f=.nx [sF ns,sI 1,sR S.length,z3,z4])/\Keeps S S'/\∃ps:List Int,S'[S.length]?=some (.lst (ps.map D.int))/\1<=ps.length/\ps.length<=25)
  ⟨⟨none,none,rfl⟩,Keeps.app _ _,[(ns.length:Int)],Bj _ _,by simp,by simp⟩ (λ_ _ _ _=>rfl)
  (by
   rintro i d e S' hd ⟨⟨z3,z4,rfl⟩,K,ps,hn,h1,h2⟩;obtain⟨hi,rfl⟩:=JY hd;obtain⟨S2,z,qs,q1,q2,q3,q4,q5,q6⟩:=YF (S:=S') (ns:=ns) (s:=1) (k:=0+i) (z4:=z4) hn (by lia)
   exact⟨_,_,rfl,_,_,q1,⟨_,_,rfl⟩,⟨Ao K.1 q5,λj hj=>(q6 j (AU hj K.1) (by lia)).trans (K.2 j hj)⟩,qs,q2,by lia,by lia⟩)
  (by
   rintro e S' ⟨⟨z3,z4,rfl⟩,K,ps,hn,h1,h2⟩;rw[IK]at h2
   exact⟨⟨_,_,rfl⟩,K,ps,hn,h1,by omega⟩)
 refine⟨S1,ps,Cz ?_,K,hn,hl1,qI⟩;unfold OS;rw[A1 s1];refine Dd (A1 ((FI (K7 (j:=24) rfl (by lia) (by lia))).trans h1)) ?_;rfl
open PySem L2
def D9(o j:Nat)(ts:List (Int×Int)):Prop:=(∀x∈ts,0<=x.1/\x.1 < x.2/\(x.2 < o∨x.2=o/\x.1 < j))/\ts.Nodup
theorem D9.nil(o j:Nat):D9 o j []:=⟨λ_ h=>zX h Bx,G6⟩
theorem D9.skip(h:D9 o j ts):D9 o (j+1) ts:=⟨λx hx=>by
 obtain⟨h1,h2,h3⟩:=h.1 x hx;refine⟨h1,h2,?_⟩
 lia,h.2⟩
theorem D9.add(h:D9 o j ts)(hj:j < o):D9 o (j+1) (ts++[((j:Int),(o:Int))]):=by
 refine⟨λx hx=>?_,?_⟩
 ·rcases Af.mp hx with hx | hx
  ·exact h.skip.1 x hx
  ·rw[AJ.mp hx]
   dsimp only
   lia
 ·rw[CS]
  refine⟨h.2,by simp,λx hx y hy e=>?_⟩;rw[AJ.mp hy]at e;subst e;have:=(h.1 _ hx).2.2;dsimp only at this
  lia
theorem D9.next(h:D9 o o ts):D9 (o+1) 0 ts:=⟨λx hx=>by
 obtain⟨h1,h2,h3⟩:=h.1 x hx;refine⟨h1,h2,?_⟩
 lia,h.2⟩
theorem aQ(h:x.1 < x.2):nrm x=x:=by
 unfold nrm;rw[qY (by lia),qX (by omega)]
theorem D9.nrm(h:D9 o j ts):ts.map M.nrm=ts:=by
 conv=>rhs;rw[<-PD ts]
 exact CO λx hx=>aQ (h.1 x hx).2.1
theorem D9.fit(h:D9 p 0 ts):EK p ts:=by
 refine⟨λx hx=>?_,by rw[h.nrm];exact h.2⟩;obtain⟨h1,h2,h3⟩:=h.1 x hx;unfold Fit;rw[aQ h2]
 lia
theorem O4(S:Sto)(o o':Ob):(S++[o]).set S.length o'=S++[o']:=by simp
abbrev XN(W:Wd):MS:=BD (Bc 7 (m2 ixA (AA 0) (m2 DZ (AA 4) (J9 (AA 0)))))
  (BD (Bc 4 (m2 FJ (AA 4) (mC (.int 1))))
  (sIf (mB (m2 ltD (m2 DZ (BG 2 (B1 W) (AF (AA 7) (AF (m2 FJ (m2 Kv (mC (.int 7)) (AA 6)) (m2 Kv (mC (.int 61)) (AA 5))) Aj))) (mC (.int 6))) (AA 2))) (B0 (GH (AA 3) (Ga (AF (AA 6) (AF (AA 5) Aj))))) sNx))
theorem Xu(W:Wd){S:Sto}{a:Nat}{oV:List Int}{d1:D}{th at_:Int}{o j:Nat}{z7:Option D}{ts:List (Int×Int)}(ha:S[a]?=some (.lst (oV.map D.int)))(hp:1<=oV.length)(ho:o<=1000)(hj:j < o)(hu:D9 o j ts)(hl:ts.length<=90000) :
  ∃(c:Int) (qs:List (Int×Int)),XN W [sR a,some d1,sI th,sR S.length,sI at_,sI o,sI j,z7] (S++[.lst (ts.map pairD)])=oN [sR a,some d1,sI th,sR S.length,sI (at_+1),sI o,sI j,sI c] (S++[.lst (qs.map pairD)])/\D9 o (j+1) qs/\qs.length<=ts.length+1:=by
 have vz:=(Keeps.app S [.lst (ts.map pairD)]).at ha;have h0:=IM at_ (show(oV.length:Int)≠0 by lia);have h1:=Gh at_ (show(0:Int) < oV.length by lia)
 have oM:(at_ % oV.length).toNat < oV.length:=by lia
 have s1:Bc 7 (m2 ixA (AA 0) (m2 DZ (AA 4) (J9 (AA 0)))) [sR a,some d1,sI th,sR S.length,sI at_,sI o,sI j,z7] (S++[.lst (ts.map pairD)])=.ok (.nx [sR a,some d1,sI th,sR S.length,sI at_,sI o,sI j,some (.int oV[(at_ % oV.length).toNat])]) (S++[.lst (ts.map pairD)]):=by
  refine Cb (i:=7) (BF rfl (BF rfl (N0 (d:=.ref a) rfl (Dr vz)) (Dh (by rw[AE];lia))) (az vz (by rw[AE];exact h0) ?_));rw[AE,AS,BW oM];rfl
 generalize oV[(at_ % oV.length).toNat]=c at s1;have s2:Bc 4 (m2 FJ (AA 4) (mC (.int 1))) [sR a,some d1,sI th,sR S.length,sI at_,sI o,sI j,sI c] (S++[.lst (ts.map pairD)])=oN [sR a,some d1,sI th,sR S.length,sI (at_+1),sI o,sI j,sI c] (S++[.lst (ts.map pairD)]):=rfl;obtain⟨v,_,_,hv⟩:=NC W c (7 * j+61 * o)
 have t:mB (m2 ltD (m2 DZ (BG 2 (B1 W) (AF (AA 7) (AF (m2 FJ (m2 Kv (mC (.int 7)) (AA 6)) (m2 Kv (mC (.int 61)) (AA 5))) Aj))) (mC (.int 6))) (AA 2)) [sR a,some d1,sI th,sR S.length,sI (at_+1),sI o,sI j,sI c] (S++[.lst (ts.map pairD)])=.ok (decide (v % 6 < th)) (S++[.lst (ts.map pairD)]):=
  Es (BF (BF ((Bz (ds:=[.int c,.int (7 * j+61 * o)]) (S1:=S++[.lst (ts.map pairD)]) (BH rfl (BH (BF (BF rfl rfl (SM (by lia) (by lia))) (BF rfl rfl (SM (by lia) (by lia))) rfl) rfl)) rfl).trans (hv _)) rfl (Dh (by decide))) rfl (MU rfl))
 have i1:=Ck (a:=B0 (GH (AA 3) (Ga (AF (AA 6) (AF (AA 5) Aj))))) (b:=sNx) t
 by_cases c0:v % 6 < th
 ·rw[wX c0,qX rfl]at i1
  have a1:=JM (mo:=AA 3) (ma:=Ga (AF (AA 6) (AF (AA 5) Aj))) (e:=[sR a,some d1,sI th,sR S.length,sI (at_+1),sI o,sI j,sI c]) (S:=S++[.lst (ts.map pairD)]) (n:=S.length) (S1:=S++[.lst (ts.map pairD)]) (S2:=S++[.lst (ts.map pairD)]) (y:=pairD ((j:Int),(o:Int))) rfl (Bj _ _) (Nl (ds:=[.int j,.int o]) rfl (by simp)) (Bj _ _) (by rw[AE];exact A4 hl (by decide));rw[O4,show ts.map pairD++[pairD ((j:Int),(o:Int))]=(ts++[((j:Int),(o:Int))]).map pairD by simp]at a1;exact⟨c,_,((A1 s1).trans (A1 s2)).trans (i1.trans (Di a1)),hu.add hj,by simp⟩
 ·rw[wY c0,qY AL]at i1
  exact⟨c,ts,((A1 s1).trans (A1 s2)).trans (i1.trans rfl),hu.skip,by lia⟩
theorem Zh(W:Wd){S:Sto}{a:Nat}{oV:List Int}{d1:D}{th at_:Int}{o:Nat}{z6 z7:Option D}{ts:List (Int×Int)}(ha:S[a]?=some (.lst (oV.map D.int)))(hp:1<=oV.length)(ho:o<=1000)(hu:D9 o 0 ts)(hl:ts.length<=80000) :
  ∃(at':Int) (y6 y7:Option D) (qs:List (Int×Int)),G3 (iR1 (AF (AA 5) Aj)) (tgN 6) (XN W) [sR a,some d1,sI th,sR S.length,sI at_,sI o,z6,z7] (S++[.lst (ts.map pairD)])=oN [sR a,some d1,sI th,sR S.length,sI at',sI o,y6,y7] (S++[.lst (qs.map pairD)])/\D9 (o+1) 0 qs/\qs.length<=ts.length+o:=by
 obtain⟨f,S1,h1,at',y6,y7,qs,rfl,rfl,q1,q2⟩:=Gs (v:=Dp (DE 0 o)) (g:=tgN 6) (b:=XN W) (xs:=DE 0 o) (e:=[sR a,some d1,sI th,sR S.length,sI at_,sI o,z6,z7]) (S:=S++[.lst (ts.map pairD)])
  (λi e S'=>∃(at':Int) (y6 y7:Option D) (qs:List (Int×Int)),e=[sR a,some d1,sI th,sR S.length,sI at',sI o,y6,y7]/\S'=S++[.lst (qs.map pairD)]/\D9 o i qs/\qs.length<=ts.length+i)
  (λf S'=>∃(at':Int) (y6 y7:Option D) (qs:List (Int×Int)),f=.nx [sR a,some d1,sI th,sR S.length,sI at',sI o,y6,y7]/\S'=S++[.lst (qs.map pairD)]/\D9 o o qs/\qs.length<=ts.length+o)
  ⟨at_,z6,z7,ts,rfl,rfl,hu,AN _⟩ (λ_ _ _ _=>rfl)
  (by
   rintro i d e S' hd ⟨at',y6,y7,qs,rfl,rfl,q1,q2⟩;obtain⟨hi,rfl⟩:=JY hd;obtain⟨c,rs,k1,k2,k3⟩:=Xu W (d1:=d1) (th:=th) (at_:=at') (z7:=y7) ha hp ho hi q1 (by lia);refine⟨[sR a,some d1,sI th,sR S.length,sI at',sI o,sI i,y7],_,?_,_,_,k1,_,_,_,rs,rfl,rfl,k2,by lia⟩;show Res.ok [sR a,some d1,sI th,sR S.length,sI at',sI o,sI (0+(i:Int)),y7] _=_
   rw[Kj])
  (by
   rintro e S' ⟨at',y6,y7,qs,rfl,rfl,q1,q2⟩;rw[IK]at q1 q2
   exact⟨_,_,_,qs,rfl,rfl,q1,q2⟩)
 have hi:iR1 (AF (AA 5) Aj) [sR a,some d1,sI th,sR S.length,sI at_,sI o,z6,z7] (S++[.lst (ts.map pairD)])=.ok (Dp (DE 0 o)) (S++[.lst (ts.map pairD)]):=by
  have:=K7 (ml:=AF (AA 5) Aj) (e:=[sR a,some d1,sI th,sR S.length,sI at_,sI o,z6,z7]) (S:=S++[.lst (ts.map pairD)]) (S1:=S++[.lst (ts.map pairD)]) (j:=o) rfl (by lia) (by lia);simpa using this
 exact⟨at',y6,y7,qs,(FI hi).trans h1,q1.next,q2⟩
theorem UD(W:Wd){S:Sto}{a m:Nat}{oV:List Int}(th:Int)(ha:S[a]?=some (.lst (oV.map D.int)))(hp:1<=oV.length)(qc:1<=m)(hm:m<=60) :
  ∃ts:List (Int×Int),K9 W [.ref a,.int m,.int th] S=.ok (.ref S.length) (S++[.lst (ts.map pairD)])/\D9 m 0 ts/\ts.length<=3600:=by
 obtain⟨f,S1,h1,at',y5,y6,y7,qs,rfl,rfl,q1,q2⟩:=Gs (v:=Dp (DE 1 (m - 1))) (g:=tgN 5) (b:=G3 (iR1 (AF (AA 5) Aj)) (tgN 6) (XN W)) (xs:=DE 1 (m - 1)) (e:=[sR a,sI m,sI th,sR S.length,sI 0,none,none,none]) (S:=S++[.lst []])
  (λi e S'=>∃(at':Int) (y5 y6 y7:Option D) (qs:List (Int×Int)),e=[sR a,sI m,sI th,sR S.length,sI at',y5,y6,y7]/\S'=S++[.lst (qs.map pairD)]/\D9 (1+i) 0 qs/\qs.length<=60 * i)
  (λf S'=>∃(at':Int) (y5 y6 y7:Option D) (qs:List (Int×Int)),f=.nx [sR a,sI m,sI th,sR S.length,sI at',y5,y6,y7]/\S'=S++[.lst (qs.map pairD)]/\D9 m 0 qs/\qs.length<=3600)
  ⟨0,none,none,none,[],rfl,rfl,D9.nil _ _,by simp⟩ (λ_ _ _ _=>rfl)
  (by
   rintro i d e S' hd ⟨at',y5,y6,y7,qs,rfl,rfl,q1,q2⟩;obtain⟨hi,rfl⟩:=JY hd;obtain⟨at2,w6,w7,rs,k1,k2,k3⟩:=Zh W (d1:=.int m) (th:=th) (at_:=at') (o:=1+i) (z6:=y6) (z7:=y7) ha hp (by lia) q1 (by lia);refine⟨[sR a,sI m,sI th,sR S.length,sI at',sI ((1+i:Nat):Int),y6,y7],_,?_,_,_,k1,_,_,_,_,rs,rfl,rfl,k2,by lia⟩;show Res.ok [sR a,sI m,sI th,sR S.length,sI at',sI (1+(i:Int)),y6,y7] _=_;rw[gb]
   rfl)
  (by
   rintro e S' ⟨at',y5,y6,y7,qs,rfl,rfl,q1,q2⟩;rw[IK]at q1 q2;rw[show 1+(m - 1)=m by lia]at q1
   exact⟨_,_,_,_,qs,rfl,rfl,q1,by lia⟩)
 have hi:iR2 (AF (mC (.int 1)) (AF (AA 1) Aj)) [sR a,sI m,sI th,sR S.length,sI 0,none,none,none] (S++[.lst []])=.ok (Dp (DE 1 (m - 1))) (S++[.lst []]):=by
  have:=bH (ml:=AF (mC (.int 1)) (AF (AA 1) Aj)) (e:=[sR a,sI m,sI th,sR S.length,sI 0,none,none,none]) (S:=S++[.lst []]) (S1:=S++[.lst []]) (i:=1) (j:=m) rfl (by lia) (by lia) (by lia) (by lia);rw[this,show((m:Int) - 1).toNat=m - 1 by lia]
 refine⟨qs,Cz ?_,q1,q2⟩;unfold OR;refine Dd (A1 (e:=Cm 8 [.ref a,.int m,.int th]) (e1:=[sR a,sI m,sI th,sR S.length,none,none,none,none]) (S1:=S++[.lst []]) rfl) ?_;refine Dd (A1 (e1:=[sR a,sI m,sI th,sR S.length,sI 0,none,none,none]) (S1:=S++[.lst []]) rfl) ?_;refine Dd (A1 ((FI hi).trans h1)) ?_;rfl
open PySem L2
open Srt (ltL)
theorem aR(x:Int×Int):nrm (x.2,x.1)=nrm x:=by
 unfold nrm;dsimp only
 congr 1
 ·split <;> split <;> lia
 ·split <;> split <;> lia
theorem i0(h:mo e S=.ok (.ref n) S1)(hn:S1[n]?=some (.lst xs)):ah mo e S=.ok .non (S1.set n (.lst xs.reverse)):=by
 unfold ah;rw[h];dsimp only[Res.bind]
 have:atL (.ref n) S1=some (n,xs):=by unfold atL;dsimp only;rw[hn]
 rw[this]
abbrev bq(W:Wd):MS:=sIf (mB (m2 (eqD false) (m2 DZ (BG 2 (B1 W) (AF (AA 1) (AF (AA 3) Aj))) (mC (.int 2))) (mC (.int 0)))) (B0 (GH (AA 2) (m2 ixA (AA 0) (AA 3)))) (B0 (GH (AA 2) (Ga (AF (m2 ixA (m2 ixA (AA 0) (AA 3)) (mC (.int 1))) (AF (m2 ixA (m2 ixA (AA 0) (AA 3)) (mC (.int 0))) Aj)))))
theorem Xq(W:Wd){S:Sto}{t i:Nat}{c:Int}{ts us:List (Int×Int)}{x:Int×Int}(ht:S[t]?=some (.lst (ts.map pairD)))(hx:ts[i]?=some x)(hl:us.length<=90000) :
  ∃y:Int×Int,nrm y=nrm x/\bq W [sR t,sI c,sR S.length,sI i] (S++[.lst (us.map pairD)])=oN [sR t,sI c,sR S.length,sI i] (S++[.lst ((us++[y]).map pairD)]):=by
 have xg:=(Keeps.app S [.lst (us.map pairD)]).at ht;obtain⟨v,_,_,hv⟩:=NC W c i
 have tt:mB (m2 (eqD false) (m2 DZ (BG 2 (B1 W) (AF (AA 1) (AF (AA 3) Aj))) (mC (.int 2))) (mC (.int 0))) [sR t,sI c,sR S.length,sI i] (S++[.lst (us.map pairD)])=.ok (decide (v % 2=0)) (S++[.lst (us.map pairD)]):=
  Es (BF (BF ((Bz (ds:=[.int c,.int i]) (S1:=S++[.lst (us.map pairD)]) rfl rfl).trans (hv _)) rfl (Dh (by decide))) rfl (N8 rfl))
 have gx:m2 ixA (AA 0) (AA 3) [sR t,sI c,sR S.length,sI i] (S++[.lst (us.map pairD)])=.ok (pairD x) (S++[.lst (us.map pairD)]):=BF rfl rfl (az xg (by lia) (by rw[AS,Bk,hx];rfl));have i1:=Ck (a:=B0 (GH (AA 2) (m2 ixA (AA 0) (AA 3)))) (b:=B0 (GH (AA 2) (Ga (AF (m2 ixA (m2 ixA (AA 0) (AA 3)) (mC (.int 1))) (AF (m2 ixA (m2 ixA (AA 0) (AA 3)) (mC (.int 0))) Aj))))) tt
 have hz:(us.map pairD).length < sizeLine:=by rw[AE];exact A4 hl (by decide)
 by_cases c0:v % 2=0
 ·rw[wX c0,qX rfl]at i1
  have a1:=JM (mo:=AA 2) (ma:=m2 ixA (AA 0) (AA 3)) (e:=[sR t,sI c,sR S.length,sI i]) (S:=S++[.lst (us.map pairD)]) (n:=S.length) (S1:=S++[.lst (us.map pairD)]) (S2:=S++[.lst (us.map pairD)]) rfl (Bj _ _) gx (Bj _ _) hz;rw[O4,show us.map pairD++[pairD x]=(us++[x]).map pairD by simp]at a1;exact⟨x,rfl,i1.trans (Di a1)⟩
 ·rw[wY c0,qY AL]at i1
  have a1:=JM (mo:=AA 2) (ma:=Ga (AF (m2 ixA (m2 ixA (AA 0) (AA 3)) (mC (.int 1))) (AF (m2 ixA (m2 ixA (AA 0) (AA 3)) (mC (.int 0))) Aj))) (e:=[sR t,sI c,sR S.length,sI i]) (S:=S++[.lst (us.map pairD)]) (n:=S.length) (S1:=S++[.lst (us.map pairD)]) (S2:=S++[.lst (us.map pairD)]) (y:=pairD (x.2,x.1)) rfl (Bj _ _) (Nl (ds:=[.int x.2,.int x.1]) (BH (BF gx rfl (ix1 _ _)) (BH (BF gx rfl (ix0 _ _)) rfl)) (by simp)) (Bj _ _) hz;rw[O4,show us.map pairD++[pairD (x.2,x.1)]=(us++[(x.2,x.1)]).map pairD by simp]at a1;exact⟨(x.2,x.1),aR x,i1.trans (Di a1)⟩
theorem Xp(W:Wd){S:Sto}{t:Nat}{ts:List (Int×Int)}(c:Int)(ht:S[t]?=some (.lst (ts.map pairD)))(hl:ts.length<=80000) :
  ∃us:List (Int×Int),Dy W [.ref t,.int c] S=.ok (.ref S.length) (S++[.lst (us.map pairD)])/\(us.map nrm).Perm (ts.map nrm)/\us.length=ts.length:=by
 obtain⟨f,S1,h1,z3,us,rfl,rfl,q1,q2⟩:=Gs (v:=Dp (DE 0 ts.length)) (g:=tgN 3) (b:=bq W) (xs:=DE 0 ts.length) (e:=[sR t,sI c,sR S.length,none]) (S:=S++[.lst []])
  (λi e S'=>∃(z3:Option D) (us:List (Int×Int)),e=[sR t,sI c,sR S.length,z3]/\S'=S++[.lst (us.map pairD)]/\us.map nrm=(ts.take i).map nrm/\us.length=i)
  (λf S'=>∃(z3:Option D) (us:List (Int×Int)),f=.nx [sR t,sI c,sR S.length,z3]/\S'=S++[.lst (us.map pairD)]/\us.map nrm=ts.map nrm/\us.length=ts.length)
  ⟨none,[],rfl,rfl,rfl,rfl⟩ (λ_ _ _ _=>rfl)
  (by
   rintro i d e S' hd ⟨z3,us,rfl,rfl,q1,q2⟩;obtain⟨hi,rfl⟩:=JY hd;have hx:ts[i]?=some ts[i]:=BW hi;obtain⟨y,k1,k2⟩:=Xq W (c:=c) (us:=us) ht hx (by lia);refine⟨[sR t,sI c,sR S.length,sI i],_,?_,_,_,k2,_,us++[y],rfl,rfl,?_,by simp[q2]⟩
   ·show Res.ok ([sR t,sI c,sR S.length,sI (0+(i:Int))]:Lo) _=_
    rw[Kj]
   ·rw[take_snoc hx,A9,A9,q1]
    simp[k1])
  (by
   rintro e S' ⟨z3,us,rfl,rfl,q1,q2⟩;rw[IK]at q1 q2;rw[Dg]at q1
   exact⟨_,us,rfl,rfl,q1,q2⟩)
 have hi:iR1 (AF (J9 (AA 0)) Aj) [sR t,sI c,sR S.length,none] (S++[.lst []])=.ok (Dp (DE 0 ts.length)) (S++[.lst []]):=by
  have:=K7 (ml:=AF (J9 (AA 0)) Aj) (e:=[sR t,sI c,sR S.length,none]) (S:=S++[.lst []]) (S1:=S++[.lst []]) (j:=((ts.map pairD).length:Nat)) (BH (N0 (d:=.ref t) rfl (Dr ((Keeps.app S _).at ht))) rfl) (by lia) (by rw[AE];lia);rw[AE]at this;simpa using this
 have e0:Dy W [.ref t,.int c] S=EY 4 (Hf W) [.ref t,.int c] S:=rfl
 have b2:∀(b:MS),BD (Bc 2 (CL (Bi Aj))) (BD (G3 (iR1 (AF (J9 (AA 0)) Aj)) (tgN 3) (bq W)) b) (Cm 4 [.ref t,.int c]) S=b [sR t,sI c,sR S.length,z3] (S++[.lst (us.map pairD)]):=λb=>by
  refine Dd (A1 (e1:=[sR t,sI c,sR S.length,none]) (S1:=S++[.lst []]) rfl) ?_;exact A1 ((FI hi).trans h1)
 have tt:mB (m2 (eqD false) (m2 DZ (AA 1) (mC (.int 2))) (mC (.int 1))) [sR t,sI c,sR S.length,z3] (S++[.lst (us.map pairD)])=.ok (decide (c % 2=1)) (S++[.lst (us.map pairD)]):=Es (BF (BF rfl rfl (Dh (by decide))) rfl (N8 rfl));have i1:=Ck (a:=B0 (ah (AA 2))) (b:=sNx) tt
 by_cases c0:c % 2=1
 ·rw[wX c0,qX rfl]at i1
  have r1:=i0 (mo:=AA 2) (e:=[sR t,sI c,sR S.length,z3]) (S:=S++[.lst (us.map pairD)]) rfl (Bj _ _);rw[O4,<-cD]at r1;refine⟨us.reverse,Cz ?_,?_,by rw[Xd];exact q2⟩
  ·unfold Hf
   rw[b2];refine Dd (A1 (i1.trans (Di r1))) ?_;rfl
  ·rw[cD,q1]
   exact List.reverse_perm _
 ·rw[wY c0,qY AL]at i1
  refine⟨us,Cz ?_,by rw[q1],q2⟩;unfold Hf;rw[b2];refine Dd (A1 (i1.trans rfl)) ?_;rfl
theorem Zr(h:l.Perm l'):G8 l=G8 l':=RG ((GB l).trans (h.trans (GB l').symm)) (Pd l) (Pd l')
theorem dM(h:(ps.map nrm).Perm (qs.map nrm)):D8 ps=D8 qs:=by
 unfold D8 Jw;have:=h.map SA;rw[A2,A2]at this;rw[show(λx=>SA (nrm x))=SA∘nrm from rfl,Zr this]
theorem EK.of(h:(ps.map nrm).Perm (qs.map nrm))(f:EK p qs):EK p ps:=by
 refine⟨λx hx=>?_,h.nodup_iff.mpr f.2⟩;obtain⟨y,hy,e⟩:=An.mp (h.mem_iff.mp (Xc hx));have:=f.1 y hy;unfold Fit at this ⊢;rw[<-e];exact this
open PySem L2
theorem Zq(h:l.Perm l'):Et l=Et l':=
 (((FE l).trans h).trans (FE l').symm).eq_of_pairwise (λa b _ _ h1 h2=>ge h1 h2) (Mz l) (Mz l')
theorem Yg(h:l.Perm l')(x:Nat):(CT l x).Perm (CT l' x):=QW _ h
def nr(ts:List (Int×Int))(x:Nat):List Int:=Et (CT ts x)
theorem ee(hu:D9 o 0 ts)(x:Nat):nr (D8 ts) x=nr ts x:=by
 have:=Nn ts;rw[hu.nrm]at this;exact Zq (Yg this x)
theorem MR:z∈nr ts x↔((x:Int),z)∈ts∨(z,(x:Int))∈ts:=by
 unfold nr;rw[(FE _).mem_iff];unfold CT;rw[Oo]
 constructor
 ·rintro⟨t,ht,h⟩
  rcases Af.mp h with h | h
  ·split at h
   ·rename_i e
    rw[AJ.mp h,<-e];exact .inl ht
   ·cases h
  ·split at h
   ·rename_i e
    rw[AJ.mp h,<-e];exact .inr ht
   ·cases h
 ·rintro(h | h)
  ·exact⟨_,h,Ay _ (by simp)⟩
  ·exact⟨_,h,Ax _ (by simp)⟩
theorem ef{ts:List (Int×Int)}{x y:Nat}:(y:Int)∈nr ts x↔(x:Int)∈nr ts y:=by
 rw[MR,MR];exact Or.comm
theorem gl(hu:D9 o 0 ts)(h:z∈nr ts x):0<=z/\z < o:=by
 rcases MR.mp h with h | h
 ·obtain⟨h1,h2,h3⟩:=hu.1 _ h
  dsimp only at h1 h2 h3
  lia
 ·obtain⟨h1,h2,h3⟩:=hu.1 _ h
  dsimp only at h1 h2 h3
  lia
theorem ae{α:Type}{f g:α->D}{l:List α}{v:Me}{m:ME}{e:Lo}{S:Sto}(hv:v S=some (l.map f))(hl:l.length<=1000000)(hm:∀x∈l,m (some (f x) :: e) S=.ok (g x) S) :
  Fp v (tgN 0) FY m (Cr v S) 0 (none :: e) S []=.ok (l.map g) S:=by
 obtain⟨r,S1,q1,e',_,rfl,rfl⟩:=O3 (v:=v) (g:=tgN 0) (c:=FY) (m:=m) (xs:=l.map f) (e:=none :: e) (S:=S)
  (λi e' S' acc=>(∃z,e'=z :: e)/\S'=S/\acc=(l.take i).map g) ⟨⟨none,rfl⟩,rfl,rfl⟩ (by rintro i e' S' acc ⟨_,rfl,_⟩;exact hv)
  (by
   rintro i d e' S' acc hd ⟨⟨z,rfl⟩,rfl,rfl⟩;rw[AS]at hd
   cases hx:l[i]? with
   | none=>rw[hx]at hd;cases hd
   | some x=>
    rw[hx]at hd;cases hd;refine⟨?_,some (f x) :: e,S',rfl,true,S',rfl,.inl ⟨rfl,g x,S',hm x (BK hx),⟨_,rfl⟩,rfl,?_⟩⟩
    ·rw[AE,EM]
     exact A4 (Ao (cO _ _) hl) (by decide)
    ·rw[take_snoc hx,A9]
     rfl)
 rw[AE,Dg]at q1;exact q1
theorem fW{α:Type}{f:α->D}{l:List α}{v:Me}{g:MG}{b:MS}{e:Lo}{S:Sto}(I:List α->Lo->Sto->Prop)(h0:I [] e S)(hv:∀t e S,I t e S->v S=some (l.map f))
  (step:∀t x e S,x∈l->t.length < l.length->I t e S->∃e1 S1,g (f x) e S=.ok e1 S1/\∃e2 S2,b e1 S1=.ok (.nx e2) S2/\I (t++[x]) e2 S2) :
  ∃e' S',Ji v g b (Cr v S) 0 e S=.ok (.nx e') S'/\I l e' S':=by
 obtain⟨f',S',h1,e',rfl,h2⟩:=Gs (v:=v) (g:=g) (b:=b) (xs:=l.map f) (e:=e) (S:=S) (λi e S=>I (l.take i) e S) (λf' S'=>∃e',f'=.nx e'/\I l e' S') h0 (λi e S h=>hv _ e S h)
  (by
   intro i d e S hd hI;rw[AS]at hd
   cases hx:l[i]? with
   | none=>rw[hx]at hd;cases hd
   | some x=>
    rw[hx]at hd;cases hd;have oM:=(AC.mp hx).1;obtain⟨e1,S1,q1,e2,S2,q2,q3⟩:=step (l.take i) x e S (BK hx) (by rw[EM];omega) hI;refine⟨e1,S1,q1,.nx e2,S2,q2,?_⟩;show I (l.take (i+1)) e2 S2;rw[take_snoc hx]
    exact q3)
  (by
   intro e S hI;rw[AE,Dg]at hI
   exact⟨e,rfl,hI⟩)
 exact⟨e',S',h1,h2⟩
theorem j4(h:t e S=.ok true S0)(ha:a e S0=.ok (.rt d) S1):BD (sIf t a sNx) b e S=.ok (.rt d) S1:=MD ((Ck h).trans ((qX rfl).trans ha))
theorem Oy(h:t e S=.ok false S0):BD (sIf t a sNx) b e S=b e S0:=A1 (e1:=e) ((Ck h).trans ((qY AL).trans rfl))
abbrev Met:=List (Int×Int)
def mD(L:Met):List (Key×D):=L.map λa=>(CD a.1,D.int a.2)
def A3(L:Met):List Int:=L.map (·.1)
def stp(L:Met)(z:Int):Int:=((L.find? λa=>decide (a.1=z)).map (·.2)).getD 0
theorem DF(L N:Met):A3 (L++N)=A3 L++A3 N:=A9
theorem CP:z∈A3 L↔∃d,(z,d)∈L:=by
 unfold A3
 constructor
 ·intro h
  obtain⟨a,ha,rfl⟩:=An.mp h;exact⟨a.2,ha⟩
 ·rintro⟨d,h⟩
  exact An.mpr ⟨_,h,rfl⟩
theorem ak(L:Met)(z:Int):A5 (mD L) (CD z)=(L.find? λa=>decide (a.1=z)).map λa=>D.int a.2:=by
 unfold A5 mD
 induction L with
 | nil=>rfl
 | cons a L ih=>
  rw[BA,BV,BV]
  by_cases e:a.1=z
  ·have:decide ((CD a.1:Key)=CD z)=true:=wX (by rw[e])
   rw[this,wX e];rfl
  ·have:decide ((CD a.1:Key)=CD z)=false:=wY λq=>e (TJ q)
   rw[this,wY e];exact ih
theorem UO(nd:(A3 L).Nodup)(h:(z,d)∈L):(L.find? λa=>decide (a.1=z))=some (z,d):=by
 induction L with
 | nil=>cases h
 | cons a L ih=>
  rw[BV];obtain⟨n1,n2⟩:=CK.mp (show(a.1 :: A3 L).Nodup from nd)
  rcases At.mp h with e | h'
  ·subst e
   rw[wX rfl]
  ·have:¬a.1=z:=λe=>n1 (by rw[e];exact CP.mpr ⟨d,h'⟩)
   rw[wY this];exact ih n2 h'
theorem R0(nd:(A3 L).Nodup)(h:(z,d)∈L):stp L z=d:=by
 unfold stp;rw[UO nd h];rfl
theorem dW(nd:(A3 L).Nodup)(h:z∈A3 L):(z,stp L z)∈L:=by
 obtain⟨d,hd⟩:=CP.mp h;rw[R0 nd hd];exact hd
theorem jm(L:Met)(z:Int):(A5 (mD L) (CD z)).isSome=decide (z∈A3 L):=by
 rw[ak]
 induction L with
 | nil=>rfl
 | cons a L ih=>
  rw[BV]
  by_cases e:a.1=z
  ·rw[wX e]
   exact(wX (show z∈a.1 :: A3 L by rw[e];exact Aq)).symm
  ·rw[wY e]
   refine ih.trans (decide_eq_decide.mpr ?_);show z∈A3 L↔z∈a.1 :: A3 L;rw[At];exact⟨.inr,λh=>h.resolve_left λq=>e q.symm⟩
theorem aj(h:z∉A3 L)(v:Int):CA (mD L) (CD z) (.int v)=mD (L++[(z,v)]):=by
 unfold CA;rw[qY]
 ·unfold mD
  rw[A9];rfl
 ·intro q
  obtain⟨y,hy,e⟩:=Ff.mp q;obtain⟨a,ha,rfl⟩:=An.mp hy;have e:=TJ (of_decide_eq_true e);exact h (CP.mpr ⟨a.2,by rw[<-e];exact ha⟩)
theorem bF(h:S[n]?=some (.dK (mD L)))(neg:Bool)(z:Int):inA neg (.int z) (.ref n) S=.ok (.bl (if neg then !decide (z∈A3 L)else decide (z∈A3 L))) S:=by
 show Gp (inD neg (.int z) (.ref n) S) (KH neg (.int z) (.ref n) S)=_
 have e:inD neg (.int z) (.ref n) S=.bad:=by
  unfold inD Gm;dsimp only;rw[h]
 have e2:Lf (.ref n) (.int z) S=some (A5 (mD L) (CD z)):=by
  unfold Lf;dsimp only;rw[h];rfl
 rw[e];show KH neg (.int z) (.ref n) S=_;unfold KH;rw[e2];dsimp only;rw[jm]
theorem Oz(h:S[n]?=some (.dK (mD L)))(nd:(A3 L).Nodup)(hz:z∈A3 L):ixA (.ref n) (.int z) S=.ok (.int (stp L z)) S:=by
 show Gp (ixD (.ref n) (.int z) S) (Lx (.ref n) (.int z) S)=_
 have e:ixD (.ref n) (.int z) S=.bad:=by
  unfold ixD Gm;dsimp only;rw[h]
 have e2:Lf (.ref n) (.int z) S=some (some (.int (stp L z))):=by
  unfold Lf;dsimp only;rw[h];show some (A5 (mD L) (CD z))=_;rw[ak,UO nd (dW nd hz)];rfl
 rw[e];show Lx (.ref n) (.int z) S=_;unfold Lx;rw[e2]
theorem dj(hv:mv e S=.ok (.int v) S)(ho:mo e S=.ok (.ref d) S)(hi:mi e S=.ok (.int z) S)(h:S[d]?=some (.dK (mD L)))(hz:z∉A3 L)(hl:L.length<=100000) :
  DL mo mi mv e S=.ok (.nx e) (S.set d (.dK (mD (L++[(z,v)])))):=by
 unfold DL;rw[hv];dsimp only[Res.lift];rw[ho];dsimp only[Res.lift];rw[hi];dsimp only[Res.lift]
 have:Qv (.ref d) (.int z) (.int v) S=some (S.set d (.dK (mD (L++[(z,v)])))):=by
  unfold Qv;dsimp only;rw[h];show(if (mD L).length < sizeLine then some (S.set d (.dK (CA (mD L) (CD z) (.int v))))else none)=_;rw[qX (by unfold mD;rw[AE];exact A4 hl (by decide)),aj hz]
 rw[this]
theorem fb(hk:mk e (S++[.dK []])=.ok (.int z) (S++[.dK []]))(hv:mv e (S++[.dK []])=.ok (.int v) (S++[.dK []])):P8 mk mv e S=.ok (.ref S.length) (S++[.dK (mD [(z,v)])]):=by
 unfold P8;rw[hk];dsimp only[Res.bind];rw[hv];dsimp only[Res.bind];rw[Bj];show Res.ok (D.ref S.length) ((S++[Ob.dK []]).set S.length (.dK (CA [] (CD z) (.int v))))=_;have e1:CA ([]:List (Key×D)) (CD z) (.int v)=mD [(z,v)]:=rfl;rw[e1];simp
theorem TQ(I:Nat->Lo->Sto->Prop)(R:Lo->Sto->Prop)
  (step:∀k e S,I k e S->(∃S1,t e S=.ok false S1/\R e S1)∨∃S1 e2 S2 k',t e S=.ok true S1/\b e S1=.ok (.nx e2) S2/\k' < k/\I k' e2 S2) :
  ∀n k e S,I k e S->k < n->∃e' S',GC t b n e S=.ok (.nx e') S'/\R e' S'
 | 0,_,_,_,_,h=>zX h (Gc _)
 | n+1,k,e,S,hI,hk=>by
  rcases step k e S hI with⟨S1,h1,hR⟩ | ⟨S1,e2,S2,k',h1,h2,h3,h4⟩
  ·refine⟨e,S1,?_,hR⟩
   unfold GC;rw[h1];rfl
  ·obtain⟨e',S',h5,h6⟩:=TQ I R step n k' e2 S2 h4 (AU h3 (Nat.le_of_lt_succ hk))
   refine⟨e',S',?_,h6⟩;unfold GC;rw[h1];dsimp only[Res.lift];rw[qX rfl,h2];exact h5
def bw(d:Int)(L:Met)(y:Int):Met:=if y∈A3 L then L else L++[(y,d+1)]
def Ia(d:Int)(ys:List Int)(L:Met):Met:=ys.foldl (bw d) L
theorem OT(d:Int)(ys:List Int)(y:Int)(L:Met):Ia d (ys++[y]) L=bw d (Ia d ys L) y:=by
 unfold Ia;rw[List.foldl_append];rfl
theorem Iu(d:Int):∀(ys:List Int) (L:Met),∃N,Ia d ys L=L++N/\(∀a∈N,a.2=d+1/\a.1∈ys/\a.1∉A3 L)/\(∀y∈ys,y∈A3 (L++N))/\(A3 N).Nodup
 | [],L=>⟨[],(BE L).symm,λ_ h=>zX h Bx,λ_ h=>zX h Bx,G6⟩
 | y :: ys,L=>by
  have e:Ia d (y :: ys) L=Ia d ys (bw d L y):=rfl
  by_cases c:y∈A3 L
  ·have e1:bw d L y=L:=qX c
   obtain⟨N,h1,h2,h3,h4⟩:=Iu d ys L;refine⟨N,by rw[e,e1,h1],λa ha=>⟨(h2 a ha).1,AT _ (h2 a ha).2.1,(h2 a ha).2.2⟩,λz hz=>?_,h4⟩
   rcases At.mp hz with rfl | hz
   ·rw[DF];exact Ay _ c
   ·exact h3 z hz
  ·have e1:bw d L y=L++[(y,d+1)]:=qY c
   obtain⟨N,h1,h2,h3,h4⟩:=Iu d ys (L++[(y,d+1)]);refine⟨(y,d+1) :: N,by rw[e,e1,h1,BC];rfl,λa ha=>?_,λz hz=>?_,?_⟩
   ·rcases At.mp ha with rfl | ha
    ·exact⟨rfl,Aq,c⟩
    ·refine⟨(h2 a ha).1,AT _ (h2 a ha).2.1,λz=>(h2 a ha).2.2 ?_⟩
     rw[DF];exact Ay _ z
   ·have e2:L++(y,d+1) :: N=L++[(y,d+1)]++N:=by simp
    rw[e2]
    rcases At.mp hz with rfl | hz
    ·rw[DF,DF]
     exact Ay _ (Ax _ (by simp[A3]))
    ·exact h3 z hz
   ·refine CK.mpr ⟨λz=>?_,h4⟩
    obtain⟨a,ha,e3⟩:=An.mp z;refine(h2 a ha).2.2 ?_;rw[DF];exact Ax _ (by rw[e3];simp[A3])
section
variable(nb:Int->List Int)(s:Int)
def Nu(L:Met)(i:Nat):Met:=match L[i]? with
 | some a=>Ia a.2 (nb a.1) L
 | none=>L
def Rn:Nat->Met
 | 0=>[(s,0)]
 | i+1=>Nu nb (Rn i) i
end
section
variable{nb:Int->List Int}{s:Int}{p:Nat}
theorem Nt(h:L[i]?=some a):Nu nb L i=Ia a.2 (nb a.1) L:=by unfold Nu;rw[h]
theorem Z8(L:Met)(i:Nat):∃N,Nu nb L i=L++N:=by
 unfold Nu;split
 ·obtain⟨N,h,_⟩:=Iu _ (nb _) L
  exact⟨N,h⟩
 ·exact⟨[],(BE L).symm⟩
theorem Sv(i:Nat):∀k:Nat,∃N,Rn nb s (i+k)=Rn nb s i++N
 | 0=>⟨[],(BE _).symm⟩
 | k+1=>by
  obtain⟨N,h⟩:=Sv i k;obtain⟨N',h'⟩:=Z8 (nb:=nb) (Rn nb s (i+k)) (i+k);refine⟨N++N',?_⟩;show Nu nb (Rn nb s (i+k)) (i+k)=_;rw[h',h,BC]
theorem kf{i j k:Nat}(h:i<=k){a:Int×Int}(ha:(Rn nb s i)[j]?=some a):(Rn nb s k)[j]?=some a:=by
 obtain⟨N,e⟩:=Sv (nb:=nb) (s:=s) i (k - i);rw[show i+(k - i)=k by lia]at e;rw[e,Ag (AC.mp ha).1];exact ha
theorem Su(h:(Rn nb s i).length<=i):∀k,Rn nb s (i+k)=Rn nb s i
 | 0=>rfl
 | k+1=>by
  show Nu nb (Rn nb s (i+k)) (i+k)=_;rw[Su h k];unfold Nu;rw[Bl (by lia)]
theorem bx(hi:(Rn nb s i).length<=i)(hj:(Rn nb s j).length<=j):Rn nb s i=Rn nb s j:=by
 rcases Nat.le_total i j with h | h
 ·have:=Su hi (j - i)
  rw[show i+(j - i)=j by lia]at this;exact this.symm
 ·have:=Su hj (i - j)
  rw[show j+(i - j)=i by lia]at this;exact this
structure Bf(nb:Int->List Int)(p:Nat)(s:Int)(i:Nat)(L:Met):Prop where
 nd:(A3 L).Nodup
 rng:∀a∈L,0<=a.1/\a.1 < p
 nn:∀a∈L,0<=a.2
 up:(L.map (·.2)).Pairwise (·<=·)
 src:(s,0)∈L
 zero:∀a∈L,a.2=0->a.1=s
 cl:∀j,j < i->∀a,L[j]?=some a->∀y∈nb a.1,∃d,(y,d)∈L/\d<=a.2+1
 par:∀a∈L,0 < a.2->∃b∈L,b.2+1=a.2/\a.1∈nb b.1
 top:∀a,L[i]?=some a->∀b∈L,b.2<=a.2+1
 low:∀(j:Nat) a,L[j]?=some a->a.2<=j
theorem Bf.step(hnb:∀x:Int,0<=x->x < p->∀y∈nb x,0<=y/\y < p)(h:Bf nb p s i L):Bf nb p s (i+1) (Nu nb L i):=by
 cases hq:L[i]? with
 | none=>
  have e:Nu nb L i=L:=by unfold Nu;rw[hq]
  rw[e];have hl:=Bn.mp hq;refine⟨h.nd,h.rng,h.nn,h.up,h.src,h.zero,λj hj a ha=>h.cl j ?_ a ha,h.par,λa ha=>?_,h.low⟩
  ·have:=(AC.mp ha).1;lia
  ·have:=(AC.mp ha).1;omega
 | some x=>
  rw[Nt hq];have hx:=BK hq;obtain⟨N,h1,h2,h3,h4⟩:=Iu x.2 (nb x.1) L;rw[h1];have Ϣ:=h.rng x hx;refine⟨?_,λa ha=>?_,λa ha=>?_,?_,Ay _ h.src,λa ha h0=>?_,λj hj a ha y hy=>?_,λa ha h0=>?_,λa ha b hb=>?_,λj a ha=>?_⟩
  ·rw[DF]
   refine CS.mpr ⟨h.nd,h4,λa ha b hb e=>?_⟩;obtain⟨c,hc,rfl⟩:=An.mp hb;exact(h2 c hc).2.2 (e▸ha)
  ·rcases Af.mp ha with ha | ha
   ·exact h.rng a ha
   ·exact hnb x.1 Ϣ.1 Ϣ.2 a.1 (h2 a ha).2.1
  ·rcases Af.mp ha with ha | ha
   ·exact h.nn a ha
   ·have:=(h2 a ha).1;have:=h.nn x hx;lia
  ·rw[A9]
   refine Ba.mpr ⟨h.up,?_,λa ha b hb=>?_⟩
   ·refine CQ.mpr (IE (R:=λ_ _=>True) (λ{a b} ha hb _=>?_) (List.pairwise_of_forall λ_ _=>Cu))
    have:=(h2 a ha).1;have:=(h2 b hb).1;lia
   ·obtain⟨c,hc,rfl⟩:=An.mp ha
    obtain⟨d,hd,rfl⟩:=An.mp hb;have:=h.top x hq c hc;have:=(h2 d hd).1;lia
  ·rcases Af.mp ha with ha | ha
   ·exact h.zero a ha h0
   ·have:=(h2 a ha).1;have:=h.nn x hx;lia
  ·by_cases hji:j=i
   ·subst hji
    rw[Ag (AC.mp hq).1,hq]at ha;cases ha;obtain⟨d,hd⟩:=CP.mp (h3 y hy);refine⟨d,hd,?_⟩
    rcases Af.mp hd with hd | hd
    ·exact h.top x hq _ hd
    ·exact Int.le_of_eq (h2 _ hd).1
   ·have oM:j < L.length:=by have:=(AC.mp hq).1;lia
    rw[Ag oM]at ha;obtain⟨d,hd,hle⟩:=h.cl j (by lia) a ha y hy;exact⟨d,Ay _ hd,hle⟩
  ·rcases Af.mp ha with ha | ha
   ·obtain⟨b,hb,h5⟩:=h.par a ha h0
    exact⟨b,Ay _ hb,h5⟩
   ·exact⟨x,Ay _ hx,(h2 a ha).1.symm,(h2 a ha).2.1⟩
  ·have hax:x.2<=a.2:=by
    by_cases oM:i+1 < L.length
    ·rw[Ag oM]at ha
     have h5:(L.map (·.2))[i]?=some x.2:=by rw[AS,hq];rfl
     have h6:(L.map (·.2))[i+1]?=some a.2:=by rw[AS,ha];rfl
     obtain⟨l5,e5⟩:=AC.mp h5;obtain⟨l6,e6⟩:=AC.mp h6;have:=Rs.mp h.up i (i+1) l5 l6 (by lia);rwa [e5,e6]at this
    ·have xh:=(AC.mp hq).1
     rw[BB (by lia)]at ha;have:=(h2 a (BK ha)).1
     lia
   rcases Af.mp hb with hb | hb
   ·have:=h.top x hq b hb;lia
   ·have:=(h2 b hb).1;lia
  ·by_cases oM:j < L.length
   ·rw[Ag oM]at ha
    exact h.low j a ha
   ·have xh:=(AC.mp hq).1
    rw[BB (by lia)]at ha;have:=(h2 a (BK ha)).1;have:=h.low i x hq
    lia
theorem Rh(hnb:∀x:Int,0<=x->x < p->∀y∈nb x,0<=y/\y < p)(hs:0<=s/\s < p):∀i,Bf nb p s i (Rn nb s i)
 | 0=>by
  refine⟨by show[s].Nodup;simp,λa ha=>?_,λa ha=>?_,KN _ _,AJ.mpr rfl,λa ha _=>?_,λj hj=>zX hj (Gc _),λa ha h0=>?_,λa ha b hb=>?_,λj a ha=>?_⟩
  ·rw[AJ.mp ha];exact hs
  ·rw[AJ.mp ha];exact oB _
  ·rw[AJ.mp ha]
  ·rw[AJ.mp ha]at h0;exact zX h0 (Int.lt_irrefl _)
  ·cases ha;rw[AJ.mp hb];exact Int.le_add_one (oB _)
  ·rw[AJ.mp (BK ha)];exact ZJ j
 | i+1=>(Rh hnb hs i).step hnb
theorem ON:∀(p:Nat) (l:List Int),l.Nodup->(∀z∈l,0<=z/\z < p)->l.length<=p
 | 0,l,_,h=>by
  cases l with
  | nil=>exact AN _
  | cons a l=>have:=h a (by simp);lia
 | p+1,l,nd,h=>by
  by_cases c:(p:Int)∈l
  ·have h1:=S9 c
   have wH:0 < l.length:=Uk c
   have i1:=ON p (l.erase (p:Int)) (nd.erase _) λz hz=>by
    obtain⟨vA,hz2⟩:=nd.mem_erase_iff.mp hz;have:=h z hz2
    lia
   lia
  ·have i1:=ON p l nd λz hz=>by
    have:=h z hz
    have:z≠p:=λe=>c (e▸hz)
    lia
   lia
theorem Bf.len(h:Bf nb p s i L):L.length<=p:=by
 have:=ON p (A3 L) h.nd λz hz=>by
  obtain⟨a,ha,rfl⟩:=An.mp hz;exact h.rng a ha
 unfold A3 at this;rwa [AE]at this
structure Fd(nb:Int->List Int)(p:Nat)(s:Int)(L:Met):Prop where
 nd:(A3 L).Nodup
 rng:∀a∈L,0<=a.1/\a.1 < p
 nn:∀a∈L,0<=a.2
 src:(s,0)∈L
 zero:∀a∈L,a.2=0->a.1=s
 cl:∀a∈L,∀y∈nb a.1,∃d,(y,d)∈L/\d<=a.2+1
 par:∀a∈L,0 < a.2->∃b∈L,b.2+1=a.2/\a.1∈nb b.1
 len:L.length<=p
 far:∀a∈L,a.2 < p
theorem Bf.fd(h:Bf nb p s i L)(hl:L.length<=i):Fd nb p s L:=⟨h.nd,h.rng,h.nn,h.src,h.zero,λa ha y hy=>by
 obtain⟨j,hj,e⟩:=Ml ha
 exact h.cl j (by lia) a (by rw[BW hj,e]) y hy,h.par,h.len,λa ha=>by
 obtain⟨j,hj,e⟩:=Ml ha;have:=h.low j a (by rw[BW hj,e]);have:=h.len
 lia⟩
end
theorem Zp(h:l.Nodup):(Et l).Pairwise (· < ·):=by
 have h1:(Et l).Nodup:=(FE l).nodup_iff.mpr h
 exact((Mz l).and h1).imp λ{a b} ⟨q1,q2⟩=>by omega
abbrev bIn(g v a:Nat)(mval:ME):MS:=sIf (mB (m2 (inA true) (AA v) (AA g))) (BD (DL (AA g) (AA v) mval) (B0 (GH (AA a) (AA v)))) sNx
theorem Vg(h:(A3 L).Nodup)(c:y∉A3 L):(A3 (L++[(y,d)])).Nodup:=by
 rw[DF];refine CS.mpr ⟨h,by simp[A3],λa ha b hb e=>c ?_⟩
 have:b=y:=by simpa[A3]using hb
 rw[<-this,<-e];exact ha
theorem bE{g v a:Nat}{mval:ME}{E:Option D->Lo}{dI fI:Nat}{d:Int}{L:Met}{fs:List Int}{S:Sto}{ys:List Int}{z:Option D}{vw:Me}
  (hvw:∀S',(∀j,j≠dI->j≠fI->S'[j]?=S[j]?)->vw S'=some (ys.map D.int))
  (hv:∀x S,AA v (E (some x)) S=.ok x S) (h2:∀z S,AA g (E z) S=.ok (.ref dI) S) (ha:∀z S,AA a (E z) S=.ok (.ref fI) S) (hg:∀x z S,tgN v x (E z) S=.ok (E (some x)) S)
  (xi:∀x S' N,S'[dI]?=some (.dK (mD (L++N)))->S'[fI]?=some (.lst ((fs++A3 N).map D.int))->(A3 (L++N)).Nodup->mval (E (some x)) S'=.ok (.int (d+1)) S')
  (hD:S[dI]?=some (.dK (mD L))) (hF:S[fI]?=some (.lst (fs.map D.int))) (oO:dI≠fI) (nd:(A3 L).Nodup) (hl:L.length<=1000) (hf:fs.length<=1000) (hy:ys.length<=1000) :
  ∃z' S' N,Ji vw (tgN v) (bIn g v a mval) (Cr vw S) 0 (E z) S=.ok (.nx (E z')) S'/\Ia d ys L=L++N/\S'[dI]?=some (.dK (mD (L++N)))/\S'[fI]?=some (.lst ((fs++A3 N).map D.int))/\S'.length=S.length/\∀j,j≠dI->j≠fI->S'[j]?=S[j]?:=by
 obtain⟨e',S',h1,z',N,rfl,q1,_,_,q4,q5,q6,q7⟩:=fW (f:=D.int) (l:=ys) (v:=vw) (g:=tgN v) (b:=bIn g v a mval) (e:=E z) (S:=S)
  (λt e S'=>∃z N,e=E z/\Ia d t L=L++N/\(A3 (L++N)).Nodup/\N.length<=t.length/\S'[dI]?=some (.dK (mD (L++N)))/\S'[fI]?=some (.lst ((fs++A3 N).map D.int))/\S'.length=S.length/\∀j,j≠dI->j≠fI->S'[j]?=S[j]?)
  ⟨z,[],rfl,(BE L).symm,by rw[BE];exact nd,AN _,by rw[BE];exact hD,by show _=some (Ob.lst ((fs++[]).map D.int));rw[BE];exact hF,rfl,λ_ _ _=>rfl⟩ (by rintro t e S' ⟨_,_,_,_,_,_,_,_,_,h⟩;exact hvw S' h)
  (by
   rintro t y e S' hyy ht ⟨z,N,rfl,q1,q2,q3,q4,q5,q6,q7⟩;refine⟨E (some (.int y)),S',hg _ _ _,?_⟩;have t1:mB (m2 (inA true) (AA v) (AA g)) (E (some (.int y))) S'=.ok (!decide (y∈A3 (L++N))) S':=Es (BF (hv _ _) (h2 _ _) (bF q4 true y));have ic:=Ck (a:=BD (DL (AA g) (AA v) mval) (B0 (GH (AA a) (AA v)))) (b:=sNx) t1
   by_cases c:y∈A3 (L++N)
   ·rw[wX c]at ic
    refine⟨E (some (.int y)),S',ic.trans rfl,_,N,rfl,?_,q2,by rw[Ad];lia,q4,q5,q6,q7⟩;rw[OT,q1];exact qX c
   ·rw[wY c]at ic
    have p1:=dj (mo:=AA g) (mi:=AA v) (mv:=mval) (xi (.int y) S' N q4 q5 q2) (h2 _ _) (hv _ _) q4 c (by rw[Ad];lia);have sY:dI < S'.length:=(AC.mp q4).1;have qM:fI < S'.length:=(AC.mp q5).1
    have f1:(S'.set dI (.dK (mD (L++N++[(y,d+1)]))))[fI]?=some (.lst ((fs++A3 N).map D.int)):=by rw[AY oO];exact q5
    have a1:=JM (mo:=AA a) (ma:=AA v) (e:=E (some (.int y))) (S:=S'.set dI (.dK (mD (L++N++[(y,d+1)])))) (ha _ _) f1 (hv _ _) f1 (by
     rw[AE,Ad,show(A3 N).length=N.length from AE _]
     exact A4 (show fs.length+N.length<=2000 by lia) (by decide))
    refine⟨E (some (.int y)),_,ic.trans ((qX rfl).trans ((A1 p1).trans (Di a1))),_,N++[(y,d+1)],rfl,?_,?_,?_,?_,?_,?_,?_⟩
    ·rw[OT,q1]
     exact(qY c).trans (BC _ _ _)
    ·rw[<-BC]
     exact Vg q2 c
    ·rw[Ad,Ad,Bu,Bu];lia
    ·rw[AY (Br oO),Am sY,BC]
    ·rw[Am (by rw[DO];exact qM),DF]
     simp[A3]
    ·rw[DO,DO];exact q6
    ·intro j h1 h2
     rw[AY (Br h2),AY (Br h1)]
     exact q7 j h1 h2)
 exact⟨z',S',N,h1,q1,q4,q5,q6,q7⟩
theorem UI{B S S':Sto}(k:Keeps B S){dI fI:Nat}(h1:B.length<=dI)(h2:B.length<=fI)(hl:S'.length=S.length)(h:∀j,j≠dI->j≠fI->S'[j]?=S[j]?):Keeps B S':=
 ⟨by rw[hl];exact k.1,λj hj=>(h j (by lia) (by lia)).trans (k.2 j hj)⟩
theorem dN(h:m e S=.ok (.ref n) S)(hn:S[n]?=some (.lst ds)):Lc m e S=.ok (!ds.isEmpty) S:=by
 unfold Lc;rw[h];dsimp only[Res.bind];unfold P6;dsimp only;rw[hn]
def nbW(ts:List (Int×Int))(x:Int):List Int:=Et (CT ts x.toNat)
abbrev gz(W:Wd):MS:=G3 (G4 (BG 2 (K8 W) (AF (AA 0) (AF (AA 5) Aj)))) (tgN 6) (bIn 2 6 4 (m2 FJ (m2 ixA (AA 2) (AA 5)) (mC (.int 1))))
abbrev bt(W:Wd):MS:=BD (Bc 4 (CL (Bi Aj))) (BD (G3 (G4 (AA 3)) (tgN 5) (gz W)) (Bc 3 (AA 4)))
section
variable{W:Wd}{q p:Nat}{ts:List (Int×Int)}{s:Int}
theorem Zw{B S:Sto}(hw:HA W B q p ts)(hp:p<=60)(hnb:∀x:Int,0<=x->x < p->∀y∈nbW ts x,0<=y/\y < p)(hlen:∀x,(nbW ts x).length<=1000)(hs:0<=s/\s < p){i dI ly:Nat}{d1:D}{z4 z5 z6:Option D}(K:Keeps B S)(hdI:B.length<=dI)(xj:B.length<=ly)(sY:dI≠ly)
  (hD:S[dI]?=some (.dK (mD (Rn (nbW ts) s i)))) (hL:S[ly]?=some (.lst ((A3 ((Rn (nbW ts) s i).drop i)).map D.int))) (hi:i<=(Rn (nbW ts) s i).length) :
  ∃y5 y6 S',bt W [sR q,some d1,sR dI,sR ly,z4,z5,z6] S=oN [sR q,some d1,sR dI,sR S.length,sR S.length,y5,y6] S'/\Keeps B S'/\S'[dI]?=some (.dK (mD (Rn (nbW ts) s (Rn (nbW ts) s i).length)))/\S'[S.length]?=some (.lst ((A3 ((Rn (nbW ts) s (Rn (nbW ts) s i).length).drop (Rn (nbW ts) s i).length)).map D.int)):=by
 have hdS:dI < S.length:=(AC.mp hD).1;have ϣ:ly < S.length:=(AC.mp hL).1;have hBf:=Rh hnb hs i;have vx:=hBf.len;generalize tE:(Rn (nbW ts) s i).length=n0 at vx hi ⊢;have s4:Bc 4 (CL (Bi Aj)) [sR q,some d1,sR dI,sR ly,z4,z5,z6] S=oN [sR q,some d1,sR dI,sR ly,sR S.length,z5,z6] (S++[.lst []]):=rfl;have k0:=Keeps.app S [.lst []]
 obtain⟨f,S1,h1,y5,y6,rfl,K1,D1,F1⟩:=Gs (v:=Fj (.ref ly)) (g:=tgN 5) (b:=gz W) (xs:=(A3 ((Rn (nbW ts) s i).drop i)).map D.int) (e:=[sR q,some d1,sR dI,sR ly,sR S.length,z5,z6]) (S:=S++[.lst []])
  (λj e S'=>∃y5 y6,e=[sR q,some d1,sR dI,sR ly,sR S.length,y5,y6]/\Keeps B S'/\S'[dI]?=some (.dK (mD (Rn (nbW ts) s (i+j))))/\S'[S.length]?=some (.lst ((A3 ((Rn (nbW ts) s (i+j)).drop n0)).map D.int))/\S'[ly]?=some (.lst ((A3 ((Rn (nbW ts) s i).drop i)).map D.int)))
  (λf S'=>∃y5 y6,f=.nx [sR q,some d1,sR dI,sR ly,sR S.length,y5,y6]/\Keeps B S'/\S'[dI]?=some (.dK (mD (Rn (nbW ts) s n0)))/\S'[S.length]?=some (.lst ((A3 ((Rn (nbW ts) s n0).drop n0)).map D.int)))
  ⟨z5,z6,rfl,K.trans k0,k0.at hD,by
   rw[U2,Ul (by lia)]
   exact Bj _ _,k0.at hL⟩ (by rintro j e S' ⟨_,_,_,_,_,_,h⟩;exact FO h)
  (by
   rintro j x e S' hx ⟨y5,y6,rfl,K',D',F',L'⟩;unfold A3 at hx;rw[AS,AS,Ge]at hx
   cases hq:(Rn (nbW ts) s i)[i+j]? with
   | none=>rw[hq]at hx;cases hx
   | some a=>
    rw[hq]at hx;cases hx;have t5:(Rn (nbW ts) s (i+j))[i+j]?=some a:=kf (by lia) hq;have xl:=Rh hnb hs (i+j);have har:=xl.rng a (BK t5);have hll:=xl.len
    obtain⟨x,hx⟩:∃x:Nat,a.1=x:=⟨a.1.toNat,by lia⟩
    refine⟨[sR q,some d1,sR dI,sR ly,sR S.length,sI a.1,y6],S',rfl,?_⟩
    have c1:BG 2 (K8 W) (AF (AA 0) (AF (AA 5) Aj)) [sR q,some d1,sR dI,sR ly,sR S.length,sI a.1,y6] S'=.ok (.tup ((nbW ts a.1).map D.int)) S':=by
     refine(Bz (ds:=[.ref q,.int a.1]) (S1:=S') rfl rfl).trans ?_;unfold nbW;rw[hx,Bk];exact eh (hw.keeps K') (by lia)
    have qM:(A3 ((Rn (nbW ts) s (i+j)).drop n0)).length<=1000:=by unfold A3;rw[AE,Ho];lia
    obtain⟨z',S2,N,h2,g1,g2,g3,g4,g5⟩:=bE (g:=2) (v:=6) (a:=4) (mval:=m2 FJ (m2 ixA (AA 2) (AA 5)) (mC (.int 1))) (E:=λz=>[sR q,some d1,sR dI,sR ly,sR S.length,sI a.1,z]) (dI:=dI) (fI:=S.length) (d:=a.2) (L:=Rn (nbW ts) s (i+j)) (ys:=nbW ts a.1) (z:=y6) (S:=S') (vw:=Dp ((nbW ts a.1).map D.int)) (λ_ _=>rfl)
     (λ_ _=>rfl) (λ_ _=>rfl) (λ_ _=>rfl) (λ_ _ _=>rfl)
     (λy S2 N hd hf nd=>by
      refine BF (BF rfl rfl (Oz hd nd (CP.mpr ⟨a.2,Ay _ (BK t5)⟩))) rfl ?_;rw[R0 nd (show(a.1,a.2)∈Rn (nbW ts) s (i+j)++N from Ay _ (BK t5))]
      rfl)
     D' F' (A0 hdS) xl.nd (by lia) qM (hlen _)
    refine⟨.nx [sR q,some d1,sR dI,sR ly,sR S.length,sI a.1,z'],S2,(FI (NN c1)).trans h2,_,z',rfl,UI K' hdI (by have:=K.1;omega) g4 g5,?_,?_,?_⟩
    ·rw[g2,<-g1]
     show some (Ob.dK (mD (Ia a.2 (nbW ts a.1) (Rn (nbW ts) s (i+j)))))=some (Ob.dK (mD (Nu (nbW ts) (Rn (nbW ts) s (i+j)) (i+j))));rw[Nt t5]
    ·have e1:Rn (nbW ts) s (i+(j+1))=Rn (nbW ts) s (i+j)++N:=by
      show Nu (nbW ts) (Rn (nbW ts) s (i+j)) (i+j)=_;rw[Nt t5,g1]
     have hle:n0<=(Rn (nbW ts) s (i+j)).length:=by
      obtain⟨N',e2⟩:=Sv (nb:=nbW ts) (s:=s) i j;rw[e2,Ad]
      lia
     rw[g3,e1,List.drop_append_of_le_length hle,DF]
    ·rw[g5 ly (Br sY) (A0 ϣ)]
     exact L')
  (by
   rintro e S' ⟨y5,y6,rfl,K',D',F',L'⟩
   have e1:i+((A3 ((Rn (nbW ts) s i).drop i)).map D.int).length=n0:=by
    unfold A3;rw[AE,AE,Ho]
    lia
   rw[e1]at D' F'
   exact⟨_,_,rfl,K',D',F'⟩)
 exact⟨y5,y6,S1,(A1 s4).trans ((A1 ((FI (Jc (m:=AA 3) (n:=ly) rfl (k0.at hL))).trans h1)).trans rfl),K1,D1,F1⟩
theorem Tf(hw:HA W S q p ts)(hp:p<=60)(hnb:∀x:Int,0<=x->x < p->∀y∈nbW ts x,0<=y/\y < p)(hlen:∀x,(nbW ts x).length<=1000)(hs:0<=s/\s < p) :
  ∃S' i,DU W [.ref q,.int s] S=.ok (.ref S.length) S'/\Keeps S S'/\S'[S.length]?=some (.dK (mD (Rn (nbW ts) s i)))/\(Rn (nbW ts) s i).length<=i:=by
 have s2:Bc 2 (P8 (AA 1) (mC (.int 0))) (Cm 7 [.ref q,.int s]) S=oN [sR q,sI s,sR S.length,none,none,none,none] (S++[.dK (mD [(s,0)])]):=Cb (i:=2) (fb rfl rfl);have s3:Bc 3 (CL (Bi (AF (AA 1) Aj))) [sR q,sI s,sR S.length,none,none,none,none] (S++[.dK (mD [(s,0)])])=.ok (.nx [sR q,sI s,sR S.length,some (.ref (S++[Ob.dK (mD [(s,0)])]).length),none,none,none]) (S++[.dK (mD [(s,0)])]++[.lst [.int s]]):=rfl
 obtain⟨e',S',h,i,z3,z4,z5,z6,rfl,K,D1,hl⟩:=TQ (t:=Lc (AA 3)) (b:=bt W)
  (λk e S'=>∃(i ly:Nat) (z4 z5 z6:Option D),e=[sR q,sI s,sR S.length,sR ly,z4,z5,z6]/\Keeps S S'/\S.length < ly/\S'[S.length]?=some (.dK (mD (Rn (nbW ts) s i)))/\S'[ly]?=some (.lst ((A3 ((Rn (nbW ts) s i).drop i)).map D.int))/\i<=(Rn (nbW ts) s i).length/\k+i=p)
  (λe S'=>∃(i:Nat) (z3 z4 z5 z6:Option D),e=[sR q,sI s,sR S.length,z3,z4,z5,z6]/\Keeps S S'/\S'[S.length]?=some (.dK (mD (Rn (nbW ts) s i)))/\(Rn (nbW ts) s i).length<=i)
  (by
   rintro k e S' ⟨i,ly,z4,z5,z6,rfl,K,xj,hD,hL,hi,hk⟩;have t:=dN (m:=AA 3) (e:=[sR q,sI s,sR S.length,sR ly,z4,z5,z6]) rfl hL
   by_cases c:i < (Rn (nbW ts) s i).length
   ·refine .inr ?_
    have oO:((A3 ((Rn (nbW ts) s i).drop i)).map D.int).isEmpty=false:=by
     cases hq:(A3 ((Rn (nbW ts) s i).drop i)).map D.int with
     | nil=>
      have:=congrArg Gg hq;unfold A3 at this;rw[AE,AE,Ho]at this;simp at this
      lia
     | cons _ _=>rfl
    rw[oO]at t;obtain⟨y5,y6,S2,g1,g2,g3,g4⟩:=Zw (d1:=.int s) (z4:=z4) (z5:=z5) (z6:=z6) hw hp hnb hlen hs K (AN _) (Kh xj) (A0 xj) hD hL hi;have hb:=(Rh hnb hs i).len;have ϣ:ly < S'.length:=(AC.mp hL).1;refine⟨S',_,S2,p - (Rn (nbW ts) s i).length,t,g1,by lia,(Rn (nbW ts) s i).length,S'.length,_,_,_,rfl,g2,by lia,g3,g4,?_,by lia⟩;obtain⟨N,e2⟩:=Sv (nb:=nbW ts) (s:=s) i ((Rn (nbW ts) s i).length - i);rw[show i+((Rn (nbW ts) s i).length - i)=(Rn (nbW ts) s i).length by lia]at e2;rw[e2,Ad]
    lia
   ·refine .inl ⟨S',?_,i,_,_,_,_,rfl,K,hD,by lia⟩
    rw[t,Ul (by lia)]
    rfl)
  wN p [sR q,sI s,sR S.length,some (.ref (S++[Ob.dK (mD [(s,0)])]).length),none,none,none] (S++[.dK (mD [(s,0)])]++[.lst [.int s]])
  ⟨0,_,none,none,none,rfl,(Keeps.app _ _).trans (Keeps.app _ _),by simp,(Keeps.app _ _).at (Bj _ _),Bj _ _,DK _,rfl⟩ (show p < 1000000 by lia)
 refine⟨S',i,Cz (n:=7) (mb:=KI W) ?_,K,D1,hl⟩;unfold KI;exact(A1 s2).trans ((A1 s3).trans ((A1 h).trans rfl))
end
def me(x:Nat):D:=.int x
theorem X7(n:Nat):DE 0 n=(A7 n).map me:=by
 refine D5 λi=>?_
 rw[Nq,AS]
 by_cases h:i < n
 ·rw[qX h,BU h,Kj];rfl
 ·rw[qY h,Bl (by simpa using h)];rfl
section
variable{nb:Int->List Int}{p:Nat}
theorem Fd.back{s:Int}{L:Met}(h:Fd nb p s L)(hsym:∀x y:Int,0<=x->0<=y->y∈nb x->x∈nb y){C:List Int}(hC:∀x∈C,∀y∈nb x,y∈C):∀(d:Nat) (z:Int),(z,(d:Int))∈L->z∈C->s∈C
 | 0,z,hz,hc=>by
  have:z=s:=h.zero _ hz rfl;rw[<-this];exact hc
 | d+1,z,hz,hc=>by
  obtain⟨b,hb,e1,e2⟩:=h.par _ hz (by dsimp only;lia);have hbz:b.1∈nb z:=hsym b.1 z (h.rng _ hb).1 (h.rng _ hz).1 e2
  have e3:b.2=d:=by dsimp only at e1;lia
  exact Fd.back h hsym hC d b.1 (by rw[<-e3];exact hb) (hC z hc b.1 hbz)
theorem Fd.meets{s:Int}{L:Met}(h:Fd nb p s L)(hsym:∀x y:Int,0<=x->0<=y->y∈nb x->x∈nb y){C:List Int}(hC:∀x∈C,∀y∈nb x,y∈C){z:Int}(hz:z∈A3 L)(hc:z∈C):s∈C:=by
 obtain⟨d,hd⟩:=CP.mp hz;have:=h.nn _ hd;exact h.back hsym hC d.toNat z (by dsimp only at this;rw[BQ this];exact hd) hc
theorem Fd.closed(h:Fd nb p s L):∀x∈A3 L,∀y∈nb x,y∈A3 L:=λx hx y hy=>by
 obtain⟨d,hd⟩:=CP.mp hx;obtain⟨d',pd,_⟩:=h.cl _ hd y hy;exact CP.mpr ⟨d',pd⟩
end
def cov(nb:Int->List Int)(p:Nat)(R:List Nat):Met:=(R.map λs:Nat=>Rn nb s p).flatten
theorem LD(nb:Int->List Int)(p:Nat)(R:List Nat)(x:Nat):cov nb p (R++[x])=cov nb p R++Rn nb x p:=by
 unfold cov;rw[A9,Xf];simp
theorem NQ:z∈A3 (cov nb p R)↔∃s∈R,z∈A3 (Rn nb s p):=by
 constructor
 ·intro h
  obtain⟨d,hd⟩:=CP.mp h;obtain⟨l,hl,hz⟩:=On.mp hd;obtain⟨s,hs,rfl⟩:=An.mp hl;exact⟨s,hs,CP.mpr ⟨d,hz⟩⟩
 ·rintro⟨s,hs,h⟩
  obtain⟨d,hd⟩:=CP.mp h;exact CP.mpr ⟨d,On.mpr ⟨_,An.mpr ⟨s,hs,rfl⟩,hd⟩⟩
def wk(nb:Int->List Int)(p:Nat):Nat->List Nat
 | 0=>[]
 | x+1=>if (x:Int)∈A3 (cov nb p (wk nb p x))then wk nb p x else wk nb p x++[x]
structure Wk(nb:Int->List Int)(p x:Nat)(R:List Nat):Prop where
 of:∀s∈R,s < x/\∀a∈A3 (Rn nb s p),(s:Int)<=a
 nd:(A3 (cov nb p R)).Nodup
 all:∀y:Nat,y < x->(y:Int)∈A3 (cov nb p R)
 up:R.Pairwise (· < ·)
section
variable{nb:Int->List Int}{p:Nat}(hnb:∀x:Int,0<=x->x < p->∀y∈nb x,0<=y/\y < p)(hsym:∀x y:Int,0<=x->0<=y->y∈nb x->x∈nb y)
include hnb in
theorem JG(h:s < p):Fd nb p s (Rn nb s p):=(Rh hnb ⟨by lia,by lia⟩ p).fd (Rh hnb ⟨by lia,by lia⟩ p).len
include hnb hsym in
theorem Wk.step{x:Nat}(hx:x < p){R:List Nat}(h:Wk nb p x R):Wk nb p (x+1) (if (x:Int)∈A3 (cov nb p R)then R else R++[x])/\((x:Int)∉A3 (cov nb p R)->∀z∈A3 (Rn nb x p),z∉A3 (cov nb p R)):=by
 have hF:=JG hnb hx
 have hC:∀a∈A3 (cov nb p R),∀y∈nb a,y∈A3 (cov nb p R):=λa ha y hy=>by
  obtain⟨s,hs,ha⟩:=NQ.mp ha;exact NQ.mpr ⟨s,hs,(JG hnb (show s < p by have:=(h.of s hs).1;lia)).closed a ha y hy⟩
 have qh:(x:Int)∉A3 (cov nb p R)->∀z∈A3 (Rn nb x p),z∉A3 (cov nb p R):=λc z hz hc=>c (hF.meets hsym hC hz hc)
 refine⟨?_,qh⟩
 by_cases c:(x:Int)∈A3 (cov nb p R)
 ·rw[qX c]
  refine⟨λs hs=>⟨by have:=(h.of s hs).1;lia,(h.of s hs).2⟩,h.nd,λy hy=>?_,h.up⟩
  by_cases e:y=x
  ·rw[e];exact c
  ·exact h.all y (by lia)
 ·rw[qY c]
  have qh:=qh c
  have hle:∀a∈A3 (Rn nb x p),(x:Int)<=a:=λa ha=>by
   by_cases e:(x:Int)<=a
   ·exact e
   ·obtain⟨d,hd⟩:=CP.mp ha
    have h0:=(hF.rng _ hd).1;dsimp only at h0;have:=h.all a.toNat (by lia);rw[BQ h0]at this;exact zX this (qh a ha)
  have uv:(x:Int)∈A3 (Rn nb x p):=CP.mpr ⟨0,hF.src⟩;refine⟨λs hs=>?_,?_,λy hy=>?_,?_⟩
  ·rcases Af.mp hs with hs | hs
   ·exact⟨by have:=(h.of s hs).1;lia,(h.of s hs).2⟩
   ·rw[AJ.mp hs]
    exact⟨by lia,hle⟩
  ·rw[LD,DF]
   exact CS.mpr ⟨h.nd,hF.nd,λa ha b hb e=>qh b hb (e▸ha)⟩
  ·rw[LD,DF]
   by_cases e:y=x
   ·rw[e];exact Ax _ uv
   ·exact Ay _ (h.all y (by lia))
  ·refine Ba.mpr ⟨h.up,KN _ _,λs hs t ht=>?_⟩
   rw[AJ.mp ht];exact(h.of s hs).1
include hnb hsym in
theorem Q7:∀x:Nat,x<=p->Wk nb p x (wk nb p x)
 | 0,_=>⟨λ_ h=>zX h Bx,G6,λy h=>zX h (Gc _),Q4⟩
 | x+1,h=>((Q7 x (by lia)).step hnb hsym (by lia)).1
def Io(nb:Int->List Int)(p s:Nat):List Int:=Et (A3 (Rn nb s p))
include hnb in
theorem aJ(h:s < p):(Io nb p s).Pairwise (· < ·):=Zp (JG hnb h).nd
include hnb in
include hnb in
theorem Vd(h:s < p)(hle:∀a∈A3 (Rn nb s p),(s:Int)<=a):∃l,Io nb p s=(s:Int) :: l:=by
 have hm:(s:Int)∈Io nb p s:=(FE _).mem_iff.mpr (CP.mpr ⟨0,(JG hnb h).src⟩);have Ϥ:=aJ hnb h
 cases hq:Io nb p s with
 | nil=>rw[hq]at hm;cases hm
 | cons a l=>
  refine⟨l,?_⟩;rw[hq]at hm Ϥ;have h1:=hle a ((FE _).mem_iff.mp (show a∈Io nb p s by rw[hq];exact Aq))
  rcases At.mp hm with e | e
  ·rw[e]
  ·have:=(Y4.mp Ϥ).1 _ e
   lia
end
theorem Ny:∀(L C:Met),(A3 L).Nodup->(∀z∈A3 L,z∉A3 C)->Nz (mD C) (mD L)=mD (C++L)
 | [],C,_,_=>by rw[BE];rfl
 | a :: L,C,nd,hd=>by
  obtain⟨n1,n2⟩:=CK.mp (show(a.1 :: A3 L).Nodup from nd);have e:Nz (mD C) (mD (a :: L))=Nz (CA (mD C) (CD a.1) (.int a.2)) (mD L):=rfl;rw[e,aj (hd a.1 Aq),Ny L (C++[(a.1,a.2)]) n2 (λz hz hc=>?_),BC]
  ·rfl
  ·rw[DF]at hc
   rcases Af.mp hc with hc | hc
   ·exact hd z (AT _ hz) hc
   ·have:z=a.1:=by simpa[A3]using hc
    exact n1 (this▸hz)
theorem fX(ho:mo e S=.ok (.ref n) S)(ha:ma e S=.ok (.ref m) S)(hn:S[n]?=some (.dK (mD C)))(hm:S[m]?=some (.dK (mD L)))(oO:n≠m)(nd:(A3 L).Nodup)(hd:∀z∈A3 L,z∉A3 C)(hl:C.length+L.length<=1000) :
  Lv mo ma e S=.ok .non (S.set n (.dK (mD (C++L)))):=by
 unfold Lv;rw[ho];dsimp only[Res.bind];rw[hn];dsimp only;rw[ha];dsimp only;rw[hn,hm];dsimp only;rw[qX ⟨oO,by unfold mD;rw[AE,AE];exact Ao hl (by decide)⟩,Ny L C nd hd]
theorem YX(h:S[n]?=some (.dK (mD L))):IS (.ref n) S=some ((A3 L).map D.int):=by
 unfold IS;dsimp only;rw[h];dsimp only;unfold mD A3;rw[A2,A2];rfl
abbrev nV(W:Wd):MS:=sIf (mB (m2 (inA true) (AA 3) (AA 2))) (BD (Bc 4 (BG 2 (DU W) (AF (AA 0) (AF (AA 3) Aj))))
  (BD (B0 (Lv (AA 2) (AA 4)))
  (B0 (GH (AA 1) (GF (Ey (AA 4))))))) sNx
section
theorem aI(hw:HA W S q p ts)(hp:p<=60)(hnb:∀x:Int,0<=x->x < p->∀y∈nbW ts x,0<=y/\y < p)(hlen:∀x,(nbW ts x).length<=1000)(hsym:∀x y:Int,0<=x->0<=y->y∈nbW ts x->x∈nbW ts y) :
  ∃S',IV W [.ref q] S=.ok (.ref S.length) S'/\Keeps S S'/\S'[S.length]?=some (.lst (((wk (nbW ts) p p).map (Io (nbW ts) p)).map E0)):=by
 have s1:Bc 1 (CL (Bi Aj)) (Cm 5 [.ref q]) S=oN [sR q,sR S.length,none,none,none] (S++[.lst []]):=rfl
 have s2:Bc 2 Hv [sR q,sR S.length,none,none,none] (S++[.lst []])=oN [sR q,sR S.length,sR (S.length+1),none,none] (S++[.lst []]++[.dK []]):=by
  show Res.ok (Fl.nx [sR q,sR S.length,some (.ref (S++[Ob.lst []]).length),none,none]) (S++[.lst []]++[.dK []])=_;rw[Ad];rfl
 have K0:Keeps S (S++[.lst []]++[.dK []]):=(Keeps.app _ _).trans (Keeps.app _ _)
 have hi:iR1 (AF (Hl W.Web "places" (AA 0)) Aj) [sR q,sR S.length,sR (S.length+1),none,none] (S++[.lst []]++[.dK []])=.ok (Dp (DE 0 p)) (S++[.lst []]++[.dK []]):=by
  have:=K7 (ml:=AF (Hl W.Web "places" (AA 0)) Aj) (e:=[sR q,sR S.length,sR (S.length+1),none,none]) (S:=S++[.lst []]++[.dK []]) (S1:=S++[.lst []]++[.dK []]) (j:=p) (BH ((hw.keeps K0).places rfl) rfl) (by lia) (by lia);simpa using this
 obtain⟨f,S1,h1,z3,z4,rfl,K1,P1⟩:=Gs (v:=Dp (DE 0 p)) (g:=tgN 3) (b:=nV W) (xs:=DE 0 p) (e:=[sR q,sR S.length,sR (S.length+1),none,none]) (S:=S++[.lst []]++[.dK []])
  (λx e S'=>∃z3 z4,e=[sR q,sR S.length,sR (S.length+1),z3,z4]/\Keeps S S'/\S'[S.length]?=some (.lst (((wk (nbW ts) p x).map (Io (nbW ts) p)).map E0))/\S'[S.length+1]?=some (.dK (mD (cov (nbW ts) p (wk (nbW ts) p x)))))
  (λf S'=>∃z3 z4,f=.nx [sR q,sR S.length,sR (S.length+1),z3,z4]/\Keeps S S'/\S'[S.length]?=some (.lst (((wk (nbW ts) p p).map (Io (nbW ts) p)).map E0)))
  ⟨none,none,rfl,K0,(Keeps.app _ _).at (Bj _ _),by
   have:=Bj (S++[Ob.lst []]) (.dK []);rw[Ad]at this
   exact this⟩ (λ_ _ _ _=>rfl)
  (by
   rintro x d e S' hd ⟨z3,z4,rfl,K,hP,hC⟩;obtain⟨hx,rfl⟩:=JY hd;rw[Kj];have hW:=Q7 hnb hsym x (by lia);obtain⟨hW',qh⟩:=hW.step hnb hsym hx;refine⟨[sR q,sR S.length,sR (S.length+1),sI x,z4],S',rfl,?_⟩;have t1:mB (m2 (inA true) (AA 3) (AA 2)) [sR q,sR S.length,sR (S.length+1),sI x,z4] S'=.ok (!decide ((x:Int)∈A3 (cov (nbW ts) p (wk (nbW ts) p x)))) S':=Es (BF rfl rfl (bF hC true x));have ic:=Ck (a:=BD (Bc 4 (BG 2 (DU W) (AF (AA 0) (AF (AA 3) Aj)))) (BD (B0 (Lv (AA 2) (AA 4))) (B0 (GH (AA 1) (GF (Ey (AA 4))))))) (b:=sNx) t1
   by_cases c:(x:Int)∈A3 (cov (nbW ts) p (wk (nbW ts) p x))
   ·rw[wX c]at ic
    have e1:wk (nbW ts) p (x+1)=wk (nbW ts) p x:=qX c;refine⟨_,S',ic.trans rfl,_,_,rfl,K,?_,?_⟩
    ·rw[e1];exact hP
    ·rw[e1];exact hC
   ·rw[wY c]at ic
    have e1:wk (nbW ts) p (x+1)=wk (nbW ts) p x++[x]:=qY c;obtain⟨S2,i,c2,K2,D2,hi⟩:=Tf (s:=(x:Int)) (hw.keeps K) hp hnb hlen ⟨by lia,by lia⟩;have hF:=JG hnb hx;rw[bx hi hF.len]at D2;have s4:Bc 4 (BG 2 (DU W) (AF (AA 0) (AF (AA 3) Aj))) [sR q,sR S.length,sR (S.length+1),sI x,z4] S'=oN [sR q,sR S.length,sR (S.length+1),sI x,sR S'.length] S2:=Cb (i:=4) ((Bz (ds:=[.ref q,.int x]) (S1:=S') rfl rfl).trans c2);have hCl:S.length+1 < S'.length:=(AC.mp hC).1
    have hcov:(cov (nbW ts) p (wk (nbW ts) p x)).length<=p:=by
     have:=ON p _ hW.nd λz hz=>by
      obtain⟨s,hs,hz⟩:=NQ.mp hz;obtain⟨d,hd⟩:=CP.mp hz;exact(JG hnb (show s < p by have:=(hW.of s hs).1;lia)).rng _ hd
     unfold A3 at this;rwa [AE]at this
    have u1:=fX (mo:=AA 2) (ma:=AA 4) (e:=[sR q,sR S.length,sR (S.length+1),sI x,sR S'.length]) rfl rfl (K2.at hC) D2 (by lia) hF.nd (qh c) (by have:=hF.len;lia);rw[<-LD,<-e1]at u1;have hC2:=(AC.mp (K2.at hC)).1
    have P3:(S2.set (S.length+1) (.dK (mD (cov (nbW ts) p (wk (nbW ts) p (x+1))))))[S.length]?=some (.lst (((wk (nbW ts) p x).map (Io (nbW ts) p)).map E0)):=by
     rw[AY (by lia)];exact K2.at hP
    have D3:(S2.set (S.length+1) (.dK (mD (cov (nbW ts) p (wk (nbW ts) p (x+1))))))[S'.length]?=some (.dK (mD (Rn (nbW ts) x p))):=by
     rw[AY (by lia)];exact D2
    have C3:(S2.set (S.length+1) (.dK (mD (cov (nbW ts) p (wk (nbW ts) p (x+1))))))[S.length+1]?=some (.dK (mD (cov (nbW ts) p (wk (nbW ts) p (x+1))))):=Am hC2;have K3:Keeps S (S2.set (S.length+1) (.dK (mD (cov (nbW ts) p (wk (nbW ts) p (x+1)))))):=(K.trans K2).set (ID _) _;generalize S2.set (S.length+1) (Ob.dK (mD (cov (nbW ts) p (wk (nbW ts) p (x+1)))))=S3 at u1 P3 D3 C3 K3;have so:=JW (m:=AA 4) (e:=[sR q,sR S.length,sR (S.length+1),sI x,sR S'.length]) (S:=S3) rfl (YX D3) (Pf (A3 (Rn (nbW ts) x p)));have tu:=JU so (Dr (Bj _ _));have K4:=Keeps.app S3 [.lst ((Et (A3 (Rn (nbW ts) x p))).map D.int)];have P4:=K4.at P3
    have vh:(wk (nbW ts) p x).length<=x:=by
     have h1:=ON x ((wk (nbW ts) p x).map λs:Nat=>(s:Int)) (CQ.mpr (hW.up.imp λ{a b} h e=>by lia)) λz hz=>by
      obtain⟨s,hs,rfl⟩:=An.mp hz;have:=(hW.of s hs).1
      lia
     rwa [AE]at h1
    have a1:=JM (mo:=AA 1) (e:=[sR q,sR S.length,sR (S.length+1),sI x,sR S'.length]) rfl P3 tu P4 (by rw[AE,AE];exact A4 (show(wk (nbW ts) p x).length<=100 by lia) (by decide));refine⟨_,_,ic.trans ((qX rfl).trans ((A1 s4).trans ((A1 (Di u1)).trans (Di a1)))),_,_,rfl,(K3.trans K4).set (AN _) _,?_,?_⟩
    ·rw[Am (AC.mp P4).1,e1,A9,A9]
     rfl
    ·rw[AY (by lia)]
     exact K4.at C3)
  (by
   rintro e S' ⟨z3,z4,rfl,K,hP,_⟩;rw[IK]at hP
   exact⟨_,_,rfl,K,hP⟩)
 refine⟨S1,Cz (n:=5) (mb:=Mb W) ?_,K1,P1⟩;unfold Mb;exact(A1 s1).trans ((A1 s2).trans ((A1 ((FI hi).trans h1)).trans rfl))
end
section
variable{nb:Int->List Int}{p:Nat}
abbrev V7(nb:Int->List Int)(p:Nat):Met:=cov nb p (wk nb p p)
abbrev col(nb:Int->List Int)(p:Nat)(x:Int):Int:=stp (V7 nb p) x % 2
variable(hnb:∀x:Int,0<=x->x < p->∀y∈nb x,0<=y/\y < p)(hsym:∀x y:Int,0<=x->0<=y->y∈nb x->x∈nb y)
include hnb hsym in
theorem NU{x:Int}(h0:0<=x)(h1:x < p):x∈A3 (V7 nb p):=by
 have:=(Q7 hnb hsym p (AN _)).all x.toNat (by lia);rwa [BQ h0]at this
include hnb hsym in
theorem XT(hs:s∈wk nb p p)(ha:a∈Rn nb s p):a∈V7 nb p:=On.mpr ⟨_,An.mpr ⟨s,hs,rfl⟩,ha⟩
include hnb hsym in
def Hn(nb:Int->List Int)(p:Nat)(c:Int->Int):Prop:=∀a b:Int,0<=a->a < p->b∈nb a->c a≠c b
include hnb hsym in
theorem V2(rE:∀x:Int,0<=x->x < p->c x=0∨c x=1)(hc:Hn nb p c):Hn nb p (col nb p):=by
 have hW:=Q7 hnb hsym p (AN _)
 have key:∀s∈wk nb p p,∀(d:Nat) (z:Int),(z,(d:Int))∈Rn nb s p->(c z+c s+d) % 2=0:=by
  intro s hs d;have qu:=(hW.of s hs).1;have hF:=JG hnb qu
  induction d with
  | zero=>
   intro z hz;have:z=s:=hF.zero _ hz rfl;subst this
   rcases rE s (by lia) (by lia)with e | e <;> rw[e] <;> rfl
  | succ d ih=>
   intro z hz;obtain⟨b,hb,e1,e2⟩:=hF.par _ hz (by dsimp only;lia)
   have e3:b.2=d:=by dsimp only at e1;lia
   have hi:=ih b.1 (by rw[<-e3];exact hb);have t8:=hF.rng _ hb;have xm:=hF.rng _ hz;have oO:=hc b.1 z t8.1 t8.2 e2;dsimp only at xm
   rcases rE b.1 t8.1 t8.2 with e | e <;> rcases rE z xm.1 xm.2 with e' | e' <;> rw[e,e']at oO <;> rw[e]at hi <;> rw[e'] <;> lia
 intro a b qV ha hb e;have t8:=hnb a qV ha b hb;obtain⟨s,hs,hz⟩:=NQ.mp (NU hnb hsym qV ha);have qu:=(hW.of s hs).1;have hF:=JG hnb qu;obtain⟨d,hd⟩:=CP.mp hz;obtain⟨d',pd,_⟩:=hF.cl _ hd b hb;have e1:=R0 hW.nd (XT hnb hsym hs hd);have e2:=R0 hW.nd (XT hnb hsym hs pd);have n1:=hF.nn _ hd;have n2:=hF.nn _ pd;dsimp only at n1 n2;have k1:=key s hs d.toNat a (by rw[BQ n1];exact hd);have k2:=key s hs d'.toNat b (by rw[BQ n2];exact pd);have e:stp (V7 nb p) a % 2=stp (V7 nb p) b % 2:=e;rw[e1,e2]at e;have oO:=hc a b qV ha hb
 rcases rE a qV ha with f | f <;> rcases rE b t8.1 t8.2 with f' | f' <;> rw[f,f']at oO <;> rw[f]at k1 <;> rw[f']at k2 <;> lia
end
theorem e8:ixA (E0 (a :: l)) (.int 0) S=.ok (.int a) S:=SS (d:=E0 (a :: l)) (ds:=(a :: l).map D.int) (j:=0) rfl (by lia) rfl
section
abbrev nU(W:Wd):MS:=B0 (Lv (AA 1) (BG 2 (DU W) (AF (AA 0) (AF (m2 ixA (AA 2) (mC (.int 0))) Aj))))
theorem fY(ho:mo e S=.ok (.ref n) S)(tE:S[n]?=some (.dK (mD C)))(ha:ma e S=.ok (.ref m) S2)(hn:S2[n]?=some (.dK (mD C)))(hm:S2[m]?=some (.dK (mD L)))(oO:n≠m)(nd:(A3 L).Nodup)(hd:∀z∈A3 L,z∉A3 C)(hl:C.length+L.length<=1000) :
  Lv mo ma e S=.ok .non (S2.set n (.dK (mD (C++L)))):=by
 unfold Lv;rw[ho];dsimp only[Res.bind];rw[tE];dsimp only;rw[ha];dsimp only;rw[hn,hm];dsimp only;rw[qX ⟨oO,by unfold mD;rw[AE,AE];exact Ao hl (by decide)⟩,Ny L C nd hd]
theorem ir(hw:HA W S q p ts)(hp:p<=60)(hnb:∀x:Int,0<=x->x < p->∀y∈nbW ts x,0<=y/\y < p)(hlen:∀x,(nbW ts x).length<=1000)(hsym:∀x y:Int,0<=x->0<=y->y∈nbW ts x->x∈nbW ts y) :
  ∃S',FW W [.ref q] S=.ok (.ref S.length) S'/\Keeps S S'/\S'[S.length]?=some (.dK (mD (V7 (nbW ts) p))):=by
 have s1:Bc 1 Hv (Cm 3 [.ref q]) S=oN [sR q,sR S.length,none] (S++[.dK []]):=rfl;have K0:=Keeps.app S [.dK []];obtain⟨S1,c1,K1,P1⟩:=aI (hw.keeps K0) hp hnb hlen hsym;have hW:=Q7 hnb hsym p (AN _);have hD1:=K1.at (Bj S (.dK []))
 have qy:∀R:List Nat,(∀s∈R,s < p)->(A3 (cov (nbW ts) p R)).Nodup->(cov (nbW ts) p R).length<=p:=λR hR nd=>by
  have:=ON p _ nd λz hz=>by
   obtain⟨s,hs,hz⟩:=NQ.mp hz;obtain⟨d,hd⟩:=CP.mp hz;exact(JG hnb (hR s hs)).rng _ hd
  unfold A3 at this;rwa [AE]at this
 rw[A2]at P1
 obtain⟨f,S2,h2,z2,rfl,K2,D2⟩:=Gs (v:=Fj (.ref (S++[Ob.dK []]).length)) (g:=tgN 2) (b:=nU W) (xs:=(wk (nbW ts) p p).map (E0∘Io (nbW ts) p)) (e:=[sR q,sR S.length,none]) (S:=S1)
  (λi e S'=>∃z2,e=[sR q,sR S.length,z2]/\Keeps S S'/\S'[(S++[Ob.dK []]).length]?=some (.lst ((wk (nbW ts) p p).map (E0∘Io (nbW ts) p)))/\S'[S.length]?=some (.dK (mD (cov (nbW ts) p ((wk (nbW ts) p p).take i)))))
  (λf S'=>∃z2,f=.nx [sR q,sR S.length,z2]/\Keeps S S'/\S'[S.length]?=some (.dK (mD (V7 (nbW ts) p))))
  ⟨none,rfl,K0.trans K1,P1,by rw[List.take_zero];exact hD1⟩ (by rintro i e S' ⟨_,_,_,h,_⟩;exact FO h)
  (by
   rintro i d e S' hd ⟨z2,rfl,K,hP,hD⟩;rw[AS]at hd
   cases hq:(wk (nbW ts) p p)[i]? with
   | none=>rw[hq]at hd;cases hd
   | some s=>
    rw[hq]at hd;cases hd;have hs:=BK hq;have qu:=(hW.of s hs).1;obtain⟨l,e1⟩:=Vd hnb qu (hW.of s hs).2;obtain⟨S3,j,c3,K3,D3,hj⟩:=Tf (s:=(s:Int)) (hw.keeps K) hp hnb hlen ⟨by lia,by lia⟩;have hF:=JG hnb qu;rw[bx hj hF.len]at D3;have c4:BG 2 (DU W) (AF (AA 0) (AF (m2 ixA (AA 2) (mC (.int 0))) Aj)) [sR q,sR S.length,some (E0 (Io (nbW ts) p s))] S'=.ok (.ref S'.length) S3:=(Bz (ds:=[.ref q,.int s]) (S1:=S') (BH rfl (BH (BF rfl rfl (by rw[e1];exact e8)) rfl)) rfl).trans c3;have ϥ:(wk (nbW ts) p p).take (i+1)=(wk (nbW ts) p p).take i++[s]:=take_snoc hq
    have qi:(A3 (cov (nbW ts) p ((wk (nbW ts) p p).take (i+1)))).Nodup:=by
     have e5:wk (nbW ts) p p=(wk (nbW ts) p p).take (i+1)++(wk (nbW ts) p p).drop (i+1):=(E4 _ _).symm;have h6:=hW.nd;rw[e5]at h6;unfold cov at h6;rw[A9,Xf,DF]at h6;exact(CS.mp h6).1
    rw[ϥ,LD,DF]at qi;obtain⟨n1,n2,n3⟩:=CS.mp qi;have hSl:S.length < S'.length:=(AC.mp hD).1;have hPl:(S++[Ob.dK []]).length < S'.length:=(AC.mp hP).1
    have u1:=fY (mo:=AA 1) (e:=[sR q,sR S.length,some (E0 (Io (nbW ts) p s))]) rfl hD c4 (K3.at hD) D3 (by lia) hF.nd (λz hz hc=>n3 z hc z hz rfl) (by
     have:=qy ((wk (nbW ts) p p).take i) (λs hs=>(hW.of s (WK hs)).1) n1;have:=hF.len
     lia)
    refine⟨[sR q,sR S.length,some (E0 (Io (nbW ts) p s))],S',rfl,_,_,Di u1,_,rfl,(K.trans K3).set (AN _) _,?_,?_⟩
    ·rw[AY (by rw[Ad];simp)]
     exact K3.at hP
    ·rw[Am (by have:=K3.1;lia),ϥ,LD])
  (by
   rintro e S' ⟨z2,rfl,K,_,hD⟩;rw[AE,Dg]at hD
   exact⟨_,rfl,K,hD⟩)
 refine⟨S2,Cz (n:=3) (mb:=HP W) ?_,K2,D2⟩;unfold HP;have h0:AF (AA 0) Aj [sR q,sR S.length,none] (S++[Ob.dK []])=.ok [.ref q] (S++[Ob.dK []]):=rfl;have xn:BG 1 (IV W) (AF (AA 0) Aj) [sR q,sR S.length,none] (S++[.dK []])=.ok (.ref (S++[Ob.dK []]).length) S1:=(Bz h0 rfl).trans c1;have xp:=Jc xn P1;have xq:G3 (G4 (BG 1 (IV W) (AF (AA 0) Aj))) (tgN 2) (nU W) [sR q,sR S.length,none] (S++[.dK []])=oN [sR q,sR S.length,z2] S2:=(FI xp).trans h2;have xr:Dj (AA 1) [sR q,sR S.length,z2] S2=.ok (.rt (.ref S.length)) S2:=rfl;exact(A1 s1).trans ((A1 xq).trans xr)
end
section
theorem bo(hw:HA W S q p ts)(hd:S[d]?=some (.dK (mD C)))(nd:(A3 C).Nodup)(wG:∀x∈ts,x.1∈A3 C/\x.2∈A3 C) :
  ∃o,El W [.ref q,.ref d] S=.ok o S/\((o=.non/\∀x∈ts,stp C x.1 % 2≠stp C x.2 % 2)∨(∃x:Int×Int,o=pairD x/\x∈ts/\stp C x.1 % 2=stp C x.2 % 2)):=by
 obtain⟨f,S1,h1,rfl,hf⟩:=Gs (v:=Dp (ts.map pairD)) (g:=Gj 2 (CG (tgN 2) (CG (tgN 3) G7))) (b:=sIf (mB (m2 (eqD false) (m2 DZ (m2 ixA (AA 1) (AA 2)) (mC (.int 2))) (m2 DZ (m2 ixA (AA 1) (AA 3)) (mC (.int 2))))) (Dj (Ga (AF (AA 2) (AF (AA 3) Aj)))) sNx) (xs:=ts.map pairD) (e:=[sR q,sR d,none,none]) (S:=S)
  (λi e S'=>S'=S/\(∃z2 z3,e=[sR q,sR d,z2,z3])/\∀x∈ts.take i,stp C x.1 % 2≠stp C x.2 % 2)
  (λf S'=>S'=S/\(((∃e,f=.nx e)/\∀x∈ts,stp C x.1 % 2≠stp C x.2 % 2)∨∃x:Int×Int,f=.rt (pairD x)/\x∈ts/\stp C x.1 % 2=stp C x.2 % 2))
  ⟨rfl,⟨none,none,rfl⟩,λx h=>by simp at h⟩ (λ_ _ _ _=>rfl)
  (by
   rintro i y e S' hy ⟨rfl,⟨z2,z3,rfl⟩,hno⟩;rw[AS]at hy
   cases hx:ts[i]? with
   | none=>rw[hx]at hy;cases hy
   | some x=>
    rw[hx]at hy;cases hy;have Ϧ:=BK hx;obtain⟨i1,i2⟩:=wG x Ϧ;refine⟨[sR q,sR d,sI x.1,sI x.2],S',rfl,?_⟩;have t:mB (m2 (eqD false) (m2 DZ (m2 ixA (AA 1) (AA 2)) (mC (.int 2))) (m2 DZ (m2 ixA (AA 1) (AA 3)) (mC (.int 2)))) [sR q,sR d,sI x.1,sI x.2] S'=.ok (decide (stp C x.1 % 2=stp C x.2 % 2)) S':=Es (BF (BF (BF rfl rfl (Oz hd nd i1)) rfl (Dh (by decide))) (BF (BF rfl rfl (Oz hd nd i2)) rfl (Dh (by decide))) (N8 rfl));have ic:=Ck (a:=Dj (Ga (AF (AA 2) (AF (AA 3) Aj)))) (b:=sNx) t
    by_cases c:stp C x.1 % 2=stp C x.2 % 2
    ·rw[wX c]at ic
     exact⟨.rt (pairD x),S',ic.trans rfl,rfl,.inr ⟨x,rfl,Ϧ,c⟩⟩
    ·rw[wY c]at ic
     refine⟨_,S',ic.trans rfl,rfl,⟨_,_,rfl⟩,λy hy=>?_⟩;rw[take_snoc hx]at hy
     rcases Af.mp hy with hy | hy
     ·exact hno y hy
     ·rw[AJ.mp hy];exact c)
  (by
   rintro e S' ⟨rfl,_,hno⟩;rw[AE,Dg]at hno
   exact⟨rfl,.inl ⟨⟨_,rfl⟩,hno⟩⟩)
 have hi:=NN (m:=Hl W.Web "ties" (AA 0)) (e:=[sR q,sR d,none,none]) (hw.ties rfl)
 rcases hf with⟨⟨e,rfl⟩,hno⟩ | ⟨x,rfl,hx,hc⟩
 ·refine⟨.non,Cz (n:=4) (mb:=Ft W) ?_,.inl ⟨rfl,hno⟩⟩
  unfold Ft;exact(A1 ((FI hi).trans h1)).trans rfl
 ·refine⟨pairD x,Cz (n:=4) (mb:=Ft W) ?_,.inr ⟨x,rfl,hx,hc⟩⟩
  unfold Ft;exact MD ((FI hi).trans h1)
end
section
theorem Zf(hw:HA W S q p ts)(hp:p<=60)(hnb:∀x:Int,0<=x->x < p->∀y∈nbW ts x,0<=y/\y < p)(hlen:∀x,(nbW ts x).length<=1000)(hsym:∀x y:Int,0<=x->0<=y->y∈nbW ts x->x∈nbW ts y)(hts:∀x∈ts,(0<=x.1/\x.1 < p)/\x.2∈nbW ts x.1)(hall:∀a b:Int,0<=a->a < p->b∈nbW ts a->(a,b)∈ts∨(b,a)∈ts) :
  ∃o S',He W [.ref q] S=.ok o S'/\Keeps S S'/\((o=.non/\¬Hn (nbW ts) p (col (nbW ts) p))∨(o=E0 ((A7 p).map λx:Nat=>col (nbW ts) p x)/\Hn (nbW ts) p (col (nbW ts) p))):=by
 obtain⟨S1,c1,K1,D1⟩:=ir hw hp hnb hlen hsym;have hW:=Q7 hnb hsym p (AN _);have s1:Bc 1 (BG 1 (FW W) (AF (AA 0) Aj)) (Cm 2 [.ref q]) S=oN [sR q,sR S.length] S1:=Cb (i:=1) ((Bz (ds:=[.ref q]) (S1:=S) rfl rfl).trans c1);have w1:=hw.keeps K1
 obtain⟨o,c2,h2⟩:=bo w1 D1 hW.nd (λx hx=>by
  obtain⟨b1,b2⟩:=hts x hx;have b3:=hnb x.1 b1.1 b1.2 x.2 b2
  exact⟨NU hnb hsym b1.1 b1.2,NU hnb hsym b3.1 b3.2⟩)
 have c3:BG 2 (El W) (AF (AA 0) (AF (AA 1) Aj)) [sR q,sR S.length] S1=.ok o S1:=(Bz (ds:=[.ref q,.ref S.length]) (S1:=S1) rfl rfl).trans c2
 rcases h2 with⟨rfl,hno⟩ | ⟨x,rfl,hx,hc⟩
 ·have uw:Hn (nbW ts) p (col (nbW ts) p):=λa b qV ha hb=>by
   rcases hall a b qV ha hb with h | h
   ·exact hno _ h
   ·exact λe=>hno _ h e.symm
  have t2:mB (m2 (Vr true) (BG 2 (El W) (AF (AA 0) (AF (AA 1) Aj))) (mC .non)) [sR q,sR S.length] S1=.ok false S1:=Es (BF c3 rfl rfl)
  have hi:iR1 (AF (Hl W.Web "places" (AA 0)) Aj) [sR q,sR S.length] S1=.ok (Dp (DE 0 p)) S1:=by
   have:=K7 (ml:=AF (Hl W.Web "places" (AA 0)) Aj) (e:=[sR q,sR S.length]) (S:=S1) (S1:=S1) (j:=p) (BH (w1.places rfl) rfl) (by omega) (by omega);simpa using this
  have q3:=ae (f:=me) (g:=λx:Nat=>D.int (col (nbW ts) p x)) (l:=A7 p) (v:=Dp (DE 0 p)) (m:=m2 DZ (m2 ixA (AA 2) (AA 0)) (mC (.int 2))) (e:=[sR q,sR S.length]) (S:=S1) (by rw[X7];rfl) (by simp;omega) (λx hx=>BF (BF rfl rfl (Oz D1 hW.nd (NU hnb hsym (by omega) (by have:=DA.mp hx;omega)))) rfl (Dh (by decide)));have n3:=HM ((NR (n:=1) (g:=tgN 0) (c:=FY) (m:=m2 DZ (m2 ixA (AA 2) (AA 0)) (mC (.int 2))) hi).trans q3);have tu:=JU n3 (Dr (Bj _ _))
  have e4:D.tup ((A7 p).map λx:Nat=>D.int (col (nbW ts) p x))=E0 ((A7 p).map λx:Nat=>col (nbW ts) p x):=by unfold E0;rw[A2];rfl
  rw[e4]at tu;refine⟨_,_,Cz (n:=2) (mb:=Fq W) ?_,K1.trans (Keeps.app S1 [.lst ((A7 p).map λx:Nat=>D.int (col (nbW ts) p x))]),.inr ⟨rfl,uw⟩⟩;unfold Fq;exact(A1 s1).trans ((Oy t2).trans (Fa tu))
 ·obtain⟨b1,b2⟩:=hts x hx
  have t2:mB (m2 (Vr true) (BG 2 (El W) (AF (AA 0) (AF (AA 1) Aj))) (mC .non)) [sR q,sR S.length] S1=.ok true S1:=Es (BF c3 rfl rfl);refine⟨.non,S1,Cz (n:=2) (mb:=Fq W) ?_,K1,.inl ⟨rfl,λh=>h x.1 x.2 b1.1 b1.2 b2 hc⟩⟩;unfold Fq;exact(A1 s1).trans (j4 t2 rfl)
end
theorem Ku(hu:D9 p 0 ts)(x:Int):nbW (D8 ts) x=nr ts x.toNat:=ee hu x.toNat
theorem aV(hu:D9 p 0 ts):∀x:Int,0<=x->x < p->∀y∈nbW (D8 ts) x,0<=y/\y < p:=λx _ _ y hy=>by
 rw[Ku hu]at hy;exact gl hu hy
theorem Wp(hu:D9 p 0 ts)(x y:Int)(hx:0<=x)(hy:0<=y)(h:y∈nbW (D8 ts) x):x∈nbW (D8 ts) y:=by
 rw[Ku hu]at h ⊢
 obtain⟨a,rfl⟩:∃a:Nat,x=a:=⟨x.toNat,by lia⟩
 obtain⟨b,rfl⟩:∃b:Nat,y=b:=⟨y.toNat,by lia⟩
 rw[Bk]at h ⊢;exact ef.mp h
abbrev nW(W:Wd):MS:=sIf (mB (m2 (eqD true) (m2 DZ (BG 2 (B1 W) (AF (AA 1) (AF (m2 FJ (mC (.int 501)) (AA 6)) Aj))) (mC (.int 2))) (m2 DZ (BG 2 (B1 W) (AF (AA 1) (AF (m2 FJ (mC (.int 501)) (AA 7)) Aj))) (mC (.int 2))))) (B0 (GH (AA 5) (Ga (AF (AA 6) (AF (AA 7) Aj))))) sNx
theorem D9.sub(h:D9 p j ts)(s:us.Sublist ts):D9 p j us:=⟨λx hx=>h.1 x (s.subset hx),h.2.sublist s⟩
theorem Yd(W:Wd)(ns:List Int)(S:Sto):∃(m t:Nat) (us:List (Int×Int)) (S':Sto),Fo W [.fro (ns.map D.int)] S=.ok (.tup [.int m,.ref t]) S'/\Keeps S S'/\S'[t]?=some (.lst (us.map pairD))/\D9 m 0 us/\us.length<=3600/\1<=m/\m<=60/\∃cf:Int->Int,∀x∈us,cf x.1 % 2≠cf x.2 % 2:=by
 obtain⟨h,hc⟩:=XH W ns 0 S
 obtain⟨cf,vB⟩:∃cf:Int->Int,∀z S,B1 W [.int h,.int (501+z)] S=.ok (.int (cf z)) S:=⟨λz=>(NC W h (501+z)).choose,λz=>(NC W h (501+z)).choose_spec.2.2⟩
 have s1:Bc 1 (BG 2 (EJ W) (AF (AA 0) (AF (mC (.int 0)) Aj))) (Cm 8 [.fro (ns.map D.int)]) S=oN [sF ns,sI h,none,none,none,none,none,none] S:=Cb (i:=1) ((Bz (ds:=[.fro (ns.map D.int),.int 0]) (S1:=S) rfl rfl).trans hc);have s2:Bc 2 (m2 FJ (mC (.int 1)) (m2 DZ (AA 1) (mC (.int 14)))) [sF ns,sI h,none,none,none,none,none,none] S=oN [sF ns,sI h,sI (1+h % 14),none,none,none,none,none] S:=Cb (i:=2) (BF rfl (BF rfl rfl (Dh (by decide))) rfl);obtain⟨S1,oV,q1,K1,a1,p1,p2⟩:=dw W ns S;have s3:Bc 3 (BG 2 (Ir W) (AF (AA 0) (AF (mC (.int 1)) Aj))) [sF ns,sI h,sI (1+h % 14),none,none,none,none,none] S=oN [sF ns,sI h,sI (1+h % 14),sR S.length,none,none,none,none] S1:=Cb (i:=3) ((Bz (ds:=[.fro (ns.map D.int),.int 1]) (S1:=S) rfl rfl).trans q1);have s4:Bc 4 (m2 FJ (mC (.int 1)) (m2 DZ (m2 Jj (AA 1) (mC (.int 5))) (mC (.int 6)))) [sF ns,sI h,sI (1+h % 14),sR S.length,none,none,none,none] S1=oN [sF ns,sI h,sI (1+h % 14),sR S.length,sI (1+h / 5 % 6),none,none,none] S1:=Cb (i:=4) (BF rfl (BF (BF rfl rfl (NP (by decide) (by decide))) rfl (Dh (by decide))) rfl);have c5:m2 DZ (m2 Jj (AA 1) (mC (.int 14))) (mC (.int 8)) [sF ns,sI h,sI (1+h % 14),sR S.length,sI (1+h / 5 % 6),none,none,none] S1=.ok (.int (h / 14 % 8)) S1:=BF (BF rfl rfl (NP (by decide) (by decide))) rfl (Dh (by decide))
 obtain⟨m,th,qc,ot,s5⟩:∃(m:Nat) (th:Int),1<=m/\m<=60/\sIf (mB (m2 (eqD false) (m2 DZ (m2 Jj (AA 1) (mC (.int 14))) (mC (.int 8))) (mC (.int 3)))) (BD (Bc 2 (m2 FJ (mC (.int 15)) (m2 DZ (m2 Jj (AA 1) (mC (.int 112))) (mC (.int 46))))) (Bc 4 (mC (.int 1)))) sNx [sF ns,sI h,sI (1+h % 14),sR S.length,sI (1+h / 5 % 6),none,none,none] S1=oN [sF ns,sI h,sI m,sR S.length,sI th,none,none,none] S1:=by
  by_cases c:h / 14 % 8=3
  ·refine⟨(15+h / 112 % 46).toNat,1,by lia,by lia,?_⟩
   rw[show((15+h / 112 % 46).toNat:Int)=15+h / 112 % 46 by lia];refine(Ck (Es (BF c5 rfl (N8 (wX c))))).trans ((qX rfl).trans ?_);refine(A1 (e1:=[sF ns,sI h,sI (15+h / 112 % 46),sR S.length,sI (1+h / 5 % 6),none,none,none]) (S1:=S1) (Cb (i:=2) (BF rfl (BF (BF rfl rfl (NP (by decide) (by decide))) rfl (Dh (by decide))) rfl))).trans rfl
  ·refine⟨(1+h % 14).toNat,1+h / 5 % 6,by lia,by lia,?_⟩
   rw[show((1+h % 14).toNat:Int)=1+h % 14 by lia];exact(Ck (Es (BF c5 rfl (N8 (wY c))))).trans rfl
 have s6:Bc 5 (CL (Bi Aj)) [sF ns,sI h,sI m,sR S.length,sI th,none,none,none] S1=oN [sF ns,sI h,sI m,sR S.length,sI th,sR S1.length,none,none] (S1++[.lst []]):=rfl;obtain⟨ts,q2,u2,l2⟩:=UD W th ((Keeps.app S1 [.lst []]).at a1) p1 qc ot;have t2:=Bj (S1++[.lst []]) (.lst (ts.map pairD));have f2:=(Keeps.app (S1++[Ob.lst []]) [.lst (ts.map pairD)]).at (Bj S1 (.lst []));have K2:Keeps S1 (S1++[.lst []]++[.lst (ts.map pairD)]):=(Keeps.app _ _).trans (Keeps.app _ _)
 have lt:S1.length < (S1++[Ob.lst []]).length:=by simp
 generalize S1++[Ob.lst []]++[Ob.lst (ts.map pairD)]=S2 at q2 t2 f2 K2;generalize (S1++[Ob.lst []]).length=t at q2 t2 lt
 obtain⟨f,S3,h3,⟨z6,z7,rfl⟩,K3,us,su,cu,f3⟩:=Gs (v:=Fj (.ref t)) (g:=Gj 2 (CG (tgN 6) (CG (tgN 7) G7))) (b:=nW W) (xs:=ts.map pairD) (e:=[sF ns,sI h,sI m,sR S.length,sI th,sR S1.length,none,none]) (S:=S2)
  (λi e S'=>(∃z6 z7,e=[sF ns,sI h,sI m,sR S.length,sI th,sR S1.length,z6,z7])/\(Keeps S1 S'/\S'[t]?=some (.lst (ts.map pairD)))/\∃us:List (Int×Int),us.Sublist (ts.take i)/\(∀x∈us,cf x.1 % 2≠cf x.2 % 2)/\S'[S1.length]?=some (.lst (us.map pairD)))
  (λf S'=>(∃z6 z7,f=.nx [sF ns,sI h,sI m,sR S.length,sI th,sR S1.length,z6,z7])/\Keeps S1 S'/\∃us:List (Int×Int),us.Sublist ts/\(∀x∈us,cf x.1 % 2≠cf x.2 % 2)/\S'[S1.length]?=some (.lst (us.map pairD)))
  ⟨⟨none,none,rfl⟩,⟨K2,t2⟩,[],List.nil_sublist _,λx hx=>(nomatch hx),f2⟩ (by rintro i e S' ⟨_,⟨_,h⟩,_⟩;exact FO h)
  (by
   rintro i d e S' hd ⟨⟨z6,z7,rfl⟩,⟨K,ht⟩,us,su,cu,hu⟩;rw[AS]at hd
   cases hq:ts[i]? with
   | none=>rw[hq]at hd;cases hd
   | some x=>
    rw[hq]at hd;cases hd;refine⟨[sF ns,sI h,sI m,sR S.length,sI th,sR S1.length,sI x.1,sI x.2],S',rfl,?_⟩;have m1:=vB x.1;have ϧ:=vB x.2;generalize e1:cf x.1=v1 at m1;generalize e2:cf x.2=v2 at ϧ
    have tt:mB (m2 (eqD true) (m2 DZ (BG 2 (B1 W) (AF (AA 1) (AF (m2 FJ (mC (.int 501)) (AA 6)) Aj))) (mC (.int 2))) (m2 DZ (BG 2 (B1 W) (AF (AA 1) (AF (m2 FJ (mC (.int 501)) (AA 7)) Aj))) (mC (.int 2)))) [sF ns,sI h,sI m,sR S.length,sI th,sR S1.length,sI x.1,sI x.2] S'=.ok (decide (v1 % 2≠v2 % 2)) S':=
     Es (BF (BF ((Bz (ds:=[.int h,.int (501+x.1)]) (S1:=S') rfl rfl).trans (m1 S')) rfl (Dh (by decide))) (BF ((Bz (ds:=[.int h,.int (501+x.2)]) (S1:=S') rfl rfl).trans (ϧ S')) rfl (Dh (by decide))) (jk rfl))
    have ic:=Ck (a:=B0 (GH (AA 5) (Ga (AF (AA 6) (AF (AA 7) Aj))))) (b:=sNx) tt;have Ϩ:=su.length_le;rw[EM]at Ϩ
    by_cases c:v1 % 2≠v2 % 2
    ·rw[wX c]at ic
     have ap:=JM (mo:=AA 5) (ma:=Ga (AF (AA 6) (AF (AA 7) Aj))) (e:=[sF ns,sI h,sI m,sR S.length,sI th,sR S1.length,sI x.1,sI x.2]) (S:=S') (y:=pairD x) (S2:=S') rfl hu rfl hu (by rw[AE];exact A4 (show us.length<=3600 by lia) (by decide));refine⟨_,_,ic.trans ((qX rfl).trans (Di ap)),⟨_,_,rfl⟩,⟨K.set (AN _) _,?_⟩,us++[x],?_,λy hy=>?_,?_⟩
     ·rw[AY (by lia)]
      exact ht
     ·rw[take_snoc hq]
      exact su.append (n9 _)
     ·rcases Af.mp hy with hy | hy
      ·exact cu y hy
      ·rw[AJ.mp hy,e1,e2];exact c
     ·rw[Am (AC.mp hu).1,A9]
      rfl
    ·rw[wY c]at ic
     refine⟨_,_,ic.trans rfl,⟨_,_,rfl⟩,⟨K,ht⟩,us,?_,cu,hu⟩;rw[take_snoc hq]
     exact su.trans (List.sublist_append_left _ _))
  (by
   rintro e S' ⟨⟨z6,z7,rfl⟩,⟨K,ht⟩,us,su,cu,hu⟩;rw[AE,Dg]at su
   exact⟨⟨_,_,rfl⟩,K,us,su,cu,hu⟩)
 refine⟨m,S1.length,us,S3,Cz (n:=8) (mb:=JL W) ?_,K1.trans K3,f3,u2.sub su,Ao su.length_le l2,qc,ot,cf,cu⟩;unfold JL;refine(A1 s1).trans ((A1 s2).trans ((A1 s3).trans ((A1 s4).trans ((A1 s5).trans ((A1 s6).trans ?_)))));have h0:AF (AA 3) (AF (AA 2) (AF (AA 4) Aj)) [sF ns,sI h,sI m,sR S.length,sI th,sR S1.length,none,none] (S1++[Ob.lst []])=.ok [.ref S.length,.int m,.int th] (S1++[Ob.lst []]):=rfl;have xn:=(Bz h0 rfl).trans q2;have xp:=Jc xn t2;refine(A1 ((FI xp).trans h3)).trans (Fa ?_);exact Nl (ds:=[.int m,.ref S1.length]) rfl (by simp)
theorem Vh:z∈CT ts x↔∃t∈ts,(t.1=x/\z=t.2)∨(t.2=x/\z=t.1):=by
 unfold CT;rw[Oo]
 constructor
 ·rintro⟨t,ht,hz⟩
  refine⟨t,ht,?_⟩
  rcases Af.mp hz with h | h
  ·split at h
   ·rename_i e;exact .inl ⟨e,AJ.mp h⟩
   ·cases h
  ·split at h
   ·rename_i e;exact .inr ⟨e,AJ.mp h⟩
   ·cases h
 ·rintro⟨t,ht,⟨h1,h2⟩ | ⟨h1,h2⟩⟩
  ·exact⟨t,ht,by rw[qX h1];simp[h2]⟩
  ·exact⟨t,ht,by rw[qX h1];simp[h2]⟩
theorem NB:∀{ts:List (Int×Int)},ts.Nodup->(∀t∈ts,t.1 < t.2)->(CT ts x).Nodup
 | [],_,_=>G6
 | t :: ts,h,oM=>by
  obtain⟨h1,h2⟩:=CK.mp h
  have ih:=NB (x:=x) h2 λu hu=>oM u (AT _ hu)
  have hl:=oM t Aq;show(((if t.1=(x:Int)then[t.2]else[])++(if t.2=(x:Int)then[t.1]else[]))++CT ts x).Nodup;rw[CS];refine⟨?_,ih,λa ha b hb e=>?_⟩
  ·by_cases c1:t.1=(x:Int)
   ·rw[qX c1,qY (by lia)];simp
   ·rw[qY c1];split <;> simp
  ·subst e
   obtain⟨u,hu,hz⟩:=Vh.mp hb;have Ϩ:=oM u (AT _ hu)
   have:t=u:=by
    rcases Af.mp ha with q | q
    ·split at q
     ·rename_i e1
      have:=AJ.mp q
      rcases hz with⟨z1,z2⟩ | ⟨z1,z2⟩
      ·exact gZ (by lia) (by lia)
      ·lia
     ·cases q
    ·split at q
     ·rename_i e1
      have:=AJ.mp q
      rcases hz with⟨z1,z2⟩ | ⟨z1,z2⟩
      ·lia
      ·exact gZ (by lia) (by lia)
     ·cases q
   exact h1 (this▸hu)
open PySem L2 L4
def Fb(W:Wd)(w:Nat×List (Int×Int)):Ob:=.ins W.Web [("places",.int w.1),("ties",.tup (w.2.map pairD)),("near_sets",.tup (Gk w.1 w.2))]
def Kt(p:Nat)(ts:List (Int×Int)):List (List Int):=(A7 p).map λx=>Et (CT ts x)
theorem aT(p:Nat)(ts:List (Int×Int)):D.tup (Gk p ts)=eT (eT D.int) (Kt p ts):=by
 unfold Gk Kt eT;rw[A2];rfl
section
theorem Wb{α:Type}{f:Str}{enc:α->D}{g:Nat×List (Int×Int)->α}(h:VE A m (rO (Fb W)) p)(hl:∀w,([("places",D.int w.1),("ties",.tup (w.2.map pairD)),("near_sets",.tup (Gk w.1 w.2))]:List (Str×D)).lookup f=some (enc (g w))):VE A (Hl W.Web f m) (rV enc) (p.bind λw=>some (g w)):=λv hv S0 e F S hs=>by
 obtain⟨w,h1,h2⟩:=BO hv;cases h2;obtain⟨d,S',h3,h4,n,rfl,hn⟩:=h w h1 S0 e F S hs;exact⟨_,S',QI h3 hn (hl w),h4,rfl⟩
theorem JT(h:VE A m (rO (Fb W)) p):VE A (Hl W.Web "places" m) (rV D.int) (p.bind λw=>some (w.1:Int)):=Wb h λw=>mw _ _ _
theorem c9(h:VE A m (rO (Fb W)) p):VE A (Hl W.Web "near_sets" m) (rV (eT (eT D.int))) (p.bind λw=>some (Kt w.1 w.2)):=Wb h λw=>by rw[<-aT];exact mq _ _ _
theorem iL(W:Wd){p:Nat}(h1:1<=p)(hp:p<=60){d:D}{S:Sto}{ps:List (Int×Int)}(hv:∀S',Keeps S S'->Fj d S'=some (ps.map pairD))(hl:ps.length<=90000)(hf:EK p ps){e:Lo}{ml:ML}{S0:Sto}(ha:ml e S0=.ok [.int p,d] S) :
  ∃S',P7 W.Web 3 (IW W) ml e S0=.ok (.ref S.length) S'/\Keeps S S'/\S'[S.length]?=some (Fb W (p,D8 ps)):=by
 have t0:UA (mB (m3 leD leD (mC (.int 1)) (AA 1) (mC (.int 60)))) [sR S.length,sI p,some d] (S++[.ins W.Web []])=.ok false (S++[.ins W.Web []]):=
  Pz (b:=true) (Es (Wr (S3:=S++[.ins W.Web []]) rfl rfl (QC (wX (by lia))) rfl (QC (wX (by lia)))))
 have sU:(S++[Ob.ins W.Web []])[S.length]?=some (.ins W.Web []):=Bj _ _;have e1:=R5 (C:=W.Web) (f:="places") (mo:=AA 0) (mv:=AA 1) (e:=[sR S.length,sI p,some d]) (S:=S++[.ins W.Web []]) (v:=.int p) rfl rfl sU (by decide);have K1:Keeps S ((S++[Ob.ins W.Web []]).set S.length (.ins W.Web (Oe "places" (.int p) []))):=(Keeps.app S _).set (AN _) _;generalize hS1:(S++[Ob.ins W.Web []]).set S.length (.ins W.Web (Oe "places" (.int p) []))=S1 at e1 K1
 have ϩ:S1[S.length]?=some (.ins W.Web [("places",.int p)]):=by rw[<-hS1];exact Am (by simp)
 obtain⟨S2,c2,K2⟩:=Sj W (p:=p) (d:=d) (S:=S1) (ps:=ps) (λS' k=>hv S' (K1.trans k)) (Ao hl (by decide)) hf;rw[VQ]at c2;have e2:=R5 (C:=W.Web) (f:="ties") (mo:=AA 0) (mv:=BG 2 (Gu W) (AF (AA 1) (AF (AA 2) Aj))) (e:=[sR S.length,sI p,some d]) (S:=S1) ((Bz rfl rfl).trans c2) rfl (K2.at ϩ) (by simp);have K3:Keeps S (S2.set S.length (.ins W.Web (Oe "ties" (.tup ((D8 ps).map pairD)) [("places",.int p)]))):=(K1.trans K2).set (AN _) _;rw[put2]at e2 K3;have xt:S.length < S2.length:=(AC.mp (K2.at ϩ)).1;generalize hS3:S2.set S.length (.ins W.Web [("places",.int p),("ties",.tup ((D8 ps).map pairD))])=S3 at e2 K3
 have xu:S3[S.length]?=some (.ins W.Web [("places",.int p),("ties",.tup ((D8 ps).map pairD))]):=by rw[<-hS3];exact Am xt
 obtain⟨S4,c4,K4⟩:=eg W hp (ts:=D8 ps) (λt ht=>by
  obtain⟨x,hx,rfl⟩:=Zg ht
  exact(hf.1 x hx).in) (by rw[(Nn ps).length_eq,AE];exact hl) S3
 have e3:=R5 (C:=W.Web) (f:="near_sets") (mo:=AA 0) (mv:=BG 2 (Gt W) (AF (AA 1) (AF (Hl W.Web "ties" (AA 0)) Aj))) (e:=[sR S.length,sI p,some d]) (S:=S3)
  ((Bz (BH (S1:=S3) rfl (BH (QI rfl xu (jn _ _)) rfl)) rfl).trans c4) rfl (K4.at xu) (by simp)
 have xw:S.length < S4.length:=(AC.mp (K4.at xu)).1;rw[put3]at e3;refine⟨_,em ha rfl (Vb (e:=[sR S.length,sI p,some d]) ?_),(K3.trans K4).set (AN _) _,Am xw⟩;unfold QT;refine Dd (A1 (e:=[sR S.length,sI p,some d]) (e1:=[sR S.length,sI p,some d]) (S1:=S++[.ins W.Web []]) (Dd (Ck t0) rfl)) ?_;rw[A1 e1,A1 e2];exact e3
end
def Eu(BP:(Nat×List (Int×Int)))(DI:Int):Option (Fw Unit Unit):=
 (((some (0:Int)).bind λx2=>(some DI).bind λx3=>if decide (x2<=x3)=true then((some BP).bind λx1=>some (x1.1:Int)).bind λx4=>some (decide (x3 < x4))else some false).bind λx5=>some (!x5)).bind λx6=>if x6=true then none else some (.nx ())
def Ex(BP:(Nat×List (Int×Int)))(DI:Int):Option Unit:=mM (Eu BP DI)
theorem Mv(W:Wd)(BP:(Nat×List (Int×Int)))(DI:Int):VF (Du W) [.z ((Fb W) BP),.v (D.int DI)] (rV eU) (Ex BP DI):=by
 refine iQ (n:=2) (b:=Gv W) (p:=Eu BP DI) (B:=λ_=>[.z ((Fb W) BP),.v (D.int DI)]) ?_;show VS [.z ((Fb W) BP),.v (D.int DI)] _ _ _ _;unfold Gv Eu;exact(Q8 (B:=(λ(_:Unit)=>[.z ((Fb W) BP),.v (D.int DI)])) (iW (Ni (ZZ nS nR (Kk rfl) (BL rfl) (JT (DB rfl))))) iM (TU (.same (.same .nil))))
def SD(BP:(Nat×List (Int×Int)))(DI:Int):Option (Fw (List Int) Unit):=
 C6 ((((some BP).bind λx1=>((some DI).bind λx2=>(some ()).bind λx3=>some (x2,x3)).bind λx4=>some (x1,x4)).bind λz5=>Ex z5.1 z5.2.1).bind λ_=>some (.nx ())) λ_=>(((some BP).bind λx6=>some (Kt x6.1 x6.2)).bind λl7=>(some DI).bind λx8=>atI l7 x8).bind λx9=>some (.rt x9)
def MM(BP:(Nat×List (Int×Int)))(DI:Int):Option (List Int):=SF (SD BP DI)
theorem Zc(W:Wd)(BP:(Nat×List (Int×Int)))(DI:Int):VF (K8 W) [.z ((Fb W) BP),.v (D.int DI)] (rV (eT D.int)) (MM BP DI):=by
 refine PR (n:=2) (b:=Sn W) (p:=SD BP DI) (B:=λ_=>[]) ?_;show VS [.z ((Fb W) BP),.v (D.int DI)] _ _ _ _;unfold Sn SD;exact(Ch (cq (HW (PZ (DB rfl) (Xo (BL rfl) JA)) (λz5=>Mv W z5.1 z5.2.1) (λ_=>rfl) RK)) (λ_=>(ZR (ZX (c9 (DB rfl)) (BL rfl)))))
def K2(h s:Nat)(S S':Sto):Prop:=S.length<=S'.length/\∀j,j < S.length->j≠h->j≠s->S'[j]?=S[j]?
theorem K2.trans(a:K2 h s S S1)(b:K2 h s S1 S2):K2 h s S S2:=⟨Ao a.1 b.1,λj q q1 q2=>(b.2 j (AU q a.1) q1 q2).trans (a.2 j q q1 q2)⟩
theorem K2.of{h s:Nat}{S S1:Sto}(a:Keeps S S1):K2 h s S S1:=⟨a.1,λj q _ _=>a.2 j q⟩
theorem K2.seth(a:K2 h s S S1)(o:Ob):K2 h s S (S1.set h o):=⟨by rw[DO];exact a.1,λj q q1 q2=>by rw[AY (Br q1)];exact a.2 j q q1 q2⟩
theorem K2.sets(a:K2 h s S S1)(o:Ob):K2 h s S (S1.set s o):=⟨by rw[DO];exact a.1,λj q q1 q2=>by rw[AY (Br q2)];exact a.2 j q q1 q2⟩
theorem K2.at(a:K2 h s S S1)(hj:S[j]?=some o)(h1:j≠h)(h2:j≠s):S1[j]?=some o:=by rw[a.2 j (B5 hj) h1 h2];exact hj
def Tk(ξ:List (List Int))(g:Int):List Int:=(atI ξ g).getD []
theorem kW{κv:Type}{enc:κv->D}{l:List (Int×κv)}{S:Sto}{n:Nat}(hn:S[n]?=some (oDK enc l))(hl:l.length < 1000000)(k:Int)(v:κv):Qv (.ref n) (.int k) (enc v) S=some (S.set n (oDK enc (CA l k v))):=by
 unfold Qv;dsimp only;rw[hn];show(if (l.map _).length < sizeLine then some (S.set n (.dK (CA (l.map λx=>(CD x.1,enc x.2)) (CD k) (enc v))))else none)=_;rw[qX (by rw[AE];exact eo hl),Tx Ox];rfl
theorem Se{κv:Type}{enc:κv->D}{l:List (Int×κv)}{mo mi mv:ME}{e:Lo}{S:Sto}{n:Nat}{k:Int}{v:κv}(hv:mv e S=.ok (enc v) S)(ho:mo e S=.ok (.ref n) S)(hi:mi e S=.ok (.int k) S)(hn:S[n]?=some (oDK enc l))(hl:l.length < 1000000):DL mo mi mv e S=.ok (.nx e) (S.set n (oDK enc (CA l k v))):=by
 unfold DL;rw[hv];dsimp only[Res.lift];rw[ho];dsimp only;rw[hi];dsimp only;rw[kW hn hl]
theorem LN{κ α:Type}[DecidableEq κ]{l l':List (κ×α)}{k:κ}{v:α}(h:M4 l k v=some l'):l.length < 1000000/\l'=CA l k v:=by
 unfold M4 at h;split at h
 ·rename_i c;cases h;exact⟨c,rfl⟩
 ·cases h
theorem Xm(ht:S[tN]?=some (oL (eT D.int) ξ))(hh:S[hN]?=some (oDK D.int H))(hs:S[sN]?=some (oDK D.bl Q))(oO:hN≠sN) :
  ∃F,Vs [] [.z (oL (eT D.int) ξ),.v (D.int bits),.w 2 (oDK D.int H),.v (D.int g),.w 4 (oDK D.bl Q),.u,.u] [sR tN,sI bits,sR hN,sI g,sR sN,none,none] F S:=by
 have t1:tN≠hN:=λc=>by rw[c,hh]at ht;cases ht
 have t2:tN≠sN:=λc=>by rw[c,hs]at ht;cases ht
 refine⟨λn=>if n=hN then .ow 2 else if n=sN then .ow 4 else match S[n]? with | some o=>.fz o | none=>.no,⟨DK _,λj h=>(nomatch h)⟩,λn o q=>?_,λn i q=>?_,λn hn=>?_,λi a ha=>?_⟩
 ·split at q
  ·cases q
  ·split at q
   ·cases q
   ·cases w:S[n]? with
    | none=>rw[w]at q;cases q
    | some o'=>rw[w]at q;cases q;rfl
 ·refine⟨DK _,?_⟩
  split at q
  ·rename_i c;rw[c];exact B5 hh
  ·split at q
   ·rename_i c;rw[c];exact B5 hs
   ·cases w:S[n]? with
    | none=>rw[w]at q;cases q
    | some o'=>rw[w]at q;cases q
 ·show(if n=hN then Cel.ow 2 else if n=sN then .ow 4 else match S[n]? with | some o=>.fz o | none=>.no)=_
  rw[qY λc=>zX (B5 hh) (by rw[<-c];omega),qY λc=>zX (B5 hs) (by rw[<-c];omega),Bl hn]
 ·match i,ha with
  | 0,ha=>cases ha;exact⟨_,rfl,tN,rfl,by show(if tN=hN then Cel.ow 2 else if tN=sN then .ow 4 else match S[tN]? with | some o=>.fz o | none=>.no)=_;rw[qY t1,qY t2,ht]⟩
  | 1,ha=>cases ha;exact⟨_,rfl,rfl⟩
  | 2,ha=>cases ha;exact⟨_,rfl,hN,rfl,qX rfl,hh⟩
  | 3,ha=>cases ha;exact⟨_,rfl,rfl⟩
  | 4,ha=>cases ha;exact⟨_,rfl,sN,rfl,by show(if sN=hN then Cel.ow 2 else if sN=sN then .ow 4 else match S[sN]? with | some o=>.fz o | none=>.no)=_;rw[qY (Br oO),qX rfl],hs⟩
  | 5,ha=>cases ha;exact⟨_,rfl,trivial⟩
  | 6,ha=>cases ha;exact⟨_,rfl,trivial⟩
  | i+7,ha=>cases ha
abbrev gm:ME:=CL (D6 1 (G4 (m2 ixA (AA 0) (AA 3))) (tgN 0) (Qr (Lc (m2 gF (m2 da (AA 2) (AA 0)) (mC (.int 1)))) (mB (m2 (inA true) (AA 0) (AA 5)))) (AA 0))
theorem cW{S:Sto}{tN hN sN:Nat}{ξ:List (List Int)}{bits g:Int}{H:HL}{Q:QL}(ht:S[tN]?=some (oL (eT D.int) ξ))(hh:S[hN]?=some (oDK D.int H))(hs:S[sN]?=some (oDK D.bl Q))(oO:hN≠sN)(hg:0<=g/\g < ξ.length)(hT:∀t∈ξ,t.length<=1000/\∀x∈t,0<=x) :
  ∃n S',gm [sR tN,sI bits,sR hN,sI g,sR sN,none,none] S=.ok (.ref n) S'/\Keeps S S'/\S.length<=n/\S'[n]?=some (oL D.int ((Tk ξ g).filter λx=>hb bits x&&!(A5 Q x).isSome)):=by
 obtain⟨F,V⟩:=Xm (bits:=bits) (g:=g) ht hh hs oO;obtain⟨t,e1,-⟩:=OA (l:=ξ) hg.1 hg.2;have tm:=hT t (XQ e1)
 have key:=IN (Hi (enc:=D.int) (eb:=D.int) (A:=[.z (oL (eT D.int) ξ),.v (D.int bits),.w 2 (oDK D.int H),.v (D.int g),.w 4 (oDK D.bl Q),.u,.u]) (VI.k (iO (Nh (DB (v:=ξ) (i:=0) rfl) (BL (v:=g) (i:=3) rfl))))
  (λx=>Zb (dJ (dG (iS (BL (v:=bits) (i:=2) rfl) (BL (v:=x) (i:=0) rfl)) (Kk (v:=1) rfl))) (Ni (PU (BL (v:=x) (i:=0) rfl) (Mu (v:=Q) (i:=5) rfl)))) (λx=>BL (v:=x) (i:=0) rfl))
 simp only[Ab]at key;rw[e1]at key;simp only[Ab]at key
 have ec:FX t (λx=>((dZ bits x).bind λx_1=>some (Gi x_1 1)).bind (λx=>some (x != 0)) |>.bind λb=>if b=true then some (!(A5 Q x).isSome)else some false) (λx=>some x)=some (t.filter λx=>hb bits x&&!(A5 Q x).isSome):=Ma (by omega) λx hx=>by
  rw[show dZ bits x=some (bits / 2 ^ x.toNat)from qX (tm.2 x hx)];show(if (Gi (bits / 2 ^ x.toNat) 1 != 0)=true then _ else _)=_;show(if hb bits x=true then _ else _)=_
  cases hb bits x <;> rfl
 obtain⟨d,S',h1,h2,n,rfl,h3,h4⟩:=key _ ec [] _ F S V;refine⟨n,S',h1,h2,h3,?_⟩;unfold Tk;rw[e1];exact h4
theorem fR{w:List Int}{p:Int->Bool}{i:Nat}{x:Int}(h:∀j,j < i->∀y,w[j]?=some y->p y=false)(hx:w[i]?=some x)(hp:p x=true):w.find? p=some x:=by
 rw[List.find?_eq_some_iff_getElem];obtain⟨hi,e⟩:=AC.mp hx;refine⟨hp,i,hi,e,λj hj=>?_⟩;rw[h j hj _ (BW (by lia))];rfl
theorem fQ{w:List Int}{p:Int->Bool}(h:∀j,j < w.length->∀y,w[j]?=some y->p y=false):w.find? p=none:=by
 rw[Ik];intro x hx hp;obtain⟨i,hi,e⟩:=Ml hx;rw[h i hi x (by rw[BW hi,e])]at hp;cases hp
abbrev e7(tN:Nat)(bits:Int)(hN:Nat)(g:Int)(sN:Nat)(z5 z6:Option D):Lo:=[sR tN,sI bits,sR hN,sI g,sR sN,z5,z6]
abbrev bS1:MS:=sIf (mB (m2 (inA true) (AA 6) (AA 2))) (BD (DL (AA 2) (AA 6) (AA 3)) (Dj (mC (.bl true)))) sNx
abbrev bS2(fr:List D->Sto->Res D):MS:=sIf (mB (m2 (inA true) (AA 6) (AA 4))) (BD (DL (AA 4) (AA 6) (mC (.bl true)))
  (sIf (Lc (BG 5 fr (AF (AA 0) (AF (AA 1) (AF (AA 2) (AF (m2 ixA (AA 2) (AA 6)) (AF (AA 4) Aj))))))) (BD (DL (AA 2) (AA 6) (AA 3)) (Dj (mC (.bl true)))) sNx)) sNx
theorem gu{κv:Type}{enc:κv->D}{l:List (Int×κv)}{S:Sto}{n:Nat}(hn:S[n]?=some (oDK enc l))(x:Int):inA true (.int x) (.ref n) S=.ok (.bl (!(A5 l x).isSome)) S:=by
 rw[V0 (Zu hn) (UU hn x)];simp
theorem mz{κv:Type}{enc:κv->D}{l:List (Int×κv)}{S:Sto}{n:Nat}{x:Int}{v:κv}(hn:S[n]?=some (oDK enc l))(hv:A5 l x=some v):ixA (.ref n) (.int x) S=.ok (enc v) S:=Vz (Zu hn) (by rw[UU hn x,hv];rfl)
theorem Xz(W:Wd){ξ:List (List Int)}{bits:Int}(hT:∀t∈ξ,t.length<=1000/\∀x∈t,0<=x):∀(n:Nat) (H:HL) (g:Int) (Q:QL) (z:Bool×HL×QL),Fx (Tk ξ) bits n H g Q=some z->0<=g/\g < ξ.length->(∀x a,A5 H x=some a->0<=a/\a < ξ.length)->(∀x a,A5 z.2.1 x=some a->0<=a/\a < ξ.length) /\
  ∀(S:Sto) (tN hN sN:Nat),S[tN]?=some (oL (eT D.int) ξ)->S[hN]?=some (oDK D.int H)->S[sN]?=some (oDK D.bl Q)->hN≠sN->∃S',Fn W n [.ref tN,.int bits,.ref hN,.int g,.ref sN] S=.ok (.bl z.1) S'/\S'[hN]?=some (oDK D.int z.2.1)/\S'[sN]?=some (oDK D.bl z.2.2)/\K2 hN sN S S':=by
 intro n
 induction n with
 | zero=>intro H g Q z hz;cases hz
 | succ n ih=>
  intro H g Q z hz hg hG;unfold Fx at hz
  have rC:∀(H:HL) (x:Int),(∀x a,A5 H x=some a->0<=a/\a < ξ.length)->∀y a,A5 (CA H x g) y=some a->0<=a/\a < ξ.length:=λH x hG y a e=>by
   rw[Dq]at e;split at e
   ·cases e;exact hg
   ·exact hG y a e
  have lp:∀(r:List Int) (Hc:HL) (Qc:QL),(∀x a,A5 Hc x=some a->0<=a/\a < ξ.length)->Lw (Fx (Tk ξ) bits n) g r Hc Qc=some z->∀x a,A5 z.2.1 x=some a->0<=a/\a < ξ.length:=by
   intro r
   induction r with
   | nil=>intro Hc Qc hc e;cases e;exact hc
   | cons x r ih2=>
    intro Hc Qc hc e;unfold Lw at e;split at e
    ·exact ih2 Hc Qc hc e
    ·obtain⟨Q1,-,e⟩:=BO e
     obtain⟨g2,e2,e⟩:=BO e;obtain⟨z2,e3,e⟩:=BO e;have:=(ih Hc g2 Q1 z2 e3 (hc x g2 e2) hc).1;split at e
     ·obtain⟨H',e4,e5⟩:=BO e
      cases e5;rw[(LN e4).2];exact rC _ x this
     ·exact ih2 _ _ this e
  refine⟨?_,λS tN hN sN ht hh hs oO=>?_⟩
  ·split at hz
   ·obtain⟨H',e4,e5⟩:=BO hz
    cases e5;rw[(LN e4).2];exact rC _ _ hG
   ·exact lp _ _ _ hG hz
  ·have t1:tN≠hN:=λc=>by rw[c,hh]at ht;cases ht
   have t2:tN≠sN:=λc=>by rw[c,hs]at ht;cases ht
   obtain⟨wN,S1,w1,w2,w3,w4⟩:=cW (bits:=bits) ht hh hs oO hg hT;generalize (Tk ξ g).filter (λx=>hb bits x&&!(A5 Q x).isSome)=w at hz w4
   have wh:wN≠hN:=λc=>zX (B5 hh) (by lia)
   have ws:wN≠sN:=λc=>zX (B5 hs) (by lia)
   have s5:Bc 5 gm (Cm 7 [.ref tN,.int bits,.ref hN,.int g,.ref sN]) S=.ok (.nx (e7 tN bits hN g sN (some (.ref wN)) none)) S1:=Cb (i:=5) w1;have vC:=w2.at hh;have qz:=w2.at hs;have ht1:=w2.at ht;have k1:K2 hN sN S S1:=K2.of w2
   have it:∀z6 S',S'[wN]?=some (oL D.int w)->G4 (AA 5) (e7 tN bits hN g sN (some (.ref wN)) z6) S'=.ok (Fj (.ref wN)) S':=λz6 S' h=>Jc (n:=wN) rfl h
   obtain⟨f,S2,q1,q2⟩:=Gs (v:=Fj (.ref wN)) (g:=tgN 6) (b:=bS1) (xs:=w.map D.int) (e:=e7 tN bits hN g sN (some (.ref wN)) none) (S:=S1)
    (λi e S'=>(∃z6,e=e7 tN bits hN g sN (some (.ref wN)) z6)/\S'=S1/\∀j,j < i->∀y,w[j]?=some y->(!(A5 H y).isSome)=false)
    (λf S'=>((∃z6,f=.nx (e7 tN bits hN g sN (some (.ref wN)) z6))/\S'=S1/\w.find? (λx=>!(A5 H x).isSome)=none)∨∃x,w.find? (λx=>!(A5 H x).isSome)=some x/\f=.rt (.bl true)/\S'=S1.set hN (oDK D.int (CA H x g)))
    ⟨⟨none,rfl⟩,rfl,λj hj=>zX hj (Gc j)⟩ (by rintro i e S' ⟨_,rfl,_⟩;exact FO w4)
    (by
     rintro i d e S' hd ⟨⟨z6,rfl⟩,rfl,pe⟩;rw[AS]at hd
     cases hx:w[i]? with
     | none=>rw[hx]at hd;cases hd
     | some x=>
      rw[hx]at hd;cases hd;refine⟨e7 tN bits hN g sN (some (.ref wN)) (some (.int x)),S',rfl,?_⟩;have qW:mB (m2 (inA true) (AA 6) (AA 2)) (e7 tN bits hN g sN (some (.ref wN)) (some (.int x))) S'=.ok (!(A5 H x).isSome) S':=Es (BF rfl rfl (gu vC x))
      cases c:(A5 H x).isSome with
      | true=>
       rw[c]at qW;refine⟨_,S',(Ck qW).trans rfl,⟨_,rfl⟩,rfl,λj hj y hy=>?_⟩
       by_cases q:j=i
       ·subst q;rw[hx]at hy;cases hy;rw[c];rfl
       ·exact pe j (by lia) y hy
      | false=>
       rw[c]at qW;have hf:w.find? (λx=>!(A5 H x).isSome)=some x:=fR pe hx (by rw[c];rfl);rw[hf]at hz;obtain⟨H',e4,e5⟩:=BO hz;obtain⟨hl,-⟩:=LN e4;have dp:=Se (mo:=AA 2) (mi:=AA 6) (mv:=AA 3) (e:=e7 tN bits hN g sN (some (.ref wN)) (some (.int x))) (k:=x) (v:=g) rfl rfl rfl vC hl
       exact⟨.rt (.bl true),_,(Ck qW).trans ((qX rfl).trans ((A1 dp).trans rfl)),.inr ⟨x,hf,rfl,rfl⟩⟩)
    (by
     rintro e S' ⟨⟨z6,rfl⟩,rfl,pe⟩;rw[AE]at pe
     exact .inl ⟨⟨z6,rfl⟩,rfl,fQ pe⟩)
   have run:∀{S':Sto} {d:D},UY W (Fn W n) (Cm 7 [.ref tN,.int bits,.ref hN,.int g,.ref sN]) S=.ok (.rt d) S'->Fn W (n+1) [.ref tN,.int bits,.ref hN,.int g,.ref sN] S=.ok d S':=λh=>Cz h
   rcases q2 with⟨⟨z6,rfl⟩,rfl,hf⟩ | ⟨x,hf,rfl,rfl⟩
   ·rw[hf]at hz
    dsimp only at hz
    obtain⟨f,S3,p1,p2⟩:=Gs (v:=Fj (.ref wN)) (g:=tgN 6) (b:=bS2 (Fn W n)) (xs:=w.map D.int) (e:=e7 tN bits hN g sN (some (.ref wN)) z6) (S:=S2)
     (λi e S'=>(∃z6,e=e7 tN bits hN g sN (some (.ref wN)) z6)/\S'[wN]?=some (oL D.int w)/\K2 hN sN S S'/\∃Hc Qc,S'[hN]?=some (oDK D.int Hc)/\S'[sN]?=some (oDK D.bl Qc)/\(∀x a,A5 Hc x=some a->0<=a/\a < ξ.length)/\Lw (Fx (Tk ξ) bits n) g (w.drop i) Hc Qc=some z)
     (λf S'=>K2 hN sN S S'/\S'[hN]?=some (oDK D.int z.2.1)/\S'[sN]?=some (oDK D.bl z.2.2)/\((f=.rt (.bl true)/\z.1=true)∨((∃z6,f=.nx (e7 tN bits hN g sN (some (.ref wN)) z6))/\z.1=false)))
     ⟨⟨z6,rfl⟩,w4,k1,H,Q,vC,qz,hG,hz⟩ (by rintro i e S' ⟨_,h,_⟩;exact FO h)
     (by
      rintro i d e S' hd ⟨⟨z6,rfl⟩,a1,a2,Hc,Qc,a3,a4,a5,a6⟩;rw[AS]at hd
      cases hx:w[i]? with
      | none=>rw[hx]at hd;cases hd
      | some x=>
       rw[hx]at hd;cases hd;obtain⟨hi,ex⟩:=AC.mp hx;rw[Fh hi,ex]at a6;unfold Lw at a6;refine⟨e7 tN bits hN g sN (some (.ref wN)) (some (.int x)),S',rfl,?_⟩;have qW:mB (m2 (inA true) (AA 6) (AA 4)) (e7 tN bits hN g sN (some (.ref wN)) (some (.int x))) S'=.ok (!(A5 Qc x).isSome) S':=Es (BF rfl rfl (gu a4 x))
       cases c:(A5 Qc x).isSome with
       | true=>
        rw[c]at qW;rw[qX c]at a6;exact⟨_,S',(Ck qW).trans rfl,⟨_,rfl⟩,a1,a2,Hc,Qc,a3,a4,a5,a6⟩
       | false=>
        rw[c]at qW;rw[qY (by rw[c];exact AL)]at a6;obtain⟨Q1,b1,a7⟩:=BO a6;obtain⟨g2,b2,a8⟩:=BO a7;obtain⟨z2,b3,a9⟩:=BO a8;obtain⟨hl,rfl⟩:=LN b1
        clear a6 a7 a8
        have dp:=Se (enc:=D.bl) (mo:=AA 4) (mi:=AA 6) (mv:=mC (.bl true)) (e:=e7 tN bits hN g sN (some (.ref wN)) (some (.int x))) (k:=x) (v:=true) rfl rfl rfl a4 hl;have hsl:=B5 a4
        have c3:(S'.set sN (oDK D.bl (CA Qc x true)))[hN]?=some (oDK D.int Hc):=by rw[AY (Br oO)];exact a3
        have c4:(S'.set sN (oDK D.bl (CA Qc x true)))[sN]?=some (oDK D.bl (CA Qc x true)):=Am hsl
        have c5:(S'.set sN (oDK D.bl (CA Qc x true)))[tN]?=some (oL (eT D.int) ξ):=by rw[AY (Br t2)];exact a2.at ht t1 t2
        have c1:(S'.set sN (oDK D.bl (CA Qc x true)))[wN]?=some (oL D.int w):=by rw[AY (Br ws)];exact a1
        have c2:=a2.sets (oDK D.bl (CA Qc x true));generalize S'.set sN (oDK D.bl (CA Qc x true))=S4 at dp c1 c2 c3 c4 c5;obtain⟨r1,r2⟩:=ih Hc g2 (CA Qc x true) z2 b3 (a5 x g2 b2) a5;obtain⟨S5,r3,r4,r5,r6⟩:=r2 S4 tN hN sN c5 c3 c4 oO;have arg:AF (AA 0) (AF (AA 1) (AF (AA 2) (AF (m2 ixA (AA 2) (AA 6)) (AF (AA 4) Aj)))) (e7 tN bits hN g sN (some (.ref wN)) (some (.int x))) S4=.ok [.ref tN,.int bits,.ref hN,.int g2,.ref sN] S4:=BH rfl (BH rfl (BH rfl (BH (BF (x:=.ref hN) (y:=.int x) rfl rfl (mz c3 b2)) (BH rfl rfl))))
        have vD:Lc (BG 5 (Fn W n) (AF (AA 0) (AF (AA 1) (AF (AA 2) (AF (m2 ixA (AA 2) (AA 6)) (AF (AA 4) Aj)))))) (e7 tN bits hN g sN (some (.ref wN)) (some (.int x))) S4=.ok z2.1 S5:=by
         unfold Lc;rw[(Bz (n:=5) arg rfl).trans r3];rfl
        have d1:=r6.at c1 wh ws;have d2:=c2.trans r6
        cases hb2:z2.1 with
        | true=>
         rw[hb2]at vD;rw[qX hb2]at a9;obtain⟨H',e4,e5⟩:=BO a9;obtain⟨qI,rfl⟩:=LN e4;cases e5;have dp2:=Se (mo:=AA 2) (mi:=AA 6) (mv:=AA 3) (e:=e7 tN bits hN g sN (some (.ref wN)) (some (.int x))) (k:=x) (v:=g) rfl rfl rfl r4 qI;refine⟨.rt (.bl true),_,(Ck qW).trans ((qX rfl).trans ((A1 dp).trans ((Ck vD).trans ((qX rfl).trans ((A1 dp2).trans rfl))))),d2.seth _,Am (B5 r4),?_,.inl ⟨rfl,rfl⟩⟩;rw[AY oO];exact r5
        | false=>
         rw[hb2]at vD;rw[qY (by rw[hb2];exact AL)]at a9
         exact⟨_,S5,(Ck qW).trans ((qX rfl).trans ((A1 dp).trans ((Ck vD).trans rfl))),⟨_,rfl⟩,d1,d2,z2.2.1,z2.2.2,r4,r5,r1,a9⟩)
     (by
      rintro e S' ⟨⟨z6,rfl⟩,a1,a2,Hc,Qc,a3,a4,a5,a6⟩;rw[AE,List.drop_of_length_le (AN _)]at a6;unfold Lw at a6;cases a6
      exact⟨a2,a3,a4,.inr ⟨⟨z6,rfl⟩,rfl⟩⟩)
    obtain⟨p3,p4,p5,p6⟩:=p2;have l1:=(FI (g:=tgN 6) (b:=bS1) (it none S2 w4)).trans q1;have l2:=(FI (g:=tgN 6) (b:=bS2 (Fn W n)) (it z6 S2 w4)).trans p1
    rcases p6 with⟨rfl,p6⟩ | ⟨⟨z7,rfl⟩,p6⟩
    ·rw[p6]
     exact⟨S3,run ((A1 s5).trans ((A1 l1).trans (MD l2))),p4,p5,p3⟩
    ·rw[p6]
     exact⟨S3,run ((A1 s5).trans ((A1 l1).trans ((A1 l2).trans rfl))),p4,p5,p3⟩
   ·rw[hf]at hz
    obtain⟨H',e4,e5⟩:=BO hz;obtain⟨hl,rfl⟩:=LN e4;cases e5;have l1:=(FI (g:=tgN 6) (b:=bS1) (it none S1 w4)).trans q1;refine⟨_,run ((A1 s5).trans (MD l1)),Am (B5 vC),?_,k1.seth _⟩;rw[AY oO];exact qz
open Classical in
def Tl(ξ:List (List Int))(bits:Int)(n:Nat)(H:HL)(g:Int):Option (Bool×HL×QL):=if (∀t∈ξ,t.length<=1000/\∀x∈t,0<=x)/\(0<=g/\g < ξ.length)/\(∀x a,A5 H x=some a->0<=a/\a < ξ.length)then Fx (Tk ξ) bits n H g []else none
theorem cZ{W:Wd}{ρ:Type}{A:List Sl}{R:Rk ρ}{n i t b k:Nat}{H:HL}{ξ:List (List Int)}{bits g:Int}(hi:A[i]?=some (.w i (oDK D.int H)))(xg:A[t]?=some (.y (oL (eT D.int) ξ)))(hb:A[b]?=some (.v (.int bits)))(hg:A[k]?=some (.v (.int g)))(ht:((A.set i .u).all (Sl.oth i))=true) :
  VS A (B0 (BG 5 (Fn W n) (AF (AA t) (AF (AA b) (AF (AA i) (AF (AA k) (AF Hv Aj))))))) R ((Tl ξ bits n H g).bind λz=>some (.nx z.2.1)) (λH'=>A.set i (.w i (oDK D.int H'))):=λf hf S0 e F S hs=>by
 obtain⟨z,h1,h2⟩:=BO hf;cases h2;unfold Tl at h1;split at h1
 ·rename_i hc
  obtain⟨c1,c2,c3⟩:=hc;obtain⟨x,g1,ni,rfl,g2,g3⟩:=hs.sl i _ hi;obtain⟨x,q1,nt,rfl,q2,q4⟩:=hs.sl t _ xg;obtain⟨x,b1,rfl⟩:=hs.sl b _ hb;obtain⟨x,k1,rfl⟩:=hs.sl k _ hg;have q3:=hs.fz _ _ q2;have hl:=B5 g3;have arg:AF (AA t) (AF (AA b) (AF (AA i) (AF (AA k) (AF Hv Aj)))) e S=.ok [.ref nt,.int bits,.ref ni,.int g,.ref S.length] (S++[.dK []]):=BH (Nj q1) (BH (Nj b1) (BH (Nj g1) (BH (Nj k1) (BH rfl rfl))));have kk:=Keeps.app S [.dK []];obtain⟨r1,r2⟩:=Xz W (bits:=bits) c1 n H g [] z h1 c2 c3;obtain⟨S5,r3,r4,r5,r6⟩:=r2 (S++[.dK []]) nt ni S.length (kk.at q3) (kk.at g3) (Bj _ _) (A0 hl);have hp:=hs.put (o':=oDK D.int z.2.1) ht hi g1 g2
  have hk:Keeps (S.set ni (oDK D.int z.2.1)) S5:=by
   refine⟨by rw[DO];exact Ao kk.1 r6.1,λj hj=>?_⟩;rw[DO]at hj
   by_cases c:j=ni
   ·subst c
    rw[r4,Am hl]
   ·rw[AY (Br c),r6.2 j (AU hj kk.1) c (A0 hj),kk.2 j hj]
  exact⟨_,S5,Di ((Bz (n:=5) arg rfl).trans r3),e,_,rfl,hp.grow hk,hp.fle S5⟩
 ·cases h1
theorem TR(h:S[q]?=some (Fb W w)):HA W S q w.1 w.2:=⟨⟨_,h,rfl,rfl,rfl⟩⟩
structure Wok(w:Nat×List (Int×Int)):Prop where
 hp:w.1<=60
 hnb:∀x:Int,0<=x->x < w.1->∀y∈nbW w.2 x,0<=y/\y < w.1
 hlen:∀x,(nbW w.2 x).length<=1000
 hsym:∀x y:Int,0<=x->0<=y->y∈nbW w.2 x->x∈nbW w.2 y
 hts:∀x∈w.2,(0<=x.1/\x.1 < w.1)/\x.2∈nbW w.2 x.1
 hall:∀a b:Int,0<=a->a < w.1->b∈nbW w.2 a->(a,b)∈w.2∨(b,a)∈w.2
abbrev Lg(w:Nat×List (Int×Int)):List Int:=(A7 w.1).map λx:Nat=>col (nbW w.2) w.1 x
open Classical in
def Cd(w:Nat×List (Int×Int)):Option (List Int):=if Wok w/\Hn (nbW w.2) w.1 (col (nbW w.2) w.1)then some (Lg w)else none
theorem Hj(W:Wd)(w:Nat×List (Int×Int)):VF (C5 W) [.z ((Fb W) w)] (rV (eT D.int)) (Cd w):=λv hv S ds ha=>by
 unfold Cd at hv;split at hv
 ·rename_i hc
  obtain⟨ok,h2⟩:=hc;cases hv
  match ds,ha with
  | [d],⟨⟨q,h1,hq⟩,_⟩=>
   subst h1;obtain⟨o,S',c1,k1,h3⟩:=Zf (TR hq) ok.hp ok.hnb ok.hlen ok.hsym ok.hts ok.hall
   rcases h3 with⟨_,h3⟩ | ⟨rfl,_⟩
   ·exact zX h2 h3
   ·have s1:Bc 1 (BG 1 (He W) (AF (AA 0) Aj)) (Cm 2 [.ref q]) S=oN [sR q,some (E0 (Lg w))] S':=Cb (i:=1) ((Bz (ds:=[.ref q]) (S1:=S) rfl rfl).trans c1)
    refine⟨E0 (Lg w),S',Cz (n:=2) (mb:=C7 W) ?_,k1,rfl⟩;unfold C7;refine(A1 s1).trans ?_;refine Dd (A1 (e1:=[sR q,some (E0 (Lg w))]) (S1:=S') ((Ck (Es (BF (x:=E0 (Lg w)) (y:=.non) (S1:=S') (S2:=S') rfl rfl rfl))).trans rfl)) rfl
 ·cases hv
def Jy(BP:(Nat×List (Int×Int)))(Bv:(List Int)):Option (Fw (List (Int×Int)) Unit):=
 C6 (((((some BP).bind λx2=>some (x2.1:Int)).bind SC).bind λl9=>FX l9 (λx3=>some true) (λx3=>((some BP).bind λx4=>((some x3).bind λx5=>(some ()).bind λx6=>some (x5,x6)).bind λx7=>some (x4,x7)).bind λz8=>MM z8.1 z8.2.1)).bind λrF=>some (.nx rF)) λv1=>C6 ((((some (1:Int)).bind λrG=>((some BP).bind λux=>some (ux.1:Int)).bind λqZ=>Zs rG qZ).bind λuy=>(some (1:Int)).bind λrH=>some (uy - rH)).bind λqr=>some (.nx qr)) λv11=>C6 ((some []).bind λqQ=>some (.nx qQ)) λpE=>C6 (((some Bv).bind λpU=>some (OQ pU)).bind λl31=>KW l31 pE λ(xx:(List (Int×Int))) qj=>Ky (λϪ=>Ϫ) (((some qj.2).bind λqR=>(some (0:Int)).bind λuz=>some (decide (qR=uz))).bind λt9=>if t9=true then Ky (λuA=>uA) ((Tl v1 v11 62 xx qj.1).bind λrJ=>some (.nx rJ.2.1))else some (.nx xx))) λvE=>some (.rt vE)
def GD(BP:(Nat×List (Int×Int)))(Bv:(List Int)):Option (List (Int×Int)):=SF (Jy BP Bv)
theorem Pa(W:Wd)(BP:(Nat×List (Int×Int)))(Bv:(List Int)):VF (KD W) [.z ((Fb W) BP),.v ((eT D.int) Bv)] (rN (oDK D.int)) (GD BP Bv):=by
 refine PR (n:=7) (b:=Mc W) (p:=Jy BP Bv) (B:=λ_=>[]) ?_;show VS [.z ((Fb W) BP),.v ((eT D.int) Bv),.u,.u,.u,.u,.u] _ _ _ _;unfold Mc Jy;exact(Ch (Jt (IN (Hi (VI.k (JS (JT (DB rfl)))) (λx3=>Os) (λx3=>(HW (PZ (DB rfl) (Xo (BL rfl) JA)) (λz8=>Zc W z8.1 z8.2.1) (λ_=>rfl) RK))))) (λv1=>(Ch (MB (U8 (iT (Kk rfl) (JT (DB rfl))) (Kk rfl))) (λv11=>(Ch (LM PV) (λpE=>(Ch (U7 (s0:=pE) (B:=(λ(s33:(List (Int×Int)))=>[.z ((Fb W) BP),.v ((eT D.int) Bv),.y ((oL (eT D.int)) v1),.v (D.int v11),.w 4 ((oDK D.int) s33),.u,.u])) (PQ (BL rfl)) WS (.same (.same (.same (.same (.same (.same (.same .nil))))))) (λxx qj=>(Ju (Q8 (B:=(λ(s30:(List (Int×Int)))=>[.z ((Fb W) BP),.v ((eT D.int) Bv),.y ((oL (eT D.int)) v1),.v (D.int v11),.w 4 ((oDK D.int) s30),.v (D.int qj.1),.v (D.int qj.2)])) (Ni (TZ IH P2 (BL rfl) (Kk rfl))) (Ju (cZ (t:=2) (b:=3) (i:=4) (k:=5) rfl rfl rfl rfl rfl) (λuA=>(.same (.same (.same (.same (.same (.same (.same .nil))))))))) (TU (.same (.same (.same (.same (.same (.same (.same .nil))))))))) (λϪ=>(.same (.same (.same (.same (.same (.drop (.drop .nil))))))))))) (λvE=>(WT rfl)))))))))
def IF(BP:(Nat×List (Int×Int))):Option (Fw (List (Int×Int)) Unit):=
 C6 ((((some BP).bind λx5=>((((some BP).bind λx2=>(some ()).bind λx3=>some (x2,x3)).bind λz4=>Cd z4.1).bind λx6=>(some ()).bind λx7=>some (x6,x7)).bind λx8=>some (x5,x8)).bind λz9=>GD z9.1 z9.2.1).bind λrF=>some (.nx rF)) λv1=>(((some (v1.map (·.1))).bind λl22=>FX l22 (λrK=>some true) (λrK=>((some rK).bind λqZ=>((some v1).bind λl12=>(some rK).bind λrG=>A5 l12 rG).bind λpV=>some (if pV < qZ then pV else qZ)).bind λqQ=>((some rK).bind λqr=>((some v1).bind λl16=>(some rK).bind λrH=>A5 l16 rH).bind λrf=>some (if rf > qr then rf else qr)).bind λpU=>some (qQ,pU))).bind λqj=>some (Km qj)).bind λqR=>some (.rt qR)
def FU(BP:(Nat×List (Int×Int))):Option (List (Int×Int)):=SF (IF BP)
theorem Mw(W:Wd)(BP:(Nat×List (Int×Int))):VF (EV W) [.z ((Fb W) BP)] (rN (oL (eP D.int D.int))) (FU BP):=by
 refine PR (n:=2) (b:=Gw W) (p:=IF BP) (B:=λ_=>[]) ?_;show VS [.z ((Fb W) BP),.u] _ _ _ _;unfold Gw IF;exact(Ch (LM (HW (PZ (DB rfl) (Xo (HW (PZ (DB rfl) JA) (λz4=>Hj W z4.1) (λ_=>rfl) RK) JA)) (λz9=>Pa W z9.1 z9.2.1) (λ_=>rfl) Wn)) (λv1=>(lV 1 rfl rfl (cc (ZV (RB (IN (Hi (VI.k (iP rfl)) (λrK=>Os) (λrK=>(WX (WZ (BL rfl) (RC (Fv rfl) (BL rfl))) (Wa (BL rfl) (RC (Fv rfl) (BL rfl)))))))))))))
def FT(BP:(Nat×List (Int×Int)))(Bv:(List Int))(Fy:(List (Int×Int))):Option (Fw (List (Int×Bool)) Unit):=
 C6 (((some Fy).bind λx2=>some (x2.map (·.2))).bind λx3=>some (.nx x3)) λv1=>C6 ((((some Bv).bind λx5=>some (OQ x5)).bind λl12=>FX l12 (λx6=>((some x6.2).bind λx7=>(some (0:Int)).bind λx8=>some (decide (x7=x8))).bind λrK=>if rK=true then(some x6.1).bind λx9=>(some v1).bind λrF=>some (!decide (x9∈rF))else some false) (λx6=>some x6.1)).bind λrG=>some (.nx rG)) λv4=>C6 ((some []).bind λpV=>some (.nx pV)) λxy=>C6 (whF (λ(qk:(List Int)×(List (Int×Bool)))=>(some qk.1).bind λqr=>some (!qr.isEmpty)) (λ(qk:(List Int)×(List (Int×Bool)))=>C6 ((YE qk.1).bind λqQ=>some (.nx qQ)) λpE=>Ky (λtI=>(tI.2,tI.1)) (((some pE.1).bind λpU=>(some qk.2).bind λuB=>some (!(A5 uB pU).isSome)).bind λxA=>if xA=true then C6 ((some true).bind λqR=>(some pE.1).bind λuz=>(M4 qk.2 uz qR).bind λl26=>some (.nx l26)) λuC=>Ky (λvF=>(uC,vF)) ((((some Bv).bind λxB=>(some pE.1).bind λxC=>atI xB xC).bind λrJ=>(some (0:Int)).bind λt9=>some (decide (rJ=t9))).bind λrL=>if rL=true then Ky (λvG=>vG) ((((some BP).bind λxD=>((some pE.1).bind λrM=>(some ()).bind λuD=>some (rM,uD)).bind λxE=>some (xD,xE)).bind λuE=>MM uE.1 uE.2.1).bind λuF=>(UP pE.2 uF).bind λxF=>some (.nx xF))else Ky (λvH=>vH) (((some Fy).bind λl42=>(some pE.1).bind λtf=>A5 l42 tf).bind λuG=>(V5 pE.2 uG).bind λxG=>some (.nx xG)))else some (.nx (qk.2,pE.2)))) wN (v4,xy)) λϫ=>some (.rt ϫ.2)
def EE(BP:(Nat×List (Int×Int)))(Bv:(List Int))(Fy:(List (Int×Int))):Option (List (Int×Bool)):=SF (FT BP Bv Fy)
theorem Nk(W:Wd)(BP:(Nat×List (Int×Int)))(Bv:(List Int))(Fy:(List (Int×Int))):VF (HN W) [.z ((Fb W) BP),.v ((eT D.int) Bv),.z ((oDK D.int) Fy)] (rN (oDK D.bl)) (EE BP Bv Fy):=by
 refine PR (n:=7) (b:=HQ W) (p:=FT BP Bv Fy) (B:=λ_=>[]) ?_;show VS [.z ((Fb W) BP),.v ((eT D.int) Bv),.z ((oDK D.int) Fy),.u,.u,.u,.u] _ _ _ _;unfold HQ FT;exact(Ch (Jt (TX (DB rfl))) (λv1=>(Ch (LM (IN (TV (VI.k (PQ (BL rfl))) (λx6=>(Zb (Ni (TZ IH P2 (BL rfl) (Kk rfl))) (Ni (WY IH (BL rfl) (Fv rfl))))) (λx6=>(BL rfl))))) (λv4=>(Ch (LM PV) (λxy=>(Ch (ZO (s0:=(v4,xy)) (B:=(λ(qS:(List Int)×(List (Int×Bool)))=>[.z ((Fb W) BP),.v ((eT D.int) Bv),.z ((oDK D.int) Fy),.y ((oL D.int) v1),.w 4 ((oL D.int) qS.1),.w 5 ((oDK D.bl) qS.2),.u])) (.same (.same (.same (.same (.same (.same (.same .nil))))))) (λqk=>(dH (Mu rfl))) (λqk=>(Ch (cj (i:=4) rfl (by decide) rfl) (λpE=>(Ju (Q8 (B:=(λ(Ϭ:(List (Int×Bool))×(List Int))=>[.z ((Fb W) BP),.v ((eT D.int) Bv),.z ((oDK D.int) Fy),.y ((oL D.int) v1),.w 4 ((oL D.int) Ϭ.2),.w 5 ((oDK D.bl) Ϭ.1),.v (D.int pE.1)])) (Ni (PU (BL rfl) (Mu rfl))) (Ch (PJ rfl (BL rfl) (Kk rfl) rfl) (λuC=>(Ju (Q8 (B:=(λ(s46:(List Int))=>[.z ((Fb W) BP),.v ((eT D.int) Bv),.z ((oDK D.int) Fy),.y ((oL D.int) v1),.w 4 ((oL D.int) s46),.w 5 ((oDK D.bl) uC),.v (D.int pE.1)])) (Ni (TZ IH P2 (ZX (BL rfl) (BL rfl)) (Kk rfl))) (Ju (cp rfl (HW (PZ (DB rfl) (Xo (BL rfl) JA)) (λuE=>Zc W uE.1 uE.2.1) (λ_=>rfl) RK) rfl) (λvG=>(.same (.same (.same (.same (.same (.same (.same .nil))))))))) (Ju (ZS rfl (ZY (DB rfl) (BL rfl)) rfl) (λvH=>(.same (.same (.same (.same (.same (.same (.same .nil)))))))))) (λvF=>(.same (.same (.same (.same (.same (.same (.same .nil))))))))))) (TU (.same (.same (.same (.same (.same (.same (.same .nil))))))))) (λtI=>(.same (.same (.same (.same (.same (.same (.drop .nil))))))))))))) (λϫ=>(WT rfl)))))))))
def HY(BP:(Nat×List (Int×Int))):Option (Fw (List Int) Unit):=
 C6 ((((some BP).bind λx2=>(some ()).bind λx3=>some (x2,x3)).bind λz4=>Cd z4.1).bind λx5=>some (.nx x5)) λv1=>C6 ((((some BP).bind λux=>((some v1).bind λrG=>((((some BP).bind λx7=>((some v1).bind λx8=>(some ()).bind λx9=>some (x8,x9)).bind λrF=>some (x7,rF)).bind λuH=>GD uH.1 uH.2.1).bind λqZ=>(some ()).bind λpV=>some (qZ,pV)).bind λuy=>some (rG,uy)).bind λrH=>some (ux,rH)).bind λti=>EE ti.1 ti.2.1 ti.2.2.1).bind λrf=>some (.nx rf)) λv6=>(((some v1).bind λqQ=>some (OQ qQ)).bind λl28=>FX l28 (λpU=>((some pU.1).bind λqR=>(some v6).bind λuz=>some ((A5 uz qR).isSome)).bind λuB=>((some pU.2).bind λuI=>(some (1:Int)).bind λrJ=>some (decide (uI=rJ))).bind λqj=>some (decide (uB=qj))) (λpU=>some pU.1)).bind λx29=>some (.rt x29)
def Ej(BP:(Nat×List (Int×Int))):Option (List Int):=SF (HY BP)
theorem Lm(W:Wd)(BP:(Nat×List (Int×Int))):VF (DW W) [.z ((Fb W) BP)] (rV (eT D.int)) (Ej BP):=by
 refine PR (n:=3) (b:=Fs W) (p:=HY BP) (B:=λ_=>[]) ?_;show VS [.z ((Fb W) BP),.u,.u] _ _ _ _;unfold Fs HY;exact(Ch (MB (HW (PZ (DB rfl) JA) (λz4=>Hj W z4.1) (λ_=>rfl) RK)) (λv1=>(Ch (Jt (HW (PZ (DB rfl) (Xo (BL rfl) (PZ (RB (HW (PZ (DB rfl) (Xo (BL rfl) JA)) (λuH=>Pa W uH.1 uH.2.1) (λ_=>rfl) Wn)) JA))) (λti=>Nk W ti.1 ti.2.1 ti.2.2.1) (λ_=>rfl) Wn)) (λv6=>(ZR (RA (RB (IN (TV (VI.k (PQ (BL rfl))) (λpU=>(Ni (TZ kU mV (dE (BL rfl) (Fv rfl)) (TZ IH P2 (BL rfl) (Kk rfl))))) (λpU=>(BL rfl)))))))))))
def Ev(BP:(Nat×List (Int×Int))):Option (Fw ((List Int)×(List (List Int))) Unit):=
 C6 ((((some BP).bind λx2=>(some ()).bind λx3=>some (x2,x3)).bind λz4=>Ej z4.1).bind λx5=>some (.nx x5)) λv1=>C6 (((((some BP).bind λx7=>some (x7.1:Int)).bind SC).bind λl11=>FX l11 (λx8=>(some x8).bind λx9=>(some v1).bind λrF=>some (!decide (x9∈rF))) (λx8=>some x8)).bind λux=>some (.nx ux)) λv6=>C6 ((((some BP).bind λqZ=>(some ()).bind λpV=>some (qZ,pV)).bind λxH=>FU xH.1).bind λrH=>some (.nx rH)) λvI=>C6 ((some []).bind λrf=>some (.nx rf)) λxI=>C6 ((some vI).bind λl30=>KW l30 xI λ(ϭ:(List (Int×Bool))) pU=>C6 ((some true).bind λqj=>(some pU.1).bind λqR=>(M4 ϭ qR qj).bind λl25=>some (.nx l25)) λϮ=>Ky (λuA=>uA) ((some true).bind λrJ=>(some pU.2).bind λt9=>(M4 Ϯ t9 rJ).bind λxB=>some (.nx xB))) λϯ=>C6 (((((some BP).bind λxD=>some (xD.1:Int)).bind SC).bind λl40=>FX l40 (λrM=>(some rM).bind λuD=>(some ϯ).bind λxE=>some (!(A5 xE uD).isSome)) (λrM=>((some rM).bind λrQ=>(some []).bind λl39=>some (rQ :: l39)).bind fS)).bind λxJ=>some (.nx xJ)) λϰ=>(some v6).bind λxK=>((((some vI).bind λrL=>some (rL.map Kp)).bind λxM=>(some ϰ).bind λtf=>UP xM tf).bind R4).bind λx46=>some (.rt (xK,x46))
def Go(BP:(Nat×List (Int×Int))):Option ((List Int)×(List (List Int))):=SF (Ev BP)
theorem Mx(W:Wd)(BP:(Nat×List (Int×Int))):VF (DH W) [.z ((Fb W) BP)] (rP (eT D.int) (oL (eT D.int))) (Go BP):=by
 refine PR (n:=8) (b:=Dv W) (p:=Ev BP) (B:=λ_=>[]) ?_;show VS [.z ((Fb W) BP),.u,.u,.u,.u,.u,.u,.u] _ _ _ _;unfold Dv Ev;exact(Ch (MB (HW (PZ (DB rfl) JA) (λz4=>Lm W z4.1) (λ_=>rfl) RK)) (λv1=>(Ch (MB (RA (RB (IN (Hi (VI.k (JS (JT (DB rfl)))) (λx8=>(Ni (dA IH (BL rfl) (BL rfl)))) (λx8=>(BL rfl))))))) (λv6=>(Ch (Jt (HW (PZ (DB rfl) JA) (λxH=>Mw W xH.1) (λ_=>rfl) Wn)) (λvI=>(Ch (LM PV) (λxI=>(Ch (U7 (s0:=xI) (B:=(λ(vE:(List (Int×Bool)))=>[.z ((Fb W) BP),.v ((eT D.int) v1),.v ((eT D.int) v6),.y ((oL (eP D.int D.int)) vI),.w 4 ((oDK D.bl) vE),.u,.u,.u])) (c8 rfl) WS (.same (.same (.same (.same (.same (.same (.same (.same .nil)))))))) (λϭ pU=>(Ch (PJ rfl (BL rfl) (Kk rfl) rfl) (λϮ=>(Ju (PJ rfl (BL rfl) (Kk rfl) rfl) (λuA=>(.same (.same (.same (.same (.same (.drop (.drop (.same .nil)))))))))))))) (λϯ=>(Ch (Jt (IN (Hi (VI.k (JS (JT (DB rfl)))) (λrM=>(Ni (PU (BL rfl) (Mu rfl)))) (λrM=>(iR (cz (BL rfl) iN)))))) (λϰ=>(cb (BL rfl) (ZU (RB (dF (Xn (Fv rfl)) (Fv rfl)))))))))))))))))
def Ha(Gz:Int)(Ib:(List (Int×Int)))(HR:Int):Option (Fw (Option (List (Int×Int))) Unit):=
 C6 (((some (3:Int)).bind λx4=>(((some HR).bind λx2=>some (x2 % 3)).bind λx3=>some (x3 * 2)).bind λx5=>some (x4+x5)).bind λx6=>some (.nx x6)) λv1=>C6 (((some Gz).bind λx7=>(some v1).bind λx8=>some (decide (x7 < x8))).bind λx9=>if x9=true then some (.rt none)else some (.nx ())) λ_=>C6 ((((some (1:Int)).bind λrG=>(some Gz).bind λqZ=>X8 rG qZ).bind λl27=>FX l27 (λpV=>(((some (1:Int)).bind λuy=>(some v1).bind λrH=>X8 uy rH).bind λl25=>FX l25 (λqr=>some true) (λqr=>(((some pV).bind λpU=>(some qr).bind λuB=>Vj pU uB).bind λqj=>(some Gz).bind λqR=>T6 qj qR).bind λrf=>(some (0:Int)).bind λqQ=>some (!decide (rf=qQ)))).bind λuI=>some (uI.all id)) (λpV=>some pV)).bind λt9=>some (.nx t9)) λuJ=>C6 (((some uJ).bind λl34=>(((some HR).bind λxC=>some (xC / 3)).bind λuF=>((some uJ).bind λx31=>some (x31.length:Int)).bind λx33=>T6 uF x33).bind λrM=>atI l34 rM).bind λuD=>some (.nx uD)) λvJ=>C6 ((((some v1).bind SC).bind λl46=>FX l46 (λrQ=>some true) (λrQ=>(((some HR).bind λx39=>some (x39 / 40)).bind λxM=>((some vJ).bind λuG=>(some rQ).bind λxJ=>Vj uG xJ).bind λtf=>some (xM+tf)).bind λrL=>(some Gz).bind λxK=>T6 rL xK)).bind λxA=>some (.nx xA)) λtj=>C6 ((some Ib).bind λx49=>some (.nx x49)) λxN=>C6 (((some v1).bind SC).bind λl82=>KW l82 xN λ(qS:(List (Int×Int))) qT=>C6 (((((some tj).bind λl56=>((some qT).bind λx54=>(some (1:Int)).bind λx55=>some (x54 - x55)).bind λx57=>atI l56 x57).bind λuK=>((some tj).bind λl58=>(some qT).bind λx59=>atI l58 x59).bind λuL=>some (if uL < uK then uL else uK)).bind λxO=>(((some tj).bind λl65=>((some qT).bind λx63=>(some (1:Int)).bind λx64=>some (x63 - x64)).bind λx66=>atI l65 x66).bind λuM=>((some tj).bind λl67=>(some qT).bind λx68=>atI l67 x68).bind λuN=>some (if uN > uM then uN else uM)).bind λxP=>some (xO,xP)).bind λxQ=>some (.nx xQ)) λtq=>Ky (λvK=>vK) (((some tq).bind λx74=>(some qS).bind λx75=>some (!inG x74 x75)).bind λx79=>if x79=true then Ky (λvL=>vL) ((some tq).bind λx77=>(V5 qS x77).bind λxR=>some (.nx xR))else some (.nx qS))) λϱ=>some (.rt (some ϱ))
def Hb(Gz:Int)(Ib:(List (Int×Int)))(HR:Int):Option (Option (List (Int×Int))):=SF (Ha Gz Ib HR)
theorem Ln(W:Wd)(Gz:Int)(Ib:(List (Int×Int)))(HR:Int):VF (JH W) [.v (D.int Gz),.z ((oL (eP D.int D.int)) Ib),.v (D.int HR)] (rOL (oL (eP D.int D.int))) (Hb Gz Ib HR):=by
 refine PR (n:=10) (b:=JK W) (p:=Ha Gz Ib HR) (B:=λ_=>[]) ?_;show VS [.v (D.int Gz),.z ((oL (eP D.int D.int)) Ib),.v (D.int HR),.u,.u,.u,.u,.u,.u,.u] _ _ _ _;unfold JK Ha;exact(Ch (MB (Za (Kk rfl) (dB rfl (dC rfl (BL rfl))))) (λv1=>(Ch (Q8 (B:=(λ(_:Unit)=>[.v (D.int Gz),.z ((oL (eP D.int D.int)) Ib),.v (D.int HR),.v (D.int v1),.u,.u,.u,.u,.u,.u])) (Ni (lX (BL rfl) (BL rfl))) ZP (TU (.same (.same (.same (.same (.same (.same (.same (.same (.same (.same .nil)))))))))))) (λ_=>(Ch (Jt (IN (Hi (VI.k (Q9 (Kk rfl) (BL rfl))) (λpV=>(Ni (iV (WU (RB (IN (Hi (VI.k (Q9 (Kk rfl) (BL rfl))) (λqr=>Os) (λqr=>(lW IH P2 (VC (ZW (BL rfl) (BL rfl)) (BL rfl)) (Kk rfl)))))))))) (λpV=>(BL rfl))))) (λuJ=>(Ch (MB (Nh (Fv rfl) (VC (TY rfl (BL rfl)) (dD (Fv rfl))))) (λvJ=>(Ch (Jt (IN (Hi (VI.k (JS (BL rfl))) (λrQ=>Os) (λrQ=>(VC (Za (TY rfl (BL rfl)) (ZW (BL rfl) (BL rfl))) (BL rfl)))))) (λtj=>(Ch (LM (IN (cx (WU (DB rfl))))) (λxN=>(Ch (U7 (s0:=xN) (B:=(λ(s84:(List (Int×Int)))=>[.v (D.int Gz),.z ((oL (eP D.int D.int)) Ib),.v (D.int HR),.v (D.int v1),.y ((oL D.int) uJ),.v (D.int vJ),.y ((oL D.int) tj),.w 7 ((oL (eP D.int D.int)) s84),.u,.u])) (JS (BL rfl)) cY (.same (.same (.same (.same (.same (.same (.same (.same (.same (.same .nil)))))))))) (λqS qT=>(Ch (MB (WX (WZ (Nh (Fv rfl) (U8 (BL rfl) (Kk rfl))) (Nh (Fv rfl) (BL rfl))) (Wa (Nh (Fv rfl) (U8 (BL rfl) (Kk rfl))) (Nh (Fv rfl) (BL rfl))))) (λtq=>(Ju (Q8 (B:=(λ(s81:(List (Int×Int)))=>[.v (D.int Gz),.z ((oL (eP D.int D.int)) Ib),.v (D.int HR),.v (D.int v1),.y ((oL D.int) uJ),.v (D.int vJ),.y ((oL D.int) tj),.w 7 ((oL (eP D.int D.int)) s81),.v (D.int qT),.v ((eP D.int D.int) tq)])) (Ni (WY (bY IH IH) (BL rfl) (Mu rfl))) (Ju (ZS rfl (BL rfl) rfl) (λvL=>(.same (.same (.same (.same (.same (.same (.same (.same (.same (.same .nil)))))))))))) (TU (.same (.same (.same (.same (.same (.same (.same (.same (.same (.same .nil)))))))))))) (λvK=>(.same (.same (.same (.same (.same (.same (.same (.same (.drop (.drop .nil)))))))))))))))) (λϱ=>(ZQ rfl)))))))))))))))
theorem j7:∀o:Nat,o < 61->∀x:Nat,x < o->hb (1 * 2 ^ o - 1) (x:Int)=true:=by decide +kernel
theorem mS{G Z:List Int}{f:Int->Int}(hG:G.Nodup)(hZ:Z.Nodup)(hl:G.length=Z.length)(hf:∀a∈G,f a∈Z)(hi:∀a∈G,∀b∈G,f a=f b->a=b):∀y∈Z,∃a∈G,f a=y:=by
 intro y hy
 by_cases c:y∈G.map f
 ·obtain⟨a,h1,h2⟩:=An.mp c
  exact⟨a,h1,h2⟩
 ·have nd:(y :: G.map f).Nodup:=CK.mpr ⟨c,nd_map hG hi⟩
  have:=P5 nd (k:=Z) λx hx=>by
   rcases At.mp hx with rfl | hx
   ·exact hy
   ·obtain⟨a,h1,rfl⟩:=An.mp hx
    exact hf a h1
  rw[A8,AE]at this
  lia
where
 nd_map {G:List Int} {f:Int->Int} (hG:G.Nodup) (hi:∀a∈G,∀b∈G,f a=f b->a=b):(G.map f).Nodup:=by
  unfold Q5;rw[CQ];exact IE (λ{a b} ha hb h e=>h (hi a ha b hb e)) hG
section
variable{nb:Int->List Int}{p:Nat}
abbrev U(p:Nat):List Int:=(A7 p).map λx:Nat=>(x:Int)
theorem NE:x∈U p↔0<=x/\x < p:=by
 rw[An]
 constructor
 ·rintro⟨n,h,rfl⟩
  have:=DA.mp h
  lia
 ·rintro⟨h1,h2⟩
  exact⟨x.toNat,DA.mpr (by lia),by lia⟩
def Hz(nb:Int->List Int)(H:HL)(Z:List Int):Prop:=Z.Nodup/\∀y∈Z,∃a,A5 H y=some a/\∀x∈nb a,x∈Z
structure Mt(nb:Int->List Int)(p:Nat)(c:Int->Int)(H:HL):Prop where
 ko:KOk (U p) H
 gd:∀x a,A5 H x=some a->(0<=a/\a < p)/\c a=0
 on:∀x a,A5 H x=some a->x∈nb a
 inj:∀x y a,A5 H x=some a->A5 H y=some a->x=y
theorem bI{c:Int->Int}{H H':HL}(m:Mt nb p c H)(m':Mt nb p c H')(hg:∀x a,A5 H x=some a->∃y,A5 H' y=some a){Z:List Int}(h:Hz nb H Z):Hz nb H' Z:=by
 refine⟨h.1,?_⟩
 have h1:∀y:Int,∃a:Int,y∈Z->A5 H y=some a/\∀x∈nb a,x∈Z:=λy=>by
  by_cases c:y∈Z
  ·obtain⟨a,h1⟩:=h.2 y c
   exact⟨a,λ_=>h1⟩
  ·exact⟨0,λz=>zX z c⟩
 have⟨g,xS⟩:=QX h1
 have h2:∀a:Int,∃y:Int,(∃x,A5 H x=some a)->A5 H' y=some a:=λa=>by
  by_cases c:∃x,A5 H x=some a
  ·obtain⟨x,hx⟩:=c
   obtain⟨y,hy⟩:=hg x a hx;exact⟨y,λ_=>hy⟩
  ·exact⟨0,λz=>zX z c⟩
 have⟨f,hf⟩:=QX h2
 have hG:(Z.map g).Nodup:=mS.nd_map h.1 λa ha b hb e=>by
  have e1:=(xS a ha).1;have e2:=(xS b hb).1;rw[e]at e1;exact m.inj a b _ e1 e2
 have mem:∀a∈Z.map g,∃x∈Z,A5 H x=some a/\∀y∈nb a,y∈Z:=λa ha=>by
  obtain⟨x,hx,rfl⟩:=An.mp ha;exact⟨x,hx,xS x hx⟩
 have key:=mS (G:=Z.map g) (Z:=Z) (f:=f) hG h.1 (AE _) (λa ha=>by
  obtain⟨x,hx,e,k⟩:=mem a ha
  exact k _ (m'.on _ _ (hf a ⟨x,e⟩))) (λa ha b hb e=>by
  obtain⟨x,hx,e1,_⟩:=mem a ha;obtain⟨y,hy,e2,_⟩:=mem b hb;have f1:=hf a ⟨x,e1⟩;have f2:=hf b ⟨y,e2⟩;rw[e,f2]at f1
  exact(CC f1).symm)
 intro y hy;obtain⟨a,ha,e⟩:=key y hy;obtain⟨x,hx,e1,k⟩:=mem a ha;refine⟨a,?_,k⟩;rw[<-e];exact hf a ⟨x,e1⟩
theorem Ti{c:Int->Int}{T:Int->List Int}{bits:Int}(hp:p<=60)(hT:∀g:Int,0<=g->g < p->T g=nb g)(pe:∀x:Int,0<=x->x < p->hb bits x=true)(hnb:∀x:Int,0<=x->x < p->∀y∈nb x,0<=y/\y < p){H:HL}(m:Mt nb p c H){g:Int}(hg:(0<=g/\g < p)/\c g=0)(hn:∀x,A5 H x≠some g) :
  Ok (Fx T bits 62 H g []) λz=>Mt nb p c z.2.1/\((∀a,(∃x,A5 z.2.1 x=some a)↔a=g∨∃x,A5 H x=some a)∨(z.2.1=H/\∃Z,Hz nb H Z/\∀x∈nb g,x∈Z)):=by
 have vM:∀a:Int,0<=a->a < p->w0 T bits a=nb a:=λa h0 h1=>by
  unfold w0;rw[hT a h0 h1]
  exact Xh.mpr λx hx=>pe x (hnb a h0 h1 x hx).1 (hnb a h0 h1 x hx).2
 have tJ:∀x,¬sn ([]:QL) x:=λx h=>by cases h
 refine(Tj (T:=T) (bits:=bits) (U:=U p) (Gd:=λa=>(0<=a/\a < p)/\c a=0) (λa ha x hx=>?_) (by simp;lia) 62 H g [] m.ko SL m.gd hg (by simp;lia)).imp λz hz=>?_
 ·rw[hT a ha.1.1 ha.1.2]at hx
  exact NE.mpr (hnb a ha.1.1 ha.1.2 x hx)
 ·cases hb2:z.1 with
  | true=>
   obtain⟨_,g2⟩:=hz.h6 hb2
   obtain⟨⟨m1,m2⟩,m3⟩:=g2 ⟨λx _ a e=>by rw[vM a (m.gd x a e).1.1 (m.gd x a e).1.2];exact m.on x a e,λx y a _ _ e1 e2=>m.inj x y a e1 e2⟩ λx _=>hn x
   refine⟨⟨hz.h1,hz.h3,λx a e=>?_,λx y a e1 e2=>m2 x y a (tJ x) (tJ y) e1 e2⟩,.inl λa=>?_⟩
   ·have:=m1 x (tJ x) a e
    rwa [vM a (hz.h3 x a e).1.1 (hz.h3 x a e).1.2]at this
   ·have:=m3 a
    exact⟨λ⟨x,e⟩=>(this.mp ⟨x,tJ x,e⟩).imp id λ⟨x,_,e⟩=>⟨x,e⟩,λh=>by
     obtain⟨x,_,e⟩:=this.mpr (h.imp id λ⟨x,e⟩=>⟨x,tJ x,e⟩)
     exact⟨x,e⟩⟩
  | false=>
   obtain⟨h1,h2,h3⟩:=hz.h5 hb2;refine⟨by rw[h1];exact m,.inr ⟨h1,z.2.2.map (·.1),⟨hz.h2.nd,λy hy=>?_⟩,λx hx=>?_⟩⟩
   ·rcases h3 y ((IP _ _).mpr hy)with h | ⟨a,e,k⟩
    ·exact zX h (tJ y)
    ·refine⟨a,e,λx hx=>(IP _ _).mp (k x ?_)⟩
     rw[vM a (m.gd y a e).1.1 (m.gd y a e).1.2];exact hx
   ·refine(IP _ _).mp (h2 x ?_)
    rw[vM g hg.1.1 hg.1.2];exact hx
end
theorem MZ{β:Type}(p:Nat)(f:Nat->β):OQ ((A7 p).map f)=(A7 p).map λx:Nat=>((x:Int),f x):=by
 apply D5
 intro i;unfold OQ;rw[AS,WM,AS,AS]
 by_cases h:i < p
 ·rw[BU h]
  simp
 ·rw[Bl (by simpa using h)]
  rfl
theorem Pp(p:Nat):JB 0 p=U p:=by
 unfold JB U
 refine CO λx _=>?_
 simp
section
variable{w:Nat×List (Int×Int)}
theorem aU{x:Int}(h0:0<=x)(h1:x < w.1):MM w x=some (nbW w.2 x):=by
 have r:Ex w x=some ():=by
  unfold Ex Eu;simp[h0,h1];rfl
 have hl:(Kt w.1 w.2).length=w.1:=by unfold Kt;simp
 obtain⟨y,e1,e2⟩:=OA (l:=Kt w.1 w.2) (i:=x) h0 (by rw[hl];exact h1)
 have e3:y=nbW w.2 x:=by
  unfold Kt at e2;rw[AS,BU (by lia)]at e2;exact(CC e2).symm
 unfold MM SD;simp only[Ab,r,Ci,e1,e3];rfl
abbrev cw(w:Nat×List (Int×Int)):Int->Int:=col (nbW w.2) w.1
theorem dP(hp:w.1<=60):(((some w).bind λx2=>some (x2.1:Int)).bind SC).bind (λl9=>FX l9 (λx3=>some true) (λx3=>((some w).bind λx4=>((some x3).bind λx5=>(some ()).bind λx6=>some (x5,x6)).bind λx7=>some (x4,x7)).bind λz8=>MM z8.1 z8.2.1))=some ((U w.1).map (nbW w.2)):=by
 simp only[Ab];rw[SB (by lia) (by lia)];simp only[Ab];rw[Bk,Pp,LV (f:=nbW w.2) (by simp;lia) λx hx=>aU (NE.mp hx).1 (NE.mp hx).2]
theorem Tk_p{x:Int}(h0:0<=x)(h1:x < w.1):Tk ((U w.1).map (nbW w.2)) x=nbW w.2 x:=by
 have hl:((U w.1).map (nbW w.2)).length=w.1:=by simp
 obtain⟨y,e1,e2⟩:=OA (l:=(U w.1).map (nbW w.2)) (i:=x) h0 (by rw[hl];exact h1);unfold Tk;rw[e1];rw[AS,AS,BU (by lia)]at e2;have:nbW w.2 ((x.toNat:Nat):Int)=y:=CC e2;rw[BQ h0]at this;exact this.symm
def WA(w:Nat×List (Int×Int))(H:HL)(g:Int):Prop:=(∃x,A5 H x=some g)∨∃Z,Hz (nbW w.2) H Z/\∀x∈nbW w.2 g,x∈Z
theorem Vc(ok:Wok w):Ok (GD w (Lg w)) λH=>Mt (nbW w.2) w.1 (cw w) H/\∀g:Int,0<=g->g < w.1->cw w g=0->WA w H g:=by
 unfold GD Jy;rw[dP ok.hp];simp only[Ab,Ci]
 have wA:Zs 1 (w.1:Int)=some (1 * 2 ^ w.1):=by
  have hc:b0 1 (w.1:Int):=⟨by lia,by have:=ok.hp;lia,by decide⟩;unfold Zs;rw[qX hc,Bk]
 rw[wA];simp only[Ab,Ci];rw[MZ]
 have pe:∀x:Int,0<=x->x < w.1->hb (1 * 2 ^ w.1 - 1) x=true:=λx h0 h1=>by
  have:=j7 w.1 (by have:=ok.hp;lia) x.toNat (by lia);rwa [BQ h0]at this
 have nd1:((A7 w.1).map λx:Nat=>((x:Int),col (nbW w.2) w.1 x)).map (·.1)=U w.1:=by
  rw[A2];rfl
 have ndU:(U w.1).Nodup:=by
  unfold U Q5;rw[CQ]
  exact(List.nodup_range (n:=w.1)).imp λh e=>h (by lia)
 refine OkF.out (OkF.seq (OkF.for (λpre H=>Mt (nbW w.2) w.1 (cw w) H/\(∀x a,A5 H x=some a->a∈pre.map (·.1))/\∀z∈pre,z.2=0->WA w H z.1) ?_ ?_) ?_)
 ·exact⟨⟨SL,λx a e=>(nomatch e),λx a e=>(nomatch e),λx y a e=>(nomatch e)⟩,λx a e=>(nomatch e),λz hz=>(nomatch hz)⟩
 ·intro pre z H hz pX ⟨m,h1,h2⟩
  obtain⟨n,hn,e⟩:=An.mp hz;have hnp:=DA.mp hn
  have ez:z.2=cw w z.1:=by rw[<-e]
  have vA:0<=z.1/\z.1 < w.1:=by rw[<-e];dsimp only;lia
  have sr:z.1∉pre.map (·.1):=λhm=>by
   have h3:((pre++[z]).map (·.1)) <+: U w.1:=by rw[<-nd1];exact pX.map _
   have h4:=h3.sublist.nodup ndU;rw[A9,CS]at h4;exact h4.2.2 z.1 hm z.1 (by simp) rfl
  have qA:∀H':HL,Mt (nbW w.2) w.1 (cw w) H'->(∀x a,A5 H x=some a->∃y,A5 H' y=some a)->∀g,WA w H g->WA w H' g:=λH' m' hg g h=>by
   rcases h with⟨x,e⟩ | ⟨Z,hZ,k⟩
   ·exact .inl (hg x g e)
   ·exact .inr ⟨Z,bI m m' hg hZ,k⟩
  refine OkF.map (N:=λH'=>Mt (nbW w.2) w.1 (cw w) H'/\(∀x a,A5 H' x=some a->a∈(pre++[z]).map (·.1))/\∀y∈pre++[z],y.2=0->WA w H' y.1) ?_ λ_ h=>h
  refine OkF.ite (λc=>?_) λc=>?_
  ·have c0:z.2=0:=of_decide_eq_true c
   have hsz:Tl ((U w.1).map (nbW w.2)) (1 * 2 ^ w.1 - 1) 62 H z.1=Fx (Tk ((U w.1).map (nbW w.2))) (1 * 2 ^ w.1 - 1) 62 H z.1 []:=by
    unfold Tl;refine qX ⟨λt ht=>?_,⟨vA.1,by simp;exact vA.2⟩,λx a e=>by simp;exact(m.gd x a e).1⟩;obtain⟨x,hx,rfl⟩:=An.mp ht;obtain⟨x0,x1⟩:=NE.mp hx;exact⟨ok.hlen x,λy hy=>(ok.hnb x x0 x1 y hy).1⟩
   rw[hsz]
   refine OkF.map (N:=λH'=>Mt (nbW w.2) w.1 (cw w) H'/\(∀x a,A5 H' x=some a->a∈(pre++[z]).map (·.1))/\∀y∈pre++[z],y.2=0->WA w H' y.1) ?_ λ_ h=>h
   refine OkF.of (Ti ok.hp (λg=>Tk_p) pe ok.hnb m ⟨vA,by rw[<-ez];exact c0⟩ λx e=>sr (h1 x z.1 e)) λr ⟨m',hr⟩=>OkF.nx ?_
   rcases hr with hr | ⟨e1,Z,hZ,k⟩
   ·refine⟨m',λx a e=>?_,λy hy y0=>?_⟩
    ·rw[A9]
     rcases(hr a).mp ⟨x,e⟩with rfl | ⟨x',e'⟩
     ·exact Ax _ (by simp)
     ·exact Ay _ (h1 x' a e')
    ·rcases Af.mp hy with hy | hy
     ·exact qA _ m' (λx a e=>(hr a).mpr (.inr ⟨x,e⟩)) _ (h2 y hy y0)
     ·rw[AJ.mp hy]
      exact .inl ((hr z.1).mpr (.inl rfl))
   ·rw[e1]
    refine⟨m,λx a e=>by rw[A9];exact Ay _ (h1 x a e),λy hy y0=>?_⟩
    rcases Af.mp hy with hy | hy
    ·exact h2 y hy y0
    ·rw[AJ.mp hy]
     exact .inr ⟨Z,hZ,k⟩
  ·have c0:¬z.2=0:=of_decide_eq_false c
   refine OkF.nx ⟨m,λx a e=>by rw[A9];exact Ay _ (h1 x a e),λy hy y0=>?_⟩
   rcases Af.mp hy with hy | hy
   ·exact h2 y hy y0
   ·rw[AJ.mp hy]at y0
    exact zX y0 c0
 ·intro H ⟨m,_,h2⟩
  refine OkF.rt ⟨m,λg h0 h1 hc=>?_⟩;exact h2 (g,cw w g) (An.mpr ⟨g.toNat,DA.mpr (by lia),by rw[BQ h0]⟩) hc
end
end M
namespace L4
theorem ZM{ρ σ:Type}{c:σ->Option Bool}{q:σ->Option (Fw ρ σ)}(I:σ->Prop)(μ:σ->Nat)(h:∀s,I s->c s=some false∨(c s=some true/\∃s',q s=some (.nx s')/\I s'/\μ s' < μ s)) :
  ∀(n:Nat) (s:σ),I s->μ s < n->∃s',whF c q n s=some (.nx s')/\I s'/\c s'=some false
 | 0,s,_,hn=>zX hn (Gc _)
 | n+1,s,hI,hn=>by
  unfold whF
  rcases h s hI with hc | ⟨hc,s',hq,h2,h3⟩
  ·rw[hc]
   exact⟨s,rfl,hI,hc⟩
  ·rw[hc]
   simp only[Ab,if_true];rw[hq];exact ZM I μ h n s' h2 (by lia)
end L4
namespace M
open PySem L2 L4
section
theorem fj{x:Int}(h0:0<=x)(h1:x < w.1):atI (Lg w) x=some (cw w x):=by
 have hl:(Lg w).length=w.1:=by simp
 obtain⟨y,e1,e2⟩:=OA (l:=Lg w) (i:=x) h0 (by rw[hl];exact h1);rw[e1];rw[AS,BU (by lia)]at e2;have:col (nbW w.2) w.1 ((x.toNat:Nat):Int)=y:=CC e2;rw[BQ h0]at this;rw[<-this]
def HZ(w:Nat×List (Int×Int))(H:HL)(y:Int):Prop:=∃Z,Hz (nbW w.2) H Z/\y∈Z
def Gx(w:Nat×List (Int×Int))(H:HL)(x:Int):Prop:=(0<=x/\x < w.1)/\(cw w x=0->∀y∈nbW w.2 x,HZ w H y)/\(cw w x≠0->HZ w H x)
theorem HZ.at(h:HZ w H y):∃a,A5 H y=some a/\∀x∈nbW w.2 a,HZ w H x:=by
 obtain⟨Z,hZ,hy⟩:=h;obtain⟨a,e,k⟩:=hZ.2 y hy;exact⟨a,e,λx hx=>⟨Z,hZ,k x hx⟩⟩
def df(w:Nat×List (Int×Int))(H:HL)(g:Int):Prop:=(0<=g/\g < w.1)/\cw w g=0/\∀x,A5 H x≠some g
structure LI(w:Nat×List (Int×Int))(H:HL)(s:List Int×QL):Prop where
 ga:∀x∈s.1,Gx w H x
 gq:∀x,sn s.2 x->Gx w H x
 ko:KOk (U w.1) s.2
 cl:∀x,sn s.2 x->(cw w x=0->∀y∈nbW w.2 x,sn s.2 y∨y∈s.1)/\(cw w x≠0->∀a,A5 H x=some a->sn s.2 a∨a∈s.1)
 ro:∀g,df w H g->sn s.2 g∨g∈s.1
 le:s.1.length+61 * (60 - s.2.length)<=3720
structure Rch(w:Nat×List (Int×Int))(H:HL)(Q:QL):Prop where
 gq:∀x,sn Q x->Gx w H x
 cl:∀x,sn Q x->(cw w x=0->∀y∈nbW w.2 x,sn Q y)/\(cw w x≠0->∀a,A5 H x=some a->sn Q a)
 ro:∀g,df w H g->sn Q g
theorem md(ok:Wok w)(qi:∀x,(nbW w.2 x).Nodup){x:Int}(h0:0<=x)(h1:x < w.1):(nbW w.2 x).length<=60:=Ao (ON w.1 _ (qi x) (ok.hnb x h0 h1)) ok.hp
theorem YB(ok:Wok w)(qi:∀x,(nbW w.2 x).Nodup)(h2:Hn (nbW w.2) w.1 (cw w))(m:Mt (nbW w.2) w.1 (cw w) H)(hf:∀g:Int,0<=g->g < w.1->cw w g=0->WA w H g):Ok (EE w (Lg w) H) (Rch w H):=by
 unfold EE FT;simp only[Ab,Ci];rw[MZ]
 have sf:∀g:Int,g∈H.map (·.2)↔∃x,A5 H x=some g:=λg=>by
  constructor
  ·intro h
   obtain⟨⟨y,a⟩,hy,e⟩:=An.mp h;refine⟨y,?_⟩;dsimp only at e;subst e;unfold A5;have:=m.ko.nd
   have key:∀l:HL,(l.map (·.1)).Nodup->(y,a)∈l->(l.find? λkv=>decide (kv.1=y))=some (y,a):=by
    intro l
    induction l with
    | nil=>intro _ h;cases h
    | cons z l ih=>
     intro nd h;rw[BA,CK]at nd;rw[BV]
     rcases At.mp h with h | h
     ·subst h;simp
     ·have:z.1≠y:=λe=>nd.1 (An.mpr ⟨(y,a),h,e.symm⟩)
      rw[wY this];exact ih nd.2 h
   rw[key H this hy];rfl
  ·rintro⟨x,h⟩
   unfold A5 at h
   cases hq:H.find? (λkv=>decide (kv.1=x))with
   | none=>rw[hq]at h;cases h
   | some kv=>
    rw[hq]at h;cases h;exact An.mpr ⟨kv,Rt hq,rfl⟩
 rw[LF (P:=λx6:Int×Int=>decide (x6.2=0)&&!decide (x6.1∈H.map (·.2))) (f:=λx6:Int×Int=>x6.1) (by simp;have:=ok.hp;lia) (λx _=>by
  by_cases c:x.2=0 <;> simp[c]) λx _ _=>rfl]
 simp only[Ab,Ci];generalize hA:(((A7 w.1).map λx:Nat=>((x:Int),col (nbW w.2) w.1 x)).filter λx6:Int×Int=>decide (x6.2=0)&&!decide (x6.1∈H.map (·.2))).map (λx6:Int×Int=>x6.1)=A
 have hAm:∀g,g∈A↔df w H g:=λg=>by
  rw[<-hA,An]
  constructor
  ·rintro⟨z,hz,rfl⟩
   obtain⟨h3,h4⟩:=Dx.mp hz;obtain⟨n,hn,rfl⟩:=An.mp h3;have hn:=DA.mp hn;rw[EN]at h4;refine⟨by dsimp only;lia,of_decide_eq_true h4.1,λx e=>?_⟩;have:=(sf _).mpr ⟨x,e⟩;rw[wX this]at h4;cases h4.2
  ·rintro⟨h3,h4,h5⟩
   refine⟨(g,cw w g),Dx.mpr ⟨An.mpr ⟨g.toNat,DA.mpr (by lia),by rw[BQ h3.1]⟩,?_⟩,rfl⟩
   have:g∉H.map (·.2):=λz=>by
    obtain⟨x,e⟩:=(sf g).mp z;exact h5 x e
   rw[wX h4,wY this];rfl
 have hAl:A.length<=60:=by
  rw[<-hA,AE];refine Ao (U4 _ _) ?_;simp;exact ok.hp
 have gA:∀g,df w H g->Gx w H g:=λg hg=>⟨hg.1,λ_ y hy=>by
  rcases hf g hg.1.1 hg.1.2 hg.2.1 with⟨x,e⟩ | ⟨Z,hZ,k⟩
  ·exact zX e (hg.2.2 x)
  ·exact⟨Z,hZ,k y hy⟩,λc=>zX hg.2.1 c⟩
 have uO:∀x:Int,0<=x->x < w.1->∀y∈nbW w.2 x,cw w x=0->cw w y≠0:=λx h0 h1 y hy c e=>h2 x y h0 h1 hy (by rw[c,e])
 obtain⟨s',e1,hI,hc⟩:=ZM (ρ:=QL) (c:=λ(qk:(List Int)×(List (Int×Bool)))=>some (!qk.1.isEmpty)) (q:=λ(qk:(List Int)×(List (Int×Bool)))=>C6 ((YE qk.1).bind λqQ=>some (.nx qQ)) λpE=>Ky (λtI=>(tI.2,tI.1)) (if (!(A5 qk.2 pE.1).isSome)=true then C6 ((M4 qk.2 pE.1 true).bind λl26=>some (.nx l26)) λuC=>Ky (λvF=>(uC,vF)) (((atI (Lg w) pE.1).bind λrJ=>some (decide (rJ=0))).bind λrL=>if rL=true then Ky (λvG=>vG) ((MM w pE.1).bind λuF=>(UP pE.2 uF).bind λxF=>some (.nx xF))else Ky (λvH=>vH) ((A5 H pE.1).bind λuG=>(V5 pE.2 uG).bind λxG=>some (.nx xG)))else some (.nx (qk.2,pE.2)))) (LI w H) (λs=>s.1.length+61 * (60 - s.2.length)) (λs hI=>by
  obtain⟨l,Q⟩:=s
  rcases List.eq_nil_or_concat l with rfl | ⟨r,x,er⟩
  ·exact .inl rfl
  ·rw[List.concat_eq_append]at er
   subst er;refine .inr ⟨by simp,?_⟩
   have xT:YE (r++[x])=some (x,r):=by
    unfold YE;rw[List.getLast?_append];simp
   have qt:=hI.ga x (by simp);have hle:=hI.le;dsimp only at hle;rw[Ad,Bu]at hle;have hQl:=hI.ko.len;dsimp only at hQl;rw[show(U w.1).length=w.1 by simp]at hQl;have hp:=ok.hp;dsimp only;rw[xT];simp only[Ab,Ci]
   by_cases c:sn Q x
   ·refine⟨(r,Q),by rw[qY (by rw[c];decide)];rfl,⟨λy hy=>hI.ga y (by simp[hy]),hI.gq,hI.ko,λy hy=>?_,λg hg=>?_,by dsimp only;lia⟩,by dsimp only;rw[Ad,Bu];lia⟩
    ·obtain⟨k1,k2⟩:=hI.cl y hy
     refine⟨λc0 z hz=>?_,λc0 a ha=>?_⟩
     ·rcases k1 c0 z hz with h | h
      ·exact .inl h
      ·rcases Af.mp h with h | h
       ·exact .inr h
       ·rw[AJ.mp h];exact .inl c
     ·rcases k2 c0 a ha with h | h
      ·exact .inl h
      ·rcases Af.mp h with h | h
       ·exact .inr h
       ·rw[AJ.mp h];exact .inl c
    ·rcases hI.ro g hg with h | h
     ·exact .inl h
     ·rcases Af.mp h with h | h
      ·exact .inr h
      ·rw[AJ.mp h];exact .inl c
   ·have cf:(A5 Q x).isSome=false:=by cases q:(A5 Q x).isSome;rfl;exact zX q c
    rw[qX (by rw[cf];rfl),Nr hI.ko (by simp;lia)];simp only[Ab,Ci];rw[fj qt.1.1 qt.1.2];simp only[Ab];have Oh:=KOk.more cf true;have ko1:KOk (U w.1) (CA Q x true):=hI.ko.put (NE.mpr qt.1) true;have xf:=ko1.len;rw[show(U w.1).length=w.1 by simp]at xf
    have fin:∀N:List Int,N.length<=60->(∀y∈N,Gx w H y)->(cw w x=0->∀y∈nbW w.2 x,y∈N)->(cw w x≠0->∀a,A5 H x=some a->a∈N)->LI w H (r++N,CA Q x true)/\(r++N).length+61 * (60 - (CA Q x true).length) < (r++[x]).length+61 * (60 - Q.length):=λN hN gN n1 n2=>by
     refine⟨⟨λy hy=>?_,λy hy=>?_,ko1,λy hy=>?_,λg hg=>?_,?_⟩,?_⟩
     ·rcases Af.mp hy with hy | hy
      ·exact hI.ga y (by simp[hy])
      ·exact gN y hy
     ·rcases Er.mp hy with rfl | hy
      ·exact qt
      ·exact hI.gq y hy
     ·have up:∀z,sn Q z∨z∈(r++[x])->sn (CA Q x true) z∨z∈r++N:=λz hz=>by
       rcases hz with h | h
       ·exact .inl (Er.mpr (.inr h))
       ·rcases Af.mp h with h | h
        ·exact .inr (Ay _ h)
        ·rw[AJ.mp h];exact .inl (Er.mpr (.inl rfl))
      rcases Er.mp hy with rfl | hy
      ·exact⟨λc0 z hz=>.inr (Ax _ (n1 c0 z hz)),λc0 a ha=>.inr (Ax _ (n2 c0 a ha))⟩
      ·obtain⟨k1,k2⟩:=hI.cl y hy
       exact⟨λc0 z hz=>up z (k1 c0 z hz),λc0 a ha=>up a (k2 c0 a ha)⟩
     ·rcases hI.ro g hg with h | h
      ·exact .inl (Er.mpr (.inr h))
      ·rcases Af.mp h with h | h
       ·exact .inr (Ay _ h)
       ·rw[AJ.mp h];exact .inl (Er.mpr (.inl rfl))
     ·dsimp only;rw[Ad];lia
     ·rw[Ad,Ad,Bu];lia
    by_cases c0:cw w x=0
    ·rw[wX c0,qX rfl,aU qt.1.1 qt.1.2]
     have hl:=md ok qi qt.1.1 qt.1.2;simp only[Ab];rw[W9 (by lia)];obtain⟨f1,f2⟩:=fin (nbW w.2 x) hl (λy hy=>⟨ok.hnb x qt.1.1 qt.1.2 y hy,λcy=>zX cy (uO x qt.1.1 qt.1.2 y hy c0),λ_=>qt.2.1 c0 y hy⟩) (λ_ y hy=>hy) (λcn=>zX c0 cn);exact⟨(r++nbW w.2 x,CA Q x true),rfl,f1,f2⟩
    ·rw[wY c0,qY AL]
     obtain⟨a,ea,ka⟩:=(qt.2.2 c0).at;rw[ea];simp only[Ab];rw[XS (by lia)];obtain⟨ga,gc⟩:=m.gd x a ea;obtain⟨f1,f2⟩:=fin [a] (by simp) (λy hy=>by rw[AJ.mp hy];exact⟨ga,λ_=>ka,λcn=>zX gc cn⟩) (λcn=>zX cn c0) (λ_ b hb=>by rw[ea]at hb;cases hb;simp)
     exact⟨(r++[a],CA Q x true),rfl,f1,f2⟩) wN (A,[]) ⟨λx hx=>gA x ((hAm x).mp hx),λx h=>(nomatch h),SL,λx h=>(nomatch h),λg hg=>.inr ((hAm g).mpr hg),by dsimp only;simp;lia⟩ (by dsimp only;simp;unfold wN;lia)
 rw[e1];refine⟨s'.2,rfl,?_⟩;obtain⟨l,Q⟩:=s'
 have hl:l=[]:=by
  cases l with
  | nil=>rfl
  | cons _ _=>cases hc
 subst hl;exact⟨hI.gq,λx hx=>⟨λc0 y hy=>((hI.cl x hx).1 c0 y hy).elim id (λh=>nomatch h),λc0 a ha=>((hI.cl x hx).2 c0 a ha).elim id (λh=>nomatch h)⟩,λg hg=>(hI.ro g hg).elim id (λh=>nomatch h)⟩
end
theorem Wq(h0:-1000000<=y)(h1:y<=1000000):Vj x y=some (x * y):=qX (.inr ⟨Nd (by decide) h0,Iz h1 (by decide)⟩)
def rr(m:Nat)(c s:Int)(k:Nat):Int:=(c+s * k) % m
def pv(far k:Nat):Nat:=if k=0 then far - 1 else k - 1
def Rz(m far:Nat)(c s:Int)(k:Nat):Int×Int:=(if rr m c s k < rr m c s (pv far k)then rr m c s k else rr m c s (pv far k),if rr m c s k > rr m c s (pv far k)then rr m c s k else rr m c s (pv far k))
theorem Wh(hm:1<=m)(c s:Int)(k:Nat):0<=rr m c s k/\rr m c s k < m:=⟨IM _ (by lia),Gh _ (by lia)⟩
theorem lu{m far:Nat}(h3:3<=far){c s:Int}(hs:∀k:Nat,1<=k->k < far->s * k % m≠0){k:Nat}(hk:k < far):rr m c s (pv far k)≠rr m c s k:=by
 intro e;unfold rr at e;have e':=Mn.mp e
 by_cases c0:k=0
 ·subst c0
  refine hs (far - 1) (by lia) (by lia) ?_;rw[show c+s * ((pv far 0:Nat):Int) - (c+s * ((0:Nat):Int))=s * ((far - 1:Nat):Int) by unfold pv;rw[qX rfl,Int.natCast_zero,Int.mul_zero];lia]at e';exact e'
 ·refine hs 1 (by lia) (by lia) ?_
  have e2:=Mn.mp e.symm
  rw[show c+s * (k:Int) - (c+s * ((pv far k:Nat):Int))=s * ((1:Nat):Int) by
   unfold pv;rw[qY c0,show((k - 1:Nat):Int)=k - 1 by lia,Int.mul_sub];simp
   lia]at e2
  exact e2
def bz(m:Nat)(told:List (Int×Int)):Prop:=∃(far:Nat) (c s:Int),3<=far/\far % 2=1/\∀k:Nat,k < far->Rz m far c s k∈told
theorem Zz{m:Nat}{us:List (Int×Int)}(u:D9 m 0 us)(qc:1<=m)(hm:m<=60)(hl:us.length<=3600)(cell:Int) :
  Hb m us cell=some none∨∃told,Hb m us cell=some (some told)/\D9 m 0 told/\told.length<=3700/\bz m told:=by
 unfold Hb Ha;simp only[Ab,Ci]
 obtain⟨far,hfar,h3,h7,uP⟩:∃far:Nat,(3+cell % 3 * 2:Int)=far/\3<=far/\far<=7/\far % 2=1:=⟨(3+cell % 3 * 2).toNat,by lia,by lia,by lia,by lia⟩
 rw[hfar]
 by_cases hmf:(m:Int) < far
 ·rw[wX hmf]
  exact .inl rfl
 rw[wY hmf];simp only[if_false,Cv,Ci]
 have hmf':far<=m:=by lia
 right
 rw[Wi (by lia) (by lia) (by lia) (by lia)];simp only[Ab]
 have e1:FX (JB 1 ((m:Int) - 1).toNat) (λpV=>((X8 1 (far:Int)).bind λl25=>FX l25 (λqr=>some true) (λqr=>((Vj pV qr).bind λqj=>T6 qj (m:Int)).bind λrf=>some (!decide (rf=0)))).bind λuI=>some (uI.all id)) (λpV=>some pV)=some ((JB 1 ((m:Int) - 1).toNat).filter λs=>((JB 1 ((far:Int) - 1).toNat).map λk:Int=>!decide (s * k % (m:Int)=0)).all id):=by
  refine Ma (by rw[Kq];lia) λx _=>?_
  rw[Wi (by lia) (by lia) (by lia) (by lia)];simp only[Ab]
  rw[LV (f:=λk:Int=>!decide (x * k % (m:Int)=0)) (by rw[Kq];lia) λk hk=>by
   have:=Kw.mp hk;rw[Wq (by lia) (by lia)];simp only[Ab];rw[SN (by lia)]
   rfl]
  rfl
 rw[e1];simp only[Ab,Ci];generalize qC:((JB 1 ((m:Int) - 1).toNat).filter λs=>((JB 1 ((far:Int) - 1).toNat).map λk:Int=>!decide (s * k % (m:Int)=0)).all id)=steps
 have uQ:∀s,s∈steps↔(1<=s/\s < m)/\∀k:Nat,1<=k->k < far->s * k % m≠0:=λs=>by
  rw[<-qC,Dx,Kw,Fg];refine and_congr (by lia) ⟨λh k h0 h1 e=>?_,λh b hb=>?_⟩
  ·have:=h (!decide (s * (k:Int) % m=0)) (An.mpr ⟨(k:Int),Kw.mpr (by lia),rfl⟩)
   rw[wX e]at this;cases this
  ·obtain⟨k,hk,rfl⟩:=An.mp hb
   have hk:=Kw.mp hk;have:=h k.toNat (by lia) (by lia);rw[BQ (by lia)]at this;show(!decide (s * k % (m:Int)=0))=true;rw[wY this];rfl
 have sne:steps≠[]:=λe=>by
  have:=(uQ 1).mpr ⟨by lia,λk h0 h1=>by rw[Int.one_mul,Int.emod_eq_of_lt (by lia) (by lia)];lia⟩;rw[e]at this;cases this
 have slen:0 < steps.length:=Xe.mpr sne;rw[SN (by lia)];simp only[Ab];obtain⟨s,es,hs⟩:=fx (l:=steps) (cell / 3) sne;rw[es];simp only[Ab,Ci];obtain⟨qz,pz⟩:=(uQ s).mp hs;rw[SB (by lia) (by lia),Bk];simp only[Ab]
 have e2:FX (JB 0 far) (λrQ=>some true) (λrQ=>((Vj s rQ).bind λtf=>some (cell / 40+tf)).bind λrL=>T6 rL (m:Int))=some ((A7 far).map (rr m (cell / 40) s)):=by
  rw[LV (f:=λk=>(cell / 40+s * k) % m) (by rw[Kq];lia) λk hk=>by
   have:=Kw.mp hk;rw[Wq (by lia) (by lia)];simp only[Ab]
   exact SN (by lia),Pp,A2]
  rfl
 rw[e2];simp only[Ab,Ci];generalize cell / 40=c
 have at1:∀k:Nat,k < far->atI ((A7 far).map (rr m c s)) (k:Int)=some (rr m c s k):=λk hk=>by
  obtain⟨x,e1,e2⟩:=OA (l:=(A7 far).map (rr m c s)) (i:=(k:Int)) (by lia) (by simp;lia);rw[e1];rw[Bk,AS,BU hk]at e2;exact e2.symm
 have xa:∀k:Nat,k < far->atI ((A7 far).map (rr m c s)) ((k:Int) - 1)=some (rr m c s (pv far k)):=λk hk=>by
  unfold pv
  by_cases c0:k=0
  ·subst c0
   rw[qX rfl];unfold atI
   rw[show ixN ((A7 far).map (rr m c s)).length (((0:Nat):Int) - 1)=some (far - 1) by
    unfold ixN;rw[qY (by lia),qX (by simp;lia)];simp
    lia]
   show((A7 far).map (rr m c s))[far - 1]?=_;rw[AS,BU (by lia)];rfl
  ·rw[qY c0,show(k:Int) - 1=((k - 1:Nat):Int) by lia]
   exact at1 (k - 1) (by lia)
 have Q:OkF (ρ:=Option (List (Int×Int))) (KW (JB 0 far) us λ(qS:(List (Int×Int))) qT=>C6 (((((atI ((A7 far).map (rr m c s)) (qT - 1)).bind λuK=>(atI ((A7 far).map (rr m c s)) qT).bind λuL=>some (if uL < uK then uL else uK)).bind λxO=>((atI ((A7 far).map (rr m c s)) (qT - 1)).bind λuM=>(atI ((A7 far).map (rr m c s)) qT).bind λuN=>some (if uN > uM then uN else uM)).bind λxP=>some (xO,xP)).bind λxQ=>some (.nx xQ))) λtq=>Ky (λvK=>vK) (if (!inG tq qS)=true then Ky (λvL=>vL) ((V5 qS tq).bind λxR=>some (.nx xR))else some (.nx qS))) (λtold=>D9 m 0 told/\told.length<=us.length+far/\∀k:Nat,k < far->Rz m far c s k∈told) (λ_=>False):=by
  refine OkF.imp (OkF.for (λpre told=>D9 m 0 told/\told.length<=us.length+pre.length/\∀k:Nat,k < pre.length->Rz m far c s k∈told) ⟨u,by simp,λk hk=>zX hk (Gc _)⟩ ?_) (λtold h=>by rw[Kq]at h;exact h) λ_ h=>h
  intro pre x told hx pX ⟨t1,t2,t3⟩;obtain⟨ex,p0⟩:=Zx pX;rw[Kj]at ex;subst ex;rw[xa _ p0,at1 _ p0];simp only[Ab,Ci];have ht:(if rr m c s pre.length < rr m c s (pv far pre.length)then rr m c s pre.length else rr m c s (pv far pre.length),if rr m c s pre.length > rr m c s (pv far pre.length)then rr m c s pre.length else rr m c s (pv far pre.length))=Rz m far c s pre.length:=rfl;rw[ht];have oO:=lu (c:=c) h3 pz p0;have i1:=Wh qc c s pre.length;have i2:=Wh qc c s (pv far pre.length)
  refine OkF.map (N:=λtold=>D9 m 0 told/\told.length<=us.length+(pre++[(pre.length:Int)]).length/\∀k:Nat,k < (pre++[(pre.length:Int)]).length->Rz m far c s k∈told) ?_ λ_ h=>h
  rw[Ad,Bu]
  by_cases ci:Rz m far c s pre.length∈told
  ·rw[Wy.mpr ci]
   refine OkF.nx ⟨t1,by lia,λk hk=>?_⟩
   by_cases ck:k=pre.length
   ·rw[ck];exact ci
   ·exact t3 k (by lia)
  ·rw[show inG (Rz m far c s pre.length) told=false from ZL.mpr λz=>ci (Wy.mp z),qX (by rfl),XS (by lia)]
   refine OkF.nx ⟨⟨λy hy=>?_,?_⟩,?_,λk hk=>?_⟩
   ·rcases Af.mp hy with hy | hy
    ·exact t1.1 y hy
    ·rw[AJ.mp hy]
     unfold Rz;dsimp only
     split <;> split <;> lia
   ·rw[CS]
    exact⟨t1.2,by simp,λa ha b hb e=>ci (by rw[AJ.mp hb]at e;rw[<-e];exact ha)⟩
   ·rw[Ad,Bu]
    lia
   ·by_cases ck:k=pre.length
    ·rw[ck];exact Ax _ (by simp)
    ·exact Ay _ (t3 k (by lia))
 rcases Q with⟨told,e,q1,q2,q3⟩ | ⟨_,_,h⟩
 ·refine⟨told,?_,q1,by lia,far,c,s,h3,uP,q3⟩
  rw[e];rfl
 ·exact h.elim
theorem dg(u:D9 m 0 told)(qc:1<=m)(h:bz m told):¬Hn (nbW (D8 told)) m (col (nbW (D8 told)) m):=λh2=>by
 obtain⟨far,c,s,h3,uP,hk⟩:=h
 have step:∀k:Nat,k < far->col (nbW (D8 told)) m (rr m c s (pv far k))≠col (nbW (D8 told)) m (rr m c s k):=λk xU=>by
  have i1:=Wh qc c s k;have i2:=Wh qc c s (pv far k);refine h2 _ _ i2.1 i2.2 ?_;rw[Ku u];refine MR.mpr ?_;rw[BQ i2.1];have ht:=hk k xU;have oM:=(u.1 _ ht).2.1;unfold Rz at ht oM;dsimp only at oM
  by_cases cl:rr m c s k < rr m c s (pv far k)
  ·rw[qX cl,qY (by lia)]at ht
   exact .inr ht
  ·rw[qY cl]at ht oM
   by_cases cg:rr m c s k > rr m c s (pv far k)
   ·rw[qX cg]at ht
    exact .inl ht
   ·rw[qY cg]at oM
    lia
 have rE:∀x,col (nbW (D8 told)) m x=0∨col (nbW (D8 told)) m x=1:=λx=>gf _
 have alt:∀k:Nat,k < far->(k % 2=0->col (nbW (D8 told)) m (rr m c s k)=col (nbW (D8 told)) m (rr m c s 0))/\(k % 2=1->col (nbW (D8 told)) m (rr m c s k)≠col (nbW (D8 told)) m (rr m c s 0)):=by
  intro k
  induction k with
  | zero=>intro _;exact⟨λ_=>rfl,λh=>by simp at h⟩
  | succ k ih=>
   intro xU;obtain⟨i1,i2⟩:=ih (by lia);have st:=step (k+1) xU;rw[show pv far (k+1)=k from qY (by lia)]at st;have a1:=rE (rr m c s k);have a2:=rE (rr m c s (k+1));have a3:=rE (rr m c s 0);refine⟨λhp=>?_,λhp=>?_⟩
   ·have:=i2 (by lia)
    lia
   ·have:=i1 (by lia)
    lia
 have last:=step 0 (by lia);rw[show pv far 0=far - 1 from qX rfl]at last;exact last ((alt (far - 1) (by lia)).1 (by lia))
theorem Pe(l:List (Int×Int)):(Km l).Perm l:=by
 have:=(GB (l.map λx=>[x.1,x.2])).map ii;rw[A2]at this
 have e:l.map (ii∘λx=>[x.1,x.2])=l:=by
  conv=>rhs;rw[<-PD l]
  exact CO λ_ _=>rfl
 rw[e]at this;exact this
section
variable{w:Nat×List (Int×Int)}{H:HL}{Q:QL}
def pr(H:HL)(y:Int):Int×Int:=match A5 H y with
 | some a=>(if a < y then a else y,if a > y then a else y)
 | none=>(0,0)
abbrev prs(H:HL):List (Int×Int):=(H.map (·.1)).map (pr H)
abbrev cvr(w:Nat×List (Int×Int))(Q:QL):List Int:=(U w.1).filter λx=>decide ((A5 Q x).isSome=decide (cw w x=1))
theorem Ow(h:y∈H.map (·.1)):∃a,A5 H y=some a:=Fu.mp ((IP H y).mpr h)
theorem eQ(ok:Wok w)(h2:Hn (nbW w.2) w.1 (cw w))(e:GD w (Lg w)=some H)(m:Mt (nbW w.2) w.1 (cw w) H):FU w=some (Km (prs H)):=by
 unfold FU IF;have ec:Cd w=some (Lg w):=qX ⟨ok,h2⟩;simp only[Ab,ec,e,Ci];have hl:=m.ko.len;rw[show(U w.1).length=w.1 by simp]at hl
 rw[LV (f:=pr H) (by simp;have:=ok.hp;lia) λy hy=>by
  obtain⟨a,ha⟩:=Ow hy;unfold pr;rw[ha]
  rfl]
 rfl
theorem ff(ok:Wok w)(h2:Hn (nbW w.2) w.1 (cw w))(e:GD w (Lg w)=some H)(eq:EE w (Lg w) H=some Q):Ej w=some (cvr w Q):=by
 unfold Ej HY;have ec:Cd w=some (Lg w):=qX ⟨ok,h2⟩;simp only[Ab,ec,e,eq,Ci];rw[MZ,LF (P:=λx:Int×Int=>decide ((A5 Q x.1).isSome=decide (x.2=1))) (f:=λx:Int×Int=>x.1) (by simp;have:=ok.hp;lia) (λ_ _=>rfl) λ_ _ _=>rfl];show some _=some _;rw[cR,A2];unfold cvr U;rw[cR];rfl
end
section
abbrev fl(P:List (Int×Int)):List Int:=P.flatMap Kp
structure Prs(w:Nat×List (Int×Int))(P:List (Int×Int)):Prop where
 lt:∀t∈P,0<=t.1/\t.1 < t.2/\t.2 < w.1
 nb:∀t∈P,t.2∈nbW w.2 t.1/\t.1∈nbW w.2 t.2
 nd:(fl P).Nodup
theorem jD(ok:Wok w)(h2:Hn (nbW w.2) w.1 (cw w))(m:Mt (nbW w.2) w.1 (cw w) H):Prs w (Km (prs H)):=by
 have uO:∀x a,A5 H x=some a->cw w x≠0:=λx a e c=>by
  obtain⟨g1,g2⟩:=m.gd x a e;exact h2 a x g1.1 g1.2 (m.on x a e) (by rw[g2,c])
 have all:∀t∈Km (prs H),(0<=t.1/\t.1 < t.2/\t.2 < w.1)/\t.2∈nbW w.2 t.1/\t.1∈nbW w.2 t.2:=λt ht=>by
  obtain⟨y,hy,e⟩:=An.mp ((Pe _).mem_iff.mp ht);obtain⟨a,ea⟩:=Ow hy;obtain⟨g1,g2⟩:=m.gd y a ea;have xV:=NE.mp (m.ko.sub y hy);have xW:=m.on y a ea;have hay:=ok.hsym a y g1.1 xV.1 xW
  have oO:a≠y:=λe=>uO y a ea (by rw[<-e];exact g2)
  unfold pr at e;rw[ea]at e;dsimp only at e;rw[<-e];dsimp only
  by_cases c:a < y
  ·rw[qX c,qY (by lia)]
   exact⟨⟨g1.1,c,xV.2⟩,xW,hay⟩
  ·rw[qY c,qX (by lia)]
   exact⟨⟨xV.1,by lia,g1.2⟩,hay,xW⟩
 refine⟨λt ht=>(all t ht).1,λt ht=>(all t ht).2,?_⟩;have pm:(fl (Km (prs H))).Perm (fl (prs H)):=QW _ (Pe _);rw[pm.nodup_iff];unfold Q5 fl;rw[List.pairwise_flatMap];refine⟨λt ht=>?_,?_⟩
 ·have:=(all t ((Pe _).mem_iff.mpr ht)).1
  unfold Kp;simp
  lia
 ·unfold prs
  rw[CQ];refine IE (λ{y y'} hy qv oO=>?_) m.ko.nd;obtain⟨a,ea⟩:=Ow hy;obtain⟨a',rW⟩:=Ow qv
  have els:∀y a,A5 H y=some a->∀z∈Kp (pr H y),z=y∨z=a:=λy a e z hz=>by
   unfold Kp pr at hz;rw[e]at hz;simp only[At,Bx,or_false]at hz
   rcases hz with rfl | rfl
   ·split <;> simp
   ·split <;> simp
  intro z hz z' tF e;subst e
  rcases els y a ea z hz with rfl | rfl <;> rcases els y' a' rW z tF with h | h
  ·exact oO h
  ·exact uO z a ea (by rw[h];exact(m.gd y' a' rW).2)
  ·exact uO y' a' rW (by rw[<-h];exact(m.gd y z ea).2)
  ·subst h;exact oO (m.inj y y' z ea rW)
theorem Prs.sub(h:Prs w P):∀x∈fl P,x∈U w.1:=λx hx=>by
 obtain⟨t,ht,hx⟩:=Oo.mp hx;have:=h.lt t ht;unfold Kp at hx;simp only[At,Bx,or_false]at hx;exact NE.mpr (by rcases hx with rfl | rfl <;> lia)
theorem kT(P:List (Int×Int)):(fl P).length=2 * P.length:=by
 induction P with
 | nil=>rfl
 | cons t P ih=>
  unfold fl at ih ⊢;rw[ZG,Ad,ih,A8];show 2+_=_
  lia
theorem Prs.len(h:Prs w P):2 * P.length<=w.1:=by
 have:=P5 h.nd h.sub;rw[kT]at this;simpa using this
abbrev sgl(w:Nat×List (Int×Int))(P:List (Int×Int)):List Int:=(U w.1).filter λx=>!decide (x∈fl P)
abbrev clb(w:Nat×List (Int×Int))(P:List (Int×Int)):List (List Int):=G8 (P.map Kp++(sgl w P).map λx=>[x])
abbrev apt(w:Nat×List (Int×Int))(C:List Int):List Int:=(U w.1).filter λx=>!decide (x∈C)
theorem gB(hp:w.1<=60)(e1:Ej w=some C)(e2:FU w=some P)(h:Prs w P):Go w=some (apt w C,clb w P):=by
 have hl:=h.len;have h1:(w.1:Int).toNat=w.1:=Bk _;refine Ok.is ?_;unfold Go Ev;simp only[Ab,e1,e2,Ci];rw[SB (by lia) (by lia),h1,Pp];simp only[Ab];rw[Ma (P:=λx=>!decide (x∈C)) (by simp;lia) λ_ _=>rfl];simp only[Ab,Ci];refine OkF.out (OkF.seq (OkF.for (λpre D=>KOk (U w.1) D/\∀x,sn D x↔x∈fl pre) ⟨SL,λx=>⟨λz=>(nomatch z),λz=>(nomatch z)⟩⟩ ?_) ?_)
 ·intro pre t D ht _ ⟨k,hk⟩
  have hr:=h.lt t ht;have k1:KOk (U w.1) (CA D t.1 true):=k.put (NE.mpr (by lia)) true;rw[Nr k (by simp;lia)];simp only[Ab,Ci];rw[Nr k1 (by simp;lia)];refine OkF.nx ⟨k1.put (NE.mpr (by lia)) true,λx=>?_⟩;rw[Er,Er,hk];unfold fl;rw[Xg,Af];show _↔_∨x∈Kp t++[];unfold Kp;simp
  constructor
  ·rintro(h | h | h) <;> simp[h]
  ·rintro(h | h | h) <;> simp[h]
 ·intro D ⟨k,hk⟩
  rw[LF (P:=λx=>!decide (x∈fl P)) (f:=λx=>[x]) (by simp;lia) (λx _=>by
   by_cases c:x∈fl P
   ·rw[wX c,show(A5 D x).isSome=true from(hk x).mpr c]
   ·rw[wY c,show(A5 D x).isSome=false by cases q:(A5 D x).isSome;rfl;exact zX ((hk x).mp q) c]) λx _ _=>few1 x]
  simp only[Ab,Ci];have hle:((U w.1).filter λx=>!decide (x∈fl P)).length<=w.1:=Ao (U4 _ _) (by simp);rw[W9 (by simp only[AE];lia)];simp only[Ab]
  rw[show R4 (P.map Kp++(sgl w P).map λx=>[x])=some (clb w P)from qX (Fg.mpr λr hr=>by
   rcases Af.mp hr with h | h
   ·obtain⟨_,_,rfl⟩:=An.mp h;rfl
   ·obtain⟨_,_,rfl⟩:=An.mp h;rfl)]
  exact OkF.rt rfl
end
theorem RU(W:Wd){S:Sto}{t m:Nat}{ts:List (Int×Int)}{c:Int}(ht:S[t]?=some (.lst (ts.map pairD)))(qc:1<=m)(hm:m<=60)(hf:EK m ts)(hl:ts.length<=80000){e:Lo}{mp mt:ME}{mc:ML}(h1:mp e S=.ok (.int m) S)(h2:AF mt mc e S=.ok [.ref t,.int c] S) :
  ∃(q:Nat) (S':Sto),P7 W.Web 3 (IW W) (AF mp (AF (BG 2 (Dy W) (AF mt mc)) Aj)) e S=.ok (.ref q) S'/\Keeps S S'/\S.length<=q/\S'[q]?=some (Fb W (m,D8 ts)):=by
 obtain⟨us,c1,p1,l1⟩:=Xp W c ht hl;obtain⟨S',c2,K,hw⟩:=iL W (p:=m) (d:=.ref S.length) (S:=S++[.lst (us.map pairD)]) (ps:=us) qc hm (λS' k=>FO (k.at (Bj _ _))) (by lia) (hf.of p1) (ml:=AF mp (AF (BG 2 (Dy W) (AF mt mc)) Aj)) (e:=e) (S0:=S) (BH h1 (BH ((Bz h2 rfl).trans c1) rfl));rw[dM p1]at hw;exact⟨_,S',c2,(Keeps.app _ _).trans K,by simp,hw⟩
theorem ZN(u:D9 m 0 us)(hm:m<=60):Wok (m,D8 us)/\(∀x,(nbW (D8 us) x).Nodup)/\∀x:Int×Int,x∈D8 us↔x∈us:=by
 have qi:∀x,(nbW (D8 us) x).Nodup:=λx=>by
  rw[Ku u];exact(FE _).nodup_iff.mpr (NB u.2 λt ht=>(u.1 t ht).2.1)
 have hlen:∀x,(nbW (D8 us) x).length<=1000:=λx=>by
  have:=ON m (nbW (D8 us) x) (qi x) λz hz=>by
   rw[Ku u]at hz;exact gl u hz
  lia
 have pZ:∀x:Int×Int,x∈D8 us↔x∈us:=λx=>by
  have:=(Nn us).mem_iff (a:=x);rwa [u.nrm]at this
 refine⟨⟨hm,aV u,hlen,Wp u,λx hx=>?_,λa b qV ha hb=>?_⟩,qi,pZ⟩
 ·have hx:=(pZ x).mp hx
  have b:=u.1 x hx;refine⟨⟨b.1,by dsimp only;omega⟩,?_⟩;show x.2∈nbW (D8 us) x.1;rw[Ku u];refine MR.mpr (.inl ?_);rw[BQ b.1];exact hx
 ·have hb:b∈nbW (D8 us) a:=hb
  rw[Ku u]at hb;have:=MR.mp hb;rw[BQ qV]at this
  rcases this with h | h
  ·exact .inl ((pZ _).mpr h)
  ·exact .inr ((pZ _).mpr h)
theorem iY{m:Nat}{us:List (Int×Int)}(u:D9 m 0 us)(hm:m<=60){cf:Int->Int}(hc:∀x∈us,cf x.1 % 2≠cf x.2 % 2):Hn (nbW (D8 us)) m (col (nbW (D8 us)) m):=by
 refine V2 (aV u) (Wp u) (c:=λx=>cf x % 2) (λx _ _=>gf _) λa b qV ha hb=>?_
 have hb:b∈nbW (D8 us) a:=hb;rw[Ku u]at hb;have:=MR.mp hb;rw[BQ qV]at this
 rcases this with h | h
 ·exact hc _ h
 ·exact λe=>hc _ h e.symm
theorem YM(ok:Wok w)(qi:∀x,(nbW w.2 x).Nodup)(h2:Hn (nbW w.2) w.1 (cw w)):∃H Q,Mt (nbW w.2) w.1 (cw w) H/\Rch w H Q/\FU w=some (Km (prs H))/\Ej w=some (cvr w Q):=by
 obtain⟨H,e1,m,hf⟩:=Vc ok;obtain⟨Q,e2,R⟩:=YB ok qi h2 m hf;exact⟨H,Q,m,R,eQ ok h2 e1 m,ff ok h2 e1 e2⟩
theorem tabs(nd:W.excs.Nodup):JV W W.NotTwo=some true/\Fk W W.NotTwo=some true/\A6 W W.NotTwo=some false:=by
 refine⟨by simp[JV],by simp[Fk],(qY λh=>?_).trans (qX (by simp[Wd.excs]))⟩;unfold Wd.excs at nd;simp only[CK,At,Bx,or_false,not_or]at nd h
 rcases h with h | h | h
 ·exact nd.1.2.2 h.symm
 ·exact nd.2.1.2 h.symm
 ·exact nd.2.2.1 h.symm
theorem fg(h:m e S=.ok d S1)(h2:r e S1=.err c S2):AF m r e S=.err c S2:=by
 unfold AF;rw[h];dsimp only[Res.bind];rw[h2]
theorem fh(h:m e S=.err c S1):AF m r e S=.err c S1:=by
 unfold AF;rw[h];rfl
theorem kZ(h:ml e S=.err c S1):BG n f ml e S=.err c S1:=by
 unfold BG;rw[h];rfl
section
variable{W:Wd}{S:Sto}{q:Nat}
theorem QP(ok:Wok w)(h2:¬Hn (nbW w.2) w.1 (col (nbW w.2) w.1))(hq:S[q]?=some (Fb W w)):∃S',C5 W [.ref q] S=.err W.NotTwo S'/\Keeps S S':=by
 obtain⟨o,S',c1,k1,h3⟩:=Zf (TR hq) ok.hp ok.hnb ok.hlen ok.hsym ok.hts ok.hall
 rcases h3 with⟨rfl,_⟩ | ⟨_,h3⟩
 ·refine⟨S',Pm (n:=2) (mb:=C7 W) (e:=[sR q,sZ]) ?_,k1⟩
  unfold C7;refine(A1 (e1:=[sR q,sZ]) (S1:=S') (Cb (i:=1) ((Bz (ds:=[.ref q]) (S1:=S) rfl rfl).trans c1))).trans (MF ?_);exact(Ck (c:=true) (Es (BF (x:=.non) (y:=.non) (S1:=S') (S2:=S') rfl rfl rfl))).trans ((qX rfl).trans (Pq (ds:=[.str "the web has no two colours"]) rfl (by simp)))
 ·exact zX h3 h2
def fk(W:Wd)(k:Int):List D->Sto->Res D:=if k=0 then EV W else if k=1 then DW W else DH W
theorem fk0:fk W 0=EV W:=qX rfl
theorem fk1:fk W 1=DW W:=(qY (by decide)).trans (qX rfl)
theorem fk2:fk W 2=DH W:=(qY (by decide)).trans (qY (by decide))
theorem UV(ok:Wok w)(h2:¬Hn (nbW w.2) w.1 (col (nbW w.2) w.1))(hq:S[q]?=some (Fb W w)):∃S',DW W [.ref q] S=.err W.NotTwo S'/\Keeps S S':=by
 obtain⟨S',c,k⟩:=QP ok h2 hq;refine⟨S',Pm (n:=3) (mb:=Fs W) (e:=Cm 3 [.ref q]) ?_,k⟩;unfold Fs;exact MF (R6 ((Bz (ds:=[.ref q]) (S1:=S) rfl rfl).trans c))
theorem nN(ok:Wok w)(h2:¬Hn (nbW w.2) w.1 (col (nbW w.2) w.1))(hq:S[q]?=some (Fb W w))(hk:k=0∨k=1∨k=2):∃S',fk W k [.ref q] S=.err W.NotTwo S'/\Keeps S S':=by
 rcases hk with rfl | rfl | rfl
 ·rw[fk0]
  obtain⟨S',c,k⟩:=QP ok h2 hq;refine⟨S',Pm (n:=2) (mb:=Gw W) (e:=Cm 2 [.ref q]) ?_,k⟩;unfold Gw;exact MF (R6 (kZ (fg (d:=.ref q) (S1:=S) rfl (fh ((Bz (ds:=[.ref q]) (S1:=S) rfl rfl).trans c)))))
 ·rw[fk1]
  exact UV ok h2 hq
 ·rw[fk2]
  obtain⟨S',c,k⟩:=UV ok h2 hq;refine⟨S',Pm (n:=8) (mb:=Dv W) (e:=Cm 8 [.ref q]) ?_,k⟩;unfold Dv;exact MF (R6 ((Bz (ds:=[.ref q]) (S1:=S) rfl rfl).trans c))
theorem nM(ok:Wok w)(qi:∀x,(nbW w.2 x).Nodup)(h2:Hn (nbW w.2) w.1 (cw w))(hq:S[q]?=some (Fb W w))(hk:k=0∨k=1∨k=2):∃d S',fk W k [.ref q] S=.ok d S'/\Keeps S S':=by
 obtain⟨H,Q,mt,R,e3,e4⟩:=YM ok qi h2;have e5:=gB ok.hp e4 e3 (jD ok h2 mt)
 rcases hk with rfl | rfl | rfl
 ·rw[fk0]
  obtain⟨d,S',c,K,_⟩:=Mw W w _ e3 S [.ref q] ⟨⟨q,rfl,hq⟩,trivial⟩;exact⟨d,S',c,K⟩
 ·rw[fk1]
  obtain⟨d,S',c,K,_⟩:=Lm W w _ e4 S [.ref q] ⟨⟨q,rfl,hq⟩,trivial⟩;exact⟨d,S',c,K⟩
 ·rw[fk2]
  obtain⟨d,S',c,K,_⟩:=Mx W w _ e5 S [.ref q] ⟨⟨q,rfl,hq⟩,trivial⟩;exact⟨d,S',c,K⟩
theorem XI(hk:k=0∨k=1∨k=2):sIf (mB (m2 (eqD false) (AA 0) (mC (.int 0)))) (B0 (BG 1 (EV W) (AF (AA 1) Aj))) (sIf (mB (m2 (eqD false) (AA 0) (mC (.int 1)))) (B0 (BG 1 (DW W) (AF (AA 1) Aj))) (B0 (BG 1 (DH W) (AF (AA 1) Aj)))) [sI k,sR q,z2,z3,z4] S=B0 (BG 1 (fk W k) (AF (AA 1) Aj)) [sI k,sR q,z2,z3,z4] S:=by
 rcases hk with rfl | rfl | rfl
 ·rw[fk0]
  exact(Ck (c:=true) (Es (BF (x:=.int 0) (y:=.int 0) (S1:=S) (S2:=S) rfl rfl rfl))).trans (qX rfl)
 ·rw[fk1]
  exact(Ck (c:=false) (Es (BF (x:=.int 1) (y:=.int 0) (S1:=S) (S2:=S) rfl rfl rfl))).trans ((qY AL).trans ((Ck (c:=true) (Es (BF (x:=.int 1) (y:=.int 1) (S1:=S) (S2:=S) rfl rfl rfl))).trans (qX rfl)))
 ·rw[fk2]
  exact(Ck (c:=false) (Es (BF (x:=.int 2) (y:=.int 0) (S1:=S) (S2:=S) rfl rfl rfl))).trans ((qY AL).trans ((Ck (c:=false) (Es (BF (x:=.int 2) (y:=.int 1) (S1:=S) (S2:=S) rfl rfl rfl))).trans (qY AL)))
theorem aY(hk:k=0∨k=1∨k=2)(hb:∀S1,Keeps S S1->∃d S2,fk W k [.ref q] S1=.ok d S2/\Keeps S1 S2):∃n S',CY W [.int k,.ref q] S=.ok (.ref n) S'/\Keeps S S'/\S'[n]?=some (.lst []):=by
 obtain⟨d,S2,c,K⟩:=hb _ (Keeps.app S [.lst []]);refine⟨S.length,S2,Cz (n:=5) (mb:=Gy W) ?_,(Keeps.app _ _).trans K,K.at (Bj _ _)⟩;unfold Gy;refine(A1 (e1:=[sI k,sR q,sR S.length,none,none]) (S1:=S++[.lst []]) (Cb (i:=2) (HM (IR (ds:=[]) rfl (by simp))))).trans ?_;refine(A1 (e1:=[sI k,sR q,sR S.length,none,none]) (S1:=S2) (iZ ((XI hk).trans (Di ((Bz (ds:=[.ref q]) (S1:=S++[.lst []]) rfl rfl).trans c))))).trans ?_;exact Fa rfl
theorem aa(nd:W.excs.Nodup):BD (Bc 4 (YR (A6 W) (AA 3))) (Bc 2 (CL (Bi (AF (mIs isN (JV W) (AA 3)) (AF (mIs isV (Fk W) (AA 3)) (AF (AA 4) Aj)))))) [sI k,sR q,sR n,some (.exc W.NotTwo),none] S2=oN [sI k,sR q,sR S2.length,some (.exc W.NotTwo),some (.bl false)] (S2++[.lst [.bl true,.bl true,.bl false]]):=by
 obtain⟨t1,t2,t3⟩:=tabs nd;have a1:Bc 4 (YR (A6 W) (AA 3)) [sI k,sR q,sR n,some (.exc W.NotTwo),none] S2=oN [sI k,sR q,sR n,some (.exc W.NotTwo),some (.bl false)] S2:=Cb (i:=4) (jy rfl t3);refine(A1 a1).trans ?_;exact Cb (i:=2) (HM (IR (ds:=[.bl true,.bl true,.bl false]) (BH (bB rfl t1) (BH (bB rfl t2) (BH (d:=.bl false) (S1:=S2) rfl rfl))) (by simp)))
theorem aZ(nd:W.excs.Nodup)(hk:k=0∨k=1∨k=2)(hb:∀S1,Keeps S S1->∃S2,fk W k [.ref q] S1=.err W.NotTwo S2/\Keeps S1 S2):∃n S',CY W [.int k,.ref q] S=.ok (.ref n) S'/\Keeps S S'/\S'[n]?=some (.lst [.bl true,.bl true,.bl false]):=by
 obtain⟨S2,c,K⟩:=hb _ (Keeps.app S [.lst []]);refine⟨S2.length,S2++[.lst [.bl true,.bl true,.bl false]],Cz (n:=5) (mb:=Gy W) ?_,((Keeps.app _ _).trans K).trans (Keeps.app _ _),Bj _ _⟩;unfold Gy;refine(A1 (e1:=[sI k,sR q,sR S.length,none,none]) (S1:=S++[.lst []]) (Cb (i:=2) (HM (IR (ds:=[]) rfl (by simp))))).trans ?_;have body:=(XI (W:=W) (q:=q) (z2:=some (.ref S.length)) (z3:=none) (z4:=none) (S:=S++[.lst []]) hk).trans (Yi ((Bz (ds:=[.ref q]) (S1:=S++[.lst []]) rfl rfl).trans c));have s2:=ie (cs:=W.excs) (i:=3) body (by simp[Wd.excs]) (aa nd);exact(A1 s2).trans (Fa rfl)
theorem Lp(hv:∀z S',AA j (z :: e) S'=.ok (.ref q) S')(hm:∀k:Int,(k=0∨k=1∨k=2)->∀S',Keeps S S'->∃n pB,CY W [.int k,.ref q] S'=.ok (.ref n) pB/\Keeps S' pB/\pB[n]?=some (.lst o)) :
  ∃(rs:List Nat) (S1:Sto),CL (D6 1 (iR1 (AF (mC (.int 3)) Aj)) (tgN 0) FY (BG 2 (CY W) (AF (AA 0) (AF (AA j) Aj)))) e S=.ok (.ref S1.length) (S1++[.lst (rs.map D.ref)])/\Keeps S S1/\rs.length=3/\∀r∈rs,S1[r]?=some (.lst o):=by
 obtain⟨r,S1,c1,e',_,K,rs,rfl,hl,hr⟩:=O3 (v:=Dp (DE 0 3)) (g:=tgN 0) (c:=FY) (m:=BG 2 (CY W) (AF (AA 0) (AF (AA j) Aj))) (xs:=DE 0 3) (e:=none :: e) (S:=S)
  (λi e' S' acc=>(∃z,e'=z :: e)/\Keeps S S'/\∃rs:List Nat,acc=rs.map D.ref/\rs.length=i/\∀r∈rs,S'[r]?=some (.lst o)) ⟨⟨none,rfl⟩,Keeps.refl _,[],rfl,rfl,λ_ h=>nomatch h⟩ (λ_ _ _ _ _=>rfl)
  (by
   rintro i d e' S' acc hd ⟨⟨z,rfl⟩,K,rs,rfl,hl,hr⟩
   obtain⟨k,rfl,hk⟩:∃k:Int,d=.int k/\(k=0∨k=1∨k=2):=by
    match i,hd with
    | 0,hd=>cases hd;exact⟨0,rfl,.inl rfl⟩
    | 1,hd=>cases hd;exact⟨1,rfl,.inr (.inl rfl)⟩
    | 2,hd=>cases hd;exact⟨2,rfl,.inr (.inr rfl)⟩
    | i+3,hd=>cases hd
   obtain⟨n,S2,c2,K2,h2⟩:=hm k hk S' K;have hi:i < 3:=(AC.mp hd).1;refine⟨?_,some (.int k) :: e,S',rfl,true,S',rfl,.inl ⟨rfl,.ref n,S2,(Bz (ds:=[.int k,.ref q]) (S1:=S') (BH rfl (BH (hv _ _) rfl)) rfl).trans c2,⟨_,rfl⟩,K.trans K2,rs++[n],by simp,by simp[hl],λr h=>?_⟩⟩
   ·rw[AE,hl]
    exact AU hi (by decide)
   ·rcases Af.mp h with h | h
    ·exact K2.at (hr r h)
    ·rw[AJ.mp h];exact h2)
 exact⟨rs,S1,HM ((NR (n:=1) (K7 (j:=3) rfl (by decide) (by decide))).trans c1),K,hl,hr⟩
end
theorem UQ(ho:eqL (eqP 7) o o=some true):∀(rs ts:List Nat),rs.length=ts.length->(∀r∈rs,F[r]?=some (.lst o))->(∀t∈ts,F[t]?=some (.lst o))->(∀r∈rs,∀t∈ts,r≠t)->eqL (eqI F) (rs.map D.ref) (ts.map D.ref)=some true
 | [],[],_,_,_,_=>rfl
 | r :: rs,t :: ts,hl,h1,h2,h3=>by
  rw[BA,BA];unfold eqL
  have:eqI F (.ref r) (.ref t)=some true:=by
   unfold eqI;dsimp only;rw[qY (h3 r Aq t Aq),h1 r Aq,h2 t Aq];dsimp only;rw[qX rfl];exact ho
  rw[this,UQ ho rs ts (Jm hl) (λx h=>h1 x (AT _ h)) (λx h=>h2 x (AT _ h)) λx h y h'=>h3 x (AT _ h) y (AT _ h')];rfl
 | [],_ :: _,hl,_,_,_=>nomatch hl
 | _ :: _,[],hl,_,_,_=>nomatch hl
theorem RV{F:Sto}{o:List D}(ho:eqL (eqP 7) o o=some true){rs ts:List Nat}{a b:Nat}(ha:F[a]?=some (.lst (rs.map D.ref)))(hb:F[b]?=some (.lst (ts.map D.ref)))(hl:rs.length=ts.length)(h1:∀r∈rs,F[r]?=some (.lst o))(h2:∀t∈ts,F[t]?=some (.lst o))(h3:∀r∈rs,∀t∈ts,r≠t)(neg:Bool):Qu neg (.ref a) (.ref b) F=.ok (.bl (!neg)) F:=by
 unfold Qu fV;dsimp only;rw[ha,hb];dsimp only;rw[qX (by simp[hl]),UQ ho rs ts hl h1 h2 h3]
 cases neg <;> rfl
theorem eq_nil{W:Wd}{q j:Nat}{e:Lo}{S:Sto}(hv:∀z S',AA j (z :: e) S'=.ok (.ref q) S')(hm:∀k:Int,(k=0∨k=1∨k=2)->∀S',Keeps S S'->∃n pB,CY W [.int k,.ref q] S'=.ok (.ref n) pB/\Keeps S' pB/\pB[n]?=some (.lst [])) :
  ∃S',m2 (Qu true) (CL (D6 1 (iR1 (AF (mC (.int 3)) Aj)) (tgN 0) FY (BG 2 (CY W) (AF (AA 0) (AF (AA j) Aj))))) (CL (Bi (AF (CL (Bi Aj)) (AF (CL (Bi Aj)) (AF (CL (Bi Aj)) Aj))))) e S=.ok (.bl false) S'/\Keeps S S':=by
 obtain⟨rs,S1,c1,K1,hl,hr⟩:=Lp hv hm;generalize hF:S1++[Ob.lst (rs.map D.ref)]=F at c1
 have KF:Keeps S1 F:=by rw[<-hF];exact Keeps.app _ _
 have hA:F[S1.length]?=some (.lst (rs.map D.ref)):=by rw[<-hF];exact Bj _ _
 have n1:∀S:Sto,CL (Bi Aj) e S=.ok (.ref S.length) (S++[.lst []]):=λS=>HM (IR (ds:=[]) rfl (by simp))
 have c2:CL (Bi (AF (CL (Bi Aj)) (AF (CL (Bi Aj)) (AF (CL (Bi Aj)) Aj)))) e F=.ok (.ref (F++[Ob.lst []]++[Ob.lst []]++[Ob.lst []]).length) (F++[Ob.lst []]++[Ob.lst []]++[Ob.lst []]++[.lst [.ref F.length,.ref (F++[Ob.lst []]).length,.ref (F++[Ob.lst []]++[Ob.lst []]).length]]):=HM (IR (ds:=[.ref F.length,.ref (F++[Ob.lst []]).length,.ref (F++[Ob.lst []]++[Ob.lst []]).length]) (BH (n1 F) (BH (n1 _) (BH (n1 _) rfl))) (by simp));have K2:Keeps F (F++[Ob.lst []]++[.lst []]++[.lst []]++[.lst [.ref F.length,.ref (F++[Ob.lst []]).length,.ref (F++[Ob.lst []]++[Ob.lst []]).length]]):=(((Keeps.app _ _).trans (Keeps.app _ _)).trans (Keeps.app _ _)).trans (Keeps.app _ _)
 have t0:=((Keeps.app _ [Ob.lst []]).trans (Keeps.app _ [Ob.lst []])).trans (Keeps.app _ [Ob.lst [.ref F.length,.ref (F++[Ob.lst []]).length,.ref (F++[Ob.lst []]++[Ob.lst []]).length]]) |>.at (Bj F (.lst []))
 have t1:=(Keeps.app _ [Ob.lst []]).trans (Keeps.app _ [Ob.lst [.ref F.length,.ref (F++[Ob.lst []]).length,.ref (F++[Ob.lst []]++[Ob.lst []]).length]]) |>.at (Bj (F++[Ob.lst []]) (.lst []))
 have t2:=(Keeps.app _ [Ob.lst [.ref F.length,.ref (F++[Ob.lst []]).length,.ref (F++[Ob.lst []]++[Ob.lst []]).length]]).at (Bj (F++[Ob.lst []]++[Ob.lst []]) (.lst []));have hB:=Bj (F++[Ob.lst []]++[Ob.lst []]++[Ob.lst []]) (.lst [.ref F.length,.ref (F++[Ob.lst []]).length,.ref (F++[Ob.lst []]++[Ob.lst []]).length]);refine⟨_,BF c1 c2 (RV (o:=[]) rfl (rs:=rs) (ts:=[F.length,(F++[Ob.lst []]).length,(F++[Ob.lst []]++[Ob.lst []]).length]) (K2.at hA) hB hl (λr h=>K2.at (KF.at (hr r h))) (λt h=>?_) (λr h t h'=>?_) true),(K1.trans KF).trans K2⟩
 ·simp only[At,Bx,or_false]at h
  rcases h with rfl | rfl | rfl
  ·exact t0
  ·exact t1
  ·exact t2
 ·have:=B5 (KF.at (hr r h))
  simp only[At,Bx,or_false]at h'
  rcases h' with rfl | rfl | rfl <;> (try simp only[Ad]) <;> lia
theorem nO{W:Wd}{q j:Nat}{e:Lo}{S:Sto}(hv:∀z S',AA j (z :: e) S'=.ok (.ref q) S')(hm:∀k:Int,(k=0∨k=1∨k=2)->∀S',Keeps S S'->∃n pB,CY W [.int k,.ref q] S'=.ok (.ref n) pB/\Keeps S' pB/\pB[n]?=some (.lst [.bl true,.bl true,.bl false])) :
  ∃S',m2 (Qu false) (CL (D6 1 (iR1 (AF (mC (.int 3)) Aj)) (tgN 0) FY (BG 2 (CY W) (AF (AA 0) (AF (AA j) Aj))))) (m2 X9 (CL (Bi (AF (CL (Bi (AF (mC (.bl true)) (AF (mC (.bl true)) (AF (mC (.bl false)) Aj))))) Aj))) (mC (.int 3))) e S=.ok (.bl true) S':=by
 obtain⟨rs,S1,c1,K1,hl,hr⟩:=Lp hv hm;generalize hF:S1++[Ob.lst (rs.map D.ref)]=F at c1
 have KF:Keeps S1 F:=by rw[<-hF];exact Keeps.app _ _
 have hA:F[S1.length]?=some (.lst (rs.map D.ref)):=by rw[<-hF];exact Bj _ _
 have i1:CL (Bi (AF (mC (.bl true)) (AF (mC (.bl true)) (AF (mC (.bl false)) Aj)))) e F=.ok (.ref F.length) (F++[.lst [.bl true,.bl true,.bl false]]):=HM (IR (ds:=[.bl true,.bl true,.bl false]) rfl (by simp));have K2:=Keeps.app F [.lst [.bl true,.bl true,.bl false]];have b2:=Bj F (.lst [.bl true,.bl true,.bl false]);generalize F++[Ob.lst [.bl true,.bl true,.bl false]]=F2 at i1 K2 b2;have i2:CL (Bi (AF (CL (Bi (AF (mC (.bl true)) (AF (mC (.bl true)) (AF (mC (.bl false)) Aj))))) Aj)) e F=.ok (.ref F2.length) (F2++[.lst [.ref F.length]]):=HM (IR (ds:=[.ref F.length]) (BH i1 rfl) (by simp));have K3:=Keeps.app F2 [.lst [.ref F.length]]
 have i3:X9 (.ref F2.length) (.int 3) (F2++[.lst [.ref F.length]])=.ok (.ref (F2++[Ob.lst [.ref F.length]]).length) (F2++[.lst [.ref F.length]]++[.lst [.ref F.length,.ref F.length,.ref F.length]]):=by
  unfold X9;dsimp only;rw[Bj];rfl
 generalize F2++[Ob.lst [.ref F.length]]=F3 at i2 i3 K3;have K4:=Keeps.app F3 [.lst [.ref F.length,.ref F.length,.ref F.length]];have KK:=(K2.trans K3).trans K4;refine⟨_,BF c1 (BF i2 rfl i3) (RV (o:=[.bl true,.bl true,.bl false]) rfl (rs:=rs) (ts:=[F.length,F.length,F.length]) (KK.at hA) (Bj F3 (.lst [.ref F.length,.ref F.length,.ref F.length])) hl (λr h=>KK.at (KF.at (hr r h))) (λt h=>?_) (λr h t h'=>?_) false)⟩
 ·simp only[At,Bx,or_false,or_self]at h
  subst h;exact(K3.trans K4).at b2
 ·have:=B5 (KF.at (hr r h))
  simp only[At,Bx,or_false,or_self]at h'
  lia
theorem good(W:Wd)(nd:W.excs.Nodup)(ns:List Int)(ri:ns.length<=63):∃S',bV W [.fro (ns.map D.int)] []=.ok (.bl true) S':=by
 obtain⟨h,hc⟩:=XH W ns 0 [];obtain⟨m,t,us,S1,c1,K1,t1,u1,l1,qc,hm,cf,vB⟩:=Yd W ns [];have s1:Bc 1 (BG 2 (EJ W) (AF (AA 0) (AF (mC (.int 0)) Aj))) (Cm 7 [.fro (ns.map D.int)]) []=oN [sF ns,sI h,none,none,none,none,none] []:=Cb (i:=1) ((Bz (ds:=[.fro (ns.map D.int),.int 0]) (S1:=[]) rfl rfl).trans hc)
 have s2:Va (BG 1 (Fo W) (AF (AA 0) Aj)) (Gj 2 (CG (tgN 2) (CG (tgN 3) G7))) [sF ns,sI h,none,none,none,none,none] []=oN [sF ns,sI h,sI m,sR t,none,none,none] S1:=by
  have c1':BG 1 (Fo W) (AF (AA 0) Aj) [sF ns,sI h,none,none,none,none,none] []=.ok (.tup [.int m,.ref t]) S1:=(Bz (ds:=[.fro (ns.map D.int)]) (S1:=[]) rfl rfl).trans c1;unfold Va;rw[c1'];rfl
 obtain⟨q,S2,c2,K2,q2,w2⟩:=RU W (c:=h) t1 qc hm u1.fit (by lia) (e:=[sF ns,sI h,sI m,sR t,none,none,none]) (mp:=AA 2) (mt:=AA 3) (mc:=AF (AA 1) Aj) rfl rfl;obtain⟨ok,qi,pZ⟩:=ZN u1 hm;have h2:=iY u1 hm vB
 obtain⟨S3,c3,K3⟩:=eq_nil (W:=W) (q:=q) (j:=5) (e:=[sF ns,sI h,sI m,sR t,sR q,none,none]) (S:=S2) (λ_ _=>rfl) λk hk S' K=>aY hk λS1 K'=>nM ok qi h2 ((K.trans K').at w2) hk
 have t3:=K3.at (K2.at t1)
 rcases Zz u1 qc hm l1 (h / 11)with e4 | ⟨told,e4,u2,l2,hr⟩
 ·obtain⟨d4,S4,c4,K4,r4⟩:=Ln W m us (h / 11) _ e4 S3 [.int m,.ref t,.int (h / 11)] ⟨rfl,⟨t,rfl,t3⟩,rfl,trivial⟩
  have r4:d4=.non:=r4;subst r4;refine⟨S4,Cz (n:=7) (mb:=UZ W) ?_⟩;unfold UZ;refine(A1 s1).trans ((A1 s2).trans ((A1 (Cb (i:=4) c2)).trans ?_));refine(Oy (Es c3)).trans ?_;refine(A1 (e1:=[sF ns,sI h,sI m,sR t,sR q,sZ,none]) (S1:=S4) (Cb (i:=5) ((Bz (ds:=[.int m,.ref t,.int (h / 11)]) (S1:=S3) rfl rfl).trans c4))).trans ?_;exact MD ((Ck (c:=true) (Es (BF (x:=.non) (y:=.non) (S1:=S4) (S2:=S4) rfl rfl rfl))).trans ((qX rfl).trans (Fa rfl)))
 ·obtain⟨d4,S4,c4,K4,r4⟩:=Ln W m us (h / 11) _ e4 S3 [.int m,.ref t,.int (h / 11)] ⟨rfl,⟨t,rfl,t3⟩,rfl,trivial⟩
  obtain⟨n4,rfl,g4,a4⟩:∃n,d4=.ref n/\S3.length<=n/\S4[n]?=some (oL (eP D.int D.int) told):=r4
  obtain⟨q',S5,c5,K5,q5,w5⟩:=RU W (c:=h) a4 qc hm u2.fit (by lia) (e:=[sF ns,sI h,sI m,sR t,sR q,sR n4,none]) (mp:=AA 2) (mt:=AA 5) (mc:=AF (AA 1) Aj) rfl rfl;obtain⟨wJ,hnd',hmem'⟩:=ZN u2 hm
  obtain⟨S6,c6⟩:=nO (W:=W) (q:=q') (j:=7) (e:=[sF ns,sI h,sI m,sR t,sR q,sR n4,sR q']) (S:=S5) (λ_ _=>rfl) λk hk S' K=>aZ nd hk λS1 K'=>nN wJ (dg u2 qc hr) ((K.trans K').at w5) hk
  refine⟨S6,Cz (n:=7) (mb:=UZ W) ?_⟩;unfold UZ;refine(A1 s1).trans ((A1 s2).trans ((A1 (Cb (i:=4) c2)).trans ?_));refine(Oy (Es c3)).trans ?_;refine(A1 (e1:=[sF ns,sI h,sI m,sR t,sR q,sR n4,none]) (S1:=S4) (Cb (i:=5) ((Bz (ds:=[.int m,.ref t,.int (h / 11)]) (S1:=S3) rfl rfl).trans c4))).trans ?_;refine(Oy (Es (BF (x:=.ref n4) (y:=.non) (d:=.bl false) (S1:=S4) (S2:=S4) (S3:=S4) rfl rfl rfl))).trans ?_;exact(A1 (Cb (i:=6) c5)).trans (Fa c6)
end M
namespace PySem.W.Fast
def tw4005684913825204194:Nat:=0
def tw8484438094951256029:Nat:=0
def tw15253619534327830133:Nat:=0
def tw5190033116035793400:Nat:=0
def tw2642063473235208455:Nat:=0
def tw3044468864113479698:Nat:=0
def tw15892341990081315886:Nat:=0
def tw5987028743854250016:Nat:=0
def tw4793968848750214031:Nat:=0
def tw7856651079515657863:Nat:=0
def tw2459766775679049211:Nat:=0
def tw4504730921746711574:Nat:=0
def tw11341321668169624139:Nat:=0
def tw12561659035875883727:Nat:=0
def tw17711864246378455993:Nat:=0
def tw14425007358493828839:Nat:=0
def tw16646806680963943685:Nat:=0
def tw6875786473180629641:Nat:=0
def tw17450129311421767915:Nat:=0
def tw9645214024284276846:Nat:=0
def tw3113968677673340072:Nat:=0
def tw5703944550290646168:Nat:=0
def tw13134126453865991709:Nat:=0
def tw4011441547038602241:Nat:=0
def tw3652440229828299005:Nat:=0
def tw7888544201066338486:Nat:=0
def tw15929413570457287002:Nat:=0
def tw8929588916147547036:Nat:=0
def tw6781975513443605750:Nat:=0
def tw13278264572507056552:Nat:=0
def tw16640649448564300442:Nat:=0
def tw2566233079102707648:Nat:=0
def tw11897881784575117393:Nat:=0
def tw14979027413415992729:Nat:=0
def tw13299839329892243164:Nat:=0
def tw6185490347707539238:Nat:=0
def tw975961436131030841:Nat:=0
def tw268707006368340154:Nat:=0
def tw4036978029011454716:Nat:=0
def tw8364010467528884125:Nat:=0
def tw16252689898181382930:Nat:=0
def tw3413859216412983455:Nat:=0
def tw17297165164303904496:Nat:=0
def tw13790670959349721474:Nat:=0
def tw15510127752945556417:Nat:=0
def tw2673586178413709051:Nat:=0
def tw5376476821564310492:Nat:=0
def tw16130893703799548252:Nat:=0
def tw15174274568075571537:Nat:=0
def tw14389654548352892705:Nat:=0
def tw1093521451927655708:Nat:=0
def tw12387570822588472835:Nat:=0
def tw478061090139307759:Nat:=0
def tw7810583227368061334:Nat:=0
def tw5152531385084515034:Nat:=0
def tw3361400833072711935:Nat:=0
def tw16038465152811890606:Nat:=0
def tw2129843320968939107:Nat:=0
def tw6337761964978109255:Nat:=0
def tw12553447414800461808:Nat:=0
def tw6076640884874856520:Nat:=0
def tw2984601509631769370:Nat:=0
def tw946454351093447456:Nat:=0
def tw17793584049155640406:Nat:=0
def tw2877188268498053426:Nat:=0
def tw16685843885009648598:Nat:=0
def tw2207743055863451663:Nat:=0
def tw12292938478055581953:Nat:=0
def tw1794498780081980835:Nat:=0
def tw13299316693873808591:Nat:=0
def tw4176550234435947720:Nat:=0
def tw730717454742032665:Nat:=0
def tw14823969882781947968:Nat:=0
def tw11241994949706165143:Nat:=0
def tw2640225390023863020:Nat:=0
def tw9420360123184533901:Nat:=0
def tw17132534339198570814:Nat:=0
def tw10543044827004760350:Nat:=0
def tw14415589399664493443:Nat:=0
def tw5077922766423348015:Nat:=0
def tw1216499200281677646:Nat:=0
def tw7300808174273287531:Nat:=0
def tw7384797187644759495:Nat:=0
def tw4311155312553633092:Nat:=0
def tw2659072078694324968:Nat:=0
def tw9680230093784488046:Nat:=0
def tw16127264352839867825:Nat:=0
def tw10496994728606650844:Nat:=0
def tw9903681364343286362:Nat:=0
def tw209888255415517060:Nat:=0
end PySem.W.Fast
namespace M
open PySem PySem.Spec PyProof.Rows L2 PySem.W
theorem kc{l:OpenLaw}{w:CF}{K:Frag}{h:Cj}{mg:Str->Option AH}{fa:AV}(X:K.In h)(G:h.Ns Ah mg)(hfa:mg "law" = some (.ref fa))
  {f1 f2 f3 f4 f5 f6 f7 f8 f9 tD tV vN vO vP vQ vR vS vT vU vV vW vX vY vZ w8 w9 oi j' oh oa oI oz og oS pD:AV} {oW:Tok}
  {od1 an1 od2 an2 od3 an3 od4 an4 od5 an5 od6 an6 od7 an7 od8 an8 od9 an9 xX xY xZ y3 y8 y9 ya yb yc yd ye yf yg yh yi yj yk ym yn yo yp yq yr yt yu yw yx yy yz yA yB yC yD yE:Option AV} {sl1 tx sl3 sl4 sl5 sl6 sl7 sl8 sl9 yF yG yH yI yJ yK yL yM yN yO yP yQ yR yS yT yU yV:Array (Option AH)} {oc1 kV1 dc1 pm1 cd1 ct1 oc2 kV2 dc2 pm2 cd2 ct2 oc3 kV3 dc3 pm3 cd3 ct3 oc4 kV4 dc4 pm4 cd4 ct4 oc5 kV5 dc5 pm5 cd5 ct5 oc6 kV6 dc6 pm6 cd6 ct6 oc7 kV7 dc7 pm7 cd7 ct7 oc8 kV8 dc8 pm8 cd8 ct8 oc9 kV9 dc9 pm9 cd9 ct9 yW yX yY yZ uR zc zd ze zf zg uS zh zi zj zk zl uT zm zo zp zq zr uU zt zu zv zw zx uV zy zz zA zB zC uW zD zE zF zG zH uX zI zJ zK zL zM uY zN zO zP zQ zR uZ zS zT zU zV zW v3 zY zZ B' G' J' v5 My M' P' T' U' v7 V' W' Y' Z' Α v8 Β Γ Δ Ε Ζ vb Η Θ Ι Κ Λ vd Μ Ν Ξ Ο Ρ ve Τ Υ Φ Χ Ψ vf Ω:AH}
  (a_Web:nsIn K Ah "Web" = some (some (.ref pD)))
  (a_GuardError:nsIn K Ah "GuardError" = some (some (.ref oi)))
  (a_BadPlaces:nsIn K Ah "BadPlaces" = some (some (.ref j')))
  (a_BadTie:nsIn K Ah "BadTie" = some (some (.ref oh)))
  (a_NoPlace:nsIn K Ah "NoPlace" = some (some (.ref oa)))
  (a_TooLarge:nsIn K Ah "TooLarge" = some (some (.ref oI)))
  (a_BadGuards:nsIn K Ah "BadGuards" = some (some (.ref oz)))
  (a_NotTwo:nsIn K Ah "NotTwo" = some (some (.ref og)))
  (a_NotWood:nsIn K Ah "NotWood" = some (some (.ref oS)))
  (a1:nsIn K Ah "checked_ties" = some (some (.ref f1)))
  (l1:K.lookup f1=some ⟨oc1,od1,.func (fnOf "checked_ties" "checked_ties" (B6 EC) (By EC) (As EC) .none kV1 dc1 pm1 an1 cd1 ct1),sl1⟩)
  (k1c:codeIn K cd1 "checked_ties" = true)
  (k1:keepIn K (.ref f1)=true)
  (a2:nsIn K Ah "near_sets_of" = some (some (.ref f2)))
  (l2:K.lookup f2=some ⟨oc2,od2,.func (fnOf "near_sets_of" "near_sets_of" (B6 EB) (By EB) (As EB) .none kV2 dc2 pm2 an2 cd2 ct2),tx⟩)
  (k2c:codeIn K cd2 "near_sets_of" = true)
  (k2:keepIn K (.ref f2)=true)
  (a3:findIn K (.ref pD) "__init__" = some (some (.ref f3)))
  (i3:isFn K (.ref f3)=true)
  (l3:K.lookup f3=some ⟨oc3,od3,.func (fnOf "__init__" "Web.__init__" (B6 HI) (By HI) (As HI) .none kV3 dc3 pm3 an3 cd3 ct3),sl3⟩)
  (k3c:codeIn K cd3 "Web.__init__" = true)
  (k3:keepIn K (.ref f3)=true)
  (a4:nsIn K Ah "refuse_no_place" = some (some (.ref f4)))
  (l4:K.lookup f4=some ⟨oc4,od4,.func (fnOf "refuse_no_place" "refuse_no_place" (B6 DC) (By DC) (As DC) .none kV4 dc4 pm4 an4 cd4 ct4),sl4⟩)
  (k4c:codeIn K cd4 "refuse_no_place" = true)
  (k4:keepIn K (.ref f4)=true)
  (a5:nsIn K Ah "near" = some (some (.ref f5)))
  (l5:K.lookup f5=some ⟨oc5,od5,.func (fnOf "near" "near" (B6 Np) (By Np) (As Np) .none kV5 dc5 pm5 an5 cd5 ct5),sl5⟩)
  (k5c:codeIn K cd5 "near" = true)
  (k5:keepIn K (.ref f5)=true)
  (a6:nsIn K Ah "steps_from" = some (some (.ref f6)))
  (l6:K.lookup f6=some ⟨oc6,od6,.func (fnOf "steps_from" "steps_from" (B6 FP) (By FP) (As FP) .none kV6 dc6 pm6 an6 cd6 ct6),sl6⟩)
  (k6c:codeIn K cd6 "steps_from" = true)
  (k6:keepIn K (.ref f6)=true)
  (a7:nsIn K Ah "parts_of" = some (some (.ref f7)))
  (l7:K.lookup f7=some ⟨oc7,od7,.func (fnOf "parts_of" "parts_of" (B6 HG) (By HG) (As HG) .none kV7 dc7 pm7 an7 cd7 ct7),sl7⟩)
  (k7c:codeIn K cd7 "parts_of" = true)
  (k7:keepIn K (.ref f7)=true)
  (a8:nsIn K Ah "steps_in_parts" = some (some (.ref f8)))
  (l8:K.lookup f8=some ⟨oc8,od8,.func (fnOf "steps_in_parts" "steps_in_parts" (B6 DX) (By DX) (As DX) .none kV8 dc8 pm8 an8 cd8 ct8),sl8⟩)
  (k8c:codeIn K cd8 "steps_in_parts" = true)
  (k8:keepIn K (.ref f8)=true)
  (a9:nsIn K Ah "first_clash" = some (some (.ref f9)))
  (l9:K.lookup f9=some ⟨oc9,od9,.func (fnOf "first_clash" "first_clash" (B6 Ef) (By Ef) (As Ef) .none kV9 dc9 pm9 an9 cd9 ct9),sl9⟩)
  (k9c:codeIn K cd9 "first_clash" = true)
  (k9:keepIn K (.ref f9)=true)
  (a10:nsIn K Ah "two_colours" = some (some (.ref tD)))
  (l10:K.lookup tD=some ⟨yW,xX,.func (fnOf "two_colours" "two_colours" (B6 Ed) (By Ed) (As Ed) .none yX yY yZ xY uR zc),yF⟩)
  (k10c:codeIn K uR "two_colours" = true)
  (k10:keepIn K (.ref tD)=true)
  (a11:nsIn K Ah "settle" = some (some (.ref tV)))
  (l11:K.lookup tV=some ⟨zd,xZ,.func (fnOf "settle" "settle" (B6 JX) (By JX) (As JX) .none ze zf zg y3 uS zh),yG⟩)
  (k11c:codeIn K uS "settle" = true)
  (k11:keepIn K (.ref tV)=true)
  (a12:nsIn K Ah "colours_or_refused" = some (some (.ref vN)))
  (l12:K.lookup vN=some ⟨zi,y8,.func (fnOf "colours_or_refused" "colours_or_refused" (B6 Cc) (By Cc) (As Cc) .none zj zk zl y9 uT zm),yH⟩)
  (k12c:codeIn K uT "colours_or_refused" = true)
  (k12:keepIn K (.ref vN)=true)
  (a13:nsIn K Ah "partners" = some (some (.ref vO)))
  (l13:K.lookup vO=some ⟨zo,ya,.func (fnOf "partners" "partners" (B6 HH) (By HH) (As HH) .none zp zq zr yb uU zt),yI⟩)
  (k13c:codeIn K uU "partners" = true)
  (k13:keepIn K (.ref vO)=true)
  (a14:nsIn K Ah "most_pairs" = some (some (.ref vP)))
  (l14:K.lookup vP=some ⟨zu,yc,.func (fnOf "most_pairs" "most_pairs" (B6 FQ) (By FQ) (As FQ) .none zv zw zx yd uV zy),yJ⟩)
  (k14c:codeIn K uV "most_pairs" = true)
  (k14:keepIn K (.ref vP)=true)
  (a15:nsIn K Ah "places_reached" = some (some (.ref vQ)))
  (l15:K.lookup vQ=some ⟨zz,ye,.func (fnOf "places_reached" "places_reached" (B6 DY) (By DY) (As DY) .none zA zB zC yf uW zD),yK⟩)
  (k15c:codeIn K uW "places_reached" = true)
  (k15:keepIn K (.ref vQ)=true)
  (a16:nsIn K Ah "least_cover" = some (some (.ref vR)))
  (l16:K.lookup vR=some ⟨zE,yg,.func (fnOf "least_cover" "least_cover" (B6 Ee) (By Ee) (As Ee) .none zF zG zH yh uX zI),yL⟩)
  (k16c:codeIn K uX "least_cover" = true)
  (k16:keepIn K (.ref vR)=true)
  (a17:nsIn K Ah "apart_and_clubs" = some (some (.ref vS)))
  (l17:K.lookup vS=some ⟨zJ,yi,.func (fnOf "apart_and_clubs" "apart_and_clubs" (B6 DD) (By DD) (As DD) .none zK zL zM yj uY zN),yM⟩)
  (k17c:codeIn K uY "apart_and_clubs" = true)
  (k17:keepIn K (.ref vS)=true)
  (a18:nsIn K Ah "_law_cell_at" = some (some (.ref vT)))
  (l18:K.lookup vT=some ⟨zO,yk,.func (fnOf "_law_cell_at" "_law_cell_at" (B6 ED) (By ED) (As ED) .none zP zQ zR ym uZ zS),yN⟩)
  (k18c:codeIn K uZ "_law_cell_at" = true)
  (k18:keepIn K (.ref vT)=true)
  (a19:nsIn K Ah "_law_mixed" = some (some (.ref vU)))
  (l19:K.lookup vU=some ⟨zT,yn,.func (fnOf "_law_mixed" "_law_mixed" (B6 FR) (By FR) (As FR) .none zU zV zW yo v3 zY),yO⟩)
  (k19c:codeIn K v3 "_law_mixed" = true)
  (k19:keepIn K (.ref vU)=true)
  (a20:nsIn K Ah "_law_pool" = some (some (.ref vV)))
  (l20:K.lookup vV=some ⟨zZ,yp,.func (fnOf "_law_pool" "_law_pool" (B6 GR) (By GR) (As GR) .none B' G' J' yq v5 My),yP⟩)
  (k20c:codeIn K v5 "_law_pool" = true)
  (k20:keepIn K (.ref vV)=true)
  (a21:nsIn K Ah "_law_ties" = some (some (.ref vW)))
  (l21:K.lookup vW=some ⟨M',yr,.func (fnOf "_law_ties" "_law_ties" (B6 GP) (By GP) (As GP) .none P' T' U' yt v7 V'),yQ⟩)
  (k21c:codeIn K v7 "_law_ties" = true)
  (k21:keepIn K (.ref vW)=true)
  (a22:nsIn K Ah "_law_turned" = some (some (.ref vX)))
  (l22:K.lookup vX=some ⟨W',yu,.func (fnOf "_law_turned" "_law_turned" (B6 Eg) (By Eg) (As Eg) .none Y' Z' Α yw v8 Β),yR⟩)
  (k22c:codeIn K v8 "_law_turned" = true)
  (k22:keepIn K (.ref vX)=true)
  (a23:nsIn K Ah "_law_halves" = some (some (.ref vY)))
  (l23:K.lookup vY=some ⟨Γ,yx,.func (fnOf "_law_halves" "_law_halves" (B6 Ei) (By Ei) (As Ei) .none Δ Ε Ζ yy vb Η),yS⟩)
  (k23c:codeIn K vb "_law_halves" = true)
  (k23:keepIn K (.ref vY)=true)
  (a24:nsIn K Ah "_law_marks" = some (some (.ref vZ)))
  (l24:K.lookup vZ=some ⟨Θ,yz,.func (fnOf "_law_marks" "_law_marks" (B6 FS) (By FS) (As FS) .none Ι Κ Λ yA vd Μ),yT⟩)
  (k24c:codeIn K vd "_law_marks" = true)
  (k24:keepIn K (.ref vZ)=true)
  (a25:nsIn K Ah "_law_ringed" = some (some (.ref w8)))
  (l25:K.lookup w8=some ⟨Ν,yB,.func (fnOf "_law_ringed" "_law_ringed" (B6 Eh) (By Eh) (As Eh) .none Ξ Ο Ρ yC ve Τ),yU⟩)
  (k25c:codeIn K ve "_law_ringed" = true)
  (k25:keepIn K (.ref w8)=true)
  (a26:nsIn K Ah "law" = some (some (.ref w9)))
  (l26:K.lookup w9=some ⟨Υ,yD,.func (fnOf "law" "law" (B6 RI) (By RI) (As RI) .none Φ Χ Ψ yE vf Ω),yV⟩)
  (k26c:codeIn K vf "law" = true)
  (k26:keepIn K (.ref w9)=true)
  (pg_Web:plainGet K pD Ue=true)
  (hd_Web:hasDictIn K pD=true)
  (po_Web:plainOver K pD=true)
  (sa_Web:findIn K (.ref pD) "__setattr__" = some (some (.builtin "object.__setattr__")))
  (mk_Web:makesIn K pD=true)
  (kc_Web:keepIn K (.ref pD)=true)
  (n_Web_places:findIn K (.ref pD) "places" = some none)
  (n_Web_ties:findIn K (.ref pD) "ties" = some none)
  (n_Web_near_sets:findIn K (.ref pD) "near_sets" = some none)
  (sp:specialIn K (.builtin "object.__class__") "__get__" = some (some (.builtin "getset_descriptor.__get__")))
  (tk:takesIn K (.builtin "object.__class__")=some true)
  (xnd:([j',oh,oa,og]:List AV).Nodup)
  (xo_GuardError:mroIn K oi (.type "object")=some true)
  (xb_GuardError:mroIn K oi (.type "BaseException")=some true)
  (xt_GuardError:typeIn K (.ref oi)=some (.type "type"))
  (xo_BadPlaces:mroIn K j' (.type "object")=some true)
  (xb_BadPlaces:mroIn K j' (.type "BaseException")=some true)
  (xo_BadTie:mroIn K oh (.type "object")=some true)
  (xb_BadTie:mroIn K oh (.type "BaseException")=some true)
  (xo_NoPlace:mroIn K oa (.type "object")=some true)
  (xb_NoPlace:mroIn K oa (.type "BaseException")=some true)
  (xo_NotTwo:mroIn K og (.type "object")=some true)
  (xb_NotTwo:mroIn K og (.type "BaseException")=some true)
  (xt_NotTwo:typeIn K (.ref og)=some (.type "type"))
  (xe_BadPlaces:excIn K j' QR "ValueError.__new__" = true)
  (xg_BadPlaces:findIn K (.ref j') "__getattribute__" = some (some (.builtin "BaseException.__getattribute__")))
  (xn_BadPlaces:findIn K (.ref j') "__getattr__" = some none)
  (xa_BadPlaces:findIn K (.ref j') "__class__" = some (some (.builtin "object.__class__")))
  (xs_BadPlaces_GuardError:subIn K (.ref j') (.ref oi)=some true)
  (xi_BadPlaces_NotTwo:kitOne K (.ref j') (.ref og)=some false)
  (xi_BadPlaces_ValueError:kitOne K (.ref j') (.type "ValueError")=some true)
  (xi_BadPlaces_BadGuards:kitOne K (.ref j') (.ref oz)=some false)
  (xi_BadPlaces_BadPlaces:kitOne K (.ref j') (.ref j')=some true)
  (xi_BadPlaces_BadTie:kitOne K (.ref j') (.ref oh)=some false)
  (xi_BadPlaces_NoPlace:kitOne K (.ref j') (.ref oa)=some false)
  (xi_BadPlaces_NotWood:kitOne K (.ref j') (.ref oS)=some false)
  (xi_BadPlaces_TooLarge:kitOne K (.ref j') (.ref oI)=some false)
  (xe_BadTie:excIn K oh QR "ValueError.__new__" = true)
  (xg_BadTie:findIn K (.ref oh) "__getattribute__" = some (some (.builtin "BaseException.__getattribute__")))
  (xn_BadTie:findIn K (.ref oh) "__getattr__" = some none)
  (xa_BadTie:findIn K (.ref oh) "__class__" = some (some (.builtin "object.__class__")))
  (xs_BadTie_GuardError:subIn K (.ref oh) (.ref oi)=some true)
  (xi_BadTie_NotTwo:kitOne K (.ref oh) (.ref og)=some false)
  (xi_BadTie_ValueError:kitOne K (.ref oh) (.type "ValueError")=some true)
  (xi_BadTie_BadGuards:kitOne K (.ref oh) (.ref oz)=some false)
  (xi_BadTie_BadPlaces:kitOne K (.ref oh) (.ref j')=some false)
  (xi_BadTie_BadTie:kitOne K (.ref oh) (.ref oh)=some true)
  (xi_BadTie_NoPlace:kitOne K (.ref oh) (.ref oa)=some false)
  (xi_BadTie_NotWood:kitOne K (.ref oh) (.ref oS)=some false)
  (xi_BadTie_TooLarge:kitOne K (.ref oh) (.ref oI)=some false)
  (xe_NoPlace:excIn K oa QR "ValueError.__new__" = true)
  (xg_NoPlace:findIn K (.ref oa) "__getattribute__" = some (some (.builtin "BaseException.__getattribute__")))
  (xn_NoPlace:findIn K (.ref oa) "__getattr__" = some none)
  (xa_NoPlace:findIn K (.ref oa) "__class__" = some (some (.builtin "object.__class__")))
  (xs_NoPlace_GuardError:subIn K (.ref oa) (.ref oi)=some true)
  (xi_NoPlace_NotTwo:kitOne K (.ref oa) (.ref og)=some false)
  (xi_NoPlace_ValueError:kitOne K (.ref oa) (.type "ValueError")=some true)
  (xi_NoPlace_BadGuards:kitOne K (.ref oa) (.ref oz)=some false)
  (xi_NoPlace_BadPlaces:kitOne K (.ref oa) (.ref j')=some false)
  (xi_NoPlace_BadTie:kitOne K (.ref oa) (.ref oh)=some false)
  (xi_NoPlace_NoPlace:kitOne K (.ref oa) (.ref oa)=some true)
  (xi_NoPlace_NotWood:kitOne K (.ref oa) (.ref oS)=some false)
  (xi_NoPlace_TooLarge:kitOne K (.ref oa) (.ref oI)=some false)
  (xe_NotTwo:excIn K og QR "ValueError.__new__" = true)
  (xg_NotTwo:findIn K (.ref og) "__getattribute__" = some (some (.builtin "BaseException.__getattribute__")))
  (xn_NotTwo:findIn K (.ref og) "__getattr__" = some none)
  (xa_NotTwo:findIn K (.ref og) "__class__" = some (some (.builtin "object.__class__")))
  (xs_NotTwo_GuardError:subIn K (.ref og) (.ref oi)=some true)
  (xi_NotTwo_NotTwo:kitOne K (.ref og) (.ref og)=some true)
  (xi_NotTwo_ValueError:kitOne K (.ref og) (.type "ValueError")=some true)
  (xi_NotTwo_BadGuards:kitOne K (.ref og) (.ref oz)=some false)
  (xi_NotTwo_BadPlaces:kitOne K (.ref og) (.ref j')=some false)
  (xi_NotTwo_BadTie:kitOne K (.ref og) (.ref oh)=some false)
  (xi_NotTwo_NoPlace:kitOne K (.ref og) (.ref oa)=some false)
  (xi_NotTwo_NotWood:kitOne K (.ref og) (.ref oS)=some false)
  (xi_NotTwo_TooLarge:kitOne K (.ref og) (.ref oI)=some false)
  (z_ValueError:nsIn K Ah "ValueError" = some none)
  (z_all:nsIn K Ah "all" = some none)
  (z_enumerate:nsIn K Ah "enumerate" = some none)
  (z_isinstance:nsIn K Ah "isinstance" = some none)
  (z_len:nsIn K Ah "len" = some none)
  (z_list:nsIn K Ah "list" = some none)
  (z_max:nsIn K Ah "max" = some none)
  (z_min:nsIn K Ah "min" = some none)
  (z_range:nsIn K Ah "range" = some none)
  (z_sorted:nsIn K Ah "sorted" = some none)
  (z_sum:nsIn K Ah "sum" = some none)
  (z_tuple:nsIn K Ah "tuple" = some none)
  (g_MOST_PLACES:nsIn K Ah "MOST_PLACES" = some (some (.int 60 oW)))
  : ∃(W:Wd) (T:Txt K mg W),fa=T.d_law.f/\W.excs.Nodup/\∀(s:AQ) (v:AH),Uq s T.d_law.fd ⟨[v],[]⟩ [("script",v)]:=by
 have F1:=C4 (st:=EC) l1 k1c k1
 have b1:=F1.binds (ps:=["places", "ties"]) λ_ _ _ _ _ _ us hl=>by obtain⟨a,b,rfl⟩:=N1 hl;rfl
 have F2:=C4 (st:=EB) l2 k2c k2
 have b2:=F2.binds (ps:=["places", "ties"]) λ_ _ _ _ _ _ us hl=>by obtain⟨a,b,rfl⟩:=N1 hl;rfl
 have F3:=C4 (st:=HI) l3 k3c k3
 have b3:=F3.binds (ps:=["self", "places", "ties"]) λ_ _ _ _ _ _ us hl=>by obtain⟨a,b,c,rfl⟩:=aq hl;rfl
 have F4:=C4 (st:=DC) l4 k4c k4
 have b4:=F4.binds (ps:=["web", "place"]) λ_ _ _ _ _ _ us hl=>by obtain⟨a,b,rfl⟩:=N1 hl;rfl
 have F5:=C4 (st:=Np) l5 k5c k5
 have b5:=F5.binds (ps:=["web", "place"]) λ_ _ _ _ _ _ us hl=>by obtain⟨a,b,rfl⟩:=N1 hl;rfl
 have F6:=C4 (st:=FP) l6 k6c k6
 have b6:=F6.binds (ps:=["web", "start"]) λ_ _ _ _ _ _ us hl=>by obtain⟨a,b,rfl⟩:=N1 hl;rfl
 have F7:=C4 (st:=HG) l7 k7c k7
 have b7:=F7.binds (ps:=["web"]) λ_ _ _ _ _ _ us hl=>by obtain⟨a,rfl⟩:=Oh hl;rfl
 have F8:=C4 (st:=DX) l8 k8c k8
 have b8:=F8.binds (ps:=["web"]) λ_ _ _ _ _ _ us hl=>by obtain⟨a,rfl⟩:=Oh hl;rfl
 have F9:=C4 (st:=Ef) l9 k9c k9
 have b9:=F9.binds (ps:=["web", "steps"]) λ_ _ _ _ _ _ us hl=>by obtain⟨a,b,rfl⟩:=N1 hl;rfl
 have F10:=C4 (st:=Ed) l10 k10c k10
 have b10:=F10.binds (ps:=["web"]) λ_ _ _ _ _ _ us hl=>by obtain⟨a,rfl⟩:=Oh hl;rfl
 have F11:=C4 (st:=JX) l11 k11c k11
 have b11:=F11.binds (ps:=["takes", "bits", "holders", "guard", "seen"]) λ_ _ _ _ _ _ us hl=>by obtain⟨a,b,c,d,e,rfl⟩:=len5 hl;rfl
 have F12:=C4 (st:=Cc) l12 k12c k12
 have b12:=F12.binds (ps:=["web"]) λ_ _ _ _ _ _ us hl=>by obtain⟨a,rfl⟩:=Oh hl;rfl
 have F13:=C4 (st:=HH) l13 k13c k13
 have b13:=F13.binds (ps:=["web", "colours"]) λ_ _ _ _ _ _ us hl=>by obtain⟨a,b,rfl⟩:=N1 hl;rfl
 have F14:=C4 (st:=FQ) l14 k14c k14
 have b14:=F14.binds (ps:=["web"]) λ_ _ _ _ _ _ us hl=>by obtain⟨a,rfl⟩:=Oh hl;rfl
 have F15:=C4 (st:=DY) l15 k15c k15
 have b15:=F15.binds (ps:=["web", "colours", "found"]) λ_ _ _ _ _ _ us hl=>by obtain⟨a,b,c,rfl⟩:=aq hl;rfl
 have F16:=C4 (st:=Ee) l16 k16c k16
 have b16:=F16.binds (ps:=["web"]) λ_ _ _ _ _ _ us hl=>by obtain⟨a,rfl⟩:=Oh hl;rfl
 have F17:=C4 (st:=DD) l17 k17c k17
 have b17:=F17.binds (ps:=["web"]) λ_ _ _ _ _ _ us hl=>by obtain⟨a,rfl⟩:=Oh hl;rfl
 have F18:=C4 (st:=ED) l18 k18c k18
 have b18:=F18.binds (ps:=["script", "k"]) λ_ _ _ _ _ _ us hl=>by obtain⟨a,b,rfl⟩:=N1 hl;rfl
 have F19:=C4 (st:=FR) l19 k19c k19
 have b19:=F19.binds (ps:=["cell", "salt"]) λ_ _ _ _ _ _ us hl=>by obtain⟨a,b,rfl⟩:=N1 hl;rfl
 have F20:=C4 (st:=GR) l20 k20c k20
 have b20:=F20.binds (ps:=["script", "start"]) λ_ _ _ _ _ _ us hl=>by obtain⟨a,b,rfl⟩:=N1 hl;rfl
 have F21:=C4 (st:=GP) l21 k21c k21
 have b21:=F21.binds (ps:=["pool", "many", "thick"]) λ_ _ _ _ _ _ us hl=>by obtain⟨a,b,c,rfl⟩:=aq hl;rfl
 have F22:=C4 (st:=Eg) l22 k22c k22
 have b22:=F22.binds (ps:=["ties", "cell"]) λ_ _ _ _ _ _ us hl=>by obtain⟨a,b,rfl⟩:=N1 hl;rfl
 have F23:=C4 (st:=Ei) l23 k23c k23
 have b23:=F23.binds (ps:=["script"]) λ_ _ _ _ _ _ us hl=>by obtain⟨a,rfl⟩:=Oh hl;rfl
 have F24:=C4 (st:=FS) l24 k24c k24
 have b24:=F24.binds (ps:=["way", "web"]) λ_ _ _ _ _ _ us hl=>by obtain⟨a,b,rfl⟩:=N1 hl;rfl
 have F25:=C4 (st:=Eh) l25 k25c k25
 have b25:=F25.binds (ps:=["many", "ties", "cell"]) λ_ _ _ _ _ _ us hl=>by obtain⟨a,b,c,rfl⟩:=aq hl;rfl
 have F26:=C4 (st:=RI) l26 k26c k26
 have b26:=F26.binds (ps:=["script"]) λ_ _ _ _ _ _ us hl=>by obtain⟨a,rfl⟩:=Oh hl;rfl
 let W:Wd:=⟨oi,j',oh,oa,oI,oz,og,oS,pD⟩
 have oF:(clsIn K oi).isSome=true:=IY xo_GuardError;have pS:(clsIn K j').isSome=true:=IY xo_BadPlaces;have qB:(clsIn K oh).isSome=true:=IY xo_BadTie;have ql:(clsIn K oa).isSome=true:=IY xo_NoPlace;have pQ:(clsIn K og).isSome=true:=IY xo_NotTwo;have oX:XIs K j':=⟨pS,xg_BadPlaces,xn_BadPlaces,xa_BadPlaces,sp,tk,xo_BadPlaces,xb_BadPlaces⟩;have pN:XIs K oh:=⟨qB,xg_BadTie,xn_BadTie,xa_BadTie,sp,tk,xo_BadTie,xb_BadTie⟩;have px:XIs K oa:=⟨ql,xg_NoPlace,xn_NoPlace,xa_NoPlace,sp,tk,xo_NoPlace,xb_NoPlace⟩;have pO:XIs K og:=⟨pQ,xg_NotTwo,xn_NotTwo,xa_NotTwo,sp,tk,xo_NotTwo,xb_NotTwo⟩
 let T:Txt K mg W:={
  d_checked_ties:=⟨f1,_,F1,b1,Dc X G a1⟩
  d_near_sets_of:=⟨f2,_,F2,b2,Dc X G a2⟩
  d_Web_init:=⟨f3,_,F3,b3⟩
  d_refuse_no_place:=⟨f4,_,F4,b4,Dc X G a4⟩
  d_near:=⟨f5,_,F5,b5,Dc X G a5⟩
  d_steps_from:=⟨f6,_,F6,b6,Dc X G a6⟩
  d_parts_of:=⟨f7,_,F7,b7,Dc X G a7⟩
  d_steps_in_parts:=⟨f8,_,F8,b8,Dc X G a8⟩
  d_first_clash:=⟨f9,_,F9,b9,Dc X G a9⟩
  d_two_colours:=⟨tD,_,F10,b10,Dc X G a10⟩
  d_settle:=⟨tV,_,F11,b11,Dc X G a11⟩
  d_colours_or_refused:=⟨vN,_,F12,b12,Dc X G a12⟩
  d_partners:=⟨vO,_,F13,b13,Dc X G a13⟩
  d_most_pairs:=⟨vP,_,F14,b14,Dc X G a14⟩
  d_places_reached:=⟨vQ,_,F15,b15,Dc X G a15⟩
  d_least_cover:=⟨vR,_,F16,b16,Dc X G a16⟩
  d_apart_and_clubs:=⟨vS,_,F17,b17,Dc X G a17⟩
  d__law_cell_at:=⟨vT,_,F18,b18,Dc X G a18⟩
  d__law_mixed:=⟨vU,_,F19,b19,Dc X G a19⟩
  d__law_pool:=⟨vV,_,F20,b20,Dc X G a20⟩
  d__law_ties:=⟨vW,_,F21,b21,Dc X G a21⟩
  d__law_turned:=⟨vX,_,F22,b22,Dc X G a22⟩
  d__law_halves:=⟨vY,_,F23,b23,Dc X G a23⟩
  d__law_marks:=⟨vZ,_,F24,b24,Dc X G a24⟩
  d__law_ringed:=⟨w8,_,F25,b25,Dc X G a25⟩
  d_law:=⟨w9,_,F26,b26,Dc X G a26⟩
  c_Web:=⟨⟨pg_Web,hd_Web,po_Web,sa_Web⟩,⟨mk_Web,a3,i3,kc_Web⟩,Dc X G a_Web⟩
  n_Web_places:=n_Web_places
  n_Web_ties:=n_Web_ties
  n_Web_near_sets:=n_Web_near_sets
  xm_GuardError:=Dc X G a_GuardError
  x_BadPlaces:=⟨⟨xe_BadPlaces⟩,Dc X G a_BadPlaces⟩
  x_BadTie:=⟨⟨xe_BadTie⟩,Dc X G a_BadTie⟩
  x_NoPlace:=⟨⟨xe_NoPlace⟩,Dc X G a_NoPlace⟩
  xm_TooLarge:=Dc X G a_TooLarge
  xm_BadGuards:=Dc X G a_BadGuards
  x_NotTwo:=⟨⟨xe_NotTwo⟩,Dc X G a_NotTwo⟩
  xm_NotWood:=Dc X G a_NotWood
  nd:=xnd
  caught_GuardError:=(all_cons ⟨xt_GuardError,oF,xb_GuardError,xs_BadPlaces_GuardError⟩ (all_cons ⟨xt_GuardError,oF,xb_GuardError,xs_BadTie_GuardError⟩ (all_cons ⟨xt_GuardError,oF,xb_GuardError,xs_NoPlace_GuardError⟩ (all_cons ⟨xt_GuardError,oF,xb_GuardError,xs_NotTwo_GuardError⟩ KJ))))
  is_NotTwo:=VR (al:=[og]) (ex:=[j',oh,oa,og]) (all_cons ⟨pO,xi_NotTwo_NotTwo⟩ KJ) (all_cons (λ_=>⟨oX,xi_BadPlaces_NotTwo⟩) (all_cons (λ_=>⟨pN,xi_BadTie_NotTwo⟩) (all_cons (λ_=>⟨px,xi_NoPlace_NotTwo⟩) (all_cons (λn=>zX (by simp) n) KJ))))
  i_NotTwo:=⟨pQ,xt_NotTwo⟩
  is_ValueError:=VR (al:=[j',oh,oa,og]) (ex:=[j',oh,oa,og]) (all_cons ⟨oX,xi_BadPlaces_ValueError⟩ (all_cons ⟨pN,xi_BadTie_ValueError⟩ (all_cons ⟨px,xi_NoPlace_ValueError⟩ (all_cons ⟨pO,xi_NotTwo_ValueError⟩ KJ)))) (all_cons (λn=>zX (by simp) n) (all_cons (λn=>zX (by simp) n) (all_cons (λn=>zX (by simp) n) (all_cons (λn=>zX (by simp) n) KJ))))
  isT_BadGuards_BadPlaces_BadTie_NoPlace_NotWood_TooLarge:=VR (al:=[j',oh,oa]) (ex:=[j',oh,oa,og]) (all_cons ⟨oX,((Hx xi_BadPlaces_BadGuards).trans (Sq xi_BadPlaces_BadPlaces))⟩ (all_cons ⟨pN,((Hx xi_BadTie_BadGuards).trans ((Hx xi_BadTie_BadPlaces).trans (Sq xi_BadTie_BadTie)))⟩ (all_cons ⟨px,((Hx xi_NoPlace_BadGuards).trans ((Hx xi_NoPlace_BadPlaces).trans ((Hx xi_NoPlace_BadTie).trans (Sq xi_NoPlace_NoPlace))))⟩ KJ))) (all_cons (λn=>zX (by simp) n) (all_cons (λn=>zX (by simp) n) (all_cons (λn=>zX (by simp) n) (all_cons (λ_=>⟨pO,((Hx xi_NotTwo_BadGuards).trans ((Hx xi_NotTwo_BadPlaces).trans ((Hx xi_NotTwo_BadTie).trans ((Hx xi_NotTwo_NoPlace).trans ((Hx xi_NotTwo_NotWood).trans ((Hx xi_NotTwo_TooLarge).trans bv))))))⟩) KJ))))
  b_ValueError:=EQ X G z_ValueError
  b_all:=EQ X G z_all
  b_enumerate:=EQ X G z_enumerate
  b_isinstance:=EQ X G z_isinstance
  b_len:=EQ X G z_len
  b_list:=EQ X G z_list
  b_max:=EQ X G z_max
  b_min:=EQ X G z_min
  b_range:=EQ X G z_range
  b_sorted:=EQ X G z_sorted
  b_sum:=EQ X G z_sum
  b_tuple:=EQ X G z_tuple
  g_MOST_PLACES:=⟨oW,Dc X G g_MOST_PLACES⟩ }
 refine⟨W,T,?_,xnd,λs v=>.of_eq rfl⟩;have e:=hfa.symm.trans (Dc X G a26);cases e;rfl
theorem walk{l:OpenLaw}{q:Bp}{loose:List Str}{XP:(Str->Option AH)->Cj->Prop}{YP:CF->Cj->Prop}{d:DefRec}{K:Params->Frag}(hn:l.most=some 63)(tS:d.params.defaults=[])
  (hY:∀(w:CF) (h:Cj),YP w h->(K w.params).In h)
  (F:∀(w:CF) (mg:Str->Option AH) (fa:AV) (h:Cj),(K w.params).In h->h.Ns Ah mg->mg d.name=some (.ref fa) ->
   ∃(W:Wd) (T:Txt (K w.params) mg W),fa=T.d_law.f/\W.excs.Nodup/\∀(s:AQ) (v:AH),Uq s T.d_law.fd ⟨[v],[]⟩ [("script",v)])
  (good:∀(W:Wd),W.excs.Nodup->∀ns:List Int,ns.length<=63->∃S',bV W [.fro (ns.map D.int)] []=.ok (.bl true) S') :
  WalkO q loose XP YP l.row.toRowW d [] (λf vs=>XZ f vs):=
 L2.cX (n:=63) (k:=68) (x:="script") (CX:=λw=>CXG l.prog w) (sp:=λw=>Zn (K w.params)) hn (by decide) tS ⟨rfl,by decide,by decide⟩ hY
  (λw mg fa h KX G si=>by
   obtain⟨W,T,e,nd,hb⟩:=F w mg fa h KX G si;subst e
   exact⟨T.d_law.fd,hb,λbase _ _=>au (jc T) (good W nd)⟩)
  (λ_ _ a ns hl hO hS=>⟨a,ns,rfl,kQ hO hS,hl,λ_=>rfl⟩) (λw H s e s' z=>kY z)
end M
open PySem PySem.W PyProof.Rows
set_option maxRecDepth 100000 in
set_option maxHeartbeats 0 in
theorem PySem.Challenge.cw_guardround_k42_webs_that_are_not_two_holds : PySem.Challenge.rw_guardround_k42_webs_that_are_not_two.Holds := by
 w_on;o_law;k_head;(case hw=>w_witness2)
 k_fill
 refine M.walk (l:=Gb) rfl rfl (λw h Y=>by first | exact kIn_of Y | exact km_in_of Y) ?F M.good
 case F=>
  intro w mg fa h KX G si;refine' M.kc (l:=Gb) (w:=w) KX G si ?a_Web ?a_GuardError ?a_BadPlaces ?a_BadTie ?a_NoPlace ?a_TooLarge ?a_BadGuards ?a_NotTwo ?a_NotWood ?a1 ?l1 ?k1c ?k1 ?a2 ?l2 ?k2c ?k2 ?a3 ?i3 ?l3 ?k3c ?k3 ?a4 ?l4 ?k4c ?k4 ?a5 ?l5 ?k5c ?k5 ?a6 ?l6 ?k6c ?k6 ?a7 ?l7 ?k7c ?k7 ?a8 ?l8 ?k8c ?k8 ?a9 ?l9 ?k9c ?k9 ?a10 ?l10 ?k10c ?k10 ?a11 ?l11 ?k11c ?k11 ?a12 ?l12 ?k12c ?k12 ?a13 ?l13 ?k13c ?k13 ?a14 ?l14 ?k14c ?k14 ?a15 ?l15 ?k15c ?k15 ?a16 ?l16 ?k16c ?k16 ?a17 ?l17 ?k17c ?k17 ?a18 ?l18 ?k18c ?k18 ?a19 ?l19 ?k19c ?k19 ?a20 ?l20 ?k20c ?k20 ?a21 ?l21 ?k21c ?k21 ?a22 ?l22 ?k22c ?k22 ?a23 ?l23 ?k23c ?k23 ?a24 ?l24 ?k24c ?k24 ?a25 ?l25 ?k25c ?k25 ?a26 ?l26 ?k26c ?k26 ?pg_Web ?hd_Web ?po_Web ?sa_Web ?mk_Web ?kc_Web ?n_Web_places ?n_Web_ties ?n_Web_near_sets ?sp ?tk ?xnd ?xo_GuardError ?xb_GuardError ?xt_GuardError ?xo_BadPlaces ?xb_BadPlaces ?xo_BadTie ?xb_BadTie ?xo_NoPlace ?xb_NoPlace ?xo_NotTwo ?xb_NotTwo ?xt_NotTwo ?xe_BadPlaces ?xg_BadPlaces ?xn_BadPlaces ?xa_BadPlaces ?xs_BadPlaces_GuardError ?xi_BadPlaces_NotTwo ?xi_BadPlaces_ValueError ?xi_BadPlaces_BadGuards ?xi_BadPlaces_BadPlaces ?xi_BadPlaces_BadTie ?xi_BadPlaces_NoPlace ?xi_BadPlaces_NotWood ?xi_BadPlaces_TooLarge ?xe_BadTie ?xg_BadTie ?xn_BadTie ?xa_BadTie ?xs_BadTie_GuardError ?xi_BadTie_NotTwo ?xi_BadTie_ValueError ?xi_BadTie_BadGuards ?xi_BadTie_BadPlaces ?xi_BadTie_BadTie ?xi_BadTie_NoPlace ?xi_BadTie_NotWood ?xi_BadTie_TooLarge ?xe_NoPlace ?xg_NoPlace ?xn_NoPlace ?xa_NoPlace ?xs_NoPlace_GuardError ?xi_NoPlace_NotTwo ?xi_NoPlace_ValueError ?xi_NoPlace_BadGuards ?xi_NoPlace_BadPlaces ?xi_NoPlace_BadTie ?xi_NoPlace_NoPlace ?xi_NoPlace_NotWood ?xi_NoPlace_TooLarge ?xe_NotTwo ?xg_NotTwo ?xn_NotTwo ?xa_NotTwo ?xs_NotTwo_GuardError ?xi_NotTwo_NotTwo ?xi_NotTwo_ValueError ?xi_NotTwo_BadGuards ?xi_NotTwo_BadPlaces ?xi_NotTwo_BadTie ?xi_NotTwo_NoPlace ?xi_NotTwo_NotWood ?xi_NotTwo_TooLarge ?z_ValueError ?z_all ?z_enumerate ?z_isinstance ?z_len ?z_list ?z_max ?z_min ?z_range ?z_sorted ?z_sum ?z_tuple ?g_MOST_PLACES
  (case a_Web | a_GuardError | a_BadPlaces | a_BadTie | a_NoPlace | a_TooLarge | a_BadGuards | a_NotTwo | a_NotWood | a1 | l1 | k1c | k1 | a2 | l2 | k2c | k2 | a3 | i3 | l3 | k3c | k3 | a4 | l4 | k4c | k4 | a5 | l5 | k5c | k5 | a6 | l6 | k6c | k6 | a7 | l7 | k7c | k7 | a8 | l8 | k8c | k8 | a9 | l9 | k9c | k9 | a10 | l10 | k10c | k10 | a11 | l11 | k11c | k11 | a12 | l12 | k12c | k12 | a13 | l13 | k13c | k13 | a14 | l14 | k14c | k14 | a15 | l15 | k15c | k15 | a16 | l16 | k16c | k16 | a17 | l17 | k17c | k17 | a18 | l18 | k18c | k18 | a19 | l19 | k19c | k19 | a20 | l20 | k20c | k20 | a21 | l21 | k21c | k21 | a22 | l22 | k22c | k22 | a23 | l23 | k23c | k23 | a24 | l24 | k24c | k24 | a25 | l25 | k25c | k25 | a26 | l26 | k26c | k26 | pg_Web | hd_Web | po_Web | sa_Web | mk_Web | kc_Web | n_Web_places | n_Web_ties | n_Web_near_sets | sp | tk=>k_is)
  (case xnd=>decide)
  (case xo_GuardError | xb_GuardError | xt_GuardError | xo_BadPlaces | xb_BadPlaces | xo_BadTie | xb_BadTie | xo_NoPlace | xb_NoPlace | xo_NotTwo | xb_NotTwo | xt_NotTwo=>k_is)
  (case xe_BadPlaces=>k_exc)
  (case xg_BadPlaces | xn_BadPlaces | xa_BadPlaces | xs_BadPlaces_GuardError=>k_is)
  (case xi_BadPlaces_NotTwo | xi_BadPlaces_ValueError | xi_BadPlaces_BadGuards | xi_BadPlaces_BadPlaces | xi_BadPlaces_BadTie | xi_BadPlaces_NoPlace | xi_BadPlaces_NotWood | xi_BadPlaces_TooLarge=>kit_is)
  (case xe_BadTie=>k_exc)
  (case xg_BadTie | xn_BadTie | xa_BadTie | xs_BadTie_GuardError=>k_is)
  (case xi_BadTie_NotTwo | xi_BadTie_ValueError | xi_BadTie_BadGuards | xi_BadTie_BadPlaces | xi_BadTie_BadTie | xi_BadTie_NoPlace | xi_BadTie_NotWood | xi_BadTie_TooLarge=>kit_is)
  (case xe_NoPlace=>k_exc)
  (case xg_NoPlace | xn_NoPlace | xa_NoPlace | xs_NoPlace_GuardError=>k_is)
  (case xi_NoPlace_NotTwo | xi_NoPlace_ValueError | xi_NoPlace_BadGuards | xi_NoPlace_BadPlaces | xi_NoPlace_BadTie | xi_NoPlace_NoPlace | xi_NoPlace_NotWood | xi_NoPlace_TooLarge=>kit_is)
  (case xe_NotTwo=>k_exc)
  (case xg_NotTwo | xn_NotTwo | xa_NotTwo | xs_NotTwo_GuardError=>k_is)
  (case xi_NotTwo_NotTwo | xi_NotTwo_ValueError | xi_NotTwo_BadGuards | xi_NotTwo_BadPlaces | xi_NotTwo_BadTie | xi_NotTwo_NoPlace | xi_NotTwo_NotWood | xi_NotTwo_TooLarge=>kit_is)
  (case z_ValueError | z_all | z_enumerate | z_isinstance | z_len | z_list | z_max | z_min | z_range | z_sorted | z_sum | z_tuple | g_MOST_PLACES=>k_is)
#print axioms PySem.Challenge.cw_guardround_k42_webs_that_are_not_two_holds
